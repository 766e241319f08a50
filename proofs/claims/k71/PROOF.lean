import PyProof.Rows.All
import Wide.All
import OpenK.AllK
import Wide.FinOn
import Lean
import PyProof.EqAt
import PyProof.EqKinds
import PyProof.TupleCall
import KE.KSortTup
import PyProof.Rows.DictUnroll
import PyProof.DictItems
import KE.LcSums
import PyProof.IsiH_list
import KE.KDictOf
import PyProof.DictWalks
import PyProof.ListRange
import PyProof.EnumStmt
import PyProof.EnumMake
import KE.KDictSum
import PyProof.StrOps2
import PyProof.Rows.CallKwBuiltin
import KE.KRevSl
import PyProof.Rows.SetFrom
import KE.KRevIter
import PyProof.StrCalls
import PySem.Challenge.RW_firstout_k71_numbers_and_doors_read
namespace PySem.W.Fast
def tw11511435279928202817:=()
def tw3825332407021034241:=()
def tw8153611301633640994:=()
def tw9976327866913071778:=()
def tw4472979673432198155:=()
def tw10657130203047101132:=()
def tw7975319701319937902:=()
def tw14384776615877371121:=()
def tw7800743960061920370:=()
def tw5247330821977841494:=()
def tw9174784550952035159:=()
def tw3953700035745679288:=()
def tw3099211058431315833:=()
def tw6468224592974431741:=()
def tw18178824673443277342:=()
def tw9913646774426386463:=()
def tw11474318619783823598:=()
def tw176989708589321050:=()
def tw4725196498574354836:=()
def tw12408041293542304899:=()
def tw6307712316420065240:=()
def tw5162255003599898411:=()
def tw599847612269357868:=()
def tw7707115949150654646:=()
def tw9994873793053368922:=()
def tw3415299925865520887:=()
def tw12444346222248549355:=()
def tw13759572112117712118:=()
def tw2899953263741460389:=()
def tw3435165952825159882:=()
def tw17821892265325444225:=()
def tw17358961678073354333:=()
def tw6575225480384631595:=()
def tw8995555420273751430:=()
def tw15918042565245261597:=()
def tw4657881442532681324:=()
def tw2547100472350632860:=()
def tw1971665931302713399:=()
def tw5600284943221755741:=()
def tw14558929134440847687:=()
def tw6322654612744198409:=()
def tw13021777848504861666:=()
def tw95263221414339942:=()
def tw17308557130515782538:=()
def tw7062446360708223254:=()
def tw16407347014663293858:=()
def tw17776149370330919334:=()
def tw11480940040299593466:=()
def tw16819477023577667146:=()
def tw5769658774260518582:=()
def tw4519630644829451701:=()
def tw12340807685358796699:=()
def tw5607860055146638825:=()
def tw123382654279432400:=()
def tw33965459213452707:=()
def tw13851223365178424197:=()
def tw15317774586136137018:=()
def tw10816821132014600049:=()
def tw9928821408820685341:=()
def tw7923454850585688069:=()
def tw10557106881050716789:=()
def tw13300612790083979423:=()
def tw15107123452436504214:=()
def tw16264076083781648151:=()
def tw17226663548162992803:=()
def tw16146730340983629732:=()
def tw2635246786683968778:=()
def tw12284586977563348409:=()
def tw13368403481853638359:=()
def tw508417774580452249:=()
def tw13037420657011530986:=()
def tw13091991685805535535:=()
def tw18301690607496711026:=()
def tw8169116544190595547:=()
def tw5722561281935213952:=()
def tw14260707006000222941:=()
def tw16174130410641347465:=()
def tw13100042766556000251:=()
def tw418917101681861540:=()
def tw8072874805625458171:=()
def tw13891597376173404352:=()
def tw17488547825191479901:=()
def tw2761175704894725619:=()
def tw14954279387591166269:=()
def tw7245813844373229338:=()
def tw4999166331160398628:=()
def tw7430795197532374050:=()
def tw6941944714003368113:=()
def tw11886067075868605605:=()
def tw18146532501304228189:=()
def tw17480508621473019585:=()
def tw9425621960402842008:=()
def tw3008696188923320160:=()
def tw13347593951233815950:=()
def tw556323238499750345:=()
def tw9787923570334638898:=()
def tw6194778971739268586:=()
def tw1070976246163514083:=()
def tw11642246186010385779:=()
def tw527533175127508627:=()
def tw1602034363703336893:=()
def tw2602407990834131505:=()
def tw15014773030427117442:=()
def tw8526311874222997716:=()
def tw7278607952711877431:=()
def tw6354594985045392045:=()
def tw18179801174030334877:=()
def tw5068598587967796304:=()
def tw409789444831638071:=()
def tw3746124837103558984:=()
def tw6561136841389231835:=()
def tw16258321917079473788:=()
def tw6093513847705803336:=()
def tw10154269143470071155:=()
def tw13674432346814873598:=()
def tw5974830771286459677:=()
def tw4618259601782521416:=()
def tw4969838223977583698:=()
def tw4780209799374954736:=()
def tw13588122569112362305:=()
def tw16944780600842346583:=()
def tw316103673124754171:=()
def tw8535199761317725540:=()
def tw13311084989164865485:=()
def tw16871793621498392944:=()
def tw5426436159757794392:=()
def tw228288564420552058:=()
def tw15446439859317589365:=()
def tw12377562435159056246:=()
def tw17309223995199479557:=()
def tw6589029243146986357:=()
def tw5624856727986796686:=()
def tw8923738383510286134:=()
def tw3193425039137668628:=()
def tw11082246049581144278:=()
def tw10738890611164364136:=()
def tw4598378531679856190:=()
def tw8838884410076622699:=()
def tw12887264855070453219:=()
def tw16555223775025944262:=()
def tw17966604523674674539:=()
def tw6351103165221270296:=()
end PySem.W.Fast
set_option compiler.extract_closed false
local macro_rules| `(tactic| walk_at"oi")=> `(tactic| first|exact Or.inl rfl|exact Or.inr rfl)
set_option Elab.async false
set_option linter.all false
set_option maxRecDepth 100000
namespace L2
open PySem PySem.Spec PyProof.Rows
abbrev Key:=Sum Int Str
def rL:Key->Value->Bool
 | .inl k,v=>Value.isInt k v
 | .inr x,v=>Value.isStrOf x v
def U0 (w:World):Key->Int
 | .inl k=>hashInt k
 | .inr x=>hashStr w x
theorem c5:∀{k:Key}{v:Value},rL k v=true->(∃i t,k=Sum.inl i/\v=Value.int i t)∨(∃x t,k=Sum.inr x/\v=Value.str x t)
 | .inl i,v,h=>by
  obtain⟨t,e⟩:=Value.isInt_shape (k:=i) (v:=v) h;exact .inl ⟨i,t,rfl,e⟩
 | .inr x,v,h=>by
  obtain⟨t,e⟩:=Value.isStrOf_shape (x:=x) (v:=v) h;exact .inr ⟨x,t,rfl,e⟩
theorem GU (i:Int)(t:Tok):rL (.inl i) (.int i t)=true:=by simp[rL,Value.isInt]
theorem b8 (x:Str)(t:Tok):rL (.inr x) (.str x t)=true:=by simp[rL,Value.isStrOf]
theorem QQ (a b:Int):decide ((Sum.inl a:Key)=Sum.inl b)=(a==b):=by
 by_cases e:a=b
 ·subst e;simp
 ·have h:¬(Sum.inl a:Key)=Sum.inl b:=fun q=>e (Sum.inl.inj q);rw[decide_eq_false h];exact(beq_eq_false_iff_ne.mpr e).symm
theorem O6 (a b:Str):decide ((Sum.inr a:Key)=Sum.inr b)=decide (a=b):=by
 by_cases e:a=b
 ·subst e;simp
 ·have h:¬(Sum.inr a:Key)=Sum.inr b:=fun q=>e (Sum.inr.inj q);rw[decide_eq_false h,decide_eq_false e]
theorem P1 (a:Int)(b:Str):decide ((Sum.inl a:Key)=Sum.inr b)=false:=decide_eq_false (fun q=>nomatch q)
theorem R3 (a:Str)(b:Int):decide ((Sum.inr a:Key)=Sum.inl b)=false:=decide_eq_false (fun q=>nomatch q)
def iE (prog:Program)(w:World):PySem.KeyKind prog w Key where
 is:=rL
 hash:=U0 w
 inj:=fun v a b ha hb=>by
  rcases c5 ha with⟨i,t,rfl,rfl⟩|⟨x,t,rfl,rfl⟩
  ·rcases c5 hb with⟨j,u,rfl,e⟩|⟨y,u,rfl,e⟩
   ·injection e with e1 _;rw[e1]
   ·exact nomatch e
  ·rcases c5 hb with⟨j,u,rfl,e⟩|⟨y,u,rfl,e⟩
   ·exact nomatch e
   ·injection e with e1 _;rw[e1]
 byValue:=fun k v h=>by
  rcases c5 h with⟨i,t,rfl,rfl⟩|⟨x,t,rfl,rfl⟩<;>rfl
 pyHash:=fun hv h=>by
  rcases c5 hv with⟨i,t,rfl,rfl⟩|⟨x,t,rfl,rfl⟩
  ·exact wpAny_pyHash_int h
  ·exact wpAny_pyHash_str h
 eqBool:=fun hu hv h=>by
  rcases c5 hu with⟨i,t,rfl,rfl⟩|⟨x,t,rfl,rfl⟩
  ·rcases c5 hv with⟨j,u,rfl,rfl⟩|⟨y,u,rfl,rfl⟩
   ·rw[QQ]at h;exact wpAny_eqBool_int h
   ·rw[P1]at h;exact SeqAt.EqAt.int_str i t y u _ _ _ _ h
  ·rcases c5 hv with⟨j,u,rfl,rfl⟩|⟨y,u,rfl,rfl⟩
   ·rw[R3]at h;exact SeqAt.EqAt.str_int x t j u _ _ _ _ h
   ·rw[O6]at h;exact wpAny_eqBool_str h
 «strs»:=fun k x t v h=>by
  rcases c5 h with⟨i,u,rfl,e⟩|⟨y,u,rfl,e⟩
  ·exact nomatch e
  ·injection e with e1 _;subst e1;cases v<;>rfl
theorem CJ (prog:Program)(w:World)(i:Int)(t:Tok):(iE prog w).is (.inl i) (.int i t)=true:=GU i t
theorem CA (prog:Program)(w:World)(x:Str)(t:Tok):(iE prog w).is (.inr x) (.str x t)=true:=b8 x t
end L2
namespace L2
open PySem PySem.Spec PyProof.Rows
inductive V where
 | non|bl (b:Bool)|int (i:Int)|str (x:Str)|byt (b:Array UInt8)|flt (b:UInt64)|ref (a:Addr)|ty (n:String)
 deriving DecidableEq
def RelV:V->Value->Prop
 | .non,u=>u=Value.none
 | .bl b,u=>u=Value.bool b
 | .int i,u=>∃t,u=Value.int i t
 | .str x,u=>∃t,u=Value.str x t
 | .byt b,u=>∃t,u=Value.bytes b t
 | .flt b,u=>∃t,u=Value.float b t
 | .ref a,u=>u=Value.ref a
 | .ty n,u=>u=Value.type n
abbrev Vals:List V->List Value->Prop:=Paired RelV
theorem Vals.length {xs:List V}{us:List Value} (r:Vals xs us):xs.length=us.length:=Paired.length r
theorem Vals.get:∀{xs:List V}{us:List Value}{i:Nat}{x:V},Vals xs us->xs[i]? =some x->∃u,us[i]? =some u/\RelV x u
 | _,_,_,_,.nil,e=>by simp at e
 | _,_,0,_,.cons r _,e=>by simp at e;subst e;exact⟨_,rfl,r⟩
 | _,_,i+1,x,.cons _ t,e=>by
  obtain⟨u,h1,h2⟩:=Vals.get (i:=i) (x:=x) t (by simpa using e);exact⟨u,by simpa using h1,h2⟩
theorem Vals.append:∀{xs ys:List V}{us ws:List Value},Vals xs us->Vals ys ws->Vals (xs++ys) (us++ws)
 | _,_,_,_,.nil,s=>s
 | _,_,_,_,.cons r t,s=> .cons r (Vals.append t s)
theorem Vals.take:∀{xs:List V}{us:List Value} (n:Nat),Vals xs us->Vals (xs.take n) (us.take n)
 | _,_,0,_=> .nil
 | _,_,_+1,.nil=> .nil
 | _,_,n+1,.cons r t=> .cons r (Vals.take n t)
theorem Vals.drop:∀{xs:List V}{us:List Value} (n:Nat),Vals xs us->Vals (xs.drop n) (us.drop n)
 | _,_,0,r=>r
 | _,_,_+1,.nil=> .nil
 | _,_,n+1,.cons _ t=>Vals.drop n t
def RelO:Option V->Option Value->Prop
 | some v,some u=>RelV v u
 | none,none=>True
 | _,_=>False
def KV {κ:Type}:List (κ×V)->List (κ×Value)->Prop:=Paired fun (p:κ×V) (q:κ×Value)=>p.1=q.1/\RelV p.2 q.2
def kV:Key->V
 | .inl i=> .int i
 | .inr x=> .str x
inductive HO where
  | lst (xs:List V)
  | tup (xs:List V)
  | dK (kvs:List (Key×V))|dT (kvs:List (List Key×V))
  | set (S:Int->Bool) (n:Nat)
  | ins (C dx:Addr) (fs:List (Str×V))
  | own (x:Addr)
  | xd (fs:List (Str×V))
  | met (f x:Addr)
  | rng (lo hi:Int)
  | frz (o:Obj) (u:HO)
  | tbl (ps:Array Value)
  | ext (φ:Heap->Prop)
abbrev Hp:=Addr->Option HO
def upd (H:Hp)(a:Addr)(o:HO):Hp:=fun b=>if b=a then some o else H b
theorem bP {H:Hp}{a:Addr}{o:HO}:upd H a o a=some o:=by unfold upd;rw[if_pos rfl]
theorem aX {H:Hp}{a b:Addr}{o:HO} (h:b≠a):upd H a o b=H b:=by unfold upd;rw[if_neg h]
theorem C4 {H:Hp}{a:Addr}{o u:HO}:upd (upd H a o) a u=upd H a u:=by
 funext b;unfold upd;split<;>rfl
theorem bG {H:Hp}{a b:Addr}{o:HO} (h:H a=some o) (h':H b=none):a≠b:=by
 intro e;subst e;rw[h]at h';cases h'
section
variable (P:Program)(w:World)
def ObjOk (H:Hp)(h:Heap)(a:Addr):HO->Prop
 | .lst xs=>xs.length<=sizeLine/\∃(its:List Value) (n:Nat),Vals xs its/\h.get? a=some { cls:= .type "list",data:= .seq its.toArray n }
 | .tup xs=>xs.length<=sizeLine/\∃its:List Value,Vals xs its/\IsTup h a its.toArray
 | .dK kvs=>kvs.length<=sizeLine/\(a==sysModules)=false/\∃vs,KV kvs vs/\h.DictOf (iE P w) a vs
 | .dT kvs=>kvs.length<=sizeLine/\(a==sysModules)=false/\∃xs:List (List Key×Addr×Value),
   Paired (fun (p:List Key×V) (q:List Key×Addr×Value)=>p.1=q.1/\H q.2.1=some (.tup (p.1.map kV))/\RelV p.2 q.2.2) kvs xs ∧
   ∃o es ep,h.get? a=some o/\o.ExactDict/\o.data= .dict es ep/\es.toList=xs.map (entryOfKey (tupleKind (iE P w)))/\(xs.map (·.1)).Nodup
 | .set S n=>h.SetOf (intKind P w) a S n
 | .ins C dx fs=>H dx=some (.own a)/\fs.length<=1000/\dx≠a/\h.get? a=some (PySem.W.instObj C dx) ∧
   ∃mA,h.Ns1 dx mA/\(∀f,RelO (fs.lookup f) (mA f))/\PySem.Within mA (fs.map (·.1))
 | .own _=>∃o,h.get? a=some o
 | .xd fs=>∃mA,h.Ns1 a mA/\∀f,RelO (fs.lookup f) (mA f)
 | .rng lo hi=>∃t u v,h.get? a=some { cls:= .type "range",data:= .fields #[.int lo t,.int hi u,.int 1 v] }
 | .frz o u=>h.get? a=some o/\ObjOk H h a u
 | .tbl ps=>h.get? a=some { cls:= .none,data:= .fields ps }
 | .met f x=>h.get? a=some (PySem.W.methodObj (.ref f) (.ref x))
 | .ext φ=>φ h/\(∃o,h.get? a=some o)/\∀h1 h2:Heap,φ h1->(∀o,h1.get? a=some o->h2.get? a=some o)->φ h2
def HOk (H:Hp)(h:Heap):Prop:=∀a o,H a=some o->ObjOk P w H h a o
end
section
variable {P:Program}{w:World}{H H':Hp}{h h':Heap}{a:Addr}{o:HO}
theorem ObjOk.lt (x:ObjOk P w H h a o):a<h.objs.size:=by
 cases o with
 | lst xs=>obtain⟨_,_,_,_,e⟩:=x;exact Heap.lt_size e
 | tup xs=>obtain⟨_,_,_,p⟩:=x;exact p.lt
 | dK kvs=>obtain⟨_,_,_,_,o,_,_,e,_⟩:=x;exact Heap.lt_size e
 | dT kvs=>obtain⟨_,_,_,_,o,_,_,e,_⟩:=x;exact Heap.lt_size e
 | set S n=>obtain⟨o,_,_,_,e,_⟩:=x;exact Heap.lt_size e
 | ins C dx fs=>obtain⟨_,_,_,e,_⟩:=x;exact Heap.lt_size e
 | own y=>obtain⟨_,e⟩:=x;exact Heap.lt_size e
 | xd fs=>obtain⟨_,⟨_,_,_,e,_⟩,_⟩:=x;exact Heap.lt_size e
 | rng lo hi=>obtain⟨_,_,_,e⟩:=x;exact Heap.lt_size e
 | frz ob u=>obtain⟨e,_⟩:=x;exact Heap.lt_size e
 | tbl ps=>exact Heap.lt_size (show h.get? a=some _ from x)
 | met f y=>exact Heap.lt_size (show h.get? a=some _ from x)
 | ext φ=>obtain⟨_,⟨_,e⟩,_⟩:=x;exact Heap.lt_size e
theorem Paired.mapP {α β:Type}{F G:α->β->Prop}:∀{l₁:List α}{l₂:List β},Paired F l₁ l₂->(∀a b,F a b->G a b)->Paired G l₁ l₂
 | _,_,.nil,_=> .nil
 | _,_,.cons r t,f=> .cons (f _ _ r) (Paired.mapP t f)
theorem Paired.imp' {α β:Type}{F G:α->β->Prop} (f:∀a b,F a b->G a b) {l₁:List α}{l₂:List β} (r:Paired F l₁ l₂):Paired G l₁ l₂:=Paired.mapP r f
theorem ObjOk.stay (x:ObjOk P w H h a o)(k:∀b u,(b=a∨H b=some (.own a))->h.get? b=some u->h'.get? b=some u)
  (ho:∀b,H b=some (.own a)->H' b=some (.own a))(ht:∀b xs,H b=some (.tup xs)->H' b=some (.tup xs)):ObjOk P w H' h' a o:=by
 induction o with
 | lst xs=>obtain⟨z,its,n,r,e⟩:=x;exact⟨z,its,n,r,k _ _ (.inl rfl) e⟩
 | tup xs=>obtain⟨z,its,r,ob,e,c⟩:=x;exact⟨z,its,r,ob,k _ _ (.inl rfl) e,c⟩
 | dK kvs=>obtain⟨z,y,vs,r,ob,es,ep,e,c⟩:=x;exact⟨z,y,vs,r,ob,es,ep,k _ _ (.inl rfl) e,c⟩
 | dT kvs =>
  obtain⟨z,y,xs,r,ob,es,ep,e,c⟩:=x;exact⟨z,y,xs,Paired.mapP r fun p q z=>⟨z.1,ht _ _ z.2.1,z.2.2⟩,ob,es,ep,k _ _ (.inl rfl) e,c⟩
 | set S n=>obtain⟨ob,es,ep,t,e,c⟩:=x;exact⟨ob,es,ep,t,k _ _ (.inl rfl) e,c⟩
 | ins C dx fs =>
  obtain⟨d,z,ne,e,mA,⟨od,es,ep,e2,c⟩,r⟩:=x;exact⟨ho _ d,z,ne,k _ _ (.inl rfl) e,mA,⟨od,es,ep,k _ _ (.inr d) e2,c⟩,r⟩
 | own y=>obtain⟨ob,e⟩:=x;exact⟨ob,k _ _ (.inl rfl) e⟩
 | xd fs=>obtain⟨mA,⟨od,es,ep,e,c⟩,r⟩:=x;exact⟨mA,⟨od,es,ep,k _ _ (.inl rfl) e,c⟩,r⟩
 | rng lo hi=>obtain⟨t,u,v,e⟩:=x;exact⟨t,u,v,k _ _ (.inl rfl) e⟩
 | frz ob u ih=>obtain⟨e,q⟩:=x;exact⟨k _ _ (.inl rfl) e,ih q⟩
 | tbl ps =>
  have e:h.get? a=some { cls:= .none,data:= .fields ps }:=x;show h'.get? a=some { cls:= .none,data:= .fields ps };exact k a _ (.inl rfl) e
 | met f y =>
  have e:h.get? a=some (PySem.W.methodObj (.ref f) (.ref y)):=x;show h'.get? a=some (PySem.W.methodObj (.ref f) (.ref y));exact k a _ (.inl rfl) e
 | ext φ=>obtain⟨p,⟨o,e⟩,st⟩:=x;exact⟨st _ _ p fun o q=>k _ _ (.inl rfl) q,⟨o,k _ _ (.inl rfl) e⟩,st⟩
theorem HOk.lt (x:HOk P w H h)(e:H a=some o):a<h.objs.size:=(x a o e).lt
theorem HOk.fresh (x:HOk P w H h)(e:h.objs.size<=a):H a=none:=by
 cases q:H a with
 | none=>rfl
 | some u=>exact absurd (Nat.lt_of_lt_of_le (x.lt q) e) (Nat.lt_irrefl _)
theorem HOk.kept (x:HOk P w H h)(k:∀b u,h.get? b=some u->h'.get? b=some u):HOk P w H h':=fun a o e =>
 (x a o e).stay (fun b u _ q=>k b u q) (fun _ q=>q) fun _ _ q=>q
theorem HOk.laid (x:HOk P w H h)(k:∀b u,h.get? b=some u->h'.get? b=some u)(hp:h.objs.size<=a)(new:ObjOk P w (upd H a o) h' a o):HOk P w (upd H a o) h':=fun b u e=>by
 have hn:=x.fresh hp
 by_cases hb:b=a
 ·subst hb;rw[bP]at e;cases e;exact new
 ·rw[aX hb]at e;exact(x b u e).stay (fun c v _ q=>k c v q) (fun c q=>by rw[aX (bG q hn)];exact q) fun c xs q=>by rw[aX (bG q hn)];exact q
end
def Rd (H:Hp)(a:Addr)(u:HO):Prop:=H a=some u∨∃o,H a=some (.frz o u)
theorem Rd.ok {P:Program}{w:World}{H:Hp}{h:Heap}{a:Addr}{u:HO} (r:Rd H a u) (x:HOk P w H h):ObjOk P w H h a u:=by
 rcases r with r|⟨o,r⟩
 ·exact x a u r
 ·obtain⟨_,q⟩:=x a _ r;exact q
def Mut:Option HO->Prop
 | some (.lst _)=>True
 | some (.dK _)=>True
 | some (.dT _)=>True
 | some (.set _ _)=>True
 | some (.ins _ _ _)=>True
 | some (.ext _)=>True
 | _=>False
section
variable {P:Program}{w:World}{H:Hp}{h h':Heap}{x e:Addr}{o':HO}
theorem HOk.write (ok:HOk P w H h)(mu:Mut (H x))(he:e=x∨H e=some (.own x))(k:∀b u,b≠e->h.get? b=some u->h'.get? b=some u)(heo:∃u,h'.get? e=some u)
  (new:ObjOk P w (upd H x o') h' x o'):HOk P w (upd H x o') h':=fun b u q=>by
 have nown:∀c y,H c=some (.own y)->c≠x:=fun c y r z=>by subst z;rw[r]at mu;exact mu
 have ntup:∀c xs,H c=some (.tup xs)->c≠x:=fun c xs r z=>by subst z;rw[r]at mu;exact mu
 by_cases hb:b=x
 ·subst hb;rw[bP]at q;cases q;exact new
 ·rw[aX hb]at q
  by_cases hbe:b=e
  ·have q':H b=some (.own x):=by
    rcases he with z|z
    ·exact absurd (hbe.trans z) hb
    ·rw[hbe];exact z
   rw[q]at q';cases q';obtain⟨v,hv⟩:=heo;exact⟨v,by rw[hbe];exact hv⟩
  ·refine(ok b u q).stay (fun c v hc r=>k c v ?_ r) (fun c r=>by rw[aX (nown c b r)];exact r) fun c xs r=>by rw[aX (ntup c xs r)];exact r
   rcases hc with rfl|hc
   ·exact hbe
   ·rintro rfl;rcases he with z|z
    ·exact nown c b hc z
    ·rw[hc]at z;cases z;exact hb rfl
end
structure Un (fs ex:List Addr)(H H':Hp)(h h':Heap):Prop where
 keep:∀b o,h.get? b=some o->H b=none->b∉fs->b∉ex->h'.get? b=some o
 slot:∀b o,h.get? b=some o->H b=none->b∈fs->b∉ex->∃sl,h'.get? b=some { o with slots:=sl }
 free:∀b o,h.get? b=some o->H b=none->b∉ex->H' b=none
 there:∀b o,h.get? b=some o->b∉ex->∃o',h'.get? b=some o'
 tups:∀b xs,H b=some (.tup xs)->H' b=some (.tup xs)
 frzs:∀b o u,H b=some (.frz o u)->H' b=some (.frz o u)
 tbls:∀b ps,H b=some (.tbl ps)->∃more,H' b=some (.tbl (ps++more))
section
variable {fs fs' ex ex':List Addr}{H H1 H2:Hp}{h h1 h2 h':Heap}{a x e:Addr}{o:HO}
theorem Un.any (u:Un fs ex H H1 h h1){b:Addr}{ob:Obj} (q:h.get? b=some ob) (n:H b=none) (hx:b∉ex):∃sl,h1.get? b=some { ob with slots:=sl }:=by
 by_cases hb:b∈fs
 ·exact u.slot b ob q n hb hx
 ·exact⟨ob.slots,u.keep b ob q n hb hx⟩
theorem Un.kept (k:∀b u,h.get? b=some u->h'.get? b=some u):Un fs ex H H h h' :=
 ⟨fun b ob q _ _ _=>k b ob q,fun b ob q _ _ _=>⟨ob.slots,k b ob q⟩,fun _ _ _ n _=>n,fun b ob q _=>⟨ob,k b ob q⟩,fun _ _ q=>q,fun _ _ _ q=>q,fun _ ps q=>⟨#[],by rw[q];simp⟩⟩
theorem Un.refl:Un fs ex H H h h:=Un.kept fun _ _ q=>q
theorem Un.laid (k:∀b u,h.get? b=some u->h'.get? b=some u)(hp:h.objs.size<=a)(hn:H a=none):Un fs ex H (upd H a o) h h' where
 keep:=fun b u q _ _ _=>k b u q
 slot:=fun b u q _ _ _=>⟨u.slots,k b u q⟩
 free:=fun b u q n _=>by rw[aX (Nat.ne_of_lt (Nat.lt_of_lt_of_le (Heap.lt_size q) hp))];exact n
 there:=fun b u q _=>⟨u,k b u q⟩
 tups:=fun b xs q=>by rw[aX (bG q hn)];exact q
 frzs:=fun b u xs q=>by rw[aX (bG q hn)];exact q
 tbls:=fun b ps q=>⟨#[],by rw[aX (bG q hn),q];simp⟩
theorem Un.write (mu:Mut (H x))(he:e=x∨H e=some (.own x))(k:∀b u,b≠e->h.get? b=some u->h'.get? b=some u)(heo:∃u,h'.get? e=some u):Un fs ex H (upd H x o) h h':=by
 have hx:∀b,H b=none->b≠x:=fun b n z=>by subst z;rw[n]at mu;exact mu
 have hb:∀b,H b=none->b≠e:=fun b n z=>by
  subst z;rcases he with r|r
  ·exact hx b n r
  ·rw[n]at r;cases r
 have hm:∀b u,H b=some u->¬Mut (some u)->b≠x:=fun b u q nm z=>by subst z;rw[q]at mu;exact nm mu
 refine⟨fun b u q n _ _=>k b u (hb b n) q,fun b u q n _ _=>⟨u.slots,k b u (hb b n) q⟩,fun b u q n _=>by rw[aX (hx b n)];exact n,fun b u q _=> ?_,
  fun b xs q=>by rw[aX (hm b _ q fun z=>z)];exact q,fun b u xs q=>by rw[aX (hm b _ q fun z=>z)];exact q,fun b ps q=>⟨#[],by rw[aX (hm b _ q fun z=>z),q];simp⟩⟩
 by_cases hbe:b=e
 ·subst hbe;exact heo
 ·exact⟨u,k b u hbe q⟩
end
def trk (h:Heap)(H:Hp):List Addr:=(List.range h.objs.size).filter fun a=>(H a).isSome
def oX (h:Heap)(H:Hp):Heap:=PySem.W.hideAll h (trk h H)
theorem II (h:Heap)(H:Hp):(oX h H).objs.size=h.objs.size:=PySem.W.hideAll_size _ _
theorem KL {h:Heap}{H:Hp}{b:Addr}{o:Obj} (e:h.get? b=some o) (n:H b=none):(oX h H).get? b=some o :=
 PySem.W.hideAll_get _ e fun hm=>by
  have q:(H b).isSome=true:=(List.mem_filter.mp hm).2;rw[n]at q;simp at q
theorem NW {h:Heap}{H:Hp}{b:Addr}{o:Obj} (e:(oX h H).get? b=some o):h.get? b=some o/\H b=none:=by
 have e':h.get? b=some o:=PySem.W.of_hideAll (trk h H) e;refine⟨e',?_⟩;cases q:H b with
 | none=>rfl
 | some x =>
  have hm:b∈trk h H:=List.mem_filter.mpr ⟨List.mem_range.mpr (Heap.lt_size e'),by simp[q]⟩;have z:(oX h H).get? b=none:=PySem.W.hideAll_none (trk h H) hm;rw[z]at e;cases e
end L2
namespace L2
open PySem PySem.Spec PyProof.Rows
structure Mod (K:PySem.W.Frag)(mg:Str->Option Value)(base:Heap):Prop where
 kin:K.In base
 glob:base.Ns mainGlobals mg
 blt:∃mb,base.Ns builtinsNs mb/\∀x:Str,x≠ "__name__" ->mb x=bootBuiltins x
 nolimit:base.NoLimit
structure Cx where
 prog:Program
 w:World
 K:PySem.W.Frag
 mg:Str->Option Value
 base:Heap
 A:Around
 N:List Str
 s₀:Shared
 H₀:Hp
 env:Env
 outer:List Env
 stack:List Env
 ex:List Addr
 fn:Str->Bool
 calm:Bool
 pn:List (Addr×Obj)
 xe:Value->Shared->Prop
def frs (l:List Env):List Addr:=l.filterMap (·.frame)
abbrev Cx.fs (X:Cx):List Addr:=frs X.outer
def Vis (sc:Scope)(x:Str):Prop:=sc.names.lookup x=some .local∨sc.names.lookup x=some .cell∨sc.names.lookup x=some .free
def Loc (sc:Scope)(x:Str):Prop:=sc.names.lookup x=some .local∨sc.names.lookup x=some .cell
def UW (env:Env)(h:Heap)(m:Str->Option Value)(x:Str)(u:Value):Prop :=
 (env.kindOf x=some .local/\m x=some u)∨((env.kindOf x=some .cell∨env.kindOf x=some .free)/\∃c,env.cells.lookup x=some c/\h.IsCell c (some u))
structure Cx.Ok (X:Cx):Prop where
 mod:Mod X.K X.mg X.base
 kind:X.env.scope.kind= .function
 glob:X.env.globals=mainGlobals
 blt:X.env.builtins=builtinsNs
 above:X.s₀.heap.objs.size<=X.env.locals
 inj:∀x y c,X.env.cells.lookup x=some c->X.env.cells.lookup y=some c->x=y
 has:∀x,(X.env.kindOf x=some .cell∨X.env.kindOf x=some .free)->∃c,X.env.cells.lookup x=some c
 cab:∀x c,X.fn x=true->X.env.cells.lookup x=some c->X.s₀.heap.objs.size<=c
 hd:X.calm=true->X.A.handled=none
 frames:X.A.frames=some X.stack
 stk:X.stack=X.outer∨(X.stack=X.env::X.outer/\X.env.frame=some X.env.locals)
 exf:∀b∈X.ex,b≠X.env.locals/\∀x c,X.env.cells.lookup x=some c->c≠b
 bs:∀b o,X.base.get? b=some o->X.s₀.heap.get? b=some o/\X.H₀ b=none
 bsz:X.base.objs.size<=X.s₀.heap.objs.size
 noex:∀b o,X.base.get? b=some o->b∉X.ex
 exfs:∀b∈X.ex,b∉X.fs
 funs:X.s₀.heap.FunFrames X.base X.outer
 frf:∀b∈X.fs,X.H₀ b=none
structure Inv (X:Cx)(pins:List (Addr×Obj))(σ:List (Option V))(H:Hp)(s:Shared):Prop where
 ok:X.Ok
 os:s.os=X.s₀.os
 bare:AllBare s.gens
 base:Un X.fs X.ex X.H₀ H X.s₀.heap s.heap
 loc:∃m,s.heap.Ns X.env.locals m/\∀(i:Nat) (x:Str) (v:V),X.N[i]? =some x->σ[i]? =some (some v)->Vis X.env.scope x->∃u,RelV v u/\UW X.env s.heap m x u
 cell:∀x c,X.env.cells.lookup x=some c->∃v,s.heap.IsCell c v
 free:H X.env.locals=none
 freeC:∀x c,X.env.cells.lookup x=some c->H c=none
 pin:∀p∈X.pn++pins,s.heap.get? p.1=some p.2/\H p.1=none/\p.1≠X.env.locals/\p.1∉X.fs/\∀v,p.2.data≠ .cell v
 hok:HOk X.prog X.w H s.heap
 len:σ.length=X.N.length
section
variable {X:Cx}{pins:List (Addr×Obj)}{σ:List (Option V)}{H H':Hp}{s:Shared}{h':Heap}
theorem Cx.Ok.nofr (ok:X.Ok){b:Addr}{o:Obj} (e:X.base.get? b=some o):b∉X.fs:=fun hb=>by
 have:=(ok.funs.mem hb).1;rw[e]at this;cases this
theorem Inv.bs (I:Inv X pins σ H s):∀b o,X.base.get? b=some o->s.heap.get? b=some o/\H b=none:=fun b o e =>
 ⟨I.base.keep b o (I.ok.bs b o e).1 (I.ok.bs b o e).2 (I.ok.nofr e) (I.ok.noex b o e),I.base.free b o (I.ok.bs b o e).1 (I.ok.bs b o e).2 (I.ok.noex b o e)⟩
theorem Inv.bk (I:Inv X pins σ H s):∀b o,X.base.get? b=some o->s.heap.get? b=some o:=fun b o e=>(I.bs b o e).1
theorem Inv.mod (I:Inv X pins σ H s):Mod X.K X.mg X.base:=I.ok.mod
theorem Inv.kIn (I:Inv X pins σ H s):X.K.In s.heap:=I.ok.mod.kin.keeps I.bk
theorem Inv.lt (I:Inv X pins σ H s):X.env.locals<s.heap.objs.size:=let ⟨_,hn,_⟩:=I.loc;hn.lt
theorem Inv.sz (I:Inv X pins σ H s):X.s₀.heap.objs.size<=s.heap.objs.size:=Nat.le_trans I.ok.above (Nat.le_of_lt I.lt)
theorem Inv.nofs (I:Inv X pins σ H s){a:Addr}(h:s.heap.objs.size<=a):a∉X.fs:=fun hb=>by
 obtain⟨_,o,ho,_⟩:=I.ok.funs.mem hb;exact absurd (Nat.lt_of_lt_of_le (Heap.lt_size ho) (Nat.le_trans I.sz h)) (Nat.lt_irrefl _)
theorem Inv.cne (I:Inv X pins σ H s):∀x c,X.env.cells.lookup x=some c->c≠X.env.locals:=fun x c e z=>by
 obtain⟨v,o,ho,hd⟩:=I.cell x c e;obtain⟨m,⟨o',es,ep,ho',hd',_⟩,_⟩:=I.loc;rw[z,ho']at ho;cases ho;rw[hd']at hd;cases hd
theorem Inv.funs (I:Inv X pins σ H s):s.heap.FunFrames X.base X.outer:=by
 have all:∀(l:List Env),(∀b∈frs l,b∈X.fs)->X.s₀.heap.FunFrames X.base l->s.heap.FunFrames X.base l:=by
  intro l
  induction l with
  | nil=>intro _ _;trivial
  | cons env r ih =>
   intro hs hl;obtain⟨hk,⟨L,o,hf,hn,ho,hd⟩,hr⟩:=hl;have hL:L∈X.fs:=hs L (by unfold frs;rw[List.filterMap_cons,hf];exact List.mem_cons_self);obtain⟨sl,e⟩:=I.base.slot L o ho (I.ok.frf L hL) hL fun z=>I.ok.exfs L z hL;exact⟨hk,⟨L,_,hf,hn,e,hd⟩,ih (fun b hb=>hs b (by unfold frs;rw[List.filterMap_cons,hf];exact List.mem_cons_of_mem _ hb)) hr⟩
 exact all X.outer (fun _ hb=>hb) I.ok.funs
theorem Inv.stack (I:Inv X pins σ H s):s.heap.FunFrames X.base X.stack:=by
 rcases I.ok.stk with e|⟨e,hf⟩
 ·rw[e];exact I.funs
 ·rw[e];obtain⟨m,hn,_⟩:=I.loc;refine .cons (by rw[I.ok.kind];decide) hf hn ?_ I.funs;exact Heap.get?_none_of_le (Nat.le_trans I.ok.bsz I.ok.above)
theorem Inv.stkSub (I:Inv X pins σ H s):∀b∈frs X.stack,b∈X.env.locals::X.fs:=fun b hb=>by
 rcases I.ok.stk with e|⟨e,hf⟩
 ·rw[e]at hb;exact List.mem_cons_of_mem _ hb
 ·rw[e]at hb;unfold frs at hb;rw[List.filterMap_cons,hf]at hb;exact hb
theorem Inv.stkFree (I:Inv X pins σ H s):∀b∈frs X.stack,H b=none:=fun b hb=>by
 rcases List.mem_cons.mp (I.stkSub b hb) with e|hb
 ·rw[e];exact I.free
 ·obtain⟨_,o,ho,_⟩:=I.ok.funs.mem hb;exact I.base.free b o ho (I.ok.frf b hb) fun z=>I.ok.exfs b z hb
theorem Inv.step {g':Array GenState}{t':Nat}{d':Drawn}{ch:List Addr} (I:Inv X pins σ H s)
  (hch:∀b∈ch,(b∈X.ex∨X.s₀.heap.objs.size<=b)/\b≠X.env.locals/\(∀x c,X.env.cells.lookup x=some c->c≠b)/\∀p∈X.pn++pins,p.1≠b)
  (keep:∀b o,b≠X.env.locals->b∉X.fs->b∉ch->s.heap.get? b=some o->H b=none->h'.get? b=some o)
  (slot:∀b o,b≠X.env.locals->b∈X.fs->b∉ch->s.heap.get? b=some o->H b=none->∃sl,h'.get? b=some { o with slots:=sl })(free:∀b o,b∉ch->s.heap.get? b=some o->H b=none->H' b=none)
  (there:∀b o,b∉ch->s.heap.get? b=some o->∃o',h'.get? b=some o')
  (tups:∀b xs,H b=some (.tup xs)->H' b=some (.tup xs))(frzs:∀b o u,H b=some (.frz o u)->H' b=some (.frz o u))(tbls:∀b ps,H b=some (.tbl ps)->∃more,H' b=some (.tbl (ps++more)))
  (ns:∀m,s.heap.Ns X.env.locals m->h'.Ns X.env.locals m)(hok:HOk X.prog X.w H' h')(hg:AllBare g') :
  Inv X pins σ H' { s with heap:=h',gens:=g',drawn:=d',toks:=t' }:=by
 have neL:∀b o,X.s₀.heap.get? b=some o->b≠X.env.locals:=fun b o e=>Nat.ne_of_lt (Nat.lt_of_lt_of_le (Heap.lt_size e) I.ok.above);have neC:∀b o,X.s₀.heap.get? b=some o->b∉X.ex->b∉ch:=fun b o e hx hb=>by
  rcases (hch b hb).1 with z|z
  ·exact hx z
  ·exact absurd (Nat.lt_of_lt_of_le (Heap.lt_size e) z) (Nat.lt_irrefl _)
 have cellK:∀x c,X.env.cells.lookup x=some c->∀v,s.heap.IsCell c v->h'.IsCell c v:=fun x c e v ⟨o,ho,hd⟩=>by
  have nch:c∉ch:=fun z=>(hch c z).2.2.1 x c e rfl
  by_cases hc:c∈X.fs
  ·obtain⟨sl,q⟩:=slot c o (I.cne x c e) hc nch ho (I.freeC x c e);exact⟨_,q,hd⟩
  ·exact⟨o,keep c o (I.cne x c e) hc nch ho (I.freeC x c e),hd⟩
 refine⟨I.ok,I.os,hg,⟨fun b o e n hb hx=> ?_,fun b o e n hb hx=> ?_,fun b o e n hx=> ?_,fun b o e hx=> ?_,fun b xs e=>tups b xs (I.base.tups b xs e),fun b o xs e=>frzs b o xs (I.base.frzs b o xs e),fun b ps e=> ?_⟩,?_,fun x c e=> ?_,?_,fun x c e=> ?_,fun p hp=> ?_,hok,I.len⟩
 ·exact keep b o (neL b o e) hb (neC b o e hx) (I.base.keep b o e n hb hx) (I.base.free b o e n hx)
 ·obtain⟨sl,e1⟩:=I.base.slot b o e n hb hx;obtain⟨sl',e2⟩:=slot b _ (neL b o e) hb (neC b o e hx) e1 (I.base.free b o e n hx);exact⟨sl',e2⟩
 ·obtain⟨o',e1⟩:=I.base.there b o e hx;exact free b o' (neC b o e hx) e1 (I.base.free b o e n hx)
 ·obtain⟨o',e1⟩:=I.base.there b o e hx;exact there b o' (neC b o e hx) e1
 ·obtain⟨m1,e1⟩:=I.base.tbls b ps e;obtain⟨m2,e2⟩:=tbls b _ e1;exact⟨m1++m2,by rw[e2,Array.append_assoc]⟩
 ·obtain⟨m,hn,hl⟩:=I.loc;refine⟨m,ns m hn,fun i x v e1 e2 e3=> ?_⟩;obtain⟨u,r,l⟩:=hl i x v e1 e2 e3;refine⟨u,r,?_⟩;rcases l with l|⟨k,c,e,z⟩
  ·exact .inl l
  ·exact .inr ⟨k,c,e,cellK x c e _ z⟩
 ·obtain⟨v,z⟩:=I.cell x c e;exact⟨v,cellK x c e v z⟩
 ·obtain⟨m,⟨o,_,_,ho,_⟩,_⟩:=I.loc;exact free _ o (fun z=>(hch _ z).2.1 rfl) ho I.free
 ·obtain⟨v,o,ho,hd⟩:=I.cell x c e;exact free c o (fun z=>(hch c z).2.2.1 x c e rfl) ho (I.freeC x c e)
 ·obtain⟨e,n,ne,nf,d⟩:=I.pin p hp;have nch:p.1∉ch:=fun z=>(hch p.1 z).2.2.2 p hp rfl;exact⟨keep p.1 p.2 ne nf nch e n,free p.1 p.2 nch e n,ne,nf,d⟩
theorem Inv.un {t':Nat}(I:Inv X pins σ H s)(u:Un X.fs [] H H' s.heap h')(hok:HOk X.prog X.w H' h'):Inv X pins σ H' { s with heap:=h',toks:=t' }:=by
 obtain⟨m,⟨o,es,ep,ho,r⟩,_⟩:=id I.loc;obtain⟨sl,hL⟩:=u.any ho I.free (by simp);exact I.step (g':=s.gens) (d':=s.drawn) (ch:=[]) (fun _ z=>nomatch z) (fun b o _ hb _ e n=>u.keep b o e n hb (by simp)) (fun b o _ hb _ e n=>u.slot b o e n hb (by simp)) (fun b o _ e n=>u.free b o e n (by simp)) (fun b o _ e=>u.there b o e (by simp)) u.tups u.frzs u.tbls (fun m' hm=>by
  obtain⟨o',es',ep',ho',r'⟩:=hm;rw[ho]at ho';cases ho';exact⟨_,es',ep',hL,r'⟩) hok I.bare
theorem Inv.call {g':Array GenState}{t':Nat}{d':Drawn}{ch:List Addr} (I:Inv X pins σ H s) (u:Un (frs X.stack) ch H H' s.heap h') (hok:HOk X.prog X.w H' h') (hg:AllBare g')
  (hch:∀b∈ch,(b∈X.ex∨X.s₀.heap.objs.size<=b)/\b≠X.env.locals/\(∀x c,X.env.cells.lookup x=some c->c≠b)/\∀p∈X.pn++pins,p.1≠b) :
  Inv X pins σ H' { s with heap:=h',gens:=g',drawn:=d',toks:=t' }:=by
 obtain⟨m,⟨o,es,ep,ho,r⟩,_⟩:=id I.loc;obtain⟨sl,hL⟩:=u.any ho I.free fun z=>(hch _ z).2.1 rfl;exact I.step (ch:=ch) hch (fun b o hL hb hc e n=>u.keep b o e n (fun z=>(List.mem_cons.mp (I.stkSub b z)).elim hL hb) hc) (fun b o _ _ hc e n=>u.any e n hc) (fun b o hc e n=>u.free b o e n hc) (fun b o hc e=>u.there b o e hc) u.tups u.frzs u.tbls (fun m' hm=>by
  obtain⟨o',es',ep',ho',r'⟩:=hm;rw[ho]at ho';cases ho';exact⟨_,es',ep',hL,r'⟩) hok hg
theorem Inv.turned {t':Nat}{it:Addr} (I:Inv X pins σ H s) (k:∀b o,b≠it->s.heap.get? b=some o->h'.get? b=some o) (hn:H it=none) (hL:it≠X.env.locals)
  (h1:it∈X.ex∨X.s₀.heap.objs.size<=it)(h2:∀x c,X.env.cells.lookup x=some c->c≠it)(h3:∀p∈X.pn++pins,p.1≠it):Inv X pins σ H { s with heap:=h',toks:=t' }:=by
 have nit:∀b u,H b=some u->b≠it:=fun b u e z=>by rw[z,hn]at e;cases e
 refine I.step (g':=s.gens) (d':=s.drawn) (ch:=[it]) (fun b hb=> ?_) (fun b o _ _ hc e _=>k b o (fun z=>hc (by simp[z])) e) (fun b o _ _ hc e _=>⟨o.slots,k b o (fun z=>hc (by simp[z])) e⟩) (fun _ _ _ _ n=>n)
  (fun b o hc e=>⟨o,k b o (fun z=>hc (by simp[z])) e⟩) (fun _ _ e=>e) (fun _ _ _ e=>e) (fun b ps e=>⟨#[],by rw[e];simp⟩) (fun m hm=> ?_) (fun b u e=> ?_) I.bare
 ·have e:b=it:=by simpa using hb
  subst e;exact⟨h1,hL,h2,h3⟩
 ·obtain⟨o,es,ep,ho,r⟩:=hm;exact⟨o,es,ep,k _ o (Ne.symm hL) ho,r⟩
 ·refine(I.hok b u e).stay (fun c v hc q=>k c v ?_ q) (fun _ q=>q) fun _ _ q=>q;rcases hc with z|z
  ·rw[z];exact nit b u e
  ·exact nit c _ z
theorem Inv.tok (I:Inv X pins σ H s)(t:Nat):Inv X pins σ H { s with toks:=t }:=I.un (h':=s.heap) (t':=t) Un.refl I.hok
theorem Inv.kept {t':Nat}(I:Inv X pins σ H s)(k:∀b u,s.heap.get? b=some u->h'.get? b=some u):Inv X pins σ H { s with heap:=h',toks:=t' }:=I.un (Un.kept k) (I.hok.kept k)
theorem Inv.laid {a:Addr}{o:HO}{t':Nat} (I:Inv X pins σ H s) (k:∀b u,s.heap.get? b=some u->h'.get? b=some u) (hp:s.heap.objs.size<=a) (new:ObjOk X.prog X.w (upd H a o) h' a o) :
  Inv X pins σ (upd H a o) { s with heap:=h',toks:=t' }:=I.un (Un.laid k hp (I.hok.fresh hp)) (I.hok.laid k hp new)
theorem Inv.write {x e:Addr}{o:HO}{t':Nat} (I:Inv X pins σ H s) (mu:Mut (H x)) (he:e=x∨H e=some (.own x)) (k:∀b u,b≠e->s.heap.get? b=some u->h'.get? b=some u) (heo:∃u,h'.get? e=some u)
  (new:ObjOk X.prog X.w (upd H x o) h' x o):Inv X pins σ (upd H x o) { s with heap:=h',toks:=t' }:=I.un (Un.write mu he k heo) (I.hok.write mu he k heo new)
theorem Inv.weak {σ':List (Option V)}(I:Inv X pins σ H s)(hl:σ'.length=σ.length)(w:∀(i:Nat) v,σ'[i]? =some (some v)->σ[i]? =some (some v)):Inv X pins σ' H s :=
 ⟨I.ok,I.os,I.bare,I.base,let ⟨m,hn,hl'⟩:=I.loc;⟨m,hn,fun i x v e1 e2 e3=>hl' i x v e1 (w i v e2) e3⟩,I.cell,I.free,I.freeC,I.pin,I.hok,hl.trans I.len⟩
theorem Inv.pins_of {pins':List (Addr×Obj)}(I:Inv X pins σ H s)(h:∀p∈pins',s.heap.get? p.1=some p.2/\H p.1=none/\p.1≠X.env.locals/\p.1∉X.fs/\∀v,p.2.data≠ .cell v):Inv X pins' σ H s :=
 ⟨I.ok,I.os,I.bare,I.base,I.loc,I.cell,I.free,I.freeC,fun p hp=>(List.mem_append.mp hp).elim (fun z=>I.pin p (List.mem_append_left _ z)) (h p),I.hok,I.len⟩
theorem sW {N:List Str}(hN:N.Nodup){i j:Nat}{x:Str} (a:N[i]? =some x) (b:N[j]? =some x):i=j:=by
 obtain⟨h1,e1⟩:=List.getElem?_eq_some_iff.mp a;obtain⟨h2,e2⟩:=List.getElem?_eq_some_iff.mp b;exact(List.getElem_inj hN).mp (e1.trans e2.symm)
theorem HP {M:Model}{A:Around}{E:Value->Shared->Prop}{i:Nat}{x:Str}{v:V}{u:Value}{Q:Unit->Shared->Prop} (I:Inv X pins σ H s) (hN:X.N.Nodup) (hi:X.N[i]? =some x) (hx:Loc X.env.scope x) (r:RelV v u)
  (h:∀s',Inv X pins (σ.set i (some v)) H s'->(∃a,Heap.SameBut a s.heap s'.heap/\(a=X.env.locals∨X.env.cells.lookup x=some a))->Q () s')(hf:X.fn x=true∨X.env.scope.names.lookup x=some .local:=by first|exact .inl rfl|exact .inr rfl|assumption):wpAny M A (storeName X.env x u) Q E s:=by
 obtain⟨m,hn,hl⟩:=id I.loc;have hcls:(X.env.scope.kind== .class||(X.env.scope.kind== .module&&X.env.locals !=X.env.globals))=false:=by rw[I.ok.kind];rfl
 have hiσ:i<σ.length:=by rw[I.len];exact(List.getElem?_eq_some_iff.mp hi).1
 have cne:=I.cne;have tracked:∀{a:Addr}{h':Heap},(∃o,s.heap.get? a=some o/\H a=none)->Heap.SameBut a s.heap h'->HOk X.prog X.w H h':=fun {a h'} ha hs b ob e=>by
  obtain⟨_,_,hfree⟩:=ha;refine(I.hok b ob e).stay (fun c w' hc q=>(hs.2 c ?_).trans q) (fun _ q=>q) fun _ _ q=>q;rintro rfl;rcases hc with rfl|hc
  ·rw[hfree]at e;cases e
  ·rw[hfree]at hc;cases hc
 rcases hx with hk|hk
 ·refine wpAny_storeName_local hk hn (fun h' hn' hs=> ?_) hcls;obtain⟨oL,_,_,hoL,_⟩:=id hn;refine h _ ⟨I.ok,I.os,I.bare,⟨fun b o e n hb hx=> ?_,fun b o e n hb hx=> ?_,I.base.free,fun b o e hx=> ?_,I.base.tups,I.base.frzs,I.base.tbls⟩,⟨_,hn',fun j y v' e1 e2 e3=> ?_⟩,fun y c e=> ?_,I.free,I.freeC,fun p hp=> ?_,tracked ⟨oL,hoL,I.free⟩ hs,by simpa using I.len⟩ ⟨_,hs,.inl rfl⟩
  ·exact(hs.2 b (Nat.ne_of_lt (Nat.lt_of_lt_of_le (Heap.lt_size e) I.ok.above))).trans (I.base.keep b o e n hb hx)
  ·obtain⟨sl,e1⟩:=I.base.slot b o e n hb hx;exact⟨sl,(hs.2 b (Nat.ne_of_lt (Nat.lt_of_lt_of_le (Heap.lt_size e) I.ok.above))).trans e1⟩
  ·obtain⟨o',e1⟩:=I.base.there b o e hx;exact⟨o',(hs.2 b (Nat.ne_of_lt (Nat.lt_of_lt_of_le (Heap.lt_size e) I.ok.above))).trans e1⟩
  ·by_cases hj:j=i
   ·subst hj;rw[hi]at e1;cases e1;rw[List.getElem?_set_self hiσ]at e2;cases e2;exact⟨u,r,.inl ⟨hk,by simp⟩⟩
   ·rw[List.getElem?_set_ne (Ne.symm hj)]at e2;obtain⟨u',r',q⟩:=hl j y v' e1 e2 e3;refine⟨u',r',?_⟩;rcases q with⟨k,e⟩|⟨k,c,e,z⟩
    ·refine .inl ⟨k,?_⟩;have:y≠x:=fun e=>hj (sW hN e1 (e▸hi));simp[this,e]
    ·exact .inr ⟨k,c,e,z.sameBut hs (cne y c e)⟩
  ·obtain⟨w',z⟩:=I.cell y c e;exact⟨w',z.sameBut hs (cne y c e)⟩
  ·obtain⟨e,n,ne,nf,d⟩:=I.pin p hp;exact⟨(hs.2 p.1 ne).trans e,n,ne,nf,d⟩
 ·have hfn:X.fn x=true:=by
   rcases hf with z|z
   ·exact z
   ·rw[z]at hk;cases hk
  obtain⟨c,hc⟩:=I.ok.has x (.inl hk);obtain⟨w',z⟩:=I.cell x c hc;refine wpAny_storeName_cell I.ok.kind hk hc z (fun h' hc' hs=> ?_);obtain⟨oc,hoc,hocd⟩:=id z;refine h { s with heap:=h' } ⟨I.ok,I.os,I.bare,⟨fun b o e n hb hx=> ?_,fun b o e n hb hx=> ?_,I.base.free,fun b o e hx=> ?_,I.base.tups,I.base.frzs,I.base.tbls⟩,⟨m,hn.sameBut hs (Ne.symm (cne x c hc)),fun j y v' e1 e2 e3=> ?_⟩,fun y c' e=> ?_,I.free,I.freeC,fun p hp=> ?_,tracked ⟨oc,hoc,I.freeC x c hc⟩ hs,by simpa using I.len⟩ ⟨c,hs,.inr hc⟩
  ·exact(hs.2 b (Nat.ne_of_lt (Nat.lt_of_lt_of_le (Heap.lt_size e) (I.ok.cab x c hfn hc)))).trans (I.base.keep b o e n hb hx)
  ·obtain⟨sl,e1⟩:=I.base.slot b o e n hb hx;exact⟨sl,(hs.2 b (Nat.ne_of_lt (Nat.lt_of_lt_of_le (Heap.lt_size e) (I.ok.cab x c hfn hc)))).trans e1⟩
  ·obtain⟨o',e1⟩:=I.base.there b o e hx;exact⟨o',(hs.2 b (Nat.ne_of_lt (Nat.lt_of_lt_of_le (Heap.lt_size e) (I.ok.cab x c hfn hc)))).trans e1⟩
  ·by_cases hj:j=i
   ·subst hj;rw[hi]at e1;cases e1;rw[List.getElem?_set_self hiσ]at e2;cases e2;exact⟨u,r,.inr ⟨.inl hk,c,hc,hc'⟩⟩
   ·rw[List.getElem?_set_ne (Ne.symm hj)]at e2;obtain⟨u',r',q⟩:=hl j y v' e1 e2 e3;refine⟨u',r',?_⟩;rcases q with q|⟨k,c',e,z'⟩
    ·exact .inl q
    ·refine .inr ⟨k,c',e,z'.sameBut hs ?_⟩;rintro rfl;exact hj (sW hN e1 (I.ok.inj _ _ _ e hc▸hi))
  ·by_cases hcc:c'=c
   ·subst hcc;exact⟨_,hc'⟩
   ·obtain⟨w2,z2⟩:=I.cell y c' e;exact⟨w2,z2.sameBut hs hcc⟩
  ·obtain⟨e,n,ne,nf,d⟩:=I.pin p hp;refine⟨(hs.2 p.1 ?_).trans e,n,ne,nf,d⟩;intro q;rw[q,hoc]at e;have q':oc=p.2:=Option.some.inj e;exact d w' (by rw[←q'];exact hocd)
theorem sK {M:Model}{A:Around}{E:Value->Shared->Prop}{i:Nat}{x:Str}{v:V}{u:Value}{Q:Unit->Shared->Prop} (I:Inv X pins σ H s) (hN:X.N.Nodup) (hi:X.N[i]? =some x) (hx:Loc X.env.scope x) (r:RelV v u)
  (h:∀s',Inv X pins (σ.set i (some v)) H s'->Q () s')(hf:X.fn x=true∨X.env.scope.names.lookup x=some .local:=by first|exact .inl rfl|exact .inr rfl|assumption):wpAny M A (storeName X.env x u) Q E s :=
 HP I hN hi hx r (fun s' I' _=>h s' I') hf
theorem Inv.call' {s':Shared}{ch:List Addr} (I:Inv X pins σ H s) (ho:s'.os=s.os) (u:Un (frs X.stack) ch H H' s.heap s'.heap) (hok:HOk X.prog X.w H' s'.heap) (hg:AllBare s'.gens)
  (hch:∀b∈ch,(b∈X.ex∨X.s₀.heap.objs.size<=b)/\b≠X.env.locals/\(∀x c,X.env.cells.lookup x=some c->c≠b)/\∀p∈X.pn++pins,p.1≠b):Inv X pins σ H' s':=by
 obtain⟨h',g',d',t',o'⟩:=s';have e:o'=s.os:=ho;subst e;exact I.call (g':=g') (t':=t') (d':=d') u hok hg hch
end
abbrev XK:=Value->Option Addr->Hp->Prop
abbrev St:=List (Option V)
abbrev VK:=V->Hp->Prop
abbrev TE:=St->Hp->VK->Prop
abbrev TT:=St->Hp->(Bool->Hp->Prop)->Prop
abbrev TA:=St->Hp->(List V->Hp->Prop)->Prop
structure j2 where
 nx:St->Hp->Prop
 rt:VK
 bk:St->Hp->Prop:=fun _ _=>False
 ct:St->Hp->Prop:=fun _ _=>False
abbrev TS:=j2->St->Hp->Prop
def EP (X:Cx)(pins:List (Addr×Obj))(σ:St)(Q:VK)(u:Value)(s':Shared):Prop:=∃v H',Inv X pins σ H' s'/\RelV v u/\Q v H'
def TP (X:Cx)(pins:List (Addr×Obj))(σ:St)(Q:Bool->Hp->Prop)(b:Bool)(s':Shared):Prop:=∃H',Inv X pins σ H' s'/\Q b H'
def AP (X:Cx)(pins:List (Addr×Obj))(σ:St)(Q:List V->Hp->Prop)(us:List Value)(s':Shared):Prop:=∃vs H',Inv X pins σ H' s'/\Vals vs us/\Q vs H'
def SP (X:Cx)(pins:List (Addr×Obj))(D:j2)(f:Flow)(s':Shared):Prop :=
 match f with
 | .next=>∃σ' H',Inv X pins σ' H' s'/\D.nx σ' H'
 | .brk=>∃σ' H',Inv X pins σ' H' s'/\D.bk σ' H'
 | .cont=>∃σ' H',Inv X pins σ' H' s'/\D.ct σ' H'
 | .ret u=>∃v σ' H',Inv X pins σ' H' s'/\RelV v u/\D.rt v H'
def PE (X:Cx)(e:Expr)(t:TE):Prop :=
 ∀(pins:List (Addr×Obj)) (s:Shared) (σ:St) (H:Hp) (Q:VK),Inv X pins σ H s->t σ H Q->wpAny (model X.prog X.w) X.A (eval e X.env) (EP X pins σ Q) X.xe s
def PT (X:Cx)(e:Expr)(t:TT):Prop :=
 ∀(pins:List (Addr×Obj)) (s:Shared) (σ:St) (H:Hp) (Q:Bool->Hp->Prop),Inv X pins σ H s->t σ H Q->wpAny (model X.prog X.w) X.A (isTrue e X.env (eval e X.env)) (TP X pins σ Q) X.xe s
def PW (X:Cx)(e:Expr)(t:TT):Prop :=
 ∀(whole:Sem Value) (pins:List (Addr×Obj)) (s:Shared) (σ:St) (H:Hp) (Q:Bool->Hp->Prop),Inv X pins σ H s->t σ H Q->wpAny (model X.prog X.w) X.A (isTrue e X.env whole) (TP X pins σ Q) X.xe s
theorem PW.pt {X:Cx}{e:Expr}{t:TT} (h:PW X e t):PT X e t:=h _
def PA (X:Cx)(es:List Expr)(t:TA):Prop :=
 ∀(pos:Pos) (pins:List (Addr×Obj)) (s:Shared) (σ:St) (H:Hp) (Q:List V->Hp->Prop),Inv X pins σ H s->t σ H Q->wpAny (model X.prog X.w) X.A (spliced (backTo pos (starEach es X.env))) (AP X pins σ Q) X.xe s
def PS (X:Cx)(st:Stmt)(t:TS):Prop :=
 ∀(pins:List (Addr×Obj)) (s:Shared) (σ:St) (H:Hp) (D:j2),Inv X pins σ H s->t D σ H->wpAny (model X.prog X.w) X.A (exec st X.env) (SP X pins D) X.xe s
def PSs (X:Cx)(st:List Stmt)(t:TS):Prop :=
 ∀(pins:List (Addr×Obj)) (s:Shared) (σ:St) (H:Hp) (D:j2),Inv X pins σ H s->t D σ H->wpAny (model X.prog X.w) X.A (execs st X.env) (SP X pins D) X.xe s
theorem thn {α:Type}{t:Sem α}{Q Q':α->Shared->Prop}{M:Model}{A:Around}{E:Value->Shared->Prop}{s:Shared} (h:wpAny M A t Q E s) (hQ:∀a s,Q a s->Q' a s):wpAny M A t Q' E s:=wpAny_mono h hQ fun _ _ x=>x
end L2
namespace L2
open PySem PySem.Spec PyProof.Rows
section
variable {X:Cx}
def iI (i:Nat):TE:=fun σ H Q=>∃v,σ[i]? =some (some v)/\Q v H
def tC (v:V):TE:=fun _ H Q=>Q v H
theorem QS {i:Nat}{x:Str}{pos:Pos} (hN:X.N[i]? =some x) (hv:Vis X.env.scope x) (hd:(x==("__debug__" :Str))=false:=by decide) (hcd:(x==("__classdict__" :Str))=false:=by decide):PE X (.Name x pos) (iI i):=by
 intro pins s σ H Q I h;obtain⟨v,e,h⟩:=h;obtain⟨m,hn,hl⟩:=I.loc;obtain⟨u,r,l⟩:=hl i x v hN e hv;have fin:EP X pins σ Q u s:=⟨v,H,I,r,h⟩
 rcases l with⟨hk,hm⟩|⟨hk,c,hc,hcell⟩
 ·exact wpAny_Name (wpAny_loadName_local I.ok.kind hk hn hm fin) hd
 ·rcases hk with hk|hk
  ·exact wpAny_Name (wpAny_loadName_cell I.ok.kind hk hc hcell fin) hd
  ·exact wpAny_Name (wpAny_loadName_free I.ok.kind hk hc hcell fin hcd) hd
theorem aC {i j pos}:PE X (.Constant (.int i) j pos) (tC (.int i)):=fun _ _ _ H _ I h=>wpAny_Constant_int ⟨.int i,H,I.tok _,⟨_,rfl⟩,h⟩
theorem jZ {b j pos}:PE X (.Constant (.bool b) j pos) (tC (.bl b)):=fun _ _ _ H _ I h=>Constant_bool ⟨.bl b,H,I,rfl,h⟩
theorem l5 {j pos}:PE X (.Constant .none j pos) (tC .non):=fun _ _ _ H _ I h=>Constant_none ⟨.non,H,I,rfl,h⟩
theorem aI {x j pos}:PE X (.Constant (.str x) j pos) (tC (.str x)):=fun _ _ _ H _ I h=>Calls.Constant_str ⟨.str x,H,I.tok _,⟨_,rfl⟩,h⟩
def Gl (X:Cx)(x:Str):Prop:=X.env.kindOf x=some .globalImplicit
theorem iF {E:Value->Shared->Prop}{pins:List (Addr×Obj)}{s:Shared}{σ:St}{H:Hp}{x:Str}{u:Value}{pos:Pos}{Q:Value->Shared->Prop} (I:Inv X pins σ H s) (hg:Gl X x) (hm:X.mg x=some u) (h:Q u s)
  (hd:(x==("__debug__" :Str))=false:=by decide):wpAny (model X.prog X.w) X.A (eval (.Name x pos) X.env) Q E s :=
 Calls.Name_function_global I.ok.kind hg (Calls.loadGlobal_global (by rw[I.ok.glob];exact I.mod.glob.keeps I.bk) hm h) hd
theorem qQ {E:Value->Shared->Prop}{pins:List (Addr×Obj)}{s:Shared}{σ:St}{H:Hp}{x:Str}{u:Value}{pos:Pos}{Q:Value->Shared->Prop} (I:Inv X pins σ H s) (hg:Gl X x) (hm:X.mg x=none) (hv:bootBuiltins x=some u) (h:Q u s)
  (hn:x≠ "__name__" :=by decide)(hd:(x==("__debug__" :Str))=false:=by decide):wpAny (model X.prog X.w) X.A (eval (.Name x pos) X.env) Q E s:=by
 obtain⟨mb,h1,h2⟩:=I.mod.blt;exact Calls.Name_function_global I.ok.kind hg (Calls.loadGlobal_builtin (by rw[I.ok.glob];exact I.mod.glob.keeps I.bk) hm (by rw[I.ok.blt];exact h1.keeps I.bk) ((h2 x hn).trans hv) h) hd
theorem DE {x:Str}{v:V}{u:Value}{pos:Pos} (hg:Gl X x) (hm:X.mg x=some u) (r:RelV v u) (hd:(x==("__debug__" :Str))=false:=by decide):PE X (.Name x pos) (tC v) :=
 fun _ _ _ H _ I h=>iF I hg hm ⟨v,H,I,r,h⟩ hd
theorem MX {x:Str}{v:V}{u:Value}{pos:Pos} (hg:Gl X x) (hm:X.mg x=none) (hv:bootBuiltins x=some u) (r:RelV v u) (hn:x≠ "__name__" :=by decide) (hd:(x==("__debug__" :Str))=false:=by decide):PE X (.Name x pos) (tC v) :=
 fun _ _ _ H _ I h=>qQ I hg hm hv ⟨v,H,I,r,h⟩ hn hd
variable {a b:Expr}{ta tb:TE}{pos:Pos}
def tB (t:TE):TT:=fun σ H Q=>t σ H fun x H1=>∃c,x= .bl c/\Q c H1
theorem g0 {e:Expr}{t:TE} (h:PE X e t) (he:∀whole,isTrue e X.env whole=(do let v ←whole;standAt e.pos;holding [v] (truthy v)):=by intro _;rfl):PT X e (tB t):=by
 intro pins s σ H Q I hw;refine isTrue_plain (thn (h pins s σ H _ I hw) fun v s1 ⟨x,H1,I1,r1,q1⟩=> ?_) (he _);obtain⟨d,rfl,q⟩:=q1;cases r1;exact wpAny_truthy_bool ⟨H1,I1,q⟩
variable {tA tB':TT}{rest:List Expr}
def RG (t u:TT):TT:=fun σ H Q=>t σ H fun c H1=>if c=true then u σ H1 Q else Q false H1
def tOr (t u:TT):TT:=fun σ H Q=>t σ H fun c H1=>if c=true then Q true H1 else u σ H1 Q
def RM (t:TT):TT:=fun σ H Q=>t σ H fun c H1=>Q (!c) H1
theorem vR (ha:PT X a tA):PW X (.BoolOp .And [a] pos) tA:=by
 intro wh pins s σ H Q I h;refine isTrue_and (thn (ha pins s σ H Q I h) fun c s1 e=> ?_);cases c with
 | true=>exact isTrue_and_nil e
 | false=>exact e
theorem pW (ha:PT X a tA):PW X (.BoolOp .Or [a] pos) tA:=by
 intro wh pins s σ H Q I h;refine isTrue_or (thn (ha pins s σ H Q I h) fun c s1 e=> ?_);cases c with
 | false=>exact isTrue_or_nil e
 | true=>exact e
theorem AN (ha:PT X a tA)(hb:PW X (.BoolOp .And (b::rest) pos) tB'):PW X (.BoolOp .And (a::b::rest) pos) (RG tA tB'):=by
 intro wh pins s σ H Q I h;refine isTrue_and (thn (ha pins s σ H _ I h) fun c s1 ⟨H1,I1,q1⟩=> ?_);cases c with
 | true=>exact hb wh pins s1 σ H1 Q I1 q1
 | false=>exact⟨H1,I1,q1⟩
theorem oR (ha:PT X a tA)(hb:PW X (.BoolOp .Or (b::rest) pos) tB'):PW X (.BoolOp .Or (a::b::rest) pos) (tOr tA tB'):=by
 intro wh pins s σ H Q I h;refine isTrue_or (thn (ha pins s σ H _ I h) fun c s1 ⟨H1,I1,q1⟩=> ?_);cases c with
 | true=>exact⟨H1,I1,q1⟩
 | false=>exact hb wh pins s1 σ H1 Q I1 q1
theorem iR (ha:PT X a tA):PT X (.UnaryOp .Not a pos) (RM tA):=by
 intro pins s σ H Q I h;exact isTrue_not (ha pins s σ H (fun c H1=>Q (!c) H1) I h)
def LJ (ta tb:TE):TE:=fun σ H Q=>ta σ H fun x H1=>∃c,x= .bl c/\if c=true then tb σ H1 Q else Q (.bl false) H1
def P6 (ta tb:TE):TE:=fun σ H Q=>ta σ H fun x H1=>∃c,x= .bl c/\if c=true then Q (.bl true) H1 else tb σ H1 Q
def K9 (ta:TE):TE:=fun σ H Q=>ta σ H fun x H1=>∃c,x= .bl c/\Q (.bl (!c)) H1
theorem pV {op}{t:TE} (h:PE X a t):PE X (.BoolOp op [a] pos) t:=fun pins s σ H Q I hw=>BoolOp_one (h pins s σ H Q I hw)
theorem pZ (ha:PE X a ta)(hb:PE X (.BoolOp .And (b::rest) pos) tb):PE X (.BoolOp .And (a::b::rest) pos) (LJ ta tb):=by
 intro pins s σ H Q I h;refine BoolOp_and (thn (ha pins s σ H _ I h) fun v s1 ⟨x,H1,I1,r1,q1⟩=> ?_);obtain⟨c,rfl,q1⟩:=q1;cases r1;refine wpAny_truthy_bool ?_;cases c with
 | true=>exact hb pins s1 σ H1 Q I1 q1
 | false=>exact⟨.bl false,H1,I1,rfl,q1⟩
theorem UN (ha:PE X a ta)(hb:PE X (.BoolOp .Or (b::rest) pos) tb):PE X (.BoolOp .Or (a::b::rest) pos) (P6 ta tb):=by
 intro pins s σ H Q I h;refine BoolOp_or (thn (ha pins s σ H _ I h) fun v s1 ⟨x,H1,I1,r1,q1⟩=> ?_);obtain⟨c,rfl,q1⟩:=q1;cases r1;refine wpAny_truthy_bool ?_;cases c with
 | false=>exact hb pins s1 σ H1 Q I1 q1
 | true=>exact⟨.bl true,H1,I1,rfl,q1⟩
theorem z8 (ha:PE X a ta):PE X (.UnaryOp .Not a pos) (K9 ta):=by
 intro pins s σ H Q I h;refine UnaryOp_ (thn (ha pins s σ H _ I h) fun v s1 ⟨x,H1,I1,r1,q1⟩=> ?_);obtain⟨c,rfl,q1⟩:=q1;cases r1;exact not_of (wpAny_truthy_bool ⟨.bl (!c),H1,I1,rfl,q1⟩)
def tIf (t:TT)(ta tb:TE):TE:=fun σ H Q=>t σ H fun c H1=>if c=true then ta σ H1 Q else tb σ H1 Q
theorem gS {c:Expr}(hc:PT X c tA)(ha:PE X a ta)(hb:PE X b tb):PE X (.IfExp c a b pos) (tIf tA ta tb):=by
 intro pins s σ H Q I h;refine wpAny_IfExp (thn (hc pins s σ H _ I h) fun d s1 ⟨H1,I1,q1⟩=> ?_);cases d with
 | true=>exact ha pins s1 σ H1 Q I1 q1
 | false=>exact hb pins s1 σ H1 Q I1 q1
end
end L2
namespace L2
open PySem PySem.Spec PyProof.Rows
def SqL (K:PySem.W.Frag)(H:Hp)(a:Addr)(xs:List V):Prop :=
 Rd H a (.lst xs) ∨
  ∃(o:Obj) (its:Array Value) (n:Nat),K.lookup a=some o/\o.cls= .type "list" /\o.dict=none/\o.data= .seq its n/\its.size<=sizeLine/\Vals xs its.toList
def SqT (K:PySem.W.Frag)(H:Hp)(a:Addr)(xs:List V):Prop :=
 Rd H a (.tup xs) ∨
  ∃(o:Obj) (its:Array Value) (n:Nat),K.lookup a=some o/\o.cls= .type "tuple" /\o.data= .seq its n/\its.size<=sizeLine/\Vals xs its.toList
def UZ:Value->Option V
 | .none=>some .non
 | .bool b=>some (.bl b)
 | .int i _=>some (.int i)
 | .str x _=>some (.str x)
 | .bytes b _=>some (.byt b)
 | .float b _=>some (.flt b)
 | .ref a=>some (.ref a)
 | .type n=>some (.ty n)
 | _=>none
theorem RelV.abs {x:V}{u:Value} (r:RelV x u):UZ u=some x:=by
 cases x with
 | non=>cases r;rfl
 | bl _=>cases r;rfl
 | int _=>obtain⟨t,rfl⟩:=r;rfl
 | str _=>obtain⟨t,rfl⟩:=r;rfl
 | byt _=>obtain⟨t,rfl⟩:=r;rfl
 | flt _=>obtain⟨t,rfl⟩:=r;rfl
 | ref _=>cases r;rfl
 | ty _=>cases r;rfl
theorem RelV.inj {x y:V}{u:Value} (r:RelV x u) (q:RelV y u):x=y:=Option.some.inj (r.abs.symm.trans q.abs)
theorem Vals.inj:∀{xs ys:List V}{us:List Value},Vals xs us->Vals ys us->xs=ys
 | _,_,_,.nil,.nil=>rfl
 | _,_,_,.cons r t,.cons r' t'=>by rw[r.inj r',Vals.inj t t']
section
variable {X:Cx}{pins:List (Addr×Obj)}{σ:St}{H:Hp}{s:Shared}{a:Addr}{xs ys:List V}
theorem SqL.of {K:PySem.W.Frag}(h:H a=some (.lst xs)):SqL K H a xs:= .inl (.inl h)
theorem SqT.of {K:PySem.W.Frag}(h:H a=some (.tup xs)):SqT K H a xs:= .inl (.inl h)
theorem Inv.list (I:Inv X pins σ H s)(h:SqL X.K H a xs):∃its:List Value,Vals xs its/\PlainL s.heap a its.toArray/\xs.length<=sizeLine:=by
 rcases h with h|⟨o,its,n,hk,hc,hd,hs,hz,r⟩
 ·obtain⟨z,its,n,r,e⟩:=h.ok I.hok;exact⟨its,r,⟨_,n,e,rfl,rfl,rfl⟩,z⟩
 ·refine⟨its.toList,r,⟨o,n,I.kIn a o hk,hc,hd,by simpa using hs⟩,?_⟩;have e:=r.length;simp only[Array.length_toList]at e
  lia
theorem Inv.tuple (I:Inv X pins σ H s)(h:SqT X.K H a xs):∃its:List Value,Vals xs its/\IsTup s.heap a its.toArray/\xs.length<=sizeLine:=by
 rcases h with h|⟨o,its,n,hk,hc,hs,hz,r⟩
 ·obtain⟨z,its,r,p⟩:=h.ok I.hok;exact⟨its,r,p,z⟩
 ·refine⟨its.toList,r,⟨o,I.kIn a o hk,hc,n,by simpa using hs⟩,?_⟩;have e:=r.length;simp only[Array.length_toList]at e
  lia
theorem Inv.list_inj (I:Inv X pins σ H s)(h:SqL X.K H a xs)(h':SqL X.K H a ys):xs=ys:=by
 obtain⟨its,r,⟨o,n,e,_,_,d⟩,_⟩:=I.list h;obtain⟨its',r',⟨o',n',e',_,_,d'⟩,_⟩:=I.list h';rw[e]at e';cases e';rw[d]at d';injection d' with d1 _;have:its=its':=by simpa using congrArg Array.toList d1
 subst this;exact r.inj r'
end
abbrev Cx.wish (X:Cx)(E:Value->Shared->Prop):Cx:={ X with xe:=E }
abbrev Cx.nox (X:Cx):Cx:=X.wish fun _ _=>False
theorem Cx.Ok.wish {X:Cx}(ok:X.Ok)(E:Value->Shared->Prop):(X.wish E).Ok :=
 ⟨ok.mod,ok.kind,ok.glob,ok.blt,ok.above,ok.inj,ok.has,ok.cab,ok.hd,ok.frames,ok.stk,ok.exf,ok.bs,ok.bsz,ok.noex,ok.exfs,ok.funs,ok.frf⟩
theorem Cx.Ok.unwish {X:Cx}{E:Value->Shared->Prop} (ok:(X.wish E).Ok):X.Ok :=
 ⟨ok.mod,ok.kind,ok.glob,ok.blt,ok.above,ok.inj,ok.has,ok.cab,ok.hd,ok.frames,ok.stk,ok.exf,ok.bs,ok.bsz,ok.noex,ok.exfs,ok.funs,ok.frf⟩
section
variable {X:Cx}{pins:List (Addr×Obj)}{σ:St}{H:Hp}{s:Shared}{E:Value->Shared->Prop}
theorem Inv.wish (I:Inv X pins σ H s)(E:Value->Shared->Prop):Inv (X.wish E) pins σ H s:=⟨I.ok.wish E,I.os,I.bare,I.base,I.loc,I.cell,I.free,I.freeC,I.pin,I.hok,I.len⟩
theorem Inv.unwish (I:Inv (X.wish E) pins σ H s):Inv X pins σ H s:=⟨I.ok.unwish,I.os,I.bare,I.base,I.loc,I.cell,I.free,I.freeC,I.pin,I.hok,I.len⟩
theorem SP.unwish {D:j2}{f:Flow}{s':Shared} (h:SP (X.wish E) pins D f s'):SP X pins D f s':=by
 cases f with
 | next=>obtain⟨σ',H',I,q⟩:=h;exact⟨σ',H',I.unwish,q⟩
 | brk=>obtain⟨σ',H',I,q⟩:=h;exact⟨σ',H',I.unwish,q⟩
 | cont=>obtain⟨σ',H',I,q⟩:=h;exact⟨σ',H',I.unwish,q⟩
 | ret u=>obtain⟨v,σ',H',I,r,q⟩:=h;exact⟨v,σ',H',I.unwish,r,q⟩
theorem PSs.nox {st:List Stmt}{t:TS} (h:PSs X.nox st t):PSs X st t:=fun pins s σ H D I hw =>
 wpAny_mono (h pins s σ H D (I.wish _) hw) (fun _ _ q=>q.unwish) fun _ _ z=>False.elim z
end
section
variable {X:Cx}{st:Stmt}{rest:List Stmt}{t u:TS}{e:Expr}{te:TE}{pos:Pos}
def K8:TS:=fun D σ H=>D.nx σ H
def zP (t u:TS):TS:=fun D σ H=>t { D with nx:=u D } σ H
theorem bA:PSs X [] K8:=fun _ _ σ H _ I h=>wpAny_execs_nil ⟨σ,H,I,h⟩
theorem aD (h1:PS X st t)(h2:PSs X rest u):PSs X (st::rest) (zP t u):=by
 intro pins s σ H D I h;refine wpAny_execs_cons (thn (h1 pins s σ H { D with nx:=u D } I h) fun f s1 q=> ?_);cases f with
 | next =>
  obtain⟨σ',H',I',q⟩:=q;exact h2 pins s1 σ' H' D I' q
 | ret v=>exact q
 | brk=>exact q
 | cont=>exact q
theorem aF (h1:PS X st t):PSs X [st] t:=by
 intro pins s σ H D I h;refine wpAny_execs_cons (thn (h1 pins s σ H D I h) fun f s1 q=> ?_);cases f with
 | next=>exact wpAny_execs_nil q
 | ret v=>exact q
 | brk=>exact q
 | cont=>exact q
theorem Inv.quiet {pins:List (Addr×Obj)}{σ:St}{H:Hp}{s:Shared} (I:Inv X pins σ H s):interactive X.env=false:=by simp[interactive,I.ok.kind]
def LU (te:TE):TS:=fun D σ H=>te σ H fun _ H1=>D.nx σ H1
theorem b3 (he:PE X e te)(hs:swapsWith e none pos.line X.env=pure false:=by rfl):PS X (.Expr e pos) (LU te):=by
 intro pins s σ H D I h;exact wpAny_Expr_any (thn (he pins s σ H _ I h) fun v s1 ⟨x,H1,I1,r1,q1⟩=>⟨σ,H1,I1,q1⟩) I.quiet hs
def P2 (te:TE):TS:=fun D σ H=>te σ H D.rt
theorem aK (he:PE X e te):PS X (.Return (some e) pos) (P2 te):=by
 intro pins s σ H D I h;exact wpAny_Return_some (thn (he pins s σ H _ I h) fun v s1 ⟨x,H1,I1,r1,q1⟩=>⟨x,σ,H1,I1,r1,q1⟩)
def E7 (c:TT)(t u:TS):TS:=fun D σ H=>c σ H fun b H1=>if b=true then t D σ H1 else u D σ H1
theorem bL {c:Expr}{a b:List Stmt}{tc:TT} (hc:PT X c tc) (ha:PSs X a t) (hb:PSs X b u):PS X (.If c a b pos) (E7 tc t u):=by
 intro pins s σ H D I h;refine wpAny_If (thn (hc pins s σ H _ I h) fun d s1 ⟨H1,I1,q1⟩=> ?_);cases d with
 | true=>exact ha pins s1 σ H1 D I1 q1
 | false=>exact hb pins s1 σ H1 D I1 q1
def PZ:TS:=fun _ _ _=>False
theorem AE:PS X st PZ:=fun _ _ _ _ _ _ h=>h.elim
end
abbrev TG:=V->St->Hp->(St->Hp->Prop)->Prop
abbrev TGs:=List V->St->Hp->(St->Hp->Prop)->Prop
def PG (X:Cx)(target:Expr)(t:TG):Prop :=
 ∀(pins:List (Addr×Obj)) (s:Shared) (σ:St) (H:Hp) (v:V) (u:Value) (Q:St->Hp->Prop),Inv X pins σ H s->RelV v u->t v σ H Q →
  wpAny (model X.prog X.w) X.A (assign target X.env u) (fun _ s'=>∃σ' H',Inv X pins σ' H' s'/\Q σ' H') X.xe s
def PGs (X:Cx)(ts:List Expr)(t:TGs):Prop :=
 ∀(pins:List (Addr×Obj)) (s:Shared) (σ:St) (H:Hp) (vs:List V) (us:List Value) (Q:St->Hp->Prop),Inv X pins σ H s->Vals vs us->t vs σ H Q →
  wpAny (model X.prog X.w) X.A (assignInOrder ((assignEach ts X.env).map (·.2)) us) (fun _ s'=>∃σ' H',Inv X pins σ' H' s'/\Q σ' H') X.xe s
section
variable {X:Cx}{pos:Pos}
def dM (i:Nat):TG:=fun v σ H Q=>Q (σ.set i (some v)) H
theorem dQ {i:Nat}{x:Str} (hN:X.N.Nodup) (hi:X.N[i]? =some x) (hx:Loc X.env.scope x) (hf:X.fn x=true∨X.env.scope.names.lookup x=some .local:=by first|exact .inl rfl|exact .inr rfl|assumption):PG X (.Name x pos) (dM i):=by
 intro pins s σ H v u Q I r h;exact wpAny_assign_Name (sK I hN hi hx r (fun s' I'=>⟨_,H,I',h⟩) hf)
def O8:TGs:=fun vs σ H Q=>vs=[]/\Q σ H
def LE (t:TG)(u:TGs):TGs:=fun vs σ H Q=>∃v r,vs=v::r/\t v σ H fun σ' H'=>u r σ' H' Q
theorem DM:PGs X [] O8:=by
 intro pins s σ H vs us Q I r h;obtain⟨e,h⟩:=h;subst e;cases r;exact assignInOrder_nil ⟨σ,H,I,h⟩
theorem oU {e:Expr}{es:List Expr}{t:TG}{u:TGs} (h1:PG X e t) (h2:PGs X es u)
  (hs:(assignEach (e::es) X.env).map (·.2)=assign e X.env::(assignEach es X.env).map (·.2):=by rfl):PGs X (e::es) (LE t u):=by
 intro pins s σ H vs us Q I r h;obtain⟨v,vr,e1,h⟩:=h;subst e1;cases r with
 | cons r rr =>
  rw[hs];refine assignInOrder_cons (thn (h1 pins s σ H _ _ _ I r h) fun _ s1 ⟨σ1,H1,I1,q1⟩=> ?_);exact h2 pins s1 σ1 H1 _ _ Q I1 rr q1
def QV (K:PySem.W.Frag)(n:Nat)(t:TGs):TG:=fun v σ H Q=>∃a xs,v= .ref a/\SqT K H a xs/\xs.length=n/\t xs σ H Q
theorem GM {es:List Expr}{k:Nat}{t:TGs}{n:Nat} (hc:X.calm=true) (h:PGs X es t)
  (hn:(assignEach es X.env).length=n:=by rfl)(hst:(assignEach es X.env).findIdx? (·.1)=none:=by rfl):PG X (.Tuple es k pos) (QV X.K n t):=by
 intro pins s σ H v u Q I r hw;obtain⟨a,xs,e1,hq,hl,hw⟩:=hw;subst e1;cases r;obtain⟨its,rv,ht,hz⟩:=I.tuple hq;refine assign_Tuple_tuple (I.ok.hd hc) ht (by simp[hn,←hl,rv.length]) hst fun h' hx=> ?_;have I1:Inv X pins σ H { s with heap:=h' }:=I.kept (t':=s.toks) fun b o e=>hx b o (Nat.ne_of_lt (Heap.lt_size e)) e;exact h pins _ σ H xs _ Q I1 (by simpa using rv) hw
def EQ (te:TE)(g:TG):TS:=fun D σ H=>te σ H fun x H1=>g x σ H1 D.nx
theorem IH {tg e:Expr}{te:TE}{g:TG} (he:PE X e te) (hg:PG X tg g) (hs:swapsWithSole [tg] e pos.line X.env=pure false:=by rfl) (hw:swappedStores [tg] e X.env=pure none:=by rfl)
  (h1:(assignEach [tg] X.env).map (·.2)=[assign tg X.env]:=by rfl):PS X (.Assign [tg] e pos) (EQ te g):=by
 intro pins s σ H D I h;refine wpAny_Assign_stores (thn (he pins s σ H _ I h) fun v s1 ⟨x,H1,I1,r1,q1⟩=> ?_) hs hw;rw[h1];exact thn (hg pins s1 σ H1 x v _ I1 r1 q1) fun _ s2 q=>q
theorem bB {i:Nat}{x:Str}{e:Expr}{te:TE}{pos':Pos} (hN:X.N.Nodup) (hi:X.N[i]? =some x) (hx:Loc X.env.scope x) (he:PE X e te) (hs:swapsWith e (some (.Name x pos')) pos.line X.env=pure false:=by rfl) (hf:X.fn x=true∨X.env.scope.names.lookup x=some .local:=by first|exact .inl rfl|exact .inr rfl|assumption) :
  PS X (.Assign [.Name x pos'] e pos) (EQ te (dM i)):=by
 intro pins s σ H D I h;refine wpAny_Assign_Name (thn (he pins s σ H _ I h) fun v s1 ⟨y,H1,I1,r1,q1⟩=> ?_) hs;exact sK I1 hN hi hx r1 (fun s2 I2=>⟨_,H1,I2,q1⟩) hf
end
section
variable {X:Cx}{pos:Pos}
def IE (c:TT)(tb:TS):TS:=fun D σ H=>∃W:Nat->St->Hp->Prop,(∃m,W m σ H)/\∀m σ H,W m σ H →
 c σ H fun b H1=>if b=true then ∃N:St->Hp->Prop,(∀σ' H',N σ' H'->∃m',m'<m/\W m' σ' H')/\tb { D with nx:=N,ct:=N,bk:=D.nx } σ H1 else D.nx σ H1
theorem J2 {c:Expr}{body:List Stmt}{tc:TT}{tb:TS} (hp:PassesOwn (model X.prog X.w) X.A X.env X.xe) (hc:PT X c tc) (hb:PSs X body tb):PS X (.While c body [] pos) (IE tc tb):=by
 intro pins s σ H D I h;obtain⟨W,⟨m0,w0⟩,turn⟩:=h;refine wpAny_While (codeAny_whileLoop (fun n s'=>∃σ' H',Inv X pins σ' H' s'/\W n σ' H') ?_ m0 ⟨σ,H,I,w0⟩);rintro n s1 ⟨σ1,H1,I1,w1⟩;refine wpAny_passesOwn hp (thn (hc pins s1 σ1 H1 _ I1 (turn n σ1 H1 w1)) fun b s2 ⟨H2,I2,q2⟩=> ?_);cases b with
 | true =>
  obtain⟨N,hN,q2⟩:=q2;rw[if_pos rfl];refine wpAny_passesOwn hp (thn (hb pins s2 σ1 H2 _ I2 q2) fun f s3 q3=> ?_);cases f with
  | next =>
   obtain⟨σ3,H3,I3,n3⟩:=q3;obtain⟨m',hm,w3⟩:=hN σ3 H3 n3;exact⟨m',hm,σ3,H3,I3,w3⟩
  | cont =>
   obtain⟨σ3,H3,I3,n3⟩:=q3;obtain⟨m',hm,w3⟩:=hN σ3 H3 n3;exact⟨m',hm,σ3,H3,I3,w3⟩
  | brk=>exact q3
  | ret v=>exact q3
 | false =>
  rw[if_neg Bool.false_ne_true];exact wpAny_execs_nil ⟨σ1,H2,I2,q2⟩
end
structure It where
 go:Nat->Hp->Prop
 yld:Nat->Hp->V->Hp->Prop
 stop:Nat->Hp->Prop
def i5 (X:Cx)(pins:List (Addr×Obj))(H:Hp)(b:Addr):Prop :=
 H b=none/\b≠X.env.locals/\b∉X.fs/\(b∈X.ex∨X.s₀.heap.objs.size<=b)/\(∀x c,X.env.cells.lookup x=some c->c≠b)/\∀p∈X.pn++pins,p.1≠b
theorem Inv.fpOk {X:Cx}{pins:List (Addr×Obj)}{σ:St}{H H':Hp}{s:Shared}{b:Addr} (I:Inv X pins σ H s) (hb:s.heap.objs.size<=b) (hn:H' b=none):i5 X pins H' b:=by
 refine⟨hn,Nat.ne_of_gt (Nat.lt_of_lt_of_le I.lt hb),I.nofs hb,.inr (Nat.le_trans I.sz hb),fun x c e z=> ?_,fun p hp z=> ?_⟩
 ·obtain⟨v,q⟩:=I.cell x c e;exact absurd (Nat.lt_of_lt_of_le q.lt (by rw[z];exact hb)) (Nat.lt_irrefl _)
 ·exact absurd (Nat.lt_of_lt_of_le (Heap.lt_size (I.pin p hp).1) (by rw[z];exact hb)) (Nat.lt_irrefl _)
structure sL (P:Program)(w:World)(K:PySem.W.Frag)(tg:Expr)(J:It)(fp:List Addr)(it:Addr)(tn:Nat->Heap->Prop):Prop where
 mem:it∈fp
 obj:∀i h,tn i h->∀b∈fp,∃o,h.get? b=some o/\∀v,o.data≠ .cell v
 keep:∀i h h',tn i h->(∀b∈fp,∀o,h.get? b=some o->h'.get? b=some o)->tn i h'
 item:∀(X:Cx),X.prog=P->X.w=w->X.K=K->X.calm=true->∀(i:Nat) (pins:List (Addr×Obj)) (s:Shared) (σ:St) (H:Hp) (E:Value->Shared->Prop),Inv X pins σ H s->(∀b∈fp,i5 X pins H b)->tn i s.heap->J.go i H →
  wpAny (model P w) X.A (pyNext (.ref it)) (fun r s1=>∃u,r=some u ∧
   wpAny (model P w) X.A (letOwnedTupleGo tg (.ref it) u) (fun _ s2=>∃x H',Inv X pins σ H' s2/\RelV x u/\J.yld i H x H'/\tn (i+1) s2.heap/\∀b∈fp,H' b=none) E s1) E s
 done:∀(X:Cx),X.prog=P->X.w=w->X.K=K->X.calm=true->∀(i:Nat) (pins:List (Addr×Obj)) (s:Shared) (σ:St) (H:Hp) (E:Value->Shared->Prop),Inv X pins σ H s->(∀b∈fp,i5 X pins H b)->tn i s.heap->J.stop i H →
  wpAny (model P w) X.A (pyNext (.ref it)) (fun r s1=>r=none/\Inv X pins σ H s1) E s
 self:∀(A:Around) (i:Nat) (s:Shared) (Q:Value->Shared->Prop) (E:Value->Shared->Prop),tn i s.heap->Q (.ref it) s->wpAny (model P w) A (pyIter (.ref it)) Q E s
abbrev TI:=St->Hp->(It->Hp->Prop)->Prop
def PIE (X:Cx)(pins:List (Addr×Obj))(σ:St)(tg:Expr)(R:It->Hp->Prop)(itv:Value)(s2:Shared):Prop :=
 ∃(it:Addr) (fp:List Addr) (tn:Nat->Heap->Prop) (J:It) (H':Hp),itv= .ref it/\Inv X pins σ H' s2/\sL X.prog X.w X.K tg J fp it tn/\tn 0 s2.heap/\(∀b∈fp,i5 X pins H' b)/\R J H'
def PI (X:Cx)(tg iter:Expr)(wi:TI):Prop :=
 ∀(pins:List (Addr×Obj)) (s:Shared) (σ:St) (H:Hp) (R:It->Hp->Prop),Inv X pins σ H s->wi σ H R →
  wpAny (model X.prog X.w) X.A (eval iter X.env) (fun v s1=>wpAny (model X.prog X.w) X.A (pyIter v) (PIE X pins σ tg R) X.xe s1) X.xe s
theorem yR {M:Model}{A:Around}{E:Value->Shared->Prop}{s:Shared}{tg:Expr}{it:Addr}{u:Value}{o:Obj}{n:String}{vs:Array Value}{Q:Unit->Shared->Prop} (ho:s.heap.get? it=some o) (hc:o.cls= .type n) (hd:o.data= .fields vs)
  (hn:["enumerate","zip","dict_itemiterator","dict_reverseitemiterator","odict_iterator","itertools.zip_longest","itertools.pairwise"].contains n=false)(hQ:Q () s):wpAny M A (letOwnedTupleGo tg (.ref it) u) Q E s:=by
 unfold letOwnedTupleGo;cases tg<;>first
  | exact wpAny_pure hQ
  | (cases u<;>first
    | exact wpAny_pure hQ
    | (refine wpAny_bind (wpAny_load ho ?_);rw[hc,hd];show wpAny M A (if (["enumerate","zip","dict_itemiterator","dict_reverseitemiterator","odict_iterator","itertools.zip_longest","itertools.pairwise"].contains n&&vs[0]? ==some (rawInt _))=true then _ else _) Q E s;rw[if_neg (by intro h;rw[hn,Bool.false_and]at h;cases h)];exact wpAny_pure hQ))
def Itl (K:PySem.W.Frag)(a:Addr):It :=
 ⟨fun i H=>∃xs x,SqL K H a xs/\xs[i]? =some x,fun i H x H'=>H'=H/\∀xs,SqL K H a xs->xs[i]? =some x,fun i H=>∃xs,SqL K H a xs/\xs.length<=i⟩
def Itr (lo:Int)(n:Nat):It:=⟨fun i _=>i<n,fun i H x H'=>H'=H/\x= .int (lo+i),fun i _=>n<=i⟩
theorem GB {P:Program}{w:World}{K:PySem.W.Frag}{tg:Expr} (a it:Addr):sL P w K tg (Itl K a) [it] it (fun i h=>h.IsListIter it a i) where
 mem:=by simp
 obj:=fun i h st b hb=>by
  have e:b=it:=by simpa using hb
  subst e;obtain⟨o,e,c,d⟩:=st;exact⟨o,e,fun v z=>by rw[d]at z;cases z⟩
 keep:=fun i h h' st k=>st.at fun o e=>k it (by simp) o e
 item:=by
  intro X hP hw hK hc i pins s σ H E I hf st hg;subst hP hw hK;obtain⟨xs,x,hq,hx⟩:=hg;obtain⟨its,rv,p,hz⟩:=I.list hq;obtain⟨u,hu,ru⟩:=rv.get hx;obtain⟨f0,f1,f2,f3,f4,f5⟩:=hf it (by simp);refine wpAny_pyNext_list_item st p.isList (x:=u) (by simpa using hu) fun h' st' sb=> ?_;have I1:Inv X pins σ H { s with heap:=h' }:=I.turned (t':=s.toks) (fun b o hb e=>(sb.2 b hb).trans e) f0 f1 f3 f4 f5;obtain⟨o,e,c,d⟩:=id st';exact⟨u,rfl,yR (s:={ s with heap:=h' }) e c d (by decide) ⟨x,H,I1,ru,⟨rfl,fun ys hy=>by rw[I.list_inj hy hq];exact hx⟩,st',fun b hb=>(hf b hb).1⟩⟩
 done:=by
  intro X hP hw hK hc i pins s σ H E I hf st hg;subst hP hw hK;obtain⟨xs,hq,hx⟩:=hg;obtain⟨its,rv,p,hz⟩:=I.list hq;obtain⟨f0,f1,f2,f3,f4,f5⟩:=hf it (by simp);have hl:=rv.length;exact wpAny_pyNext_list_end (I.ok.hd hc) st p.isList (by simp;lia) fun h' eb=>⟨rfl,I.turned (t':=s.toks) (fun b o hb e=>eb b o hb e) f0 f1 f3 f4 f5⟩
 self:=fun _ _ _ _ _ st h=>wpAny_pyIter_listiter st h
theorem EV {P:Program}{w:World}{K:PySem.W.Frag}{tg:Expr} (it:Addr) (lo:Int) (n:Nat):sL P w K tg (Itr lo n) [it] it (fun i h=>IsRangeIter h it (lo+(i:Nat) * 1) ((n:Int) - (i:Nat)) 1) where
 mem:=by simp
 obj:=fun i h st b hb=>by
  have e:b=it:=by simpa using hb
  subst e;exact⟨_,st,fun v z=>by
   have z':Data.fields _=Data.cell v:=z;cases z'⟩
 keep:=fun i h h' st k=>k it (by simp) _ st
 item:=by
  intro X hP hw hK hc i pins s σ H E I hf st hg;subst hP hw hK;obtain⟨f0,f1,f2,f3,f4,f5⟩:=hf it (by simp);have W:=Walks.range (prog:=X.prog) (w:=X.w) (I.ok.hd hc) it lo 1 n;refine W.item i s _ _ hg st fun v h' tk hv st' kk=> ?_;obtain⟨t,rfl⟩:=hv;have I1:Inv X pins σ H { s with heap:=h',toks:=tk }:=I.turned (fun b o hb e=>kk b o (by simpa using hb) e) f0 f1 f3 f4 f5;refine⟨_,rfl,yR (s:={ s with heap:=h',toks:=tk }) (n:= "range_iterator") st' rfl rfl (by decide) ⟨.int (lo+i),H,I1,⟨t,?_⟩,⟨rfl,rfl⟩,st',fun b hb=>(hf b hb).1⟩⟩;rw[Int.mul_one]
 done:=by
  intro X hP hw hK hc i pins s σ H E I hf st hg;subst hP hw hK;obtain⟨f0,f1,f2,f3,f4,f5⟩:=hf it (by simp);exact wpAny_pyNext_range_end (I.ok.hd hc) st (by have:n<=i:=hg;lia) fun h' eb=>⟨rfl,I.turned (t':=s.toks) (fun b o hb e=>eb b o hb e) f0 f1 f3 f4 f5⟩
 self:=fun _ _ _ _ _ st h=>wpAny_pyIter_rangeiter st h
end L2
namespace L2
open PySem PySem.Spec PyProof.Rows
section
variable {X:Cx}{tg:Expr}
def LS (K:PySem.W.Frag)(tl:TE):TI:=fun σ H R=>tl σ H fun x H1=>∃a,x= .ref a/\(∃xs,SqL K H1 a xs)/\R (Itl K a) H1
theorem vW {l:Expr}{tl:TE} (hl:PE X l tl):PI X tg l (LS X.K tl):=by
 intro pins s σ H R I h;refine thn (hl pins s σ H _ I h) fun v s1 ⟨x,H1,I1,r1,q1⟩=> ?_;obtain⟨a,e,⟨xs,hq⟩,q⟩:=q1;subst e;cases r1;obtain⟨its,rv,p,hz⟩:=I1.list hq;refine wpAny_pyIter_list p.isList ?_;refine⟨s1.heap.objs.size,[s1.heap.objs.size],_,_,H1,rfl,I1.kept (t':=s1.toks) fun b o e=>Heap.get?_push_of_some _ e,GB a _,⟨_,Heap.get?_push_size _ rfl,rfl,rfl⟩,fun b hb=> ?_,q⟩;have e:b=s1.heap.objs.size:=by simpa using hb
 subst e;exact I1.fpOk (Nat.le_refl _) (I1.hok.fresh (Nat.le_refl _))
theorem J3 {pins:List (Addr×Obj)}{σ:St}{H:Hp}{s:Shared}{R:It->Hp->Prop}{E:Value->Shared->Prop}{lo hi:Int}{t u v:Tok}{tk:Nat} (I:Inv X pins σ H s) (h1: -(2^62)<=lo) (h2:lo<2^62) (h3: -(2^62)<=hi) (h4:hi<2^62)
  (q:R (Itr lo (hi - lo).toNat) H):wpAny (model X.prog X.w) X.A (pyIter (.ref s.heap.objs.size)) (PIE X pins σ tg R) E { s with heap:=s.heap.push { cls:= .type "range",data:= .fields #[.int lo t,.int hi u,.int 1 v] },toks:=tk }:=by
 refine wpAny_pyIter_range (IsRange.new ..) (small_one h1 h2 h3 h4) ?_;have I1:Inv X pins σ H { s with heap:=s.heap.push { cls:= .type "range",data:= .fields #[.int lo t,.int hi u,.int 1 v] },toks:=tk }:=I.kept fun b o e=>Heap.get?_push_of_some _ e;refine⟨(s.heap.push { cls:= .type "range",data:= .fields #[.int lo t,.int hi u,.int 1 v] }).objs.size,[(s.heap.push { cls:= .type "range",data:= .fields #[.int lo t,.int hi u,.int 1 v] }).objs.size],_,_,H,rfl,
  I1.kept (t':=tk) fun b o e=>Heap.get?_push_of_some _ e,EV _ lo (hi - lo).toNat,?_,fun b hb=> ?_,q⟩
 ·have e1:lo+((0:Nat):Int) * 1=lo:=by simp
  have e2:(((hi - lo).toNat:Nat):Int) - ((0:Nat):Int)=Builtin.Range.rangeSize lo hi 1:=by rw[rangeSize_one];split<;>lia
  show IsRangeIter _ _ (lo+((0:Nat):Int) * 1) ((((hi - lo).toNat:Nat):Int) - ((0:Nat):Int)) 1;rw[e1,e2];exact Heap.get?_push_size _ rfl
 ·have e:b=(s.heap.push { cls:= .type "range",data:= .fields #[.int lo t,.int hi u,.int 1 v] }).objs.size:=by simpa using hb
  subst e;exact I1.fpOk (Nat.le_refl _) (I1.hok.fresh (Nat.le_refl _))
def LM (ta:TA):TI:=fun σ H R=>ta σ H fun vs H1=>∃j:Int,vs=[.int j]/\ -(2^62)<=j/\j<2^62/\R (Itr 0 j.toNat) H1
theorem wU {a:Expr}{ta:TA}{p pos:Pos} (hg:Gl X "range") (hm:X.mg "range" =none) (ha:PA X [a] ta) (hs:starEach [a] X.env=[(false,eval a X.env)]:=by rfl):PI X tg (.Call (.Name "range" p) [a] [] pos) (LM ta):=by
 intro pins s σ H R I h;refine Call_ (qQ I hg hm boot_range (PyProof.Rows.callWith_type1 (thn (ha pos pins s σ H _ I h) fun us s1 ⟨vs,H1,I1,r1,q1⟩=> ?_) hs rfl));obtain⟨j,e,q1,q2,q⟩:=q1;subst e;cases r1 with
 | cons r rr =>
  cases rr;obtain⟨t,rfl⟩:=r;exact call_range_1 (J3 I1 (by lia) (by lia) q1 q2 (by simpa using q))
def RV (wi:TI)(g:TG)(tb:TS):TS:=fun D σ H=>wi σ H fun J H1=>∃W:Nat->Nat->St->Hp->Prop,(∃m,W 0 m σ H1)/\∀i m σ H,W i m σ H →
 (J.stop i H/\D.nx σ H)∨(J.go i H/\∃N:St->Hp->Prop,(∀σ' H',N σ' H'->∃m',m'<m/\W (i+1) m' σ' H')/\∀x H',J.yld i H x H'->g x σ H' fun σ2 H2=>tb { D with nx:=N,ct:=N,bk:=D.nx } σ2 H2)
def fU (fp:List Addr)(h:Heap):List (Addr×Obj):=fp.filterMap fun b=>(h.get? b).map fun o=>(b,o)
theorem eL {fp:List Addr}{h:Heap}{b:Addr}{o:Obj} (hb:b∈fp) (e:h.get? b=some o):(b,o)∈fU fp h:=List.mem_filterMap.mpr ⟨b,hb,by rw[e];rfl⟩
theorem qS {fp:List Addr}{h:Heap}{p:Addr×Obj} (hp:p∈fU fp h):p.1∈fp/\h.get? p.1=some p.2:=by
 obtain⟨b,hb,e⟩:=List.mem_filterMap.mp hp;cases q:h.get? b with
 | none=>rw[q]at e;cases e
 | some o =>
  rw[q]at e;have e':(b,o)=p:=Option.some.inj e;subst e';exact⟨hb,q⟩
theorem Inv.pinned {pins:List (Addr×Obj)}{σ:St}{H:Hp}{s:Shared}{fp:List Addr} (I:Inv X pins σ H s) (hf:∀b∈fp,i5 X pins H b) (ho:∀b∈fp,∃o,s.heap.get? b=some o/\∀v,o.data≠ .cell v):Inv X (pins++fU fp s.heap) σ H s :=
 I.pins_of fun p hp=>(List.mem_append.mp hp).elim (fun z=>I.pin p (List.mem_append_right _ z)) fun z=>by
  obtain⟨hb,e⟩:=qS z;obtain⟨f0,f1,f2,_⟩:=hf p.1 hb;obtain⟨o,e',d⟩:=ho p.1 hb;rw[e]at e';cases e';exact⟨e,f0,f1,f2,d⟩
theorem Inv.unpinned {pins pl:List (Addr×Obj)}{σ:St}{H:Hp}{s:Shared} (I:Inv X (pins++pl) σ H s):Inv X pins σ H s:=I.pins_of fun p hp=>I.pin p (List.mem_append_right _ (List.mem_append_left _ hp))
theorem z7 {iter:Expr}{body:List Stmt}{wi:TI}{g:TG}{tb:TS}{pos:Pos} (hp:PassesOwn (model X.prog X.w) X.A X.env X.xe) (hc:X.calm=true) (hi:PI X tg iter wi) (hg:PG X tg g) (hb:PSs X body tb)
  (hs:∀x,foldedSetIterable iter X.env x=pure x:=by intro _;rfl):PS X (.For tg iter body [] pos) (RV wi g tb):=by
 intro pins s σ H D I h;refine wpAny_For (thn (hi pins s σ H _ I h) fun v s1 h1=>thn h1 fun itv s2 h2=> ?_) hs;obtain⟨it,fp,tn,J,H2,e,I2,T,st2,f2,W,⟨m0,w0⟩,turn⟩:=h2;subst e;have stat:∀{H':Hp},(∀b∈fp,H' b=none)->∀b∈fp,i5 X pins H' b:=fun hn b hb=>⟨hn b hb,(f2 b hb).2⟩
 refine codeAny_forLoop_any (fun n s'=>∃i σ' H',Inv X pins σ' H' s'/\tn i s'.heap/\(∀b∈fp,H' b=none)/\W i n σ' H') ?_ m0 ⟨0,σ,H2,I2,st2,fun b hb=>(f2 b hb).1,w0⟩;rintro n s3 ⟨i,σ3,H3,I3,st3,fr3,w3⟩;rcases turn i n σ3 H3 w3 with⟨stop,qn⟩|⟨go,N,hN,step⟩
 ·refine wpAny_passesOwn hp (thn (T.done X rfl rfl rfl hc i pins s3 σ3 H3 X.xe I3 (stat fr3) st3 stop) fun r s4 ⟨hr,I4⟩=> ?_);subst hr;exact wpAny_execs_nil ⟨σ3,H3,I4,qn⟩
 ·refine wpAny_passesOwn hp (thn (T.item X rfl rfl rfl hc i pins s3 σ3 H3 X.xe I3 (stat fr3) st3 go) fun r s4 ⟨u,hr,h4⟩=> ?_);subst hr;refine wpAny_passesOwn hp (thn h4 fun _ s5 ⟨x,H5,I5,r5,y5,st5,fr5⟩=> ?_);have I5':=I5.pinned (stat fr5) (T.obj _ _ st5);refine wpAny_passesOwn hp (thn (hg _ s5 σ3 H5 x u _ I5' r5 (step x H5 y5)) fun _ s6 ⟨σ6,H6,I6,q6⟩=> ?_);refine wpAny_passesOwn hp (thn (hb _ s6 σ6 H6 _ I6 q6) fun f s7 q7=> ?_);have again:∀{σ7:St}{H7:Hp},Inv X (pins++fU fp s5.heap) σ7 H7 s7->N σ7 H7->∃m,m<n/\∃i σ' H',Inv X pins σ' H' s7/\tn i s7.heap/\(∀b∈fp,H' b=none)/\W i m σ' H':=fun {σ7 H7} I7 n7=>by
   obtain⟨m',hm,w7⟩:=hN σ7 H7 n7;refine⟨m',hm,i+1,σ7,H7,I7.unpinned,T.keep _ _ _ st5 fun b hb o e=>(I7.pin (b,o) (List.mem_append_right _ (List.mem_append_right _ (eL hb e)))).1,fun b hb=> ?_,w7⟩;obtain⟨o,e,d⟩:=T.obj _ _ st5 b hb;exact(I7.pin (b,o) (List.mem_append_right _ (List.mem_append_right _ (eL hb e)))).2.1
  cases f with
  | next=>obtain⟨σ7,H7,I7,n7⟩:=q7;exact again I7 n7
  | cont=>obtain⟨σ7,H7,I7,n7⟩:=q7;exact again I7 n7
  | brk=>obtain⟨σ7,H7,I7,q7⟩:=q7;exact⟨σ7,H7,I7.unpinned,q7⟩
  | ret v=>obtain⟨x7,σ7,H7,I7,r7,q7⟩:=q7;exact⟨x7,σ7,H7,I7.unpinned,r7,q7⟩
end
theorem JY {K:PySem.W.Frag}{a:Addr}{xs:List V}{g:TG}{tb:TS}{D:j2}{σ:St}{H:Hp} (Pv:Nat->St->Hp->Prop) (h0:Pv 0 σ H) (hl:∀i σ H,i<=xs.length->Pv i σ H->SqL K H a xs)
  (hs:∀i x σ H,xs[i]? =some x->Pv i σ H->g x σ H fun σ2 H2=>tb { D with nx:=Pv (i+1),ct:=Pv (i+1),bk:=D.nx } σ2 H2)(hd:∀σ H,Pv xs.length σ H->D.nx σ H) :
  ∃W:Nat->Nat->St->Hp->Prop,(∃m,W 0 m σ H)/\∀i m σ H,W i m σ H →
   ((Itl K a).stop i H/\D.nx σ H)∨((Itl K a).go i H/\∃N:St->Hp->Prop,(∀σ' H',N σ' H'->∃m',m'<m/\W (i+1) m' σ' H')/\∀x H',(Itl K a).yld i H x H'->g x σ H' fun σ2 H2=>tb { D with nx:=N,ct:=N,bk:=D.nx } σ2 H2):=by
 refine⟨fun i m σ H=>m=xs.length - i/\i<=xs.length/\Pv i σ H,⟨xs.length,by simp,Nat.zero_le _,h0⟩,?_⟩;rintro i m σ H ⟨rfl,hi,p⟩;have q:=hl i σ H hi p
 by_cases hlt:i<xs.length
 ·refine .inr ⟨⟨xs,xs[i],q,by simp[hlt]⟩,Pv (i+1),fun σ' H' p'=>⟨xs.length - (i+1),by lia,rfl,hlt,p'⟩,fun x H' y=> ?_⟩;obtain⟨e,y⟩:=y;subst e;exact hs i x σ _ (y xs q) p
 ·have e:i=xs.length:=by lia
  subst e;exact .inl ⟨⟨xs,q,Nat.le_refl _⟩,hd σ H p⟩
theorem HX {lo:Int}{n:Nat}{g:TG}{tb:TS}{D:j2}{σ:St}{H:Hp} (Pv:Nat->St->Hp->Prop) (h0:Pv 0 σ H)
  (hs:∀i σ H,i<n->Pv i σ H->g (.int (lo+i)) σ H fun σ2 H2=>tb { D with nx:=Pv (i+1),ct:=Pv (i+1),bk:=D.nx } σ2 H2)(hd:∀σ H,Pv n σ H->D.nx σ H) :
  ∃W:Nat->Nat->St->Hp->Prop,(∃m,W 0 m σ H)/\∀i m σ H,W i m σ H →
   ((Itr lo n).stop i H/\D.nx σ H)∨((Itr lo n).go i H/\∃N:St->Hp->Prop,(∀σ' H',N σ' H'->∃m',m'<m/\W (i+1) m' σ' H')/\∀x H',(Itr lo n).yld i H x H'->g x σ H' fun σ2 H2=>tb { D with nx:=N,ct:=N,bk:=D.nx } σ2 H2):=by
 refine⟨fun i m σ H=>m=n - i/\i<=n/\Pv i σ H,⟨n,by simp,Nat.zero_le _,h0⟩,?_⟩;rintro i m σ H ⟨rfl,hi,p⟩
 by_cases hlt:i<n
 ·refine .inr ⟨hlt,Pv (i+1),fun σ' H' p'=>⟨n - (i+1),by lia,rfl,hlt,p'⟩,fun x H' y=> ?_⟩;obtain⟨e,y⟩:=y;subst e y;exact hs i σ _ hlt p
 ·have e:i=n:=by lia
  subst e;exact .inl ⟨Nat.le_refl _,hd σ H p⟩
end L2
namespace L2
open PySem PySem.Spec PyProof.Rows
abbrev R2:=V->V->Hp->VK->Prop
def OpR (X:Cx)(f:Value->Value->Sem Value)(r:R2):Prop :=
 ∀(pins:List (Addr×Obj)) (s:Shared) (σ:St) (H:Hp) (x y:V) (v u:Value) (Q:VK),Inv X pins σ H s->RelV x v->RelV y u->r x y H Q →
  wpAny (model X.prog X.w) X.A (f v u) (EP X pins σ Q) X.xe s
def UnR (X:Cx)(f:Value->Sem Value)(r:V->Hp->VK->Prop):Prop :=
 ∀(pins:List (Addr×Obj)) (s:Shared) (σ:St) (H:Hp) (x:V) (v:Value) (Q:VK),Inv X pins σ H s->RelV x v->r x H Q →
  wpAny (model X.prog X.w) X.A (f v) (EP X pins σ Q) X.xe s
def dA (X:Cx)(f:Value)(r:List V->Hp->VK->Prop):Prop :=
 ∀(pins:List (Addr×Obj)) (s:Shared) (σ:St) (H:Hp) (xs:List V) (us:List Value) (Q:VK),Inv X pins σ H s->Vals xs us->r xs H Q →
  wpAny (model X.prog X.w) X.A (call f us) (EP X pins σ Q) X.xe s
def tOp (r:R2)(ta tb:TE):TE:=fun σ H Q=>ta σ H fun x H1=>tb σ H1 fun y H2=>r x y H2 Q
def tUn (r:V->Hp->VK->Prop)(ta:TE):TE:=fun σ H Q=>ta σ H fun x H1=>r x H1 Q
def rI (C:Int->Int->Prop)(g:Int->Int->V):R2:=fun x y H Q=>∃i j,x= .int i/\y= .int j/\C i j/\Q (g i j) H
def rI0 (g:Int->Int->V):R2:=fun x y H Q=>∃i j,x= .int i/\y= .int j/\Q (g i j) H
def rU (g:Int->V):V->Hp->VK->Prop:=fun x H Q=>∃i,x= .int i/\Q (g i) H
section
variable {X:Cx}{a b c:Expr}{ta tb tc:TE}{pos:Pos}
theorem JE (ha:PE X a ta)(hb:PE X b tb){pins:List (Addr×Obj)}{s:Shared}{σ:St}{H:Hp}{R:V->V->Hp->Prop} (I:Inv X pins σ H s)
  (h:ta σ H fun x H1=>tb σ H1 fun y H2=>R x y H2){Q:Value->Shared->Prop}{f:Value->Value->Sem Value}
  (hf:∀v u s2 x y H2,Inv X pins σ H2 s2->RelV x v->RelV y u->R x y H2->wpAny (model X.prog X.w) X.A (f v u) Q X.xe s2) :
  wpAny (model X.prog X.w) X.A (eval a X.env) (fun v s₁=>wpAny (model X.prog X.w) X.A (eval b X.env) (fun u s₂=>wpAny (model X.prog X.w) X.A (f v u) Q X.xe s₂) X.xe s₁) X.xe s:=by
 refine thn (ha pins s σ H _ I h) fun v s1 ⟨x,H1,I1,r1,q1⟩=> ?_;refine thn (hb pins s1 σ H1 _ I1 q1) fun u s2 ⟨y,H2,I2,r2,q2⟩=> ?_;exact hf v u s2 x y H2 I2 r1 r2 q2
theorem aG {op:Operator}{r:R2} (ho:OpR X (binaryOp op) r) (ha:PE X a ta) (hb:PE X b tb):PE X (.BinOp a op b pos) (tOp r ta tb):=by
 intro pins s σ H Q I h;exact wpAny_BinOp (JE ha hb I h fun v u s2 x y H2 I2 rx ry q=>ho pins s2 σ H2 x y v u Q I2 rx ry q)
theorem TX {op:UnaryOp}{r:V->Hp->VK->Prop} (ho:UnR X (unaryOp op) r) (ha:PE X a ta):PE X (.UnaryOp op a pos) (tUn r ta):=by
 intro pins s σ H Q I h;exact UnaryOp_ (thn (ha pins s σ H _ I h) fun v s1 ⟨x,H1,I1,r1,q1⟩=>ho pins s1 σ H1 x v Q I1 r1 q1)
theorem opI {f:Value->Value->Sem Value}{C:Int->Int->Prop}{g:Int->Int->Int}
  (rule:∀(i j:Int) (t u:Tok) (s:Shared) (Q:Value->Shared->Prop) (E:Value->Shared->Prop),C i j->Q (.int (g i j) s.toks) { s with toks:=s.toks+1 }->wpAny (model X.prog X.w) X.A (f (.int i t) (.int j u)) Q E s) :
  OpR X f (rI C fun i j=> .int (g i j)):=by
 intro pins s σ H x y v u Q I rx ry h;obtain⟨i,j,rfl,rfl,hc,q⟩:=h;obtain⟨t,rfl⟩:=rx;obtain⟨t',rfl⟩:=ry;exact rule i j t t' s _ _ hc ⟨.int (g i j),H,I.tok _,⟨_,rfl⟩,q⟩
theorem SK {f:Value->Value->Sem Value}{g:Int->Int->Int}
  (rule:∀(i j:Int) (t u:Tok) (s:Shared) (Q:Value->Shared->Prop) (E:Value->Shared->Prop),Q (.int (g i j) s.toks) { s with toks:=s.toks+1 }->wpAny (model X.prog X.w) X.A (f (.int i t) (.int j u)) Q E s) :
  OpR X f (rI0 fun i j=> .int (g i j)):=by
 intro pins s σ H x y v u Q I rx ry h;obtain⟨i,j,rfl,rfl,q⟩:=h;obtain⟨t,rfl⟩:=rx;obtain⟨t',rfl⟩:=ry;exact rule i j t t' s _ _ ⟨.int (g i j),H,I.tok _,⟨_,rfl⟩,q⟩
theorem FA {f:Value->Value->Sem Value}{g:Int->Int->Bool}
  (rule:∀(i j:Int) (t u:Tok) (s:Shared) (Q:Value->Shared->Prop) (E:Value->Shared->Prop),Q (.bool (g i j)) s->wpAny (model X.prog X.w) X.A (f (.int i t) (.int j u)) Q E s) :
  OpR X f (rI0 fun i j=> .bl (g i j)):=by
 intro pins s σ H x y v u Q I rx ry h;obtain⟨i,j,rfl,rfl,q⟩:=h;obtain⟨t,rfl⟩:=rx;obtain⟨t',rfl⟩:=ry;exact rule i j t t' s _ _ ⟨.bl (g i j),H,I,rfl,q⟩
def R4 (i j:Int):Prop:=0<j/\j<1073741824
def OV (i j:Int):Prop:=0<=j/\j<=1000000/\i.natAbs<2^64
def CMul (i j:Int):Prop:=(-(2^64)<i/\i<2^64)∨(-(2^64)<j/\j<2^64)
theorem CMul.ok {i j:Int}(h:CMul i j):IntMulOk i j:=by
 rcases h with⟨h1,h2⟩|⟨h1,h2⟩
 ·exact .of_left (intBits_le_64 h1 h2)
 ·exact .of_right (intBits_le_64 h1 h2)
theorem EU (k:Nat):(0:Int)<=2^k:=by
 rw[two_pow_cast];exact Int.natCast_nonneg _
theorem jU:OpR X (binaryOp .Add) (rI0 fun i j=> .int (i+j)):=SK fun _ _ _ _ _ _ _ q=>add_int q
theorem uX:OpR X (binaryOp .Sub) (rI0 fun i j=> .int (i - j)):=SK fun _ _ _ _ _ _ _ q=>sub_int q
theorem tW:OpR X (binaryOp .Mult) (rI CMul fun i j=> .int (i * j)):=opI fun _ _ _ _ _ _ _ hc q=>mul_int q hc.ok
theorem fG:OpR X (binaryOp .FloorDiv) (rI R4 fun i j=> .int (i/j)):=opI fun i j _ _ _ _ _ hc q=>by
 have h1:(0:Int)<j:=hc.1;have h2:j<1073741824:=hc.2;exact floordiv_int (by lia) (by rw[Int.fdiv_eq_ediv_of_nonneg i (by lia)];exact q) (.inl (PyProof.noPylong_small (by lia)))
theorem bT:OpR X (binaryOp .Mod) (rI (fun _ j=>0<j) fun i j=> .int (i%j)):=opI fun i j _ _ _ _ _ hc q=>by
 have h1:(0:Int)<j:=hc;exact mod_int' (by lia) (by rw[Int.fmod_eq_emod_of_nonneg i (by lia)];exact q)
theorem P4:OpR X (binaryOp .Pow) (rI OV fun i j=> .int (i^j.toNat)):=opI fun _ _ _ _ _ _ _ hc q=>pow_int_small hc.1 hc.2.1 hc.2.2 q
theorem OZ:OpR X (binaryOp .RShift) (rI (fun _ j=>0<=j) fun i j=> .int (i/2^j.toNat)):=opI fun i j _ _ _ _ _ hc q =>
 rshift_int hc (by rw[Int.fdiv_eq_ediv_of_nonneg i (EU _)];exact q)
theorem unI {f:Value->Sem Value}{g:Int->Int}
  (rule:∀(i:Int) (t:Tok) (s:Shared) (Q:Value->Shared->Prop) (E:Value->Shared->Prop),Q (.int (g i) s.toks) { s with toks:=s.toks+1 }->wpAny (model X.prog X.w) X.A (f (.int i t)) Q E s) :
  UnR X f (rU fun i=> .int (g i)):=by
 intro pins s σ H x v Q I rx h;obtain⟨i,rfl,q⟩:=h;obtain⟨t,rfl⟩:=rx;exact rule i t s _ _ ⟨.int (g i),H,I.tok _,⟨_,rfl⟩,q⟩
theorem PR:UnR X (unaryOp .USub) (rU fun i=> .int (-i)):=unI fun _ _ _ _ _ q=>neg_int q
end
def O4:V->V->Bool
 | .non,.non=>true| .non,.int _=>true| .int _,.non=>true| .non,.bl _=>true| .bl _,.non=>true| .non,.str _=>true| .str _,.non=>true
 | .int _,.int _=>true| .bl _,.bl _=>true| .str _,.str _=>true| .byt _,.byt _=>true
 | .int _,.str _=>true| .str _,.int _=>true| .bl _,.str _=>true| .str _,.bl _=>true
 | _,_=>false
def rEq:R2:=fun x y H Q=>O4 x y=true/\Q (.bl (decide (x=y))) H
def rNe:R2:=fun x y H Q=>O4 x y=true/\Q (.bl (!decide (x=y))) H
theorem C2 {i j:Int}:decide (V.int i=V.int j)=(i==j):=by
 rw[Bool.eq_iff_iff];simp
theorem G7 {i j:Bool}:decide (V.bl i=V.bl j)=(i==j):=by
 rw[Bool.eq_iff_iff];simp
theorem C1 {i j:Str}:decide (V.str i=V.str j)=(i==j):=by
 rw[Bool.eq_iff_iff];simp
theorem DP {i j:Array UInt8}:decide (V.byt i=V.byt j)=(i.toList==j.toList):=by
 rw[Bool.eq_iff_iff];cases i;cases j;simp
section
variable {X:Cx}{a b c:Expr}{ta tb tc:TE}{pos:Pos}
theorem bM {pins:List (Addr×Obj)}{σ:St}{H:Hp}{s:Shared}{Q:VK}{k k':Bool} (I:Inv X pins σ H s) (q:Q (.bl k) H) (e:k=k'):EP X pins σ Q (.bool k') s:=by
 subst e;exact⟨.bl k,H,I,rfl,q⟩
theorem cE:OpR X (compareOp .Eq) rEq:=by
 intro pins s σ H x y v u Q I rx ry h;obtain⟨hs,q⟩:=h;cases x with
 | non =>
  cases rx;cases y with
  | non=>cases ry;exact PySem.EqNone.eq_none_none (bM I q (by simp))
  | bl j=>cases ry;exact PySem.EqNone.eq_none_bool (bM I q (by simp))
  | int j=>obtain⟨t',rfl⟩:=ry;exact PySem.EqNone.eq_none_int (bM I q (by simp))
  | str j=>obtain⟨t',rfl⟩:=ry;exact PySem.EqNone.eq_none_str (bM I q (by simp))
  | _=>exact absurd (show false=true from hs) Bool.false_ne_true
 | bl i =>
  cases rx;cases y with
  | non=>cases ry;exact PySem.EqNone.eq_bool_none (bM I q (by simp))
  | bl j=>cases ry;exact eq_bool (bM I q G7)
  | str j=>obtain⟨t',rfl⟩:=ry;exact PySem.EqMixed.eq_bool_str (bM I q (by simp))
  | _=>exact absurd (show false=true from hs) Bool.false_ne_true
 | int i =>
  obtain⟨t,rfl⟩:=rx;cases y with
  | non=>cases ry;exact PySem.EqNone.eq_int_none (bM I q (by simp))
  | int j=>obtain⟨t',rfl⟩:=ry;exact eq_int (bM I q C2)
  | str j=>obtain⟨t',rfl⟩:=ry;exact PySem.EqMixed.eq_int_str (bM I q (by simp))
  | _=>exact absurd (show false=true from hs) Bool.false_ne_true
 | str i =>
  obtain⟨t,rfl⟩:=rx;cases y with
  | non=>cases ry;exact PySem.EqNone.eq_str_none (bM I q (by simp))
  | bl j=>cases ry;exact PySem.EqMixed.eq_str_bool (bM I q (by simp))
  | int j=>obtain⟨t',rfl⟩:=ry;exact PySem.EqMixed.eq_str_int (bM I q (by simp))
  | str j=>obtain⟨t',rfl⟩:=ry;exact eq_str (bM I q C1)
  | _=>exact absurd (show false=true from hs) Bool.false_ne_true
 | byt i =>
  obtain⟨t,rfl⟩:=rx;cases y with
  | byt j=>obtain⟨t',rfl⟩:=ry;exact PySem.W.eq_bytes (bM I q DP)
  | _=>exact absurd (show false=true from hs) Bool.false_ne_true
 | _=>cases y<;>exact absurd (show false=true from hs) Bool.false_ne_true
theorem nC:OpR X (compareOp .NotEq) rNe:=by
 intro pins s σ H x y v u Q I rx ry h;obtain⟨hs,q⟩:=h;cases x with
 | non =>
  cases rx;cases y with
  | non=>cases ry;exact PySem.EqNone.ne_none_none (bM I q (by simp))
  | bl j=>cases ry;exact PySem.EqNone.ne_none_bool (bM I q (by simp))
  | int j=>obtain⟨t',rfl⟩:=ry;exact PySem.EqNone.ne_none_int (bM I q (by simp))
  | str j=>obtain⟨t',rfl⟩:=ry;exact PySem.EqNone.ne_none_str (bM I q (by simp))
  | _=>exact absurd (show false=true from hs) Bool.false_ne_true
 | bl i =>
  cases rx;cases y with
  | non=>cases ry;exact PySem.EqNone.ne_bool_none (bM I q (by simp))
  | bl j=>cases ry;exact ne_bool (bM I q (congrArg not G7))
  | str j=>obtain⟨t',rfl⟩:=ry;exact PySem.EqMixed.ne_bool_str (bM I q (by simp))
  | _=>exact absurd (show false=true from hs) Bool.false_ne_true
 | int i =>
  obtain⟨t,rfl⟩:=rx;cases y with
  | non=>cases ry;exact PySem.EqNone.ne_int_none (bM I q (by simp))
  | int j=>obtain⟨t',rfl⟩:=ry;exact ne_int (bM I q (congrArg not C2))
  | str j=>obtain⟨t',rfl⟩:=ry;exact PySem.EqMixed.ne_int_str (bM I q (by simp))
  | _=>exact absurd (show false=true from hs) Bool.false_ne_true
 | str i =>
  obtain⟨t,rfl⟩:=rx;cases y with
  | non=>cases ry;exact PySem.EqNone.ne_str_none (bM I q (by simp))
  | bl j=>cases ry;exact PySem.EqMixed.ne_str_bool (bM I q (by simp))
  | int j=>obtain⟨t',rfl⟩:=ry;exact PySem.EqMixed.ne_str_int (bM I q (by simp))
  | str j=>obtain⟨t',rfl⟩:=ry;exact ne_str (bM I q (congrArg not C1))
  | _=>exact absurd (show false=true from hs) Bool.false_ne_true
 | byt i =>
  obtain⟨t,rfl⟩:=rx;cases y with
  | byt j=>obtain⟨t',rfl⟩:=ry;exact PySem.W.ne_bytes (bM I q (congrArg not DP))
  | _=>exact absurd (show false=true from hs) Bool.false_ne_true
 | _=>cases y<;>exact absurd (show false=true from hs) Bool.false_ne_true
theorem tT:OpR X (compareOp .Lt) (rI0 fun i j=> .bl (decide (i<j))):=FA fun _ _ _ _ _ _ _ q=>lt_int q
theorem yW:OpR X (compareOp .LtE) (rI0 fun i j=> .bl (decide (i<=j))):=FA fun _ _ _ _ _ _ _ q=>le_int q
theorem SZ:OpR X (compareOp .Gt) (rI0 fun i j=> .bl (decide (j<i))):=FA fun _ _ _ _ _ _ _ q=>gt_int q
theorem tV:OpR X (compareOp .GtE) (rI0 fun i j=> .bl (decide (j<=i))):=FA fun _ _ _ _ _ _ _ q=>ge_int q
theorem PU:OpR X (compareOp .Is) (fun x y H Q=>y= .non/\Q (.bl (decide (x= .non))) H):=by
 intro pins s σ H x y v u Q I rx ry h;obtain⟨rfl,q⟩:=h;cases ry;refine is_none_gen (bM I q ?_);cases x<;>first
  | (cases rx;rfl)
  | (obtain⟨t,rfl⟩:=rx;rfl)
theorem MN:OpR X (compareOp .IsNot) (fun x y H Q=>y= .non/\Q (.bl (!decide (x= .non))) H):=by
 intro pins s σ H x y v u Q I rx ry h;obtain⟨rfl,q⟩:=h;cases ry;refine isnot_none_gen (bM I q ?_);cases x<;>first
  | (cases rx;rfl)
  | (obtain⟨t,rfl⟩:=rx;rfl)
theorem aU (b:Expr){op:CmpOp}(h:op≠ .In:=by decide)(h2:op≠ .NotIn:=by decide):behindInMarks op b=false:=by
 have e1:(op==CmpOp.In)=false:=by cases op<;>first|rfl|exact absurd rfl h
 have e2:(op==CmpOp.NotIn)=false:=by cases op<;>first|rfl|exact absurd rfl h2
 cases b<;>simp[behindInMarks,e1,e2]
theorem v5 {op:CmpOp}{r:R2} (ho:OpR X (compareOp op) r) (ha:PE X a ta) (hb:PE X b tb) (hm:behindInMarks op b=false):PE X (.Compare a [op] [b] pos) (tOp r ta tb):=by
 intro pins s σ H Q I h;exact wpAny_Compare1 (JE ha hb I h fun v u s2 x y H2 I2 rx ry q=>ho pins s2 σ H2 x y v u Q I2 rx ry q) hm
def F0 (t:TE):TT:=fun σ H Q=>t σ H fun x H'=>∃k,x= .bl k/\Q k H'
theorem aR {op:CmpOp}{r:R2} (ho:OpR X (compareOp op) r) (ha:PE X a ta) (hb:PE X b tb) (hm:behindInMarks op b=false):PT X (.Compare a [op] [b] pos) (F0 (tOp r ta tb)):=by
 intro pins s σ H Q I h;refine wpAny_isTrue_Compare1 (thn (ha pins s σ H _ I h) fun v s1 ⟨x,H1,I1,r1,q1⟩=>thn (hb pins s1 σ H1 _ I1 q1) fun u s2 ⟨y,H2,I2,r2,q2⟩ =>
  thn (ho pins s2 σ H2 x y v u _ I2 r1 r2 q2) fun c s3 ⟨z,H3,I3,r3,k,e,q3⟩=> ?_) hm
 subst e;cases r3;exact wpAny_truthy_bool ⟨H3,I3,q3⟩
def AQ (r r':R2)(ta tb tc:TE):TE:=fun σ H Q=>ta σ H fun x H1=>tb σ H1 fun y H2=>r x y H2 fun z H3=>∃k,z= .bl k ∧
 (if k=true then tc σ H3 fun w' H4=>r' y w' H4 Q else Q (.bl false) H3)
theorem sQ {op op':CmpOp}{r r':R2} (ho:OpR X (compareOp op) r) (ho':OpR X (compareOp op') r') (ha:PE X a ta) (hb:PE X b tb) (hc:PE X c tc)
  (hm:lastMarks [op,op'] [b,c]=false:=by with_unfolding_all rfl):PE X (.Compare a [op,op'] [b,c] pos) (AQ r r' ta tb tc):=by
 intro pins s σ H Q I h;refine Compare_chain (thn (ha pins s σ H _ I h) fun v s1 ⟨x,H1,I1,r1,q1⟩=>chain_link (thn (hb pins s1 σ H1 _ I1 q1) fun u s2 ⟨y,H2,I2,r2,q2⟩ =>
  thn (ho pins s2 σ H2 x y v u _ I2 r1 r2 q2) fun d s3 ⟨z,H3,I3,r3,k,e,q3⟩=> ?_)) hm
 subst e;cases r3;refine wpAny_truthy_bool ?_;cases k with
 | false=>exact ite_ff ⟨.bl false,H3,I3,rfl,q3⟩
 | true=>exact ite_tt (chain_last (thn (hc pins s3 σ H3 _ I3 q3) fun w' s4 ⟨z',H4,I4,r4,q4⟩=>ho' pins s4 σ H4 y z' u w' Q I4 r2 r4 q4))
theorem KG {op op':CmpOp}{r r':R2} (ho:OpR X (compareOp op) r) (ho':OpR X (compareOp op') r') (ha:PE X a ta) (hb:PE X b tb) (hc:PE X c tc)
  (hm:lastMarks [op,op'] [b,c]=false:=by with_unfolding_all rfl):PT X (.Compare a [op,op'] [b,c] pos) (F0 (AQ r r' ta tb tc)):=by
 intro pins s σ H Q I h;refine isTrue_chain (thn (ha pins s σ H _ I h) fun v s1 ⟨x,H1,I1,r1,q1⟩=>test_link (thn (hb pins s1 σ H1 _ I1 q1) fun u s2 ⟨y,H2,I2,r2,q2⟩ =>
  thn (ho pins s2 σ H2 x y v u _ I2 r1 r2 q2) fun d s3 ⟨z,H3,I3,r3,k,e,q3⟩=> ?_)) hm
 subst e;cases r3;refine wpAny_truthy_bool ?_;cases k with
 | false =>
  obtain⟨k',e',q'⟩:=q3;cases e';exact ite_ff ⟨H3,I3,q'⟩
 | true =>
  refine ite_tt (test_last (thn (hc pins s3 σ H3 _ I3 q3) fun w' s4 ⟨z',H4,I4,r4,q4⟩=>thn (ho' pins s4 σ H4 y z' u w' _ I4 r2 r4 q4) fun d' s5 ⟨z2,H5,I5,r5,k2,e2,q5⟩=> ?_));subst e2;cases r5;exact wpAny_truthy_bool ⟨H5,I5,q5⟩
theorem uG:(sizeLine:Nat)<2^63:=by rw[sizeLine_eq];decide
theorem FH:OpR X (binaryOp .Add) (fun x y H Q=>∃i j,x= .str i/\y= .str j/\i.length+j.length<=sizeLine/\Q (.str (i++j)) H):=by
 intro pins s σ H x y v u Q I rx ry h;obtain⟨i,j,rfl,rfl,hz,q⟩:=h;obtain⟨t,rfl⟩:=rx;obtain⟨t',rfl⟩:=ry;exact add_str (fun t' tk=>⟨.str (i++j),H,I.tok _,⟨_,rfl⟩,q⟩) hz
theorem iU {x:V}{us:List Value} (r:Vals [x] us):∃u,us=[u]/\RelV x u:=by
 cases r with
 | cons r1 r2=>cases r2;exact⟨_,rfl,r1⟩
theorem FI {x y:V}{us:List Value} (r:Vals [x,y] us):∃u w',us=[u,w']/\RelV x u/\RelV y w':=by
 cases r with
 | cons r1 r2 =>
  cases r2 with
  | cons r3 r4=>cases r4;exact⟨_,_,rfl,r1,r3⟩
theorem GC:dA X (.type "int") (fun xs H Q=>(∃i,xs=[.int i]/\Q (.int i) H)∨∃k,xs=[.bl k]/\Q (.int (if k then 1 else 0)) H):=by
 intro pins s σ H xs us Q I r h;rcases h with⟨i,rfl,q⟩|⟨k,rfl,q⟩
 ·obtain⟨u,rfl,t,rfl⟩:=iU r;exact call_int_int ⟨.int i,H,I,⟨_,rfl⟩,q⟩
 ·obtain⟨u,rfl,r1⟩:=iU r;cases r1;exact call_int_bool ⟨.int (if k then 1 else 0),H,I.tok _,⟨_,rfl⟩,q⟩
theorem AV:dA X (.type "str") (fun xs H Q=>∃i,xs=[.int i]/\i.natAbs.log2<1920/\Q (.str (toString i)) H):=by
 intro pins s σ H xs us Q I r h;obtain⟨i,rfl,hz,q⟩:=h;obtain⟨u,rfl,t,rfl⟩:=iU r;exact PySem.P.str_of_int hz ⟨.str _,H,I.tok _,⟨_,rfl⟩,q⟩
end
end L2
namespace L2
open PySem PySem.Spec PyProof.Rows
structure ObjM (h:Heap)(x dx C:Addr)(mA:Str->Option Value):Prop where
 obj:h.get? x=some (PySem.W.instObj C dx)
 ns:h.Ns1 dx mA
 ne:dx≠x
theorem HW {h:Heap}{dx:Addr}{mA:Str->Option Value} (n:h.Ns1 dx mA):∃od,h.get? dx=some od/\∀name,PySem.W.lookIn name od=some (mA name):=by
 obtain⟨o,es,ep,ho,hd,hk,_,hm⟩:=n;refine⟨o,ho,fun name=> ?_⟩;have e:=hm name;unfold nsFind findBy at e;rw[←Array.find?_toList]at e;unfold PySem.W.lookIn;rw[hd]
 dsimp only
 split
 ·rename_i y q;rw[q]at e;exact congrArg some e
 ·rename_i q;rw[q]at e;have a:es.toList.any (·.refKey)=false:=by
   rw[List.any_eq_false];intro y hy;obtain⟨z,t,hkey⟩:=hk y (Array.mem_toList_iff.mp hy);simp[DictEntry.refKey,hkey]
  have a':¬es.toList.any (·.refKey)=true:=by rw[a];exact Bool.false_ne_true
  rw[if_neg a'];exact congrArg some e
theorem ObjM.look {h:Heap}{x dx C:Addr}{mA:Str->Option Value} (I:ObjM h x dx C mA):∃od,PySem.W.InstAt h x (PySem.W.instObj C dx) C (some od)/\∀name,PySem.W.lookIn name od=some (mA name) :=
 let ⟨od,ho,hl⟩:=HW I.ns
 ⟨od,⟨I.obj,rfl,rfl,ho⟩,hl⟩
section
variable {prog:Program}{w:World}{A:Around}{E:Value->Shared->Prop}{s:Shared}{K:PySem.W.Frag}{x dx C f:Addr}{mA:Str->Option Value}{name:Str}{v:Value}
theorem OL {expr:Bool}{Q:Value->Shared->Prop} (X:K.In s.heap) (I:ObjM s.heap x dx C mA) (hg:PySem.W.plainGet K C name=true) (hh:PySem.W.hasDictIn K C=true)
  (ha:PySem.W.findIn K (.ref C) name=some none)(hv:mA name=some v)(hv':PySem.W.handedIn v=true)(h:Q v { s with toks:=s.toks+1 }) :
  wpAny (model prog w) A (getAttr (.ref x) name expr) Q E s:=by
 obtain⟨od,J,hl⟩:=I.look;exact PySem.W.get_value X J (PySem.W.plainGet_of hg).1 (PySem.W.findObj_own hh ha rfl (by rw[hl,hv])) hv' h
theorem J8 {pl:Sem Bool}{Q:Value×List Value->Shared->Prop} (X:K.In s.heap) (I:ObjM s.heap x dx C mA) (hg:PySem.W.plainGet K C name=true)
  (hf:PySem.W.findIn K (.ref C) name=some (some (.ref f)))(ht:PySem.W.isFn K (.ref f)=true)(hv:mA name=none)(h:Q (.ref f,[.ref x]) s) :
  wpAny (model prog w) A (getMethod (.ref x) name pl) Q E s:=by
 obtain⟨od,J,hl⟩:=I.look;exact PySem.W.method_fn X J (PySem.W.plainGet_of hg).1 (PySem.W.plainGet_of hg).2 hf (beq_iff_eq.mp ht) (by show (PySem.W.lookIn name od).map (·.isSome)=some false;rw[hl,hv];rfl) h
theorem MJ {ns:List Str}{Q:Unit->Shared->Prop} (X:K.In s.heap) (I:ObjM s.heap x dx C mA)
  (hs:PySem.W.findIn K (.ref C) "__setattr__" =some (some (.builtin "object.__setattr__")))(hp:PySem.W.plainOver K C=true)(ht:PySem.W.takerIn K C name=some none)(hh:PySem.W.hasDictIn K C=true)
  (hw:PySem.Within mA ns)(hsz:ns.length<=sizeLine)
  (h:∀h',ObjM h' x dx C (fun y=>if y=name then some v else mA y)->Heap.SameBut dx s.heap h'->Q () { s with heap:=h',toks:=s.toks+2 }) :
  wpAny (model prog w) A (setAttr (.ref x) name v) Q E s:=by
 obtain⟨od,J,hl⟩:=I.look;refine PySem.W.set_plain X J hs (PySem.W.osa_open (s:={ s with toks:=s.toks+1 }) (r:=none) X J hp ht fun b=> ?_);obtain⟨cd,hc,hd'⟩:=PySem.W.any_some hh;have hx:s.heap.get? x=some ⟨.ref C,some dx,.plain,#[]⟩:=I.obj;refine wpAny_bind (wpAny_pure (wpAny_bind (wpAny_bind (wpAny_loadPart hx (wpAny_bind (PySem.W.Looks.here (s:={ s with toks:=s.toks+1 }) (PySem.W.looks_clsIn X hc) ?_))))));rw[hd'];refine wpAny_pure (a:=some dx) (wpAny_bind (wpAny_pure (wpAny_bind ?_)));refine wpAny_nsSet1 (s:={ s with toks:=s.toks+1 }) I.ns fun h' hn2 hs2=> ?_;obtain⟨oD,esD,epD,hoD,hdD,hcD⟩:=hn2.count (PySem.Within.cons name v hw);refine wpAny_bind (wpAny_lookBehind hoD (by rw[hdD];exact pastItsLine_dict (Nat.le_trans hcD (by rw[List.length_cons];lia))) ?_);exact wpAny_pure (h _ ⟨(hs2.2 _ (Ne.symm I.ne)).trans I.obj,hn2,I.ne⟩ hs2)
theorem J9 {R:Result->Shared->Prop}{vs:List Value}{kw:List (Str×Value)} (X:K.In s.heap) (hm:PySem.W.makesIn K C=true)
  (hi:PySem.W.findIn K (.ref C) "__init__" =some (some (.ref f)))(hf:PySem.W.typeIn K (.ref f)=some (.type "function"))
  (h:codeAny (model prog w) (A.under (.builtin "type.__call__" ⟨.ref C::vs,kw⟩)) (.call (.ref f) ⟨.ref (s.heap.objs.size+1)::vs,kw⟩) (PySem.W.InitBack (s.heap.objs.size+1) R)
   { s with heap:=(s.heap.push PySem.W.emptyDict).push (PySem.W.instObj C s.heap.objs.size) }) :
  codeAny (model prog w) A (.call (.ref C) ⟨vs,kw⟩) R s:=by
 obtain⟨hh,g,d,t,os⟩:=s;exact PySem.W.make_core (PySem.W.makes_of X hm) (PySem.W.looks_findIn X hi) (fun self=>PySem.W.bind_fn X self hf) (.inl rfl) h
end
def b9 (f:Str)(v:V):List (Str×V)->List (Str×V)
 | []=>[(f,v)]
 | (g,x)::r=>if g=f then (g,v)::r else (g,x)::b9 f v r
theorem kZ (f g:Str)(v:V):∀fs:List (Str×V),(b9 f v fs).lookup g=if g=f then some v else fs.lookup g
 | []=>by
  show List.lookup g [(f,v)]=_
  by_cases h:g=f
  ·have hb:(g==f)=true:=beq_iff_eq.mpr h;simp only[List.lookup,hb,if_pos h]
  ·have hb:(g==f)=false:=beq_eq_false_iff_ne.mpr h;simp only[List.lookup,hb,if_neg h]
 | (k,x)::r=>by
  have ih:=kZ f g v r;rw[show b9 f v ((k,x)::r)=(if k=f then (k,v)::r else (k,x)::b9 f v r) from rfl]
  by_cases hk:k=f
  ·rw[if_pos hk]
   by_cases h:g=k
   ·have hb:(g==k)=true:=beq_iff_eq.mpr h;simp only[List.lookup,hb,if_pos (h.trans hk)]
   ·have hb:(g==k)=false:=beq_eq_false_iff_ne.mpr h;simp only[List.lookup,hb,if_neg (fun e:g=f=>h (e.trans hk.symm))]
  ·rw[if_neg hk]
   by_cases h:g=k
   ·have hb:(g==k)=true:=beq_iff_eq.mpr h;simp only[List.lookup,hb,if_neg (fun e:g=f=>hk (h.symm.trans e))]
   ·have hb:(g==k)=false:=beq_eq_false_iff_ne.mpr h;simp only[List.lookup,hb];exact ih
theorem qH (f:Str)(v:V):∀fs:List (Str×V),f∈(b9 f v fs).map (·.1)/\∀g,g∈fs.map (·.1)->g∈(b9 f v fs).map (·.1)
 | []=>⟨by simp[b9],fun g h=>by simp at h⟩
 | (k,x)::r=>by
  obtain⟨i1,i2⟩:=qH f v r;rw[show b9 f v ((k,x)::r)=(if k=f then (k,v)::r else (k,x)::b9 f v r) from rfl]
  by_cases hk:k=f
  ·rw[if_pos hk];subst hk;exact⟨by simp,fun g h=>by simpa using h⟩
  ·rw[if_neg hk];refine⟨?_,fun g h=> ?_⟩
   ·rw[List.map_cons];exact List.mem_cons_of_mem _ i1
   ·rw[List.map_cons]at h ⊢;rcases List.mem_cons.mp h with e|e
    ·exact List.mem_cons.mpr (.inl e)
    ·exact List.mem_cons_of_mem _ (i2 g e)
theorem sC (f:Str)(v:V):∀fs:List (Str×V),(b9 f v fs).length<=fs.length+1
 | []=>by simp[b9]
 | (k,x)::r=>by
  have ih:=sC f v r;rw[show b9 f v ((k,x)::r)=(if k=f then (k,v)::r else (k,x)::b9 f v r) from rfl]
  by_cases hk:k=f
  ·rw[if_pos hk,List.length_cons,List.length_cons];lia
  ·rw[if_neg hk,List.length_cons,List.length_cons];lia
theorem RelO.some_of {v:V}{o:Option Value} (r:RelO (some v) o):∃u,o=some u/\RelV v u:=by
 cases o with
 | none=>exact(show False from r).elim
 | some u=>exact⟨u,rfl,r⟩
theorem RelO.none_of {o:Option Value}(r:RelO none o):o=none:=by
 cases o with
 | none=>rfl
 | some u=>exact(show False from r).elim
theorem qM {v:V}{u:Value} (r:RelV v u):PySem.W.handedIn u=true:=by
 cases v with
 | non=>cases (show u=Value.none from r);rfl
 | bl b=>cases (show u=Value.bool b from r);rfl
 | int i=>obtain⟨t,e⟩:=(show ∃t,u=Value.int i t from r);cases e;rfl
 | str x=>obtain⟨t,e⟩:=(show ∃t,u=Value.str x t from r);cases e;rfl
 | byt b=>obtain⟨t,e⟩:=(show ∃t,u=Value.bytes b t from r);cases e;rfl
 | flt b=>obtain⟨t,e⟩:=(show ∃t,u=Value.float b t from r);cases e;rfl
 | ref a=>cases (show u=Value.ref a from r);rfl
 | ty n=>cases (show u=Value.type n from r);rfl
section
variable {P:Program}{w:World}{H H':Hp}{h h':Heap}{a C dx:Addr}{fs fs':List (Str×V)}
theorem rE (hok:HOk P w H h)(e:H a=some (.ins C dx fs)):∃mA,ObjM h a dx C mA/\(∀f,RelO (fs.lookup f) (mA f))/\PySem.Within mA (fs.map (·.1))/\fs.length<=1000/\H dx=some (.own a):=by
 obtain⟨d,z,ne,ob,mA,n,r,q⟩:=(show ObjOk P w H h a (.ins C dx fs) from hok a _ e)
 exact⟨mA,⟨ob,n,ne⟩,r,q,z,d⟩
end
structure Cls (K:PySem.W.Frag)(C:Addr):Prop where
 pg:PySem.W.plainGet K C Str.empty=true
 hd:PySem.W.hasDictIn K C=true
 po:PySem.W.plainOver K C=true
 sa:PySem.W.findIn K (.ref C) "__setattr__" =some (some (.builtin "object.__setattr__"))
theorem Cls.get {K:PySem.W.Frag}{C:Addr} (c:Cls K C) (f:Str):PySem.W.plainGet K C f=true:=c.pg
def NoAttr (K:PySem.W.Frag)(C:Addr)(f:Str):Prop:=PySem.W.findIn K (.ref C) f=some none
theorem NoAttr.taker {K:PySem.W.Frag}{C:Addr}{f:Str} (n:NoAttr K C f):PySem.W.takerIn K C f=some none:=by
 unfold PySem.W.takerIn;rw[show PySem.W.findIn K (.ref C) f=some none from n];rfl
structure dN (K:PySem.W.Frag)(C:Addr)(m:Str)(f:Addr):Prop where
 at_:PySem.W.findIn K (.ref C) m=some (some (.ref f))
 fn:PySem.W.isFn K (.ref f)=true
 kp:PySem.W.keepIn K (.ref f)=true
section
variable {X:Cx}{pins:List (Addr×Obj)}{σ:St}{H:Hp}{s:Shared}{a C dx:Addr}{fs:List (Str×V)}{f:Str}{v:V}{A:Around}{E:Value->Shared->Prop}
theorem EA {b:Bool}{Q:Value->Shared->Prop} (I:Inv X pins σ H s) (e:H a=some (.ins C dx fs)) (c:Cls X.K C) (n:NoAttr X.K C f) (l:fs.lookup f=some v)
  (h:∀u s',Inv X pins σ H s'->RelV v u->Q u s'):wpAny (model X.prog X.w) A (getAttr (.ref a) f b) Q E s:=by
 obtain⟨mA,O,r,_,_,_⟩:=rE I.hok e;obtain⟨u,hu,ru⟩:=RelO.some_of (v:=v) (o:=mA f) (by rw[←l];exact r f);exact OL I.kIn O (c.get f) c.hd n hu (qM ru) (h u _ (I.tok _) ru)
theorem oW {m:Str}{g:Addr}{pl:Sem Bool}{Q:Value×List Value->Shared->Prop} (I:Inv X pins σ H s) (e:H a=some (.ins C dx fs)) (c:Cls X.K C) (k:dN X.K C m g) (l:fs.lookup m=none)
  (h:Q (.ref g,[.ref a]) s):wpAny (model X.prog X.w) A (getMethod (.ref a) m pl) Q E s:=by
 obtain⟨mA,O,r,_,_,_⟩:=rE I.hok e;have hn:mA m=none:=RelO.none_of (by rw[←l];exact r m);exact J8 I.kIn O (c.get m) k.at_ k.fn hn h
theorem ED {y:V}{u:Value}{Q:Unit->Shared->Prop} (I:Inv X pins σ H s) (e:H a=some (.ins C dx fs)) (c:Cls X.K C) (n:NoAttr X.K C f) (hl:fs.length<1000) (ry:RelV y u)
  (h:∀s',Inv X pins σ (upd H a (.ins C dx (b9 f y fs))) s'->Q () s'):wpAny (model X.prog X.w) A (setAttr (.ref a) f u) Q E s:=by
 obtain⟨mA,O,r,wi,_,ho⟩:=rE I.hok e;have hz:(fs.map (·.1)).length<=sizeLine:=by rw[List.length_map,sizeLine_eq];lia
 refine MJ I.kIn O c.sa c.po n.taker c.hd wi hz fun h' O' sb=>h _ ?_;have hd:∃o,h'.get? dx=some o:=let ⟨o,_,_,e',_⟩:=O'.ns;⟨o,e'⟩;refine I.write (x:=a) (e:=dx) (by rw[e];exact True.intro) (.inr ho) (fun b q hb z=>(sb.2 b hb).trans z) hd ?_;refine⟨by rw[aX O.ne];exact ho,?_,O.ne,O'.obj,_,O'.ns,fun g=> ?_,fun g hg=> ?_⟩
 ·have:=sC f y fs;lia
 ·show RelO ((b9 f y fs).lookup g) (if g=f then some u else mA g);rw[kZ]
  by_cases q:g=f
  ·rw[if_pos q,if_pos q];exact ry
  ·rw[if_neg q,if_neg q];exact r g
 ·by_cases q:g=f
  ·rw[q];exact(qH f y fs).1
  ·refine(qH f y fs).2 g (wi g fun z=>hg ?_);show (if g=f then some u else mA g)=none;rw[if_neg q];exact z
theorem Inv.made (I:Inv X pins σ H s):Inv X pins σ (upd (upd H s.heap.objs.size (.own (s.heap.objs.size+1))) (s.heap.objs.size+1) (.ins C s.heap.objs.size []))
  { s with heap:=(s.heap.push PySem.W.emptyDict).push (PySem.W.instObj C s.heap.objs.size) }:=by
 have e1:(s.heap.push PySem.W.emptyDict).get? s.heap.objs.size=some PySem.W.emptyDict:=Heap.get?_push_size s.heap rfl;have e2:((s.heap.push PySem.W.emptyDict).push (PySem.W.instObj C s.heap.objs.size)).get? (s.heap.objs.size+1)=some (PySem.W.instObj C s.heap.objs.size):=by
  have:=Heap.get?_push_size (s.heap.push PySem.W.emptyDict) (o:=PySem.W.instObj C s.heap.objs.size) rfl
  rwa [Heap.size_push]at this
 have e3:(s.heap.push PySem.W.emptyDict).Ns s.heap.objs.size (fun _=>none):=⟨PySem.W.emptyDict,#[],_,e1,rfl,(fun e he=>absurd he (by simp)),fun _=>rfl⟩
 have I1:=I.laid (a:=s.heap.objs.size) (o:= .own (s.heap.objs.size+1)) (h':=s.heap.push PySem.W.emptyDict) (t':=s.toks) (fun b u q=>Heap.get?_push_of_some _ q) (Nat.le_refl _) ⟨_,e1⟩;refine I1.laid (a:=s.heap.objs.size+1) (o:= .ins C s.heap.objs.size []) (t':=s.toks) (fun b u q=>Heap.get?_push_of_some _ q) (Nat.le_of_eq (Heap.size_push _ _)) ?_;have ne:s.heap.objs.size≠s.heap.objs.size+1:=Nat.ne_of_lt (Nat.lt_succ_self _);refine⟨by rw[aX ne,bP],Nat.zero_le _,ne,e2,fun _=>none,(Heap.Ns1.of_empty e3).at fun o q=>Heap.get?_push_of_some _ q,fun _=>True.intro,fun y hy=>absurd rfl hy⟩
theorem NU {prog:Program}{w:World}{env:Env}{e:Expr}{f:Str}{pos:Pos}{s:Shared}{Q:Value->Shared->Prop} (hb:attributeBase e f env (eval e env)=eval e env)
  (h:wpAny (model prog w) A (eval e env) (fun o s₁=>wpAny (model prog w) A (getAttr o f true) Q E s₁) E s):wpAny (model prog w) A (eval (.Attribute e f pos) env) Q E s :=
 Attribute_any_ h (by rw[arm_eval_Attribute,hb])
end
def PP (K:PySem.W.Frag)(ta:TE)(f:Str):TE:=fun σ H Q=>ta σ H fun x H1=>∃a C dx fs v,x= .ref a/\H1 a=some (.ins C dx fs)/\Cls K C/\NoAttr K C f/\fs.lookup f=some v/\Q v H1
def QK (K:PySem.W.Frag)(ta tv:TE)(f:Str):TS:=fun D σ H=>tv σ H fun y H1=>ta σ H1 fun x H2=>∃a C dx fs,x= .ref a/\H2 a=some (.ins C dx fs)/\Cls K C/\NoAttr K C f/\fs.length<1000 ∧
 D.nx σ (upd H2 a (.ins C dx (b9 f y fs)))
section
variable {X:Cx}{o e value:Expr}{f:Str}{pos pos' tpos:Pos}{ta tv:TE}
theorem aW (he:PE X e ta)(hb:attributeBase e f X.env (eval e X.env)=eval e X.env):PE X (.Attribute e f pos) (PP X.K ta f):=by
 intro pins s σ H Q I h;refine NU hb (thn (he pins s σ H _ I h) fun u s1 ⟨x,H1,I1,rx,a,C,dx,fs,v,ex,ea,c,n,l,q⟩=> ?_);subst ex;obtain rfl:u=Value.ref a:=rx;exact EA I1 ea c n l fun u' s2 I2 ru=>⟨v,H1,I2,ru,q⟩
theorem eK (ha:PE X o ta)(hv:PE X value tv)(hs:swapsWith value (some (.Attribute o f pos')) pos.line X.env=pure false):PS X (.Assign [.Attribute o f pos'] value pos) (QK X.K ta tv f):=by
 intro pins s σ H D I h;refine plainObj_wpAny_Assign_Attribute (thn (hv pins s σ H _ I h) fun u s1 ⟨y,H1,I1,ry,q⟩=>thn (ha pins s1 σ H1 _ I1 q) fun ov s2 ⟨x,H2,I2,rx,a,C,dx,fs,ex,ea,c,n,l,q2⟩=> ?_) hs;subst ex;obtain rfl:ov=Value.ref a:=rx;exact ED I2 ea c n l ry fun s3 I3=>⟨σ,_,I3,q2⟩
end
section
variable {X:Cx}{pins:List (Addr×Obj)}{σ:St}{H:Hp}{s:Shared}{A:Around}{E:Value->Shared->Prop}{Q:Value->Shared->Prop}{c:Value}{b:Bool}
inductive i7 (K:PySem.W.Frag)(H:Hp):V->Value->Prop where
 | non:i7 K H .non (.type "NoneType")
 | bl (x:Bool):i7 K H (.bl x) (.type "bool")
 | int (i:Int):i7 K H (.int i) (.type "int")
 | str (x:Str):i7 K H (.str x) (.type "str")
 | flt (x:UInt64):i7 K H (.flt x) (.type "float")
 | lst {a:Addr}{xs:List V} (e:H a=some (.lst xs)):i7 K H (.ref a) (.type "list")
 | frz {a:Addr}{o:Obj}{xs:List V} (e:H a=some (.frz o (.lst xs))):i7 K H (.ref a) (.type "list")
 | tup {a:Addr}{xs:List V} (e:H a=some (.tup xs)):i7 K H (.ref a) (.type "tuple")
 | dK {a:Addr}{kvs:List (Key×V)} (e:H a=some (.dK kvs)):i7 K H (.ref a) (.type "dict")
 | dT {a:Addr}{kvs:List (List Key×V)} (e:H a=some (.dT kvs)):i7 K H (.ref a) (.type "dict")
 | ins {a C dx:Addr}{fs:List (Str×V)} (e:H a=some (.ins C dx fs)) (cl:Cls K C) (ha:PySem.W.findIn K (.ref C) "__class__" =some (some (.builtin "object.__class__")))
   (hn:PySem.W.specialIn K (.builtin "object.__class__") "__get__" =some (some (.builtin "getset_descriptor.__get__")))(htk:PySem.W.takesIn K (.builtin "object.__class__")=some true)
   (hm:PySem.W.mroIn K C (.type "object")=some true):i7 K H (.ref a) (.ref C)
theorem IK {x:V}{u t:Value} (I:Inv X pins σ H s) (rx:RelV x u) (ty:i7 X.K H x t) (e:PySem.W.kitOne X.K t c=some b) (h:∀tk,Q (.bool b) { s with toks:=tk }) :
  wpAny (model X.prog X.w) A (call (.builtin "isinstance") [u,c]) Q E s:=by
 cases ty with
 | non=>cases (show u=Value.none from rx);exact PySem.W.kia_one PySem.W.kitx_none I.kIn True.intro e (fun z=>nomatch z) h
 | bl y=>cases (show u=Value.bool y from rx);exact PySem.W.kia_one PySem.W.kitx_bool I.kIn True.intro e (fun z=>nomatch z) h
 | int i=>obtain⟨t,q⟩:=(show ∃t,u=Value.int i t from rx);cases q;exact PySem.W.kia_one PySem.W.kitx_int I.kIn True.intro e (fun z=>nomatch z) h
 | str y=>obtain⟨t,q⟩:=(show ∃t,u=Value.str y t from rx);cases q;exact PySem.W.kia_one PySem.W.kitx_str I.kIn True.intro e (fun z=>nomatch z) h
 | flt y=>obtain⟨t,q⟩:=(show ∃t,u=Value.float y t from rx);cases q;exact PySem.W.kia_one PySem.W.kitx_float I.kIn True.intro e (fun z=>nomatch z) h
 | @lst a xs ea =>
  cases (show u=Value.ref a from rx);obtain⟨_,_,n,_,h1⟩:=(show ObjOk X.prog X.w H s.heap a (.lst xs) from I.hok a _ ea)
  exact PySem.W.kia_one PySem.W.kitx_list I.kIn ⟨_,h1,rfl⟩ e (fun z=>nomatch z) h
 | @frz a ob xs ea =>
  cases (show u=Value.ref a from rx);obtain⟨_,_,_,n,_,h1⟩:=(show ObjOk X.prog X.w H s.heap a (.frz ob (.lst xs)) from I.hok a _ ea)
  exact PySem.W.kia_one PySem.W.kitx_list I.kIn ⟨_,h1,rfl⟩ e (fun z=>nomatch z) h
 | @tup a xs ea =>
  cases (show u=Value.ref a from rx);obtain⟨_,_,_,p⟩:=(show ObjOk X.prog X.w H s.heap a (.tup xs) from I.hok a _ ea)
  obtain⟨o,h1,h2,_⟩:=p;exact PySem.W.kia_one PySem.W.kitx_tuple I.kIn ⟨o,h1,h2⟩ e (fun z=>nomatch z) h
 | @dK a kvs ea =>
  cases (show u=Value.ref a from rx);obtain⟨_,_,vs,_,p⟩:=(show ObjOk X.prog X.w H s.heap a (.dK kvs) from I.hok a _ ea)
  obtain⟨o,es,ep,h1,h2,_⟩:=p;exact PySem.W.kia_one PySem.W.kitx_dict I.kIn ⟨o,h1,h2.1⟩ e (fun z=>nomatch z) h
 | @dT a kvs ea =>
  cases (show u=Value.ref a from rx);obtain⟨_,_,xs,_,o,es,ep,h1,h2,_⟩:=(show ObjOk X.prog X.w H s.heap a (.dT kvs) from I.hok a _ ea)
  exact PySem.W.kia_one PySem.W.kitx_dict I.kIn ⟨o,h1,h2.1⟩ e (fun z=>nomatch z) h
 | @ins a C dx fs ea cl ha hn htk hm =>
  cases (show u=Value.ref a from rx);obtain⟨mA,O,_⟩:=rE I.hok ea;obtain⟨od,J,_⟩:=O.look;exact PySem.W.kia_one (PySem.W.kitx_own (cl.get _) cl.hd ha hn htk hm) I.kIn J e (fun z=>nomatch z) h
end
end L2
namespace L2
open PySem PySem.Spec PyProof.Rows
structure Room (k:Nat)(A:Around):Prop where
 hd:A.handled=none
 dp:A.depth+3 * k+5<recursionLimit
 un:A.units+16 * k+200<cLine
theorem Room.mono {j k:Nat}{A:Around} (r:Room k A) (h:j<=k):Room j A:=⟨r.hd,by have:=r.dp;lia,by have:=r.un;lia⟩
theorem Room.deeper {k:Nat}{A:Around} (r:Room (k+1) A) (env:Env):Room k (A.deeper env) :=
 ⟨r.hd,by have:=r.dp;show A.depth+1+3 * k+5<_;lia,by have:=r.un;show A.units+3+16 * k+200<_;lia⟩
theorem D0 {A:Around}{C:Addr}{us:List Value}{kw:List (Str×Value)}:(A.under (.builtin "type.__call__" ⟨.ref C::us,kw⟩)).depth=A.depth+1:=by
 first|rfl|simp[Around.under,Code.weight,Code.isCreation,Code.isGuard,Code.isCaller,Code.frames,Code.isFrame,guardIds]
theorem EK {A:Around}{C:Addr}{us:List Value}{kw:List (Str×Value)}:(A.under (.builtin "type.__call__" ⟨.ref C::us,kw⟩)).units=A.units+1:=by
 first|rfl|simp[Around.under,Code.cUnits,Code.frames,Code.isFrame]
theorem Room.make {k:Nat}{A:Around} (r:Room (k+1) A) (C:Addr) (us:List Value) (kw:List (Str×Value)):Room k (A.under (.builtin "type.__call__" ⟨.ref C::us,kw⟩)) :=
 ⟨r.hd,by have:=r.dp;rw[D0];lia,by have:=r.un;rw[EK];lia⟩
theorem Room.depth {k:Nat}{A:Around} (r:Room k A):A.depth<recursionLimit:=by have:=r.dp;lia
theorem Room.units0 {k:Nat}{A:Around} (r:Room k A):A.units<cLine:=by have:=r.un;lia
def zK:TA:=fun _ H Q=>Q [] H
def DU (ta:TE)(tr:TA):TA:=fun σ H Q=>ta σ H fun x H1=>tr σ H1 fun xs H2=>Q (x::xs) H2
section
variable {X:Cx}{e:Expr}{es:List Expr}{te:TE}{t:TA}{pos:Pos}
theorem aB:PA X [] zK:=fun _ _ _ _ H Q I h=>Calls.spliced_nil ⟨[],H,I,.nil,h⟩
theorem aA (ha:PE X e te)(hr:PA X es t)(hs:starEach (e::es) X.env=(false,eval e X.env)::starEach es X.env:=by rfl):PA X (e::es) (DU te t):=by
 intro pos pins s σ H Q I h;rw[hs];show wpAny _ _ (spliced ((false,eval e X.env)::backTo pos (starEach es X.env))) _ _ s;refine Calls.spliced_cons (thn (ha pins s σ H _ I h) fun u s1 ⟨x,H1,I1,r1,q1⟩=> ?_);exact thn (hr pos pins s1 σ H1 _ I1 q1) fun us s2 ⟨xs,H2,I2,r2,q2⟩=>⟨x::xs,H2,I2,.cons r1 r2,q2⟩
def SJ (t:TA):TE:=fun σ H Q=>t σ H fun xs H1=>xs.length<=sizeLine/\∀p,H1 p=none->Q (.ref p) (upd H1 p (.tup xs))
def RO (t:TA):TE:=fun σ H Q=>t σ H fun xs H1=>xs.length<=sizeLine/\∀p,H1 p=none->Q (.ref p) (upd H1 p (.lst xs))
theorem oH {x1}(h:PA X es t):PE X (.Tuple es x1 pos) (SJ t):=by
 intro pins s σ H Q I hq;refine wpAny_Tuple_spliced (thn (h pos pins s σ H _ I hq) fun us s1 ⟨xs,H1,I1,r,z,q⟩=>⟨by rw[←r.length];exact z,?_⟩);have hf:H1 s1.heap.objs.size=none:=I1.hok.fresh (Nat.le_refl _);refine⟨.ref s1.heap.objs.size,upd H1 s1.heap.objs.size (.tup xs),I1.laid (t':=s1.toks) (fun b u e=>Heap.get?_push_of_some _ e) (Nat.le_refl _) ?_,rfl,q _ hf⟩;exact⟨z,us,r,⟨_,Heap.get?_push_size _ rfl,rfl,_,rfl⟩⟩
theorem b6 (h:PA X es t):PE X (.List es pos) (RO t):=by
 intro pins s σ H Q I hq;refine wpAny_List_spliced (thn (h pos pins s σ H _ I hq) fun us s1 ⟨xs,H1,I1,r,z,q⟩=>⟨by rw[←r.length];exact z,?_⟩);have hf:H1 s1.heap.objs.size=none:=I1.hok.fresh (Nat.le_refl _);refine⟨.ref s1.heap.objs.size,upd H1 s1.heap.objs.size (.lst xs),I1.laid (t':=s1.toks) (fun b u e=>Heap.get?_push_of_some _ e) (Nat.le_refl _) ?_,rfl,q _ hf⟩;exact⟨z,us,0,r,Heap.get?_push_size _ rfl⟩
end
abbrev Sp:=List V->Hp->VK->XK->Prop
abbrev CXT:=List Env->Hp->Shared->XK->Value->Shared->Prop
structure Env0 (P:Program)(w:World)(K:PySem.W.Frag)(mg:Str->Option Value)(base:Heap)(A:Around)(outer:List Env)(s:Shared)(H:Hp):Prop where
 frames:A.frames=some outer
 mod:Mod K mg base
 bs:∀b o,base.get? b=some o->s.heap.get? b=some o/\H b=none
 bsz:base.objs.size<=s.heap.objs.size
 funs:s.heap.FunFrames base outer
 frf:∀b∈frs outer,H b=none
 hok:HOk P w H s.heap
 bare:AllBare s.gens
def CE (outer:List Env)(P:Program)(w:World)(H:Hp)(s:Shared)(Q:VK)(u:Value)(s':Shared):Prop :=
 ∃v H',s'.os=s.os/\AllBare s'.gens/\Un (frs outer) [] H H' s.heap s'.heap/\HOk P w H' s'.heap/\RelV v u/\Q v H'
def CR (CX:CXT)(outer:List Env)(P:Program)(w:World)(H:Hp)(s:Shared)(Q:VK)(E:XK)(r:Result)(s':Shared):Prop :=
 match r with
 | .ok (.ret u)=>CE outer P w H s Q u s'
 | .ok _=>False
 | .error e=>CX outer H s E e s'
structure FnOk (P:Program)(w:World)(K:PySem.W.Frag)(mg:Str->Option Value)(base:Heap)(CX:CXT)(k:Nat)(f:Addr)(fd:FuncData)(ps:List Str)(sp:Sp):Prop where
 len:∀vs H Q E,sp vs H Q E->vs.length=ps.length
 run:∀(A:Around) (outer:List Env) (s:Shared) (H:Hp) (args:Args) (us:List Value) (vs:List V) (Q:VK) (E:XK),Room k A->Env0 P w K mg base A outer s H->BindsTo s fd args (ps.zip us)->Vals vs us->sp vs H Q E →
  codeAny (model P w) A (.call (.ref f) args) (CR CX outer P w H s Q E) s
theorem FnOk.mono {P:Program}{w:World}{K:PySem.W.Frag}{mg:Str->Option Value}{base:Heap}{CX:CXT}{j k:Nat}{f:Addr}{fd:FuncData}{ps:List Str}{sp:Sp} (F:FnOk P w K mg base CX j f fd ps sp) (h:j<=k) :
  FnOk P w K mg base CX k f fd ps sp:=⟨F.len,fun A outer s H args us vs Q E hr=>F.run A outer s H args us vs Q E (hr.mono h)⟩
theorem Env0.make {P:Program}{w:World}{K:PySem.W.Frag}{mg:Str->Option Value}{base:Heap}{A:Around}{outer:List Env}{s:Shared}{H:Hp} (e:Env0 P w K mg base A outer s H) (C:Addr) (us:List Value) (kw:List (Str×Value)) :
  Env0 P w K mg base (A.under (.builtin "type.__call__" ⟨.ref C::us,kw⟩)) outer s H:=⟨by first|exact e.frames|(simpa [Around.under,Code.envs,Code.isFrame,pushEnvs] using e.frames),e.mod,e.bs,e.bsz,e.funs,e.frf,e.hok,e.bare⟩
section
variable {X:Cx}{pins:List (Addr×Obj)}{σ:St}{H:Hp}{s s':Shared}
theorem Inv.env0 (I:Inv X pins σ H s):Env0 X.prog X.w X.K X.mg X.base X.A X.stack s H :=
 ⟨I.ok.frames,I.ok.mod,I.bs,Nat.le_trans I.ok.bsz I.sz,I.stack,I.stkFree,I.hok,I.bare⟩
theorem Inv.after {Q:VK}{u:Value} (I:Inv X pins σ H s) (h:CE X.stack X.prog X.w H s Q u s'):EP X pins σ Q u s':=by
 obtain⟨v,H',os,bare,un,hok,r,q⟩:=h;obtain⟨hh,g,d,t,os'⟩:=s';obtain rfl:os'=s.os:=os;exact⟨v,H',I.call (h':=hh) (g':=g) (d':=d) (t':=t) (ch:=[]) un hok bare (fun b z=>absurd z (by simp)),r,q⟩
end
def lV (sp:Sp)(dvs:List V)(E:XK)(t:TA):TE:=fun σ H Q=>t σ H fun vs H1=>sp (vs++dvs) H1 Q E
def ET (C:Addr)(sp:Sp)(dvs:List V)(E:XK)(t:TA):TE:=fun σ H Q=>t σ H fun vs H1=>∀x dx,H1 x=none->H1 dx=none->dx≠x →
 sp (.ref x::(vs++dvs)) (upd (upd H1 dx (.own x)) x (.ins C dx [])) (fun v H2=>v= .non/\Q (.ref x) H2) E
def Binds (K:PySem.W.Frag)(fd:FuncData)(ps:List Str)(ds:List Value):Prop :=
 ∀(s:Shared) (us:List Value),K.In s.heap->(us++ds).length=ps.length->BindsTo s fd ⟨us,[]⟩ (ps.zip (us++ds))
theorem Binds.all {K:PySem.W.Frag}{fd:FuncData}{ps:List Str} (h:∀us:List Value,us.length=ps.length->bindArgs fd ⟨us,[]⟩=pure (ps.zip us)):Binds K fd ps []:=fun s us _ hl=>by
 rw[List.append_nil]at hl ⊢;exact .of_eq (h us hl)
def iO (CX:CXT)(X:Cx)(E:XK):Prop:=∀(pins:List (Addr×Obj)) (σ:St) (H:Hp) (s:Shared) (e:Value) (s':Shared),Inv X pins σ H s->CX X.stack H s E e s'->X.xe e s'
section
variable {X:Cx}{CX:CXT}{k:Nat}{f C:Addr}{fd:FuncData}{ps:List Str}{sp:Sp}{dvs:List V}{ds:List Value}{E:XK}{x m:Str}{p pos apos:Pos}{e o:Expr}{es:List Expr}{ta:TE}{t:TA}
theorem oK {pins:List (Addr×Obj)}{σ:St}{H:Hp}{s:Shared}{Q:VK}{us:List Value}{vs:List V} (F:FnOk X.prog X.w X.K X.mg X.base CX k f fd ps sp) (hr:Room k X.A) (hb:Binds X.K fd ps ds) (hd:Vals dvs ds) (hx:iO CX X E)
  (I:Inv X pins σ H s)(r:Vals vs us)(h:sp (vs++dvs) H Q E):wpAny (model X.prog X.w) X.A (call (.ref f) us) (EP X pins σ Q) X.xe s:=by
 have r2:Vals (vs++dvs) (us++ds):=r.append hd;have hl:(us++ds).length=ps.length:=by rw[←r2.length];exact F.len _ _ _ _ h
 refine wpAny_call (codeAny_mono (F.run X.A X.stack s H ⟨us,[]⟩ (us++ds) (vs++dvs) Q E hr I.env0 (hb s us I.kIn hl) r2 h) fun r s' hq=> ?_);cases r with
 | error e=>exact hx pins σ H s e s' I hq
 | ok fl =>
  cases fl with
  | ret u=>exact I.after hq
  | next=>exact False.elim hq
  | brk=>exact False.elim hq
  | cont=>exact False.elim hq
theorem C7 (F:FnOk X.prog X.w X.K X.mg X.base CX k f fd ps sp)(hr:Room k X.A)(hg:Gl X x)(hm:X.mg x=some (.ref f))(hk:PySem.W.keepIn X.K (.ref f)=true)(hb:Binds X.K fd ps ds)(hd:Vals dvs ds)(hx:iO CX X E)
  (ha:PA X (e::es) t)(hdb:(x==("__debug__" :Str))=false:=by decide)(he:starEach (e::es) X.env=(false,eval e X.env)::starEach es X.env:=by rfl)(hpl:(backTo pos (starEach es X.env)).any (·.1)=false:=by rfl) :
  PE X (.Call (.Name x p) (e::es) [] pos) (lV sp dvs E t):=by
 intro pins s σ H Q I h;refine wpAny_Call_Name_kw (iF I hg hm ?_ hdb);refine PySem.W.callWith_K (h₀:=X.base) I.ok.mod.kin hk (thn (ha pos pins s σ H _ I h) fun us s1 ⟨vs,H1,I1,r,q⟩=>⟨I1.kIn,?_⟩) he hpl;exact oK F hr hb hd hx I1 r q
structure Mk (K:PySem.W.Frag)(C f:Addr):Prop where
 makes:PySem.W.makesIn K C=true
 init:PySem.W.findIn K (.ref C) "__init__" =some (some (.ref f))
 fn:PySem.W.isFn K (.ref f)=true
 kp:PySem.W.keepIn K (.ref C)=true
theorem KP {pins:List (Addr×Obj)}{σ:St}{H:Hp}{s:Shared}{Q:VK}{us:List Value}{vs:List V} (M:Mk X.K C f) (F:FnOk X.prog X.w X.K X.mg X.base CX k f fd ps sp) (hr:Room (k+1) X.A) (hb:Binds X.K fd ps ds) (hd:Vals dvs ds)
  (hx:iO CX X E)(I:Inv X pins σ H s)(r:Vals vs us)
  (h:∀x dx,H x=none->H dx=none->dx≠x->sp (.ref x::(vs++dvs)) (upd (upd H dx (.own x)) x (.ins C dx [])) (fun v H2=>v= .non/\Q (.ref x) H2) E) :
  wpAny (model X.prog X.w) X.A (call (.ref C) us) (EP X pins σ Q) X.xe s:=by
 have hq:=h (s.heap.objs.size+1) s.heap.objs.size (I.hok.fresh (Nat.le_succ _)) (I.hok.fresh (Nat.le_refl _)) (Nat.ne_of_lt (Nat.lt_succ_self _));have I2:=Inv.made (C:=C) I;have r2:Vals (V.ref (s.heap.objs.size+1)::(vs++dvs)) (Value.ref (s.heap.objs.size+1)::(us++ds)):= .cons rfl (r.append hd);have hl:(Value.ref (s.heap.objs.size+1)::us++ds).length=ps.length:=by
  have e:=r2.length;rw[F.len _ _ _ _ hq]at e;exact e.symm
 refine wpAny_call (J9 (f:=f) I.kIn M.makes M.init (beq_iff_eq.mp M.fn) (codeAny_mono (F.run _ X.stack _ _ ⟨Value.ref (s.heap.objs.size+1)::us,[]⟩ (Value.ref (s.heap.objs.size+1)::(us++ds)) _ _ E (hr.make C us [])
  (I2.env0.make C us []) (hb _ (Value.ref (s.heap.objs.size+1)::us) I2.kIn hl) r2 hq) fun r s' hq'=> ?_))
 cases r with
 | error e=>exact hx pins σ _ _ e s' I2 hq'
 | ok fl =>
  cases fl with
  | ret u =>
   obtain⟨v,H',I3,rv,ev,q3⟩:=I2.after hq';subst ev;exact⟨rv,⟨V.ref (s.heap.objs.size+1),H',I3,rfl,q3⟩⟩
  | next=>exact False.elim hq'
  | brk=>exact False.elim hq'
  | cont=>exact False.elim hq'
theorem N2 (M:Mk X.K C f)(F:FnOk X.prog X.w X.K X.mg X.base CX k f fd ps sp)(hr:Room (k+1) X.A)(hg:Gl X x)(hm:X.mg x=some (.ref C))(hb:Binds X.K fd ps ds)(hd:Vals dvs ds)(hx:iO CX X E)
  (ha:PA X (e::es) t)(hdb:(x==("__debug__" :Str))=false:=by decide)(he:starEach (e::es) X.env=(false,eval e X.env)::starEach es X.env:=by rfl)(hpl:(backTo pos (starEach es X.env)).any (·.1)=false:=by rfl) :
  PE X (.Call (.Name x p) (e::es) [] pos) (ET C sp dvs E t):=by
 intro pins s σ H Q I h;refine wpAny_Call_Name_kw (iF I hg hm ?_ hdb);refine PySem.W.callWith_K (h₀:=X.base) I.ok.mod.kin M.kp (thn (ha pos pins s σ H _ I h) fun us s1 ⟨vs,H1,I1,r,q⟩=>⟨I1.kIn,?_⟩) he hpl;exact KP M F hr hb hd hx I1 r q
end
section
variable {X:Cx}{CX:CXT}{k:Nat}{f C:Addr}{fd:FuncData}{ps ks:List Str}{sp:Sp}{E:XK}{x m:Str}{p pos apos kpos:Pos}{e o:Expr}{es:List Expr}{kws:List Keyword}{te ta:TE}{t tk:TA}{nm:Option Str}
variable {g:List Value->List Value->List Value}{gV:List V->List V->List V}
end
structure aQ (N P:List Str)(sc:Scope):Prop where
 kind:sc.kind= .function
 co:sc.isCoroutine=false
 gen:sc.isGenerator=false
 nd:N.Nodup
 pre:N.take P.length=P
 par:∀x∈P,sc.names.lookup x=some .local∨sc.names.lookup x=some .cell
 nofree:∀y∈sc.names,y.2≠ .free
theorem wZ {kindOf:Str->Option NameKind}{x:Str}:∀{binds:List (Str×Value)}{m:Str->Option Value},(∀v,(x,v)∉binds)->bindL kindOf binds m x=m x
 | [],_,_=>rfl
 | (n,v)::r,m,h=>by
  unfold bindL;rw[wZ fun w hw=>h w (List.mem_cons_of_mem _ hw)]
  split
  ·have:x≠n:=by rintro rfl;exact h v List.mem_cons_self
   simp[this]
  ·rfl
theorem xB {kindOf:Str->Option NameKind}{x:Str}:∀{binds:List (Str×Value)}{m:Str->Option Value},(∀v,(x,v)∉binds)->bindC kindOf binds m x=m x
 | [],_,_=>rfl
 | (n,v)::r,m,h=>by
  unfold bindC;rw[xB fun w hw=>h w (List.mem_cons_of_mem _ hw)]
  split
  ·rfl
  ·have:x≠n:=by rintro rfl;exact h v List.mem_cons_self
   simp[this]
theorem wV {kindOf:Str->Option NameKind}{x:Str}{v:Value}:∀{P:List Str}{vs:List Value}{i:Nat}{m:Str->Option Value},P.Nodup->P[i]? =some x->vs[i]? =some v->kindOf x=some .local →
  bindL kindOf (P.zip vs) m x=some v
 | [],_,_,_,_,h,_,_=>by simp at h
 | _::_,[],_,_,_,_,h,_=>by simp at h
 | p::P,w::vs,0,m,nd,h1,h2,hk=>by
  simp at h1 h2;subst h1;subst h2;show bindL kindOf ((p,w)::P.zip vs) m p=_;unfold bindL;rw[wZ fun v hv=>(List.nodup_cons.mp nd).1 (List.of_mem_zip hv).1,if_pos hk];simp
 | p::P,w::vs,i+1,m,nd,h1,h2,hk=>by
  show bindL kindOf ((p,w)::P.zip vs) m x=_;unfold bindL;exact wV (i:=i) (List.nodup_cons.mp nd).2 (by simpa using h1) (by simpa using h2) hk
theorem wT {kindOf:Str->Option NameKind}{x:Str}{v:Value}:∀{P:List Str}{vs:List Value}{i:Nat}{m:Str->Option Value},P.Nodup->P[i]? =some x->vs[i]? =some v->kindOf x≠some .local →
  bindC kindOf (P.zip vs) m x=some v
 | [],_,_,_,_,h,_,_=>by simp at h
 | _::_,[],_,_,_,_,h,_=>by simp at h
 | p::P,w::vs,0,m,nd,h1,h2,hk=>by
  simp at h1 h2;subst h1;subst h2;show bindC kindOf ((p,w)::P.zip vs) m p=_;unfold bindC;rw[xB fun v hv=>(List.nodup_cons.mp nd).1 (List.of_mem_zip hv).1,if_neg hk];simp
 | p::P,w::vs,i+1,m,nd,h1,h2,hk=>by
  show bindC kindOf ((p,w)::P.zip vs) m x=_;unfold bindC;exact wT (i:=i) (List.nodup_cons.mp nd).2 (by simpa using h1) (by simpa using h2) hk
def jW (N:List Str)(vs:List V):St:=vs.map some++List.replicate (N.length - vs.length) none
def eX (CX:CXT)(P:Program)(w:World)(K:PySem.W.Frag)(mg:Str->Option Value)(base:Heap)(N:List Str)(qual:Str)(scope:Scope)(f:Addr)(cd:Value)(A:Around)(outer:List Env)(s:Shared)(H:Hp)(E:XK):Cx where
 prog:=P
 w:=w
 K:=K
 mg:=mg
 base:=base
 A:=A.deeper (envOfC qual scope s.heap.objs.size f cd)
 N:=N
 s₀:=s
 H₀:=H
 env:=envOfC qual scope s.heap.objs.size f cd
 outer:=outer
 stack:=envOfC qual scope s.heap.objs.size f cd::outer
 ex:=[]
 calm:=true
 fn:=fun _=>true
 pn:=[]
 xe:=fun e s'=>wpAny (model P w) (A.deeper (envOfC qual scope s.heap.objs.size f cd)) (leaving (envOfC qual scope s.heap.objs.size f cd) e) (fun _ s''=>CX outer H s E e s'') (fun e' s''=>CX outer H s E e' s'') s'
theorem sY {sc:Scope}{n:Nat}{x:Str} (h:sc.names.lookup x=some .cell):∃c,(cellsFrom n sc.names []).lookup x=some c:=by
 have q:=PySem.W.cellsFrom_some sc.names n [] (.inl h);exact Option.isSome_iff_exists.mp q
theorem HZ {CX:CXT}{P:Program}{w:World}{K:PySem.W.Frag}{mg:Str->Option Value}{base:Heap}{N ps:List Str}{qual:Str}{scope:Scope}{f:Addr}{cd:Value}{A:Around}{outer:List Env}{s s1:Shared}{H:Hp}{E:XK}{us:List Value}{vs:List V}
  (S:aQ N ps scope)(hd:A.handled=none)(e0:Env0 P w K mg base A outer s H)(hl:vs.length=ps.length)(r:Vals vs us)
  (x:InCallC s s.heap.objs.size (bindL (envOfC qual scope s.heap.objs.size f cd).kindOf (ps.zip us) fun _=>none) (cellsFrom (s.heap.objs.size+1) scope.names []) (bindC (envOfC qual scope s.heap.objs.size f cd).kindOf (ps.zip us) fun _=>none) s1) :
  Inv (eX CX P w K mg base N qual scope f cd A outer s H E) [] (jW N vs) H s1:=by
 have hpl:ps.length<=N.length:=by have:=congrArg List.length S.pre;rw[List.length_take]at this;lia
 obtain⟨h1,tk,rfl,hk⟩:=x.done;have noA:∀b:Addr,b∉(eX CX P w K mg base N qual scope f cd A outer s H E).ex:=fun b z=>absurd (show b∈([]:List Addr) from z) (by simp);refine⟨⟨e0.mod,S.kind,rfl,rfl,Nat.le_refl _,fun y z c h1 h2=> ?_,fun y hy=> ?_,fun y c _ h=> ?_,fun _=>hd,Around.frames_deeper e0.frames,.inr ⟨rfl,rfl⟩,fun b z=>absurd z (noA b),e0.bs,e0.bsz,fun b _ _=>noA b,fun b z=>absurd z (noA b),e0.funs,e0.frf⟩,
  rfl,e0.bare,Un.kept hk,⟨_,x.toInCall.ns,fun i y v h1 h2 h3=> ?_⟩,fun y c h=>⟨_,x.cell y c h⟩,e0.hok.fresh (Nat.le_refl _),fun y c h=> ?_,fun p hp=>absurd (show p∈([]:List (Addr×Obj)) from hp) (by simp),e0.hok.kept hk,?_⟩
 ·exact name_of_addr x.apart (PySem.mem_of_lookup h1) (PySem.mem_of_lookup h2)
 ·have hy:scope.names.lookup y=some .cell∨scope.names.lookup y=some .free:=hy;rcases hy with hy|hy
  ·exact sY hy
  ·exact absurd rfl (S.nofree _ (PySem.mem_of_lookup hy))
 ·exact Nat.le_of_lt (x.above y c (PySem.mem_of_lookup h))
 ·have hi:i<vs.length:=by
   unfold jW at h2
   by_cases hi:i<vs.length
   ·exact hi
   ·rw[List.getElem?_append_right (by simpa using hi)]at h2;rw[List.getElem?_replicate]at h2
    split at h2<;>cases h2
  have ha:vs[i]? =some v:=by
   unfold jW at h2;rw[List.getElem?_append_left (by simpa using hi),List.getElem?_map]at h2;cases e:vs[i]? with
   | none=>rw[e]at h2;cases h2
   | some a=>rw[e]at h2;cases h2;rfl
  obtain⟨u,hu,rv⟩:=r.get ha;have hp:ps[i]? =some y:=by
   rw[←S.pre,List.getElem?_take_of_lt (by lia)];exact h1
  have ndP:ps.Nodup:=by rw[←S.pre];exact S.nd.sublist (List.take_sublist _ _)
  refine⟨u,rv,?_⟩;rcases S.par y (List.mem_of_getElem? hp) with k|k
  ·exact .inl ⟨k,wV ndP hp hu k⟩
  ·obtain⟨c,e⟩:=sY (n:=s.heap.objs.size+1) k;refine .inr ⟨.inl k,c,e,?_⟩;have q:=x.cell y c e;rw[wT ndP hp hu (by show scope.names.lookup y≠_;rw[k];decide)]at q;exact q
 ·exact e0.hok.fresh (Nat.le_of_lt (x.above y c (PySem.mem_of_lookup h)))
 ·unfold jW;show _=N.length;rw[List.length_append,List.length_map,List.length_replicate]
  lia
theorem LG {CX:CXT}{P:Program}{w:World}{K:PySem.W.Frag}{mg:Str->Option Value}{base:Heap}{k:Nat}{f:Addr}{name qual:Str}{params:Arguments}{body:List Stmt}{scope:Scope}{dV kV doc pm cdv ct oc:Value}{an od:Option Addr}
  {osl:Array (Option Value)}{N ps:List Str}{sp:Sp} (lk:K.lookup f=some ⟨oc,od,.func (PySem.W.fnOf name qual params body scope dV kV doc pm an cdv ct),osl⟩) (hcd:PySem.W.codeIn K cdv qual=true) (S:aQ N ps scope)
  (len:∀vs H Q E,sp vs H Q E->vs.length=ps.length)
  (hbody:∀(A:Around) (outer:List Env) (s:Shared) (H:Hp) (vs:List V) (Q:VK) (E:XK),Room k (A.deeper (envOfC qual scope s.heap.objs.size f cdv))->sp vs H Q E →
   ∃t,PSs (eX CX P w K mg base N qual scope f cdv A outer s H E) body t/\t { nx:=fun _ H'=>Q .non H',rt:=Q } (jW N vs) H) :
  FnOk P w K mg base CX (k+1) f (PySem.W.fnOf name qual params body scope dV kV doc pm an cdv ct) ps sp:=by
 refine⟨len,fun A outer s H args us vs Q E hr e0 hb r hsp=> ?_⟩;have hl:=len _ _ _ _ hsp;have KX:K.In s.heap:=e0.mod.kin.keeps fun b o e=>(e0.bs b o e).1;have lim:s.heap.NoLimit:=e0.mod.nolimit.keeps fun b o e=>(e0.bs b o e).1;have hkind:∀y∈ps.zip us,scope.names.lookup y.1=some .local∨(scope.names.lookup y.1=some .cell/\((cellsFrom (s.heap.objs.size+1) scope.names []).lookup y.1).isSome=true):=fun⟨n,v⟩ hy=>by
  rcases S.par n (List.of_mem_zip hy).1 with q|q
  ·exact .inl q
  ·exact .inr ⟨q,PySem.W.cellsFrom_some _ _ _ (.inl q)⟩
 refine codeAny_call_function hr.depth (KX _ _ lk) rfl S.co S.gen rfl (PySem.W.codeRec_of KX hcd) (hb _ _ _ _ ?_);refine wpAny_newFunctionEnv_cells S.kind hkind fun env he s1 x=> ?_;subst he;refine⟨lim.keeps x.toInCall.keep,codeAny_func ?_⟩;obtain⟨t,ht,hq⟩:=hbody A outer s H vs Q E (hr.deeper _) hsp;have I:Inv (eX CX P w K mg base N qual scope f cdv A outer s H E) [] (jW N vs) H s1:=HZ S hr.hd e0 hl r x;refine wpAny_mono (ht [] s1 (jW N vs) H _ I hq) (fun fl s' hs=> ?_) fun e s' hs=>hs;have fin:∀{σ':St}{H':Hp}{v:V}{u:Value},Inv (eX CX P w K mg base N qual scope f cdv A outer s H E) [] σ' H' s'->RelV v u->Q v H'->CE outer P w H s Q u s' :=
  fun {σ' H' v u} J rv q=>⟨v,H',J.os,J.bare,J.base,J.hok,rv,q⟩
 cases fl with
 | ret u =>
  obtain⟨v,σ',H',J,rv,q⟩:=hs;exact fin J rv q
 | next =>
  obtain⟨σ',H',J,q⟩:=hs;exact fin (v:=V.non) (u:=Value.none) J rfl q
 | brk =>
  obtain⟨_,_,_,q⟩:=hs;exact False.elim q
 | cont =>
  obtain⟨_,_,_,q⟩:=hs;exact False.elim q
end L2
namespace L2
open PySem PySem.Spec PyProof.Rows
section
variable {X:Cx}{x:Str}{p pos:Pos}{e:Expr}{es:List Expr}{t:TA}{id T:String}{r:List V->Hp->VK->Prop}
def tCB (r:List V->Hp->VK->Prop)(t:TA):TE:=fun σ H Q=>t σ H fun vs H1=>r vs H1 Q
theorem bU (hc:dA X (.builtin id) r)(hg:Gl X x)(hm:X.mg x=none)(hv:bootBuiltins x=some (.builtin id))(ha:PA X (e::es) t)(hn:x≠ "__name__" :=by decide)(hdb:(x==("__debug__" :Str))=false:=by decide)
  (he:starEach (e::es) X.env=(false,eval e X.env)::starEach es X.env:=by rfl)(hpl:(backTo pos (starEach es X.env)).any (·.1)=false:=by rfl):PE X (.Call (.Name x p) (e::es) [] pos) (tCB r t):=by
 intro pins s σ H Q I h;refine wpAny_Call_Name_kw (qQ I hg hm hv ?_ hn hdb);exact PyProof.Rows.callWith_builtin1 (thn (ha pos pins s σ H _ I h) fun us s1 ⟨vs,H1,I1,r1,q1⟩=>hc pins s1 σ H1 vs us Q I1 r1 q1) he hpl
theorem bW (hc:dA X (.type T) r)(hg:Gl X x)(hm:X.mg x=none)(hv:bootBuiltins x=some (.type T))(ha:PA X (e::es) t)(hn:x≠ "__name__" :=by decide)(hdb:(x==("__debug__" :Str))=false:=by decide)
  (he:starEach (e::es) X.env=(false,eval e X.env)::starEach es X.env:=by rfl)(hpl:(backTo pos (starEach es X.env)).any (·.1)=false:=by rfl):PE X (.Call (.Name x p) (e::es) [] pos) (tCB r t):=by
 intro pins s σ H Q I h;refine wpAny_Call_Name_kw (qQ I hg hm hv ?_ hn hdb);exact PyProof.Rows.callWith_type1 (thn (ha pos pins s σ H _ I h) fun us s1 ⟨vs,H1,I1,r1,q1⟩=>hc pins s1 σ H1 vs us Q I1 r1 q1) he hpl
end
end L2
namespace HT
open PySem PyProof.Rows
section
open PySem.SeqAt
open PySem.AutoSeq1 (wpAny_loadPart')
open PySem.MeetsSeq PySem.MeetsSeq2 PySem.MeetsSeq3
end
section
variable {prog:Program}{w:World}{A:Around}{E:Value->Shared->Prop}{s:Shared}
def sIx (n d:Nat):Option Int->Nat
 | none=>d
 | some v=>if v<0 then (v+(n:Int)).toNat else min v.toNat n
theorem sIx_none (n d:Nat):sIx n d none=d:=rfl
theorem sIx_nat (n d k:Nat):sIx n d (some (k:Int))=min k n:=by
 show (if (k:Int)<0 then ((k:Int)+(n:Int)).toNat else min (k:Int).toNat n)=min k n;rw[if_neg (by lia),Int.toNat_natCast]
end
end HT
namespace L2
open PySem PySem.Spec PyProof.Rows
abbrev TO:=St->Hp->(Option Int->Hp->Prop)->Prop
def PO (X:Cx)(e:Option Expr)(t:TO):Prop :=
 ∀(pins:List (Addr×Obj)) (s:Shared) (σ:St) (H:Hp) (Q:Option Int->Hp->Prop),Inv X pins σ H s->t σ H Q →
  wpAny (model X.prog X.w) X.A (evalPart e X.env) (fun u s'=>∃o H',Inv X pins σ H' s'/\IsPart u o/\Q o H') X.xe s
def DJ:TO:=fun _ H Q=>Q none H
def LD (t:TE):TO:=fun σ H Q=>t σ H fun x H1=>∃i,x= .int i/\Q (some i) H1
section
variable {X:Cx}{e:Expr}{te:TE}{lo hi:Option Expr}{tl th:TO}{pos p2:Pos}
theorem jJ:PO X none DJ:=by
 intro pins s σ H Q I h;rw[evalPart_none];exact wpAny_pure ⟨none,H,I,.none,h⟩
theorem gE (h:PE X e te):PO X (some e) (LD te):=by
 intro pins s σ H Q I hw;rw[evalPart_some];refine thn (h pins s σ H _ I hw) fun u s1 ⟨x,H1,I1,r1,q1⟩=> ?_;obtain⟨i,rfl,q⟩:=q1;obtain⟨t,rfl⟩:=r1;exact⟨some i,H1,I1,.int i t,q⟩
def SlR (X:Cx)(r:V->Option Int->Option Int->Hp->VK->Prop):Prop :=
 ∀(pins:List (Addr×Obj)) (s:Shared) (σ:St) (H:Hp) (x:V) (v vl vu:Value) (lo hi:Option Int) (sl:Addr) (Q:VK),Inv X pins σ H s->RelV x v->s.heap.IsSliceOf sl vl vu .none->IsPart vl lo->IsPart vu hi->r x lo hi H Q →
  ∃T id,typeLookup (.type T) "__getitem__" =pure (some (.builtin id))/\s.TypeIs v T/\wpAny (model X.prog X.w) X.A (getItem v (.ref sl)) (EP X pins σ Q) X.xe s
def tSl (r:V->Option Int->Option Int->Hp->VK->Prop)(te:TE)(tl th:TO):TE:=fun σ H Q=>te σ H fun x H1=>tl σ H1 fun l H2=>th σ H2 fun u H3=>r x l u H3 Q
theorem fM {r:V->Option Int->Option Int->Hp->VK->Prop}(hr:SlR X r)(he:PE X e te)(hl:PO X lo tl)(hu:PO X hi th):PE X (.Subscript e (.Slice lo hi none p2) pos) (tSl r te tl th):=by
 intro pins s σ H Q I h;refine Subscript_ (thn (he pins s σ H _ I h) fun v s1 ⟨x,H1,I1,r1,q1⟩=> ?_);refine wpAny_Slice (thn (hl pins s1 σ H1 _ I1 q1) fun vl s2 ⟨l,H2,I2,pl,q2⟩=>thn (hu pins s2 σ H2 _ I2 q2) fun vu s3 ⟨u,H3,I3,pu,q3⟩=> ?_);rw[evalPart_none];refine wpAny_pure ?_;have I4:Inv X pins σ H3 { s3 with heap:=s3.heap.push { cls:= .type "slice",data:= .fields #[vl,vu,.none] } }:=I3.kept (t':=s3.toks) fun b ob q=>Heap.get?_push_of_some _ q;obtain⟨T,id,hT,ht,hg⟩:=hr pins { s3 with heap:=s3.heap.push { cls:= .type "slice",data:= .fields #[vl,vu,.none] } } σ H3 x v vl vu l u s3.heap.objs.size Q I4 r1 (Heap.IsSliceOf.new ..) pl pu q3;show wpAny (model X.prog X.w) X.A (subscriptTail e (.Slice lo hi none p2) v (.ref s3.heap.objs.size)) (EP X pins σ Q) X.xe { s3 with heap:=s3.heap.push { cls:= .type "slice",data:= .fields #[vl,vu,.none] } };exact tail_any (ops:=[.ref s3.heap.objs.size,v]) ht hT hg (by with_unfolding_all rfl)
def gJ (xs:List V)(lo hi:Option Int):List V:=(xs.drop (HT.sIx xs.length 0 lo)).take (HT.sIx xs.length xs.length hi - HT.sIx xs.length 0 lo)
theorem B8 (xs:List V)(lo hi:Option Int):(gJ xs lo hi).length<=xs.length:=by
 unfold gJ;rw[List.length_take,List.length_drop]
 lia
end
end L2
namespace L2
open PySem PySem.Spec PyProof.Rows
def ixN (n:Nat)(i:Int):Option Nat:=if 0<=i then (if i<n then some i.toNat else none) else if -(n:Int)<=i then some (i+n).toNat else none
def atI {α:Type}(xs:List α)(i:Int):Option α:=(ixN xs.length i).bind fun j=>xs[j]?
theorem L3 {n:Nat}{i:Int}{j:Nat} (h:ixN n i=some j):seqIndex? i n=some j/\j<n/\ -(n:Int)<=i/\i<n:=by
 unfold ixN at h
 by_cases h0:0<=i
 ·rw[if_pos h0]at h
  by_cases h1:i<n
  ·rw[if_pos h1]at h;have e:i.toNat=j:=Option.some.inj h;exact⟨by rw[seqIndex_of h0 h1,e],by lia,by lia,h1⟩
  ·rw[if_neg h1]at h;cases h
 ·rw[if_neg h0]at h
  by_cases h1: -(n:Int)<=i
  ·rw[if_pos h1]at h;have e:(i+n).toNat=j:=Option.some.inj h;exact⟨by rw[seqIndex_neg (by lia) h1,e],by lia,h1,by lia⟩
  ·rw[if_neg h1]at h;cases h
theorem DF {α:Type}{xs:List α}{i:Int}{v:α} (h:atI xs i=some v):∃j,seqIndex? i xs.length=some j/\xs[j]? =some v/\j<xs.length/\ -(xs.length:Int)<=i/\i<xs.length:=by
 unfold atI at h;cases e:ixN xs.length i with
 | none=>rw[e]at h;cases h
 | some j =>
  rw[e]at h;obtain⟨h1,h2,h3,h4⟩:=L3 e;exact⟨j,h1,h,h2,h3,h4⟩
theorem f8 {α:Type}{xs:List α}{j:Nat}{v:α} (h:xs[j]? =some v):atI xs (j:Int)=some v:=by
 have hj:j<xs.length:=(List.getElem?_eq_some_iff.mp h).1;have e:ixN xs.length (j:Int)=some j:=by
  unfold ixN;rw[if_pos (by lia),if_pos (by lia)];simp
 unfold atI;rw[e];exact h
def MZ (b:Expr):Prop:=∀o i,subscripted b false o i=operate [o,i] (getItem o i)
def IxR (X:Cx)(r:R2):Prop :=
 ∀(value slice:Expr) (pins:List (Addr×Obj)) (s:Shared) (σ:St) (H:Hp) (x y:V) (v u:Value) (Q:VK),Inv X pins σ H s->RelV x v->RelV y u->r x y H Q →
  subscripted slice false v u=operate [v,u] (getItem v u)->wpAny (model X.prog X.w) X.A (subscriptTail value slice v u) (EP X pins σ Q) X.xe s
def MtR (X:Cx)(id:String)(r:V->List V->Hp->VK->Prop):Prop :=
 ∀(pins:List (Addr×Obj)) (s:Shared) (σ:St) (H:Hp) (x:V) (xs:List V) (v:Value) (us:List Value) (Q:VK),Inv X pins σ H s->RelV x v->Vals xs us->r x xs H Q →
  wpAny (model X.prog X.w) X.A (call (.builtin id) (v::us)) (EP X pins σ Q) X.xe s
section
variable {X:Cx}{a b:Expr}{ta tb:TE}{pos:Pos}
theorem bK {r:R2}(hr:IxR X r)(ha:PE X a ta)(hb:PE X b tb)(hs:MZ b):PE X (.Subscript a b pos) (tOp r ta tb):=by
 intro pins s σ H Q I h;exact Subscript_ (JE ha hb I h fun v u s2 x y H2 I2 rx ry q=>hr a b pins s2 σ H2 x y v u Q I2 rx ry q (hs _ _))
def nH (K:PySem.W.Frag):R2:=fun x y H Q=>∃p xs i v,x= .ref p/\y= .int i/\SqL K H p xs/\atI xs i=some v/\Q v H
def UU:R2:=fun x y H Q=>∃z i c,x= .str z/\y= .int i/\z.length<=sizeLine/\atI z.cps.toList i=some c/\Q (.str ⟨#[c]⟩) H
theorem aZ:IxR X (nH X.K):=by
 intro value slice pins s σ H x y v u Q I rx ry h hs;obtain⟨p,xs,i,z,rfl,rfl,hq,he,q⟩:=h;cases rx;obtain⟨t,rfl⟩:=ry;obtain⟨its,r,pl,hz⟩:=I.list hq;obtain⟨j,h1,h2,h3,h4,h5⟩:=DF he;obtain⟨w,ew,rw'⟩:=r.get h2;have hl:=r.length;have hn:=uG;have fin:EP X pins σ Q w s:=⟨z,H,I,rw',q⟩
 by_cases h0:0<=i
 ·have hj:i.toNat=j:=by
   rw[seqIndex_of h0 h5]at h1;exact Option.some.inj h1
  exact item_listR pl.isList h0 (by lia) (by rw[hj];simpa using ew) fin hs
 ·have hj:(i+(its.toArray.size:Int)).toNat=j:=by
   rw[seqIndex_neg (by lia) h4]at h1;rw[List.size_toArray,←hl];exact Option.some.inj h1
  exact subscriptTail_builtinR (x:=w) pl.isList.typeIs slot_list_getitem.lookup
   (wpAny_getItem_list_neg (Q:=fun r s'=>r=w/\EP X pins σ Q r s') pl.isList (by lia) (by rw[List.size_toArray]<;>lia) (by lia) (by rw[hj];simpa using ew) ⟨rfl,fin⟩) hs
theorem HB:IxR X UU:=by
 intro value slice pins s σ H x y v u Q I rx ry h hs;obtain⟨z,i,c,rfl,rfl,hz,he,q⟩:=h;obtain⟨t,rfl⟩:=rx;obtain⟨t',rfl⟩:=ry;obtain⟨j,h1,h2,h3,h4,h5⟩:=DF he;have hl:z.cps.toList.length=z.length:=by simp[Str.length]
 rw[hl]at h1 h4 h5;have hn:=uG;exact tail_any (typeIs_str s z t) slot_str_getitem.lookup (getItem_str (c:=c) (by
  have e1:decide (i< -(2^63:Int))=false:=decide_eq_false (by lia);have e2:decide (i≥2^63)=false:=decide_eq_false (by lia);rw[e1,e2,Bool.or_false]) (by rw[h1];simpa using h2) ⟨.str ⟨#[c]⟩,H,I.tok _,⟨_,rfl⟩,q⟩) hs
theorem zF (lo hi:Option Int)(n:Nat):(sliceBounds lo hi none n).1=((HT.sIx n 0 lo:Nat):Int)/\(sliceBounds lo hi none n).2.1=((HT.sIx n n hi:Nat):Int)/\(sliceBounds lo hi none n).2.2=1:=by
 refine⟨?_,?_,rfl⟩
 ·cases lo with
  | none=>simp[sliceBounds,HT.sIx]
  | some i =>
   simp only[sliceBounds,HT.sIx,Option.getD_none,show (1:Int)>0 by decide,if_true]
   by_cases h:i<0
   ·simp only[h,if_true]<;>lia
   ·simp only[h,if_false]<;>lia
 ·cases hi with
  | none=>simp[sliceBounds,HT.sIx]
  | some i =>
   simp only[sliceBounds,HT.sIx,Option.getD_none,show (1:Int)>0 by decide,if_true]
   by_cases h:i<0
   ·simp only[h,if_true]<;>lia
   ·simp only[h,if_false]<;>lia
theorem x6 (its:List Value)(lo hi:Option Int):slicePick its.toArray lo hi none=((its.drop (HT.sIx its.length 0 lo)).take (HT.sIx its.length its.length hi - HT.sIx its.length 0 lo)).toArray:=by
 obtain⟨h1,h2,h3⟩:=zF lo hi its.toArray.size;unfold slicePick;rw[h1,h2,h3];simp only[sliceRange_one,pick_run,List.size_toArray]<;>rfl
def JT (K:PySem.W.Frag):V->Option Int->Option Int->Hp->VK->Prop:=fun x lo hi H Q=>∃a xs,x= .ref a/\SqL K H a xs/\∀p,H p=none->Q (.ref p) (upd H p (.lst (gJ xs lo hi)))
theorem jK:SlR X (JT X.K):=by
 intro pins s σ H x v vl vu lo hi sl Q I rx hs pl pu h;obtain⟨a,xs,rfl,hx,q⟩:=h;cases rx;obtain⟨its,r,ht,hz⟩:=I.list hx;have hlen:=r.length;refine⟨"list",_,slot_list_getitem.lookup,ht.isList.typeIs,?_⟩;refine wpAny_getItem_list_slice ht.isList hs pl pu .none (by simp) ?_ (by rw[List.size_toArray]<;>lia);rw[x6,←hlen];refine⟨.ref s.heap.objs.size,_,I.laid (t':=s.toks) (o:= .lst (gJ xs lo hi)) (fun b ob q=>Heap.get?_push_of_some _ q) (Nat.le_refl _) ?_,rfl,q _ (I.hok.fresh (Nat.le_refl _))⟩;exact⟨Nat.le_trans (B8 xs lo hi) hz,_,0,(r.drop (HT.sIx xs.length 0 lo)).take (HT.sIx xs.length xs.length hi - HT.sIx xs.length 0 lo),Heap.get?_push_size _ rfl⟩
theorem zM:dA X (.builtin "len") (fun xs H Q=>∃p ys,xs=[.ref p]/\(SqL X.K H p ys∨SqT X.K H p ys)/\Q (.int ys.length) H):=by
 intro pins s σ H xs us Q I r h;obtain⟨p,ys,rfl,hq,q⟩:=h;obtain⟨u,rfl,rx⟩:=iU r;cases rx;have hn:=uG;rcases hq with hq|hq
 ·obtain⟨its,r',pl,hz⟩:=I.list hq;have hlen:=r'.length;exact Calls.call_len_list pl.isList (by simp only[List.size_toArray]<;>lia) ⟨.int ys.length,H,I.tok _,⟨s.toks+1,by rw[List.size_toArray,hlen]⟩,q⟩
 ·obtain⟨its,r',pl,hz⟩:=I.tuple hq;have hlen:=r'.length;exact len_tuple pl (by simp only[List.size_toArray]<;>lia) ⟨.int ys.length,H,I.tok _,⟨s.toks+1,by rw[List.size_toArray,hlen]⟩,q⟩
theorem AW:dA X (.builtin "len") (fun xs H Q=>∃z,xs=[.str z]/\z.length<=sizeLine/\Q (.int z.length) H):=by
 intro pins s σ H xs us Q I r h;obtain⟨z,rfl,hz,q⟩:=h;obtain⟨u,rfl,t,rfl⟩:=iU r;have hn:=uG;exact len_str (by lia) ⟨.int z.length,H,I.tok _,⟨_,rfl⟩,q⟩
def tyV (K:PySem.W.Frag)(T:String)(x:V)(H:Hp):Prop:=match x with
 | .str _=>T= "str"
 | .int _=>T= "int"
 | .ref p=>(T= "list" /\∃xs,SqL K H p xs)∨(T= "tuple" /\∃o,K.lookup p=some o/\o.cls= .type "tuple" /\o.dict=none) ∨
   (T= "dict" /\((∃kvs,H p=some (.dK kvs))∨∃kvs,H p=some (.dT kvs)))∨(T= "set" /\∃S n,H p=some (.set S n))
 | _=>False
theorem HR {pins:List (Addr×Obj)}{σ:St}{H:Hp}{s:Shared}{T:String}{x:V}{v:Value} (I:Inv X pins σ H s) (r:RelV x v) (ty:tyV X.K T x H) :
  s.TypeIs v T/\∀a,v= .ref a->∃ob,s.heap.get? a=some ob/\ob.dict=none:=by
 cases x with
 | str z =>
  obtain⟨t,rfl⟩:=r;cases (show T= "str" from ty);exact⟨typeIs_str s z t,fun _ e=>nomatch e⟩
 | int i =>
  obtain⟨t,rfl⟩:=r;cases (show T= "int" from ty);exact⟨typeIs_int s i t,fun _ e=>nomatch e⟩
 | ref p =>
  cases r;rcases ty with⟨rfl,xs,hq⟩|⟨rfl,o,hk,hc,hd⟩|⟨rfl,hk⟩|⟨rfl,S,n,hk⟩
  ·obtain⟨its,_,pl,_⟩:=I.list hq;refine⟨pl.isList.typeIs,fun a e=> ?_⟩;cases e;obtain⟨o,n,e,c,hd,_⟩:=pl;exact⟨o,e,hd⟩
  ·refine⟨⟨o,I.kIn p o hk,hc⟩,fun a e=> ?_⟩;cases e;exact⟨o,I.kIn _ o hk,hd⟩
  ·have z:∃o,s.heap.get? p=some o/\o.ExactDict:=by
    rcases hk with⟨kvs,hk⟩|⟨kvs,hk⟩
    ·obtain⟨_,_,_,_,o,_,_,e,ex,_⟩:=I.hok p _ hk;exact⟨o,e,ex⟩
    ·obtain⟨_,_,_,_,o,_,_,e,ex,_⟩:=I.hok p _ hk;exact⟨o,e,ex⟩
   obtain⟨o,e,ex⟩:=z;refine⟨⟨o,e,ex.1⟩,fun a e2=> ?_⟩;cases e2;exact⟨o,e,ex.2.1⟩
  ·obtain⟨o,_,_,_,e,ex,_⟩:=I.hok p _ hk;refine⟨⟨o,e,ex.1⟩,fun a e2=> ?_⟩;cases e2;exact⟨o,e,ex.2.1⟩
 | _=>exact False.elim ty
def Q8 (K:PySem.W.Frag)(T:String)(r:V->List V->Hp->VK->Prop)(to:TE):TE:=fun σ H Q=>to σ H fun x H1=>tyV K T x H1/\r x [] H1 Q
def tBM (K:PySem.W.Frag)(T:String)(r:V->List V->Hp->VK->Prop)(to:TE)(t:TA):TE:=fun σ H Q=>to σ H fun x H1=>tyV K T x H1/\t σ H1 fun xs H2=>r x xs H2 Q
variable {o e:Expr}{es:List Expr}{to:TE}{t:TA}{name:Str}{apos cpos:Pos}{T id:String}{r:V->List V->Hp->VK->Prop}
theorem G0 (pa:PlainAttrs T)(slot:Slot T name id)(hty:typeOf (.builtin id)=pure (.type "method_descriptor"))(hm:MtR X id r)(ho:PE X o to)
  (hbase:attributeBase o name X.env (eval o X.env)=eval o X.env:=by rfl)(hline:(apos.endLine==cpos.line)=true:=by rfl):PE X (.Call (.Attribute o name apos) [] [] cpos) (Q8 X.K T r to):=by
 intro pins s σ H Q I h;refine wpAny_Call_method0_late hbase hline (thn (ho pins s σ H _ I h) fun v s1 ⟨x,H1,I1,r1,ty,q1⟩=> ?_);obtain⟨h1,h2⟩:=HR I1 r1 ty;exact⟨T,id,pa,slot,hty,h1,h2,Calls.callWith_builtin rfl (PySem.evalArgs_none (hm pins s1 σ H1 x [] v [] Q I1 r1 .nil q1))⟩
theorem j4 (pa:PlainAttrs T)(slot:Slot T name id)(hty:typeOf (.builtin id)=pure (.type "method_descriptor"))(hm:MtR X id r)(ho:PE X o to)(ha:PA X (e::es) t)
  (hbase:attributeBase o name X.env (eval o X.env)=eval o X.env:=by rfl)
  (hfew:((backTo cpos (starEach (e::es) X.env)).all (fun x=> !x.1)&&(backToKw cpos (keywordEach [] X.env)).all (fun x=>x.1.isSome)
   && decide ((e::es).length+([]:List Keyword).length+(if ([]:List Keyword).isEmpty then 0 else 1)<30))=true:=by rfl)
  (hline:(apos.endLine==cpos.line)=true:=by rfl)(hs:starEach (e::es) X.env=(false,eval e X.env)::starEach es X.env:=by rfl)(hplain:(backTo cpos (starEach es X.env)).any (·.1)=false:=by rfl) :
  PE X (.Call (.Attribute o name apos) (e::es) [] cpos) (tBM X.K T r to t):=by
 intro pins s σ H Q I h;refine wpAny_Call_method_late hbase hfew hline rfl (thn (ho pins s σ H _ I h) fun v s1 ⟨x,H1,I1,r1,ty,q1⟩=> ?_);obtain⟨h1,h2⟩:=HR I1 r1 ty;refine⟨T,id,pa,slot,hty,h1,h2,?_⟩;have hA:=ha cpos pins s1 σ H1 _ I1 q1;rw[hs]at hA ⊢;refine Calls.callWith_builtin (by show (false||(backTo cpos (starEach es X.env)).any (·.1))=false;rw[hplain]<;>rfl) (Calls.evalArgs_plain ?_);exact thn hA fun us s2 ⟨vs,H2,I2,r2,q2⟩=>hm pins s2 σ H2 x vs v us Q I2 r1 r2 q2
end
end L2
namespace L2
open PySem PySem.Spec PyProof.Rows
def MtM (X:Cx)(id:String)(r:V->List V->Hp->VK->Prop):Prop :=
 ∀(pins:List (Addr×Obj)) (s:Shared) (σ:St) (H:Hp) (x:V) (xs:List V) (v:Value) (us:List Value) (Q:VK),Inv X pins σ H s->RelV x v->Vals xs us->r x xs H Q →
  wpAny (model X.prog X.w) X.A (call (.builtin id) (v::us)) (EP X pins σ Q) X.xe s
theorem Vals.one:∀{x:V}{us:List Value},Vals [x] us->∃u,us=[u]/\RelV x u
 | _,_,.cons r .nil=>⟨_,rfl,r⟩
section
variable {X:Cx}{pins:List (Addr×Obj)}{σ:St}{H:Hp}{s:Shared}{l b:Addr}{xs ys zs:List V}
theorem Inv.lset {its its':List Value}{n:Nat}{f:Array Value->Array Value}{t':Nat} (I:Inv X pins σ H s) (hH:H l=some (.lst xs))
  (e:s.heap.get? l=some { cls:= .type "list",data:= .seq its.toArray n })(hf:f its.toArray=its'.toArray)(hv:Vals ys its')(hz:ys.length<=sizeLine) :
  Inv X pins σ (upd H l (.lst ys)) { s with heap:=s.heap.update l (Obj.mapSeq f),toks:=t' }:=by
 have q:=PySem.IsL.update e f;rw[hf]at q;refine I.write (x:=l) (e:=l) (by rw[hH];exact trivial) (.inl rfl) (fun b' u hb hu=>(Heap.get?_update_other s.heap (Obj.mapSeq f) (Ne.symm hb)).trans hu) ⟨_,q⟩ ?_;exact⟨hz,its',_,hv,q⟩
theorem Inv.lnew {its:List Value}{t':Nat} (I:Inv X pins σ H s) (hv:Vals ys its) (hz:ys.length<=sizeLine) :
  Inv X pins σ (upd H s.heap.objs.size (.lst ys)) { s with heap:=s.heap.push { cls:= .type "list",data:= .seq its.toArray },toks:=t' } :=
 I.laid (fun _ _ q=>Heap.get?_push_of_some _ q) (Nat.le_refl _) ⟨hz,its,0,hv,Heap.get?_push_size _ rfl⟩
theorem Inv.fresh (I:Inv X pins σ H s):H s.heap.objs.size=none:=I.hok.fresh (Nat.le_refl _)
theorem Inv.lstM (I:Inv X pins σ H s)(hH:H l=some (.lst xs)):xs.length<=sizeLine/\∃(its:List Value) (n:Nat),Vals xs its/\xs.length=its.length/\s.heap.get? l=some { cls:= .type "list",data:= .seq its.toArray n }:=by
 obtain⟨z,its,n,r,e⟩:=I.hok l _ hH;exact⟨z,its,n,r,r.length,e⟩
end
section
variable {X:Cx}
def DD:V->List V->Hp->VK->Prop:=fun x vs H Q=>∃l xs y,x= .ref l/\vs=[y]/\H l=some (.lst xs)/\xs.length<sizeLine/\Q .non (upd H l (.lst (xs++[y])))
theorem qJ:MtM X "list.append" DD:=by
 intro pins s σ H x vs v us Q I rx rv h;obtain⟨l,xs,y,rfl,rfl,hH,hz,q⟩:=h;cases rx;obtain⟨u,rfl,ru⟩:=rv.one;obtain⟨z,its,n,r,hl,e⟩:=I.lstM hH;refine call_meets F.slot_list_append ⟨_,e,rfl⟩ F.entry_list_append (F.args_list_append_2 _ _) (PySem.list_append l its.toArray n u (by rw[List.size_toArray];lia)) ⟨e,?_⟩;refine⟨.non,_,I.lset (its':=its++[u]) hH e (by simp) (r.append (.cons ru .nil)) ?_,rfl,q⟩;rw[List.length_append,List.length_singleton]
 lia
def PD:R2:=fun x y H Q=>∃l b xs zs,x= .ref l/\y= .ref b/\H l=some (.lst xs)/\H b=some (.lst zs)/\xs.length+zs.length<=sizeLine/\∀p,H p=none->Q (.ref p) (upd H p (.lst (xs++zs)))
theorem oG:OpR X (binaryOp .Add) PD:=by
 intro pins s σ H x y v u Q I rx ry h;obtain⟨l,b,xs,zs,rfl,rfl,hH,hB,hz,q⟩:=h;cases rx;cases ry;obtain⟨z,its,n,r,hl,e⟩:=I.lstM hH;obtain⟨z2,its2,n2,r2,hl2,e2⟩:=I.lstM hB;refine PySem.P.add_list e e2 ?_ (by rw[List.size_toArray,List.size_toArray];lia);have ea:its.toArray++its2.toArray=(its++its2).toArray:=by simp
 rw[ea];exact⟨.ref _,_,I.lnew (t':=s.toks) (r.append r2) (by rw[List.length_append];lia),rfl,q _ I.fresh⟩
end
section
variable {prog:Program}{w:World}{A:Around}{E:Value->Shared->Prop}{s:Shared}
set_option maxRecDepth 100000 in
end
section
variable {X:Cx}
end
end L2
namespace Att
open PySem PySem.W PySem.Calls PyProof.Rows
theorem u1 {P:Params}{h:Heap}:∀(ns:List Int) (vs:List Value),WellAll P h vs (ns.map WData.int)->IntsAre vs ns:=by
 intro ns
 induction ns with
 | nil =>
  intro vs w;rw[List.map_nil]at w;cases w;exact .nil
 | cons n ns ih =>
  intro vs w;rw[List.map_cons]at w;cases w with
  | cons a b =>
   cases a;exact .cons _ _ (ih _ b)
theorem GD {l:OpenLaw}{n:Nat} (hn:l.most=some n) {P:Params}{h:Heap}{args:List WData}{vals:List Value}
  (hpre:l.row.toRowW.claim.pre args=true)(hwl:WellAll P h vals args) :
  ∃a vs ns,vals=[Value.ref a]/\args=[WData.list (ns.map WData.int)]/\h.get? a=some { cls:= .type "list",data:= .seq vs.toArray }/\IntsAre vs ns/\ns.length<=n:=by
 have hsh:WShape.hasAll [] args [.list .int]=true:=(pre_splitW hpre).1;have hc:l.pre.holds [] { args:=args }=true:=(pre_splitW hpre).2;obtain⟨d,r,rfl,h1,h2⟩:=hasAllW_cons hsh;obtain rfl:=hasAllW_nil h2;obtain⟨xs,rfl,h3⟩:=hasW_list h1;obtain⟨ns,rfl⟩:=items_int h3;have hlen:ns.length<=n:=by
  unfold OpenLaw.pre at hc;have h4:(WTm.not (.lt (.lit (.int (n:Int))) (.len (.arg 0)))).holds [] { args:=[.list (ns.map .int)] }=true:=by
   have h4:=(holds_andW hc).1;rw[hn]at h4;exact h4
  have h5:=condW_of h4 (w_not (w_lt w_lit (w_len_list (w_arg rfl))));rw[List.length_map]at h5;refine Nat.le_of_not_lt fun q=> ?_;have q':(n:Int)<((ns.length:Nat):Int):=by lia
  first
   | (rw[decide_eq_true q']at h5;exact absurd h5 (by decide))
   | (simp at h5;lia)
 cases hwl with
 | cons w1 w2 =>
  cases w2;cases w1 with
  | list ho hall=>exact⟨_,_,ns,rfl,rfl,ho,u1 ns _ hall,hlen⟩
theorem IA (l:OpenLaw)(args:List WData):l.row.toRowW.claim.post args (.bool true) args=true :=
 postW_of (r:=l.row.toRowW) (X:=(true==true))
  (show WShape.has [] (.bool true) .bool=true by first|rfl|decide|simp[WShape.has,WShape.arms,WShape.armsAll])
  (show (WTm.eq .res (.lit (.bool true))).value [] { args:=args,res:=some (.bool true),after:=args }=some (.bool (true==true)) from w_eq_bool (w_res rfl) w_lit) rfl
theorem attach_call {l:OpenLaw}{n:Nat}{q:Program}{loose:List Str}{XP:(Str->Option Value)->Heap->Prop}{YP:World->Heap->Prop}{d:DefRec}
  (hn:l.most=some n)(hdf:d.params.defaults=[])
  (call:∀(w:World) (s₀ s₁:Shared) (mg mb:Str->Option Value) (fa:Addr) (o:Obj) (pm cd doc:Value) (a:Addr) (vs:List Value) (ns:List Int),
   Ground q loose [] XP w s₀ mg mb s₁.heap->YP w s₁.heap →
   s₁.heap.get? fa=some o->o.data= .func (docDef d.name d.params d.body d.scope pm cd doc)->s₁.heap.CodeRec cd d.name->mg d.name=some (.ref fa) →
   s₁.heap.get? a=some { cls:= .type "list",data:= .seq vs.toArray }->IntsAre vs ns->ns.length<=n->s₁.gens= #[] →
   codeAny (model l.prog w) callerA (.call (.ref fa) ⟨[.ref a],[]⟩) (fun r s'=>r= .ok (.ret (.bool true))/\OldK s₁.heap s'.heap/\s'.os=s₁.os/\AllBare s'.gens) s₁) :
  WalkO q loose XP YP l.row.toRowW d [] (fun f vs=>PySem.call f vs):=by
 intro w s₀ s₁ mg mb G Y fa o pm cd doc dV kV ho hd hcd hD hmg hg args vals as hpre hlay hrd hwl hlo;obtain rfl:dV= .none:=Dflts.none hD hdf;obtain rfl:kV= .none:=Dflts.noKw hD;obtain⟨a,vs,ns,rfl,rfl,hobj,hints,hlen⟩:=GD hn hpre hwl;refine enter_call (codeAny_mono (call w s₀ s₁ mg mb fa o pm cd doc a vs ns G Y ho (fd_plain hd) hcd hmg hobj hints hlen hg) fun r s' hq=> ?_);obtain⟨rfl,h2,h3,h4⟩:=hq;exact⟨.inl ⟨.bool true,.bool true,[],rfl,fun _=>rfl,.bool true,IA l _,fun _=>⟨List.Pairwise.nil,fun _ hm=>(nomatch hm)⟩⟩,h2,h3,h4⟩
section
variable {prog:Program}{w:World}{A:Around}{E:Value->Shared->Prop}{s:Shared}{K:Frag}
end
end Att
namespace L2
open PySem PySem.Spec PyProof.Rows
theorem xG:∀{vs:List Value}{ns:List Int},IntsAre vs ns->Vals (ns.map V.int) vs
 | _,_,.nil=> .nil
 | _,_,.cons n t h=> .cons ⟨t,rfl⟩ (xG h)
def KS (H:Hp):Prop:=∀b,H b=none∨∃o xs,H b=some (.frz o (.lst xs))
theorem JF {P:Program}{w:World}{K:PySem.W.Frag}{mg mb:Str->Option Value}{CX:CXT}{k:Nat}{fa a:Addr}{fd:FuncData}{x:Str}{sp:Sp}{s₁:Shared}{vs:List Value}{ns:List Int}
  (KX:K.In s₁.heap)(hns:s₁.heap.Ns mainGlobals mg)(hb:s₁.heap.Ns builtinsNs mb)(hbb:∀x:Str,x≠ "__name__" ->mb x=bootBuiltins x)(hlim:s₁.heap.NoLimit)(hg:s₁.gens= #[])
  (ha:s₁.heap.get? a=some { cls:= .type "list",data:= .seq vs.toArray })(hi:IntsAre vs ns)(hl:ns.length<=sizeLine)(hr:Room k callerA)
  (F:∀base:Heap,K.In base->base.Ns mainGlobals mg->FnOk P w K mg base CX k fa fd [x] sp)(hbind:∀(s:Shared) (u:Value),BindsTo s fd ⟨[u],[]⟩ [(x,u)])
  (hsp:∀H:Hp,KS H->SqL K H a (ns.map V.int)->sp [.ref a] H (fun v _=>v= .bl true) fun _ _ _=>False)
  (hCX:∀H e s',CX [] H s₁ (fun _ _ _=>False) e s'->False) :
  codeAny (model P w) callerA (.call (.ref fa) ⟨[.ref a],[]⟩) (fun r s'=>r= .ok (.ret (.bool true))/\OldK s₁.heap s'.heap/\s'.os=s₁.os/\AllBare s'.gens) s₁:=by
 have rv:=xG hi;have lenV:=hi.length;have core:∀H:Hp,KS H->SqL K H a (ns.map V.int)->HOk P w H s₁.heap->(∀b,H b≠none->b=a)->(H a≠none->K.lookup a=none) →
   codeAny (model P w) callerA (.call (.ref fa) ⟨[.ref a],[]⟩) (fun r s'=>r= .ok (.ret (.bool true))/\OldK s₁.heap s'.heap/\s'.os=s₁.os/\AllBare s'.gens) s₁:=by
  intro H hO hS hok hA hK;have base_of:∀{b:Addr}{o:Obj},s₁.heap.get? b=some o->H b=none->(oX s₁.heap H).get? b=some o:=fun e n=>KL e n;have noA:∀{b:Addr}{o:Obj}{es:Array DictEntry}{ep:Nat},s₁.heap.get? b=some o->o.data= .dict es ep->H b=none:=fun {b o es ep} e d=>by
   cases q:H b with
   | none=>rfl
   | some u =>
    have e':b=a:=hA b (by rw[q];simp);subst e';rw[ha]at e;cases e;have d':Data.seq vs.toArray _=Data.dict es ep:=d;cases d'
  have nsK:∀{b:Addr}{m:Str->Option Value},s₁.heap.Ns b m->(oX s₁.heap H).Ns b m:=fun {b m} ⟨o,es,ep,e,d,r⟩=>⟨o,es,ep,base_of e (noA e d),d,r⟩
  have hKb:K.In (oX s₁.heap H):=fun b o e=>base_of (KX b o e) (by
   cases q:H b with
   | none=>rfl
   | some u =>
    have e':b=a:=hA b (by rw[q];simp);subst e';rw[hK (by rw[q];simp)]at e;cases e)
  have hM:Mod K mg (oX s₁.heap H):=⟨hKb,nsK hns,⟨mb,nsK hb,hbb⟩,let ⟨mc,h1,h2⟩:=hlim;⟨mc,nsK h1,h2⟩⟩
  have e0:Env0 P w K mg (oX s₁.heap H) callerA [] s₁ H:=⟨rfl,hM,fun b o e=>NW e,Nat.le_of_eq (II _ _),trivial,fun b hb=>absurd (show b∈([]:List Addr) from hb) (by simp),hok,.of_eq hg⟩
  refine codeAny_mono ((F _ hKb (nsK hns)).run callerA [] s₁ H ⟨[.ref a],[]⟩ [.ref a] [.ref a] _ _ hr e0 (hbind s₁ (.ref a)) (.cons rfl .nil) (hsp H hO hS)) fun r s' h=> ?_;cases r with
  | error e=>exact(hCX H e s' h).elim
  | ok fl =>
   cases fl with
   | next=>exact False.elim h
   | brk=>exact False.elim h
   | cont=>exact False.elim h
   | ret u =>
    obtain⟨v,H',os,bare,un,hok',r',q⟩:=h;have q':v= .bl true:=q;subst q';obtain rfl:u=Value.bool true:=r';refine⟨rfl,OldK.of_keep fun b o e=> ?_,os,bare⟩;cases q:H b with
    | none=>exact un.keep b o e q (by intro z;exact absurd (show b∈([]:List Addr) from z) (by simp)) (by simp)
    | some u =>
     rcases hO b with z|⟨ob,xs,z⟩
     ·rw[q]at z;cases z
     ·have z2:=un.frzs b ob _ z;obtain⟨e1,_⟩:=hok b _ z;obtain⟨e2,_⟩:=hok' b _ z2;rw[e]at e1;cases e1;exact e2
 cases hk:K.lookup a with
 | some o =>
  have e:=KX a o hk;rw[ha]at e;cases e;refine core (fun _=>none) (fun _=> .inl rfl) (.inr ⟨_,vs.toArray,_,hk,rfl,rfl,rfl,by rw[List.size_toArray,lenV];exact hl,by simpa using rv⟩) (fun b u z=>by have z':(none:Option HO)=some u:=z;cases z') (fun b z=>absurd rfl z) fun z=>absurd rfl z
 | none =>
  refine core (fun b=>if b=a then some (.frz { cls:= .type "list",data:= .seq vs.toArray } (.lst (ns.map V.int))) else none) (fun b=> ?_) (.inl (.inr ⟨{ cls:= .type "list",data:= .seq vs.toArray },if_pos rfl⟩)) (fun b u z=> ?_) (fun b z=> ?_) fun _=>hk
  ·by_cases hb:b=a
   ·exact .inr ⟨_,_,if_pos hb⟩
   ·exact .inl (if_neg hb)
  ·by_cases hb:b=a
   ·have z':=(if_pos hb).symm.trans z;cases z';subst hb;exact⟨ha,by rw[List.length_map];exact hl,vs,_,rv,ha⟩
   ·have z':=(if_neg hb).symm.trans z;cases z'
  ·by_cases hb:b=a
   ·exact hb
   ·exact absurd (if_neg hb) z
end L2
namespace L2
open PySem PySem.Spec PyProof.Rows
theorem walk_of {l:PySem.W.OpenLaw}{n k:Nat}{q:Program}{loose:List Str}{XP:(Str->Option Value)->Heap->Prop}{YP:World->Heap->Prop}{d:DefRec}{K:Params->PySem.W.Frag}{CX:World->CXT}{sp:World->Sp}{x:Str}
  (hn:l.most=some n)(hn2:n<=sizeLine)(hdf:d.params.defaults=[])(hr:Room k callerA)
  (hY:∀(w:World) (h:Heap),YP w h->(K w.params).In h)
  (F:∀(w:World) (mg:Str->Option Value) (fa:Addr) (h:Heap),(K w.params).In h->h.Ns mainGlobals mg->mg d.name=some (.ref fa) →
   ∃fd:FuncData,(∀(s:Shared) (u:Value),BindsTo s fd ⟨[u],[]⟩ [(x,u)]) ∧
    ∀base:Heap,(K w.params).In base->base.Ns mainGlobals mg->FnOk l.prog w (K w.params) mg base (CX w) k fa fd [x] (sp w))
  (hsp:∀(w:World) (H:Hp) (a:Addr) (ns:List Int),ns.length<=n->KS H->SqL (K w.params) H a (ns.map V.int)->sp w [.ref a] H (fun v _=>v= .bl true) fun _ _ _=>False)
  (hCX:∀(w:World) (H:Hp) (s:Shared) (e:Value) (s':Shared),CX w [] H s (fun _ _ _=>False) e s'->False) :
  PySem.W.WalkO q loose XP YP l.row.toRowW d [] (fun f vs=>PySem.call f vs):=by
 refine Att.attach_call hn hdf fun w s₀ s₁ mg mb fa o pm cd doc a vs ns G Y ho hd hcd hmg hobj hints hlen hg=> ?_;have KX:=hY w _ Y;obtain⟨fd,hb,hF⟩:=F w mg fa _ KX G.T.g hmg;exact JF KX G.T.g G.T.b G.T.builtins G.T.nolimit hg hobj hints (Nat.le_trans hlen hn2) hr hF hb (fun H hO hS=>hsp w H a ns hlen hO hS) fun H e s'=>hCX w H s₁ e s'
end L2
namespace L2
open PySem PySem.Spec PyProof.Rows
def bX (s:Stmt)(j:Nat):Stmt:=match s with
 | .ClassDef _ _ _ body _ _ _ _ _ _ _=>body.getD j (.Pass ⟨0,0,0,0⟩)
 | _=> .Pass ⟨0,0,0,0⟩
def aM (s:Stmt):Arguments:=match s with
 | .FunctionDef _ a _ _ _ _ _ _ _ _=>a
 | _=>{ posonlyargs:=[],args:=[],vararg:=none,kwonlyargs:=[],kw_defaults:=[],kwarg:=none,defaults:=[] }
def aL (s:Stmt):List Stmt:=match s with
 | .FunctionDef _ _ b _ _ _ _ _ _ _=>b
 | _=>[]
def aE (s:Stmt):Scope:=match s with
 | .FunctionDef _ _ _ _ _ _ sc _ _ _=>sc
 | _=>{ kind:= .function,names:=[],isGenerator:=false,isCoroutine:=false }
abbrev CX0:CXT:=fun _ _ _ _ _ _=>False
abbrev E0:XK:=fun _ _ _=>False
theorem rF {X:Cx}:iO CX0 X E0:=fun _ _ _ _ _ _ _ h=>h.elim
section
variable {P:Program}{w:World}{K:PySem.W.Frag}{mg:Str->Option Value}{base:Heap}
end
theorem HS {n:Nat}(h:n<=1000):n<sizeLine:=Nat.lt_of_le_of_lt h (by decide)
section
variable {X:Cx}
theorem pv (i:Nat){x:Str}{pos:Pos} (hN:X.N[i]? =some x:=by rfl) (hv:Vis X.env.scope x:=by first|exact Or.inl rfl|exact Or.inr (Or.inl rfl)|exact Or.inr (Or.inr rfl)) (hd:(x==("__debug__" :Str))=false:=by decide)
  (hcd:(x==("__classdict__" :Str))=false:=by decide):PE X (.Name x pos) (iI i):=QS hN hv hd hcd
end
theorem sR {c A B:Prop}[Decidable c](h1:c->A)(h2:¬c->B):if c then A else B:=by
 by_cases h:c
 ·rw[if_pos h];exact h1 h
 ·rw[if_neg h];exact h2 h
def Same (H H':Hp):Prop:=∀b o,H b=some o->H' b=some o
theorem Same.refl (H:Hp):Same H H:=fun _ _ h=>h
theorem Same.trans {H H1 H2:Hp}(a:Same H H1)(b:Same H1 H2):Same H H2:=fun c o h=>b c o (a c o h)
theorem Same.seq {K:PySem.W.Frag}{H H':Hp}{a:Addr}{xs:List V} (e:Same H H') (h:SqL K H a xs):SqL K H' a xs:=by
 rcases h with (h|⟨o,h⟩)|h
 ·exact .inl (.inl (e _ _ h))
 ·exact .inl (.inr ⟨o,e _ _ h⟩)
 ·exact .inr h
end L2
namespace L2
open PySem PySem.Spec PyProof.Rows
section
variable {X:Cx}{pins:List (Addr×Obj)}{σ:St}{H:Hp}{s:Shared}{D:Addr}{ys:List V}
theorem HOk.adds {P:Program}{w:World}{h:Heap}{o:HO} (x:HOk P w H h) (hn:H D=none) (new:ObjOk P w (upd H D o) h D o):HOk P w (upd H D o) h:=fun b u e=>by
 by_cases hb:b=D
 ·subst hb;rw[bP]at e;cases e;exact new
 ·rw[aX hb]at e;exact(x b u e).stay (fun c v _ q=>q) (fun c q=>by rw[aX (bG q hn)];exact q) fun c xs q=>by rw[aX (bG q hn)];exact q
theorem HOk.drops {P:Program}{w:World}{h:Heap} (x:HOk P w (upd H D (.lst ys)) h) (hn:H D=none):HOk P w H h:=fun b u e=>by
 have hb:b≠D:=bG e hn;refine(x b u (by rw[aX hb];exact e)).stay (fun c v _ q=>q) (fun c q=> ?_) fun c xs q=> ?_
 ·by_cases hc:c=D
  ·subst hc;rw[bP]at q;cases q
  ·rw[aX hc]at q;exact q
 ·by_cases hc:c=D
  ·subst hc;rw[bP]at q;cases q
  ·rw[aX hc]at q;exact q
theorem Inv.track {its:List Value}{n:Nat} (I:Inv X pins σ H s) (hn:H D=none) (e:s.heap.get? D=some { cls:= .type "list",data:= .seq its.toArray n }) (r:Vals ys its) (hz:ys.length<=sizeLine)
  (h0:X.s₀.heap.objs.size<=D)(h1:D≠X.env.locals)(h2:∀x c,X.env.cells.lookup x=some c->c≠D)(h3:∀p∈X.pn++pins,p.1≠D):Inv X pins σ (upd H D (.lst ys)) s where
 ok:=I.ok
 os:=I.os
 bare:=I.bare
 base:=by
  have lt:∀b o,X.s₀.heap.get? b=some o->b≠D:=fun b o q=>Nat.ne_of_lt (Nat.lt_of_lt_of_le (Heap.lt_size q) h0);refine⟨I.base.keep,I.base.slot,fun b o q n' hx=> ?_,I.base.there,fun b xs q=> ?_,fun b o u q=> ?_,fun b ps q=> ?_⟩
  ·rw[aX (lt b o q)];exact I.base.free b o q n' hx
  ·have z:=I.base.tups b xs q;rw[aX (bG z hn)];exact z
  ·have z:=I.base.frzs b o u q;rw[aX (bG z hn)];exact z
  ·obtain⟨more,z⟩:=I.base.tbls b ps q;exact⟨more,by rw[aX (bG z hn)];exact z⟩
 loc:=I.loc
 cell:=I.cell
 free:=by rw[aX (Ne.symm h1)];exact I.free
 freeC:=fun x c q=>by rw[aX (h2 x c q)];exact I.freeC x c q
 pin:=fun p hp=>by
  obtain⟨a,b,c⟩:=I.pin p hp;exact⟨a,by rw[aX (h3 p hp)];exact b,c⟩
 hok:=I.hok.adds hn ⟨hz,its,n,r,e⟩
 len:=I.len
theorem Inv.untrack (I:Inv X pins σ (upd H D (.lst ys)) s)(hn:H D=none):Inv X pins σ H s where
 ok:=I.ok
 os:=I.os
 bare:=I.bare
 base:=by
  have low:∀b u,upd H D (.lst ys) b=some u->(∀xs,u≠ .lst xs)->H b=some u:=fun b u q nl=>by
   by_cases hb:b=D
   ·subst hb;rw[bP]at q;cases q;exact absurd rfl (nl ys)
   ·rw[aX hb]at q;exact q
  refine⟨I.base.keep,I.base.slot,fun b o q n' hx=> ?_,I.base.there,fun b xs q=> ?_,fun b o u q=> ?_,fun b ps q=> ?_⟩
  ·have z:=I.base.free b o q n' hx
   by_cases hb:b=D
   ·subst hb;exact hn
   ·rw[aX hb]at z;exact z
  ·exact low _ _ (I.base.tups b xs q) (fun _ z=>by cases z)
  ·exact low _ _ (I.base.frzs b o u q) (fun _ z=>by cases z)
  ·obtain⟨more,z⟩:=I.base.tbls b ps q;exact⟨more,low _ _ z (fun _ z=>by cases z)⟩
 loc:=I.loc
 cell:=I.cell
 free:=by
  have z:=I.free
  by_cases hb:X.env.locals=D
  ·rw[hb];exact hn
  ·rw[aX hb]at z;exact z
 freeC:=fun x c q=>by
  have z:=I.freeC x c q
  by_cases hb:c=D
  ·rw[hb];exact hn
  ·rw[aX hb]at z;exact z
 pin:=fun p hp=>by
  obtain⟨a,b,c⟩:=I.pin p hp;refine⟨a,?_,c⟩
  by_cases hb:p.1=D
  ·rw[hb];exact hn
  ·rw[aX hb]at b;exact b
 hok:=I.hok.drops hn
 len:=I.len
end
def bE (X:Cx)(scope:Scope)(cl:List (Str×Addr))(N:List Str)(C:Addr)(s0:Shared)(H0:Hp)(fp:List Addr):Cx where
 prog:=X.prog
 w:=X.w
 K:=X.K
 mg:=X.mg
 base:=X.base
 A:=X.A
 N:=N
 s₀:=s0
 H₀:=H0
 env:=compEnvC scope cl C X.env
 outer:=X.stack
 stack:=X.stack
 ex:=fp
 fn:=fun _=>false
 calm:=X.calm
 pn:=[]
 xe:=fun _ _=>False
structure Blk (X:Cx)(scope:Scope)(cl:List (Str×Addr))(N:List Str)(nl:Nat)(ci:List Nat):Prop where
 kind:scope.kind= .function
 names:∀y∈scope.names,y.2= .local->scope.names.lookup y.1=some .local
 nocell:∀y∈scope.names,y.2≠ .cell
 clos:closureFor scope X.env=pure cl
 sub:∀n c,cl.lookup n=some c->X.env.cells.lookup n=some c
 has:∀n,((relabel scope X.env).names.lookup n=some .cell∨(relabel scope X.env).names.lookup n=some .free)->∃c,cl.lookup n=some c
 len:N.length=nl+ci.length
 cap:∀(j i:Nat),ci[j]? =some i->∃n,N[nl+j]? =some n/\X.N[i]? =some n/\(X.env.scope.names.lookup n=some .cell∨X.env.scope.names.lookup n=some .free) ∧
  ((relabel scope X.env).names.lookup n=some .cell∨(relabel scope X.env).names.lookup n=some .free)/\cl.lookup n=X.env.cells.lookup n
def bZ (nl:Nat)(ci:List Nat)(σ:St):St:=List.replicate nl none++ci.map fun i=>(σ[i]?).join
theorem GR {nl:Nat}{ci:List Nat}{σ:St}{k:Nat}{v:V} (h:(bZ nl ci σ)[k]? =some (some v)):∃j i,k=nl+j/\ci[j]? =some i/\σ[i]? =some (some v):=by
 unfold bZ at h
 by_cases hk:k<nl
 ·rw[List.getElem?_append_left (by simpa using hk),List.getElem?_replicate]at h
  split at h<;>cases h
 ·rw[List.getElem?_append_right (by simpa using hk),List.length_replicate,List.getElem?_map]at h;cases e:ci[k - nl]? with
  | none=>rw[e]at h;cases h
  | some i =>
   rw[e]at h;have h':(σ[i]?).join=some v:=by simpa using h
   refine⟨k - nl,i,by lia,e,?_⟩;cases q:σ[i]? with
   | none=>rw[q]at h';cases h'
   | some o=>rw[q]at h';simp at h';rw[h']
theorem AB {nl:Nat}{ci:List Nat}{σ:St}:(bZ nl ci σ).length=nl+ci.length:=by unfold bZ;simp
section
variable {X:Cx}{scope:Scope}{cl:List (Str×Addr)}{N:List Str}{nl:Nat}{ci:List Nat}{pins:List (Addr×Obj)}{σ:St}{H2:Hp}{s2:Shared}{fp:List Addr}
theorem sB (B:Blk X scope cl N nl ci)(I:Inv X pins σ H2 s2)(f2:∀b∈fp,i5 X pins H2 b)(fo:∀b∈fp,∃o,s2.heap.get? b=some o){C:Addr}{h4:Heap}{t4:Nat}{m4:Str->Option Value} (hC:s2.heap.objs.size<=C) (hns:h4.Ns C m4)
  (hk:∀b o,s2.heap.get? b=some o->h4.get? b=some o):Inv (bE X scope cl N C s2 H2 fp) [] (bZ nl ci σ) H2 { s2 with heap:=h4,toks:=t4 }:=by
 have lt2:∀b∈fp,b<s2.heap.objs.size:=fun b hb=>by obtain⟨o,e⟩:=fo b hb;exact Heap.lt_size e
 have ok:(bE X scope cl N C s2 H2 fp).Ok:=by
  refine⟨I.ok.mod,B.kind,I.ok.glob,I.ok.blt,hC,fun x y c h1 h2=>I.ok.inj x y c (B.sub x c h1) (B.sub y c h2),fun x hx=>B.has x hx,fun x c hf _=>(by cases hf),I.ok.hd,I.ok.frames,.inl rfl,fun b hb=>⟨?_,?_⟩,I.bs,?_,fun b o e hb=> ?_,fun b hb z=> ?_,I.stack,I.stkFree⟩
  ·exact Nat.ne_of_lt (Nat.lt_of_lt_of_le (lt2 b hb) hC)
  ·exact fun x c h=>(f2 b hb).2.2.2.2.1 x c (B.sub x c h)
  ·exact Nat.le_trans I.ok.bsz I.sz
  ·rcases (f2 b hb).2.2.2.1 with z|z
   ·exact I.ok.noex b o e z
   ·exact absurd (Nat.lt_of_lt_of_le (Heap.lt_size e) (Nat.le_trans I.ok.bsz z)) (Nat.lt_irrefl _)
  ·rcases List.mem_cons.mp (I.stkSub b z) with q|q
   ·exact(f2 b hb).2.1 q
   ·exact(f2 b hb).2.2.1 q
 refine⟨ok,rfl,I.bare,Un.kept hk,⟨m4,hns,fun k x v e1 e2 e3=> ?_⟩,fun x c e=> ?_,I.hok.fresh hC,fun x c e=>I.freeC x c (B.sub x c e),fun p hp=>(by cases hp),I.hok.kept hk,?_⟩
 ·obtain⟨j,i,rfl,hj,hσ⟩:=GR e2;obtain⟨n,hn1,hn2,hk1,hk2,hl⟩:=B.cap j i hj;have en:x=n:=by
   have e1':N[nl+j]? =some x:=e1;rw[hn1]at e1';exact(Option.some.inj e1').symm
  subst en;obtain⟨m,hm,hloc⟩:=I.loc;have vis:Vis X.env.scope x:= .inr hk1;obtain⟨u,ru,lk⟩:=hloc i x v hn2 hσ vis;refine⟨u,ru,.inr ⟨hk2,?_⟩⟩;rcases lk with⟨kl,_⟩|⟨_,c,ec,hc⟩
  ·have kl':X.env.scope.names.lookup x=some .local:=kl;rcases hk1 with z|z<;>· rw[z]at kl';cases kl'
  ·refine⟨c,hl.trans ec,?_⟩;obtain⟨o,ho,hd⟩:=hc;exact⟨o,hk _ _ ho,hd⟩
 ·obtain⟨v,o,ho,hd⟩:=I.cell x c (B.sub x c e);exact⟨v,o,hk _ _ ho,hd⟩
 ·show (bZ nl ci σ).length=N.length;rw[AB,B.len]
theorem qA {C:Addr}{σ':St}{H':Hp}{s':Shared}{pb:List (Addr×Obj)} (I:Inv X pins σ H2 s2) (f2:∀b∈fp,i5 X pins H2 b) (J:Inv (bE X scope cl N C s2 H2 fp) pb σ' H' s'):Inv X pins σ H' s' :=
 I.call' J.os J.base J.hok J.bare fun b hb=>⟨(f2 b hb).2.2.2.1,(f2 b hb).2.1,(f2 b hb).2.2.2.2.1,(f2 b hb).2.2.2.2.2⟩
end
section
variable {prog:Program}{w:World}{A:Around}{R:Result->Shared->Prop}{s:Shared}
theorem sH {elt target iter:Expr}{ifs:List Expr}{scope:Scope}{pos:Pos}{it acc:Value}{env:Env} (I:Nat->Shared->Prop)
  (turn:∀n s,I n s->wpAny (model prog w) A (pyNext it) (fun r s₁=>match r with
   | none=>R (.ok .next) s₁
   | some v=>wpAny (model prog w) A (letOwnedTupleGo target it v) (fun _ s₁'=>wpAny (model prog w) A (assign target env v) (fun _ s₂ =>
     wpAny (model prog w) A (forIn ifs true fun c r=>if r=true then do let ok ←isTrue c env (eval c env);pure (ForInStep.yield ok) else pure (ForInStep.yield r)) (fun ok s₃ =>
      if ok=true then wpAny (model prog w) A (eval elt env) (fun x s₄ =>
       wpAny (model prog w) A (call (.builtin "list.append") [acc,x]) (fun _ s₅=>∃m,m<n/\I m s₅) (notedBy (model prog w) A env fun e s'=>R (.error e) s') s₄) (notedBy (model prog w) A env fun e s'=>R (.error e) s') s₃
      else ∃m,m<n/\I m s₃) (notedBy (model prog w) A env fun e s'=>R (.error e) s') s₂) (notedBy (model prog w) A env fun e s'=>R (.error e) s') s₁') (notedBy (model prog w) A env fun e s'=>R (.error e) s') s₁) (notedBy (model prog w) A env fun e s'=>R (.error e) s') s)
  (n:Nat)(h:I n s) :
  codeAny (model prog w) A (.compLoop (.ListComp elt [⟨target,iter,ifs,0⟩] scope pos) 0 it acc env) R s:=by
 refine codeAny_loop rfl I (fun n s hI=> ?_) n h;show wpAny _ A ((compTurn (.ListComp elt [⟨target,iter,ifs,0⟩] scope pos) 0 it acc env).onRaise (fun x=>do noteFrame x env;theTreesLotGoes x)) _ _ s;refine wpAny_noted ?_;rw[compTurn_list];refine wpAny_bind (wpAny_standAt (wpAny_bind (wpAny_mono (turn n s hI) (fun r s₁ h₁=> ?_) fun _ _ h'=>h')));cases r with
 | none=>exact wpAny_pure h₁
 | some v =>
  refine wpAny_bind (wpAny_mono h₁ (fun _ s₁' h₁'=> ?_) fun _ _ h'=>h');refine wpAny_bind (wpAny_mono h₁' (fun _ s₂ h₂=>wpAny_bind (wpAny_mono h₂ (fun ok s₃ h₃=> ?_) fun _ _ h'=>h')) fun _ _ h'=>h');cases ok with
  | false=>exact wpAny_pure ⟨rfl,h₃⟩
  | true =>
   exact wpAny_bind (wpAny_bind (wpAny_mono h₃ (fun x s₄ h₄=>wpAny_bind (wpAny_mono h₄ (fun _ s₅ h₅=>wpAny_pure (wpAny_pure ⟨rfl,h₅⟩)) fun _ _ h'=>h')) fun _ _ h'=>h'))
end
def PF (X:Cx)(ifs:List Expr)(t:TT):Prop :=
 ∀(pins:List (Addr×Obj)) (s:Shared) (σ:St) (H:Hp) (Q:Bool->Hp->Prop),Inv X pins σ H s->t σ H Q →
  wpAny (model X.prog X.w) X.A (forIn ifs true fun c r=>if r=true then do let ok ←isTrue c X.env (eval c X.env);pure (ForInStep.yield ok) else pure (ForInStep.yield r)) (TP X pins σ Q) X.xe s
def vU:TT:=fun _ H Q=>Q true H
theorem uL {X:Cx}:PF X [] vU:=fun _ _ _ H _ I h=>wpAny_tests_nil ⟨H,I,h⟩
theorem PX {X:Cx}{c:Expr}{t:TT} (h:PT X c t):PF X [c] t:=fun pins s σ H Q I q=>wpAny_tests_one (h pins s σ H Q I q)
def fS (J:It)(g:TG)(ti:TT)(te:TE)(σ0:St)(fin:List V->Hp->Prop)(H1:Hp):Prop :=
 ∃W:Nat->Nat->List V->Hp->Prop,(∃m,W 0 m [] H1)/\∀i m ys H,W i m ys H →
  (J.stop i H/\fin ys H) ∨
  (J.go i H/\∀x H',J.yld i H x H'->g x σ0 H' fun σ2 H2=>(σ2.length=σ0.length/\∀(j:Nat) v,σ0[j]? =some (some v)->σ2[j]? =some (some v)) ∧
   ti σ2 H2 fun b H3=>if b=true then te σ2 H3 fun y H4=>ys.length<sizeLine/\∃m',m'<m/\W (i+1) m' (ys++[y]) H4 else ∃m',m'<m/\W (i+1) m' ys H3)
def FY (wi:TI)(nl:Nat)(ci:List Nat)(g:TG)(ti:TT)(te:TE):TE:=fun σ H Q =>
 wi σ H fun J H1=>fS J g ti te (bZ nl ci σ) (fun ys H'=>∀p,H' p=none->Q (.ref p) (upd H' p (.lst ys))) H1
section
variable {X:Cx}{scope:Scope}{cl:List (Str×Addr)}{N:List Str}{nl:Nat}{ci:List Nat}{tg elt iter:Expr}{ifs:List Expr}{pos:Pos}{wi:TI}{g:TG}{ti:TT}{te:TE}
theorem GS {pins:List (Addr×Obj)}{σ:St}{H2:Hp}{s2:Shared}{fp:List Addr}{it:Addr}{J:It}{tn:Nat->Heap->Prop}{E:Value->Shared->Prop}{RR:Value->Addr->Result->Shared->Prop}{fin:List V->Hp->Prop}
  (hc:X.calm=true)(B:Blk X scope cl N nl ci)(hg:∀C s0 H0 fp,PG (bE X scope cl N C s0 H0 fp) tg g)(hi:∀C s0 H0 fp,PF (bE X scope cl N C s0 H0 fp) ifs ti)(he:∀C s0 H0 fp,PE (bE X scope cl N C s0 H0 fp) elt te)
  (I2:Inv X pins σ H2 s2)(T:sL X.prog X.w X.K tg J fp it tn)(st2:tn 0 s2.heap)(f2:∀b∈fp,i5 X pins H2 b)(hW:fS J g ti te (bZ nl ci σ) fin H2)
  (hfin:∀(D C:Addr) (s':Shared) (H':Hp) (ys:List V) (oC:Obj) (m:Str->Option Value),H' D=none->Inv X (pins++[(C,oC)]) σ (upd H' D (.lst ys)) s'->s'.heap.Ns C m->s2.heap.objs.size<=C->fin ys H'->RR (.ref D) C (.ok .next) s') :
  wpAny (model X.prog X.w) X.A (newList []) (fun acc s₃=>wpAny (model X.prog X.w) X.A (newFunctionEnv scope X.env.globals cl [] X.env.qual none .none (some X.env)) (fun cenv s₄ =>
   codeAny (model X.prog X.w) X.A (.compStart (.ListComp elt [⟨tg,iter,ifs,0⟩] scope pos) 0 (.ref it) acc { cenv with scope:=relabel scope X.env }) (RR acc cenv.locals) s₄) E s₃) E s2:=by
 obtain⟨W,⟨m0,w0⟩,turn⟩:=hW;refine wpAny_newObj_type (wpAny_newFunctionEnv B.nocell (by intro y hy;simp at hy) (fun h1 hns1 hsb1=> ?_) B.kind)
 dsimp only at hns1 hsb1 ⊢
 generalize hH2:s2.heap.push { cls:= .type "list",dict:=none,data:= .seq ([]:List Value).toArray }=G2 at hns1 hsb1 ⊢;have hCs:G2.objs.size=s2.heap.objs.size+1:=by rw[←hH2,Heap.size_push]
 generalize hCe:G2.objs.size=C at hns1 hsb1 hCs ⊢;have hDC:s2.heap.objs.size≠C:=by rw[hCs];exact Nat.ne_of_lt (Nat.lt_succ_self _)
 have hCle:s2.heap.objs.size<=C:=by rw[hCs];exact Nat.le_succ _
 have old:∀b o,s2.heap.get? b=some o->h1.get? b=some o:=fun b o e=>hsb1.extBut b o (by rw[hCs];exact Nat.ne_of_lt (Nat.lt_succ_of_lt (Heap.lt_size e))) (Heap.get?_push_of_some _ (hH2▸Heap.get?_push_of_some _ e));have hacc:h1.get? s2.heap.objs.size=some { cls:= .type "list",data:= .seq ([]:List Value).toArray 0 }:=hsb1.extBut _ _ hDC (Heap.get?_push_of_some _ (hH2▸Heap.get?_push_size _ rfl));have fo:∀b∈fp,∃o,s2.heap.get? b=some o:=fun b hb=>let ⟨o,e,_⟩:=T.obj 0 _ st2 b hb;⟨o,e⟩;have lt2:∀b∈fp,b<s2.heap.objs.size:=fun b hb=>let ⟨o,e⟩:=fo b hb;Heap.lt_size e;have hDfp:s2.heap.objs.size∉fp:=fun z=>Nat.lt_irrefl _ (lt2 _ z);have hCfp:C∉fp:=fun z=>Nat.lt_irrefl _ (Nat.lt_of_lt_of_le (lt2 _ z) hCle);generalize hDe:s2.heap.objs.size=D at hCs hDC hCle hacc hDfp lt2;have loop:∀s3:Shared,s3={ s2 with heap:=h1,toks:=s2.toks+([]:List (Str×Value)).length } →
   codeAny (model X.prog X.w) X.A (.compLoop (.ListComp elt [⟨tg,iter,ifs,0⟩] scope pos) 0 (.ref it) (.ref D) (compEnvC scope cl C X.env)) (RR (.ref D) C) s3:=by
  rintro s3 rfl;have I4:Inv (bE X scope cl N C s2 H2 fp) [] (bZ nl ci σ) H2 { s2 with heap:=h1,toks:=s2.toks+([]:List (Str×Value)).length }:=sB B I2 f2 fo (by rw[hDe];exact hCle) hns1 old;have fpk:∀{H':Hp},(∀b∈fp,H' b=none)->∀b∈fp,i5 (bE X scope cl N C s2 H2 fp) [] H' b:=fun hn b hb =>
   ⟨hn b hb,(I4.ok.exf b hb).1,I4.ok.exfs b hb,.inl hb,(I4.ok.exf b hb).2,fun p hp=>by cases hp⟩
  have hDX:∀x c,(bE X scope cl N C s2 H2 fp).env.cells.lookup x=some c->c≠D:=fun x c e=>by
   obtain⟨v,o,ho,_⟩:=I2.cell x c (B.sub x c e);rw[←hDe];exact Nat.ne_of_lt (Heap.lt_size ho)
  have hDL:D≠(bE X scope cl N C s2 H2 fp).env.locals:=hDC;have hDf:D∉(bE X scope cl N C s2 H2 fp).fs:=fun z=>by
   rcases List.mem_cons.mp (I2.stkSub D z) with q|q
   ·exact Nat.lt_irrefl _ (by have:=I2.lt;rw[hDe,←q]at this;exact this)
   ·exact I2.nofs (by rw[hDe];exact Nat.le_refl _) q
  refine sH (fun n s'=>∃i ys its k H',W i n ys H'/\Inv (bE X scope cl N C s2 H2 fp) [] (bZ nl ci σ) H' s'/\tn i s'.heap/\(∀b∈fp,H' b=none)/\H' D=none ∧
   s'.heap.get? D=some { cls:= .type "list",data:= .seq its.toArray k }/\Vals ys its/\ys.length<=sizeLine) ?_ m0 ?_
  ·rintro n s' ⟨i,ys,its,k,H',w',I',st',fr',hD',eD,rv,hz⟩;have IP:Inv (bE X scope cl N C s2 H2 fp) [(D,{ cls:= .type "list",data:= .seq its.toArray k })] (bZ nl ci σ) H' s':=I'.pins_of fun p hp=>by
    obtain rfl:p=_:=by simpa using hp
    exact⟨eD,hD',hDL,hDf,fun v z=>by cases z⟩
   have fpD:∀{H'':Hp},(∀b∈fp,H'' b=none)->∀b∈fp,i5 (bE X scope cl N C s2 H2 fp) [(D,{ cls:= .type "list",data:= .seq its.toArray k })] H'' b:=fun hn b hb =>
    ⟨hn b hb,(I4.ok.exf b hb).1,I4.ok.exfs b hb,.inl hb,(I4.ok.exf b hb).2,fun p hp=>by
     obtain rfl:p=_:=by simpa [bE] using hp
     exact fun z=>hDfp ((show D=b from z)▸hb)⟩
   rcases turn i n ys H' w' with⟨stop,q⟩|⟨go,step⟩
   ·refine thn (T.done (bE X scope cl N C s2 H2 fp) rfl rfl rfl hc i _ s' (bZ nl ci σ) H' _ IP (fpD fr') st' stop) fun r s'' ⟨hr,I''⟩=> ?_;subst hr;have eD2:=(I''.pin (D,_) (List.mem_append_right _ List.mem_cons_self)).1;have J1:Inv (bE X scope cl N C s2 H2 fp) [] (bZ nl ci σ) (upd H' D (.lst ys)) s'' :=
     (I''.pins_of (pins':=[]) fun p hp=>by cases hp).track hD' eD2 rv hz (by show s2.heap.objs.size<=D;rw[hDe];exact Nat.le_refl _) hDL hDX fun p hp=>by cases hp
    have K1:Inv X pins σ (upd H' D (.lst ys)) s'':=qA I2 f2 J1;obtain⟨mC,nsC,_⟩:=J1.loc;obtain⟨oC,es,ep,hoC,hdC,rC⟩:=id nsC;refine hfin D C s'' H' ys oC mC hD' (K1.pins_of fun p hp=> ?_) nsC (by rw[hDe];exact hCle) q;rcases List.mem_append.mp hp with hp|hp
    ·exact K1.pin p (List.mem_append_right _ hp)
    ·obtain rfl:p=(C,oC):=by simpa using hp
     refine⟨hoC,J1.free,Nat.ne_of_gt (Nat.lt_of_lt_of_le I2.lt (by rw[hDe];exact hCle)),I2.nofs (by rw[hDe];exact hCle),fun v z=> ?_⟩;rw[hdC]at z;cases z
   ·refine thn (T.item (bE X scope cl N C s2 H2 fp) rfl rfl rfl hc i _ s' (bZ nl ci σ) H' _ IP (fpD fr') st' go) fun r s4 ⟨u,hr,h4⟩=> ?_;subst hr;refine thn h4 fun _ s5 ⟨x,H5,I5,r5,y5,st5,fr5⟩=> ?_;have I5':=I5.pinned (fpD fr5) (T.obj _ _ st5);refine wpAny_mono (hg C s2 H2 fp _ s5 (bZ nl ci σ) H5 x u _ I5' r5 (step x H5 y5)) (fun _ s6 ⟨σ6,H6,I6,⟨hl6,hk6⟩,q6⟩=> ?_) fun _ _ f=>f.elim;refine wpAny_mono (hi C s2 H2 fp _ s6 σ6 H6 _ I6 q6) (fun b s7 ⟨H7,I7,q7⟩=> ?_) fun _ _ f=>f.elim;have pinD:∀{pp:List (Addr×Obj)}{σx:St}{Hx:Hp}{sx:Shared},Inv (bE X scope cl N C s2 H2 fp) ([(D,({ cls:= .type "list",data:= .seq its.toArray k }:Obj))]++fU fp s5.heap) σx Hx sx →
      sx.heap.get? D=some { cls:= .type "list",data:= .seq its.toArray k }/\Hx D=none/\tn (i+1) sx.heap/\(∀b∈fp,Hx b=none):=fun {pp σx Hx sx} Ix=>by
     refine⟨(Ix.pin (D,_) (List.mem_append_right _ (List.mem_append_left _ List.mem_cons_self))).1,(Ix.pin (D,_) (List.mem_append_right _ (List.mem_append_left _ List.mem_cons_self))).2.1,T.keep _ _ _ st5 fun b hb o e=>(Ix.pin (b,o) (List.mem_append_right _ (List.mem_append_right _ (eL hb e)))).1,fun b hb=> ?_⟩;obtain⟨o,e,d⟩:=T.obj _ _ st5 b hb;exact(Ix.pin (b,o) (List.mem_append_right _ (List.mem_append_right _ (eL hb e)))).2.1
    cases b with
    | false =>
     rw[if_neg Bool.false_ne_true]at q7 ⊢;obtain⟨m',hm',w7⟩:=q7;obtain⟨e7,n7,st7,fr7⟩:=pinD (pp:=[]) I7;exact⟨m',hm',i+1,ys,its,k,H7,w7,(I7.pins_of (pins':=[]) fun p hp=>by cases hp).weak hl6.symm hk6,st7,fr7,n7,e7,rv,hz⟩
    | true =>
     rw[if_pos rfl]at q7 ⊢;refine wpAny_mono (he C s2 H2 fp _ s7 σ6 H7 _ I7 q7) (fun y' s8 ⟨y,H8,I8,r8,hlt,m',hm',w8⟩=> ?_) fun _ _ f=>f.elim;obtain⟨e8,n8,st8,fr8⟩:=pinD (pp:=[]) I8;have I8f:Inv (bE X scope cl N C s2 H2 fp) (fU fp s5.heap) σ6 H8 s8:=I8.pins_of fun p hp=>I8.pin p (List.mem_append_right _ (List.mem_append_right _ hp));have I8t:=I8f.track n8 e8 rv hz (by show s2.heap.objs.size<=D;rw[hDe];exact Nat.le_refl _) hDL hDX fun p hp=>by
      have hp':p∈fU fp s5.heap:=by simpa [bE] using hp
      exact fun z=>hDfp (z▸(qS hp').1)
     refine wpAny_mono (qJ (X:=bE X scope cl N C s2 H2 fp) (fU fp s5.heap) s8 σ6 _ (.ref D) [y] (.ref D) [y'] (fun _ H9=>H9=upd H8 D (.lst (ys++[y]))) I8t rfl (.cons r8 .nil)
      ⟨D,ys,y,rfl,rfl,bP,hlt,C4⟩) (fun _ s9 ⟨_,H9,I9,_,e9⟩=> ?_) fun _ _ f=>f.elim
     subst e9;obtain⟨hz9,its9,k9,rv9,e9⟩:=I9.hok D _ bP;have I9u:=I9.untrack n8;refine⟨m',hm',i+1,ys++[y],its9,k9,H8,w8,(I9u.pins_of (pins':=[]) fun p hp=>by cases hp).weak hl6.symm hk6,?_,fr8,n8,e9,rv9,hz9⟩;exact T.keep _ _ _ st5 fun b hb o e=>(I9u.pin (b,o) (List.mem_append_right _ (eL hb e))).1
  ·exact⟨0,[],[],0,H2,w0,I4,T.keep _ _ _ st2 fun b hb o e=>old b o e,fun b hb=>(f2 b hb).1,I2.hok.fresh (by rw[hDe];exact Nat.le_refl _),hacc,.nil,Nat.zero_le _⟩
 exact codeAny_compStart_list (loop _ rfl) (T.self _ 0 _ _ _ (T.keep _ _ _ st2 fun b hb o e=>old b o e) (loop _ rfl))
theorem rD (hc:X.calm=true)(B:Blk X scope cl N nl ci)(hp:PI X tg iter wi)(hg:∀C s0 H0 fp,PG (bE X scope cl N C s0 H0 fp) tg g)(hi:∀C s0 H0 fp,PF (bE X scope cl N C s0 H0 fp) ifs ti)
  (he:∀C s0 H0 fp,PE (bE X scope cl N C s0 H0 fp) elt te)(hs:∀x,foldedSetIterable iter X.env x=pure x:=by intro _;rfl):PE X (.ListComp elt [⟨tg,iter,ifs,0⟩] scope pos) (FY wi nl ci g ti te):=by
 intro pins s σ H Q I h;rw[eval_ListComp];refine wpAny_comprehension_free (use:=none) rfl hs B.clos B.kind B.names (thn (hp pins s σ H _ I h) fun v s1 h1=>thn h1 fun itv s2 h2=> ?_);obtain⟨it,fp,tn,J,H2,e,I2,T,st2,f2,hW⟩:=h2;subst e;refine GS (RR:=fun acc C=>compPost (model X.prog X.w) X.A X.xe none (EP X pins σ Q) acc C) hc B hg hi he I2 T st2 f2 hW ?_;intro D C s' H' ys oC m hD K1 hn hC q;refine⟨m,hn,fun h' hs'=> ?_⟩;have hL:C≠X.env.locals:=(K1.pin (C,oC) (by simp)).2.2.1;have I9:Inv X pins σ (upd H' D (.lst ys)) { s' with heap:=h',toks:=s'.toks }:=K1.unpinned.turned (t':=s'.toks) (it:=C) (fun b o hb e=>hs'.extBut b o hb e) (K1.pin (C,oC) (by simp)).2.1 hL (.inr (Nat.le_trans I2.sz hC)) (fun x c e z=> ?_) fun p hp z=> ?_
 ·exact⟨.ref D,_,I9,rfl,q D hD⟩
 ·obtain⟨v,o,ho,_⟩:=I2.cell x c e;exact absurd (Nat.lt_of_lt_of_le (Heap.lt_size ho) (z▸hC)) (Nat.lt_irrefl _)
 ·exact absurd (Nat.lt_of_lt_of_le (Heap.lt_size (I2.pin p hp).1) (z▸hC)) (Nat.lt_irrefl _)
end
end L2
namespace L2
open PySem PySem.Spec PyProof.Rows
def Its (x:Str):It:=⟨fun i _=>i<x.cps.size,fun i H v H'=>H'=H/\∃c,x.cps[i]? =some c/\v= .str ⟨#[c]⟩,fun i _=>i=x.cps.size⟩
theorem AG {P:Program}{w:World}{K:PySem.W.Frag}{tg:Expr} (it:Addr) (x:Str) (t:Tok) (ty:String)
  (hty:["enumerate","zip","dict_itemiterator","dict_reverseitemiterator","odict_iterator","itertools.zip_longest","itertools.pairwise"].contains ty=false)
  (W:∀A':Around,A'.handled=none->Walks P w A' it [it] [it] x.cps.size (SignAt x) (fun i h=>h.IsStrIter it ty x t i))
  (hself:∀(A:Around) (i:Nat) (s:Shared) (Q:Value->Shared->Prop) (E:Value->Shared->Prop),s.heap.IsStrIter it ty x t i->Q (.ref it) s->wpAny (model P w) A (pyIter (.ref it)) Q E s) :
  sL P w K tg (Its x) [it] it (fun i h=>h.IsStrIter it ty x t i) where
 mem:=by simp
 obj:=fun i h st b hb=>by
  have e:b=it:=by simpa using hb
  subst e;obtain⟨o,e,c,d⟩:=st;exact⟨o,e,fun v z=>by rw[d]at z;cases z⟩
 keep:=fun i h h' st k=>let ⟨o,ho,r⟩:=st;⟨o,k it (by simp) o ho,r⟩
 item:=by
  intro X hP hw hK hc i pins s σ H E I hf st hg;subst hP hw hK;obtain⟨f0,f1,f2,f3,f4,f5⟩:=hf it (by simp);refine(W X.A (I.ok.hd hc)).item i s _ _ hg st fun v h' tk hv st' kk=> ?_;obtain⟨c,u,hc',rfl⟩:=hv;have I1:Inv X pins σ H { s with heap:=h',toks:=tk }:=I.turned (fun b o hb e=>kk b o (by simpa using hb) e) f0 f1 f3 f4 f5;obtain⟨o,e,c1,d⟩:=id st';exact⟨_,rfl,yR (s:={ s with heap:=h',toks:=tk }) e c1 d hty ⟨.str ⟨#[c]⟩,H,I1,⟨u,rfl⟩,⟨rfl,c,hc',rfl⟩,st',fun b hb=>(hf b hb).1⟩⟩
 done:=by
  intro X hP hw hK hc i pins s σ H E I hf st hg;subst hP hw hK;obtain⟨f0,f1,f2,f3,f4,f5⟩:=hf it (by simp);have e:i=x.cps.size:=hg;subst e;exact(W X.A (I.ok.hd hc)).done s _ _ st fun h' tk kk=>⟨rfl,I.turned (fun b o hb e=>kk b o (by simpa using hb) e) f0 f1 f3 f4 f5⟩
 self:=hself
def PB (tl:TE):TI:=fun σ H R=>tl σ H fun x H1=>∃z,x= .str z/\R (Its z) H1
theorem G9 {X:Cx}{tg l:Expr}{tl:TE} (hl:PE X l tl):PI X tg l (PB tl):=by
 intro pins s σ H R I h;refine thn (hl pins s σ H _ I h) fun v s1 ⟨x,H1,I1,rx,z,ez,q⟩=> ?_;subst ez;obtain⟨t,rfl⟩:=rx;cases ha:z.cps.all (·<128)
 ·refine wpAny_pyIter_wide ha ⟨s1.heap.objs.size,[s1.heap.objs.size],_,Its z,H1,rfl,I1.kept (t':=s1.toks) fun b u e=>Heap.get?_push_of_some _ e,AG _ z t "str_iterator" (by decide) (fun A' hA=>Walks.strWide hA _ z t) (fun _ _ _ _ _ st h=>wpAny_pyIter_striter_wide st h),⟨_,Heap.get?_push_size _ rfl,rfl,rfl⟩,fun b hb=> ?_,q⟩;have e:b=s1.heap.objs.size:=by simpa using hb
  subst e;exact I1.fpOk (Nat.le_refl _) (I1.hok.fresh (Nat.le_refl _))
 ·refine wpAny_pyIter_ascii ha ⟨s1.heap.objs.size,[s1.heap.objs.size],_,Its z,H1,rfl,I1.kept (t':=s1.toks) fun b u e=>Heap.get?_push_of_some _ e,AG _ z t "str_ascii_iterator" (by decide) (fun A' hA=>Walks.strAscii hA _ z t) (fun _ _ _ _ _ st h=>wpAny_pyIter_striter_ascii st h),⟨_,Heap.get?_push_size _ rfl,rfl,rfl⟩,fun b hb=> ?_,q⟩;have e:b=s1.heap.objs.size:=by simpa using hb
  subst e;exact I1.fpOk (Nat.le_refl _) (I1.hok.fresh (Nat.le_refl _))
theorem C5 {J:It}{g:TG}{ti:TT}{te:TE}{σ0:St}{fin:List V->Hp->Prop}{H1:Hp} (n:Nat) (f:Nat->V) (hn:n<=sizeLine) (Ok:Hp->Prop) (h0:Ok H1)
  (hst:∀H,Ok H->J.stop n H)(hgo:∀i H,i<n->Ok H->J.go i H)
  (hstep:∀i H x H',i<n->Ok H->J.yld i H x H'->g x σ0 H' fun σ2 H2=>(σ2.length=σ0.length/\∀(j:Nat) v,σ0[j]? =some (some v)->σ2[j]? =some (some v))/\ti σ2 H2 fun b H3=>b=true/\te σ2 H3 fun y H4=>y=f i/\Ok H4)
  (mono:∀σ H (Q Q':Bool->Hp->Prop),(∀b H',Q b H'->Q' b H')->ti σ H Q->ti σ H Q')(mono2:∀σ H (Q Q':VK),(∀b H',Q b H'->Q' b H')->te σ H Q->te σ H Q')(mono3:∀x σ H (Q Q':St->Hp->Prop),(∀σ' H',Q σ' H'->Q' σ' H')->g x σ H Q->g x σ H Q')
  (hfin:∀H,Ok H->fin ((List.range n).map f) H):fS J g ti te σ0 fin H1:=by
 refine⟨fun i m ys H=>m=n - i/\i<=n/\ys=(List.range i).map f/\Ok H,⟨n,by simp,Nat.zero_le _,rfl,h0⟩,?_⟩;rintro i m ys H ⟨rfl,hi,rfl,ok⟩
 by_cases hlt:i<n
 ·refine .inr ⟨hgo i H hlt ok,fun x H' y=> ?_⟩;refine mono3 _ _ _ _ _ (fun σ' H'' q=>⟨q.1,mono _ _ _ _ (fun b H3 q=> ?_) q.2⟩) (hstep i H x H' hlt ok y);obtain⟨rfl,q⟩:=q;rw[if_pos rfl];refine mono2 _ _ _ _ (fun v H4 q=> ?_) q;obtain⟨rfl,ok4⟩:=q;refine⟨by rw[List.length_map,List.length_range];lia,n - (i+1),by lia,rfl,hlt,?_,ok4⟩;rw[List.range_succ,List.map_append];rfl
 ·have e:i=n:=by lia
  subst e;exact .inl ⟨hst H ok,hfin H ok⟩
section
variable {X:Cx}
theorem AJ:∀bs:List Bool,(List.range bs.length).all (fun i=>bs.getD i true)=bs.all id
 | []=>rfl
 | b::bs=>by
  rw[List.length_cons,List.range_succ_eq_map,List.all_cons,List.all_map,List.all_cons,←AJ bs];rfl
theorem v6 (hc:X.calm=true):dA X (.builtin "all") (fun xs H Q=>∃(p:Addr) (bs:List Bool),xs=[.ref p]/\SqL X.K H p (bs.map V.bl)/\Q (.bl (bs.all id)) H):=by
 intro pins s σ H xs us Q I r h;obtain⟨p,bs,rfl,hq,q⟩:=h;obtain⟨u,rfl,rx⟩:=iU r;cases rx;obtain⟨its,r',pl,hz⟩:=I.list hq;have hl:=pl.isList;have hlt:p<s.heap.objs.size:=by obtain⟨_,e,_⟩:=hl;exact Heap.lt_size e
 have hlen:bs.length=its.length:=by have:=r'.length;rw[List.length_map]at this;exact this
 refine call_all_walk (wpAny_pyIter_list hl ?_);refine⟨s.heap.objs.size,_,_,its.toArray.size,_,_,fun i=>bs.getD i true,rfl,Walks.list (show X.A.in1.handled=none from I.ok.hd hc) s.heap.objs.size p (Nat.ne_of_lt hlt) its.toArray,⟨⟨_,Heap.get?_push_size _ rfl,rfl,rfl⟩,hl.push _⟩,?_,?_⟩
 ·intro i v s' Q' E' hi hQ;have hi':its[i]? =some v:=by simpa using hi
  have hib:i<bs.length:=by rw[hlen];exact(List.getElem?_eq_some_iff.mp hi').1
  obtain⟨u,hu,ru⟩:=r'.get (i:=i) (x:=V.bl bs[i]) (by rw[List.getElem?_map,List.getElem?_eq_getElem hib];rfl);rw[hi']at hu;cases hu;have:v=Value.bool bs[i]:=ru;subst this;refine wpAny_truthy_bool ?_;have eb:bs.getD i true=bs[i]:=by rw[List.getD_eq_getElem?_getD,List.getElem?_eq_getElem hib];rfl
  have hQ':Q' (bs.getD i true) s':=hQ;rw[eb]at hQ';exact hQ'
 ·intro h' tk hk;have eall:(List.range its.toArray.size).all (fun i=>bs.getD i true)=bs.all id:=by
   rw[List.size_toArray,←hlen];exact AJ bs
  rw[eall];refine⟨.bl (bs.all id),H,?_,rfl,q⟩;have I1:Inv X pins σ H { s with heap:=s.heap.push { cls:= .type "list_iterator",data:= .fields #[.ref p,.int 0 0] },toks:=s.toks }:=I.kept fun b u e=>Heap.get?_push_of_some _ e;obtain⟨f0,f1,f2,f3,f4,f5⟩:=I.fpOk (Nat.le_refl _) (I.hok.fresh (Nat.le_refl _));exact I1.turned (fun b o hb e=>hk b o (by simpa using hb) e) f0 f1 f3 f4 f5
theorem CG:dA X (.builtin "isinstance") (fun xs H Q=>∃x c t u b,xs=[x,c]/\i7 X.K H x t/\RelV c u/\PySem.W.kitOne X.K t u=some b/\Q (.bl b) H):=by
 intro pins s σ H xs us Q I r h;obtain⟨x,c,t,u,b,rfl,ty,rc,e,q⟩:=h;obtain⟨v1,v2,rfl,r1,r2⟩:=FI r;have e2:v2=u:=by
  cases c with
  | non=>exact(show v2=_ from r2).trans (show u=_ from rc).symm
  | bl b=>exact(show v2=_ from r2).trans (show u=_ from rc).symm
  | ref b=>exact(show v2=_ from r2).trans (show u=_ from rc).symm
  | ty b=>exact(show v2=_ from r2).trans (show u=_ from rc).symm
  | int i =>
   obtain⟨t1,rfl⟩:=(show ∃t,u=_ from rc)
   cases ty<;>simp[PySem.W.kitOne,PySem.W.kitCls]at e
  | str i =>
   obtain⟨t1,rfl⟩:=(show ∃t,u=_ from rc)
   cases ty<;>simp[PySem.W.kitOne,PySem.W.kitCls]at e
  | byt i =>
   obtain⟨t1,rfl⟩:=(show ∃t,u=_ from rc)
   cases ty<;>simp[PySem.W.kitOne,PySem.W.kitCls]at e
  | flt i =>
   obtain⟨t1,rfl⟩:=(show ∃t,u=_ from rc)
   cases ty<;>simp[PySem.W.kitOne,PySem.W.kitCls]at e
 subst e2;exact IK I r1 ty e fun tk=>⟨.bl b,H,I.tok tk,rfl,q⟩
theorem HI:OpR X (compareOp .LtE) (fun x y H Q=>∃i j,x= .str i/\y= .str j/\Q (.bl (!decide (j.cps.toList<i.cps.toList))) H):=by
 intro pins s σ H x y v u Q I rx ry h;obtain⟨i,j,rfl,rfl,q⟩:=h;obtain⟨t,rfl⟩:=rx;obtain⟨t',rfl⟩:=ry;exact P.le_str ⟨.bl _,H,I,rfl,q⟩
theorem uC {v:Value}{o:Option Int} (p:IsPart v o):∃l:Option (Int×Tok),v=partValue l/\o=l.map (·.1):=by
 cases p with
 | none=>exact⟨none,rfl,rfl⟩
 | int i u=>exact⟨some (i,u),rfl,rfl⟩
def RL:V->Option Int->Option Int->Hp->VK->Prop:=fun x lo hi H Q=>∃z,x= .str z/\z.length<=sizeLine/\Q (.str (Txt.slice z lo hi)) H
theorem SB:SlR X RL:=by
 intro pins s σ H x v vl vu lo hi sl Q I rx hs pl pu h;obtain⟨z,rfl,hz,q⟩:=h;obtain⟨t,rfl⟩:=rx;obtain⟨l,rfl,rfl⟩:=uC pl;obtain⟨u,rfl,rfl⟩:=uC pu;refine⟨"str",_,F.slot_str_getitem.lookup,typeIs_str _ _ _,?_⟩;exact wpAny_getItem_str_slice (l:=l) (u:=u) (st:=none) hs rfl (post_val_or_str ⟨Nat.le_trans (Txt.slice_le z _ _) hz,fun t' k=>⟨.str _,H,I.tok k,⟨t',rfl⟩,q⟩⟩)
theorem t8:∀{ys:List Str}{us:List Value},Vals (ys.map V.str) us->StrsAre us ys
 | [],_,.nil=> .nil
 | y::ys,_,.cons r t=>by
  obtain⟨u,rfl⟩:=r;exact .cons y u (t8 t)
def ER (K:PySem.W.Frag):V->List V->Hp->VK->Prop:=fun x vs H Q=>∃(z:Str) (p:Addr) (ys:List Str),x= .str z/\vs=[.ref p]/\SqL K H p (ys.map V.str)/\(ys.map (·.length)).sum+ys.length * z.length<=16777216/\Q (.str (Txt.join z ys)) H
theorem kF:MtR X "str.join" (ER X.K):=by
 intro pins s σ H x xs v us Q I rx rs h;obtain⟨z,p,ys,rfl,rfl,hq,hz,q⟩:=h;obtain⟨t,rfl⟩:=rx;obtain⟨u,rfl,ru⟩:=iU rs;cases ru;obtain⟨its,r',pl,_⟩:=I.list hq;exact join_list pl.isList (by rw[List.toList_toArray];exact t8 r') hz fun t' k=>⟨.str _,H,I.tok k,⟨t',rfl⟩,q⟩
end
end L2
namespace L2
open PySem PySem.Spec PyProof.Rows
def K6 (xs:List (Str×NameKind))(XN:List Str)(ns:List (Str×NameKind))(N:List Str)(nl:Nat)(ci:List Nat):Bool :=
 (ns.all fun y=>y.2 != .cell&&(y.2 != .local||ns.lookup y.1==some .local)&&(y.2 != .free||(xs.lookup y.1==some .cell&&ns.lookup y.1==some .free))) &&
 (N.length==nl+ci.length) &&
 (List.range ci.length).all fun j=>match ci[j]?,N[nl+j]? with
  | some i,some n=>XN[i]? ==some n&&xs.lookup n==some .cell&&ns.lookup n==some .free
  | _,_=>false
def o2 (ns:List (Str×NameKind))(cs:List (Str×Addr)):List (Str×Addr)->List (Str×Addr)
 | acc=>ns.foldl (fun acc y=>if y.2== .free then (y.1,(cs.lookup y.1).getD 0)::acc else acc) acc
theorem pK {env:Env}:∀(ns:List (Str×NameKind)) (acc:List (Str×Addr)),(∀y∈ns,y.2= .free->∃c,env.cells.lookup y.1=some c) →
  (forIn ns acc fun x r=>(do
   let (name,kind):=x
   if (kind==NameKind.free)=true then do
     let c ←cellOf env name
     pure (ForInStep.yield ((name,c)::r))
    else pure (ForInStep.yield r)):Sem (List (Str×Addr)))=pure (o2 ns env.cells acc)
 | [],acc,_=>rfl
 | (n,k)::r,acc,h=>by
  have ih:=fun acc=>pK r acc fun y hy=>h y (List.mem_cons_of_mem _ hy);rw[List.forIn_cons]
  by_cases hk:k= .free
  ·subst hk;obtain⟨c,e⟩:=h (n,.free) List.mem_cons_self rfl;have e1:cellOf env n=pure c:=by unfold cellOf;rw[e]
   simp only[beq_self_eq_true,if_true,e1];show (forIn r ((n,c)::acc) _:Sem (List (Str×Addr)))=_;rw[ih];show _=pure (o2 ((n,NameKind.free)::r) env.cells acc);simp only[o2,List.foldl_cons,beq_self_eq_true,if_true,e,Option.getD_some]
  ·have hb:(k==NameKind.free)=false:=by simpa using hk
   simp only[hb,Bool.false_eq_true,if_false];show (forIn r acc _:Sem (List (Str×Addr)))=_;rw[ih];simp only[o2,List.foldl_cons,hb,Bool.false_eq_true,if_false]
theorem iP {cs:List (Str×Addr)}:∀(ns:List (Str×NameKind)) (acc:List (Str×Addr)) (n:Str),(∀y∈ns,y.2= .free->∃c,cs.lookup y.1=some c) →
  ((n,NameKind.free)∈ns∨acc.lookup n=cs.lookup n)->(∀c,acc.lookup n=some c->cs.lookup n=some c)->(o2 ns cs acc).lookup n=cs.lookup n
 | [],acc,n,_,h,_=>by
  rcases h with h|h
  ·cases h
  ·exact h
 | (m,k)::r,acc,n,hc,h,hs=>by
  have hc':∀y∈r,y.2= .free->∃c,cs.lookup y.1=some c:=fun y hy=>hc y (List.mem_cons_of_mem _ hy);show (o2 r cs (if k== .free then (m,(cs.lookup m).getD 0)::acc else acc)).lookup n=cs.lookup n
  by_cases hk:k= .free
  ·subst hk;obtain⟨c,e⟩:=hc (m,.free) List.mem_cons_self rfl;simp only[beq_self_eq_true,if_true,e,Option.getD_some]
   by_cases hm:n=m
   ·subst hm;have q:List.lookup n ((n,c)::acc)=some c:=by simp[List.lookup_cons]
    exact iP r _ n hc' (.inr (q.trans e.symm)) fun c' z=>by rw[q]at z;cases z;exact e
   ·have hb:(n==m)=false:=by simpa using hm
    have q:List.lookup n ((m,c)::acc)=acc.lookup n:=by simp[List.lookup_cons,hb]
    refine iP r _ n hc' ?_ fun c' z=>hs c' (q▸z);rcases h with h|h
    ·rcases List.mem_cons.mp h with z|z
     ·cases z;exact absurd rfl hm
     ·exact .inl z
    ·exact .inr (q.trans h)
  ·have hb:(k==NameKind.free)=false:=by simpa using hk
   simp only[hb,Bool.false_eq_true,if_false];refine iP r _ n hc' ?_ hs;rcases h with h|h
   ·rcases List.mem_cons.mp h with z|z
    ·cases z;exact absurd rfl hk
    ·exact .inl z
   ·exact .inr h
theorem z9 {cs:List (Str×Addr)}:∀(ns:List (Str×NameKind)) (acc:List (Str×Addr)),(∀y∈ns,y.2= .free->∃c,cs.lookup y.1=some c) →
  (∀n c,acc.lookup n=some c->cs.lookup n=some c)->∀n c,(o2 ns cs acc).lookup n=some c->cs.lookup n=some c
 | [],acc,_,hs,n,c,h=>hs n c h
 | (m,k)::r,acc,hc,hs,n,c,h=>by
  have hc':∀y∈r,y.2= .free->∃c,cs.lookup y.1=some c:=fun y hy=>hc y (List.mem_cons_of_mem _ hy);have h':(o2 r cs (if k== .free then (m,(cs.lookup m).getD 0)::acc else acc)).lookup n=some c:=h;refine z9 r _ hc' ?_ n c h';intro n' c' z
  by_cases hk:k= .free
  ·subst hk;obtain⟨d,e⟩:=hc (m,.free) List.mem_cons_self rfl;simp only[beq_self_eq_true,if_true,e,Option.getD_some]at z
   by_cases hm:n'=m
   ·subst hm;simp[List.lookup_cons]at z;subst z;exact e
   ·have hb:(n'==m)=false:=by simpa using hm
    simp[List.lookup_cons,hb]at z;exact hs n' c' z
  ·have hb:(k==NameKind.free)=false:=by simpa using hk
   simp only[hb,Bool.false_eq_true,if_false]at z;exact hs n' c' z
theorem kD {env:Env}(hkf:env.scope.kind= .function):∀{names:List (Str×NameKind)}{x:Str},names.lookup x=some .free->env.kindOf x=some .cell →
  (names.map fun (n,k)=>if (k==NameKind.free&&env.scope.kind== .function&&env.kindOf n==some .cell) then (n,NameKind.cell) else (n,k)).lookup x=some .cell
 | [],_,h,_=>by simp at h
 | (n,k)::r,x,h,hc=>by
  show List.lookup x ((if (k==NameKind.free&&env.scope.kind== .function&&env.kindOf n==some .cell)=true then (n,NameKind.cell) else (n,k))::_)=_;cases hx:x==n with
  | true =>
   simp only[List.lookup_cons,hx]at h;cases h;have e:x=n:=by simpa using hx
   subst e;rw[hkf,hc];simp[List.lookup_cons]
  | false =>
   simp only[List.lookup_cons,hx]at h;have ih:=kD hkf h hc
   split
   ·simp only[List.lookup_cons,hx];exact ih
   ·simp only[List.lookup_cons,hx];exact ih
theorem gK {env:Env}:∀{names:List (Str×NameKind)}{x:Str}{k':NameKind},(∀y∈names,y.2≠ .cell)->(k'= .cell∨k'= .free) →
  (names.map fun (n,k)=>if (k==NameKind.free&&env.scope.kind== .function&&env.kindOf n==some .cell) then (n,NameKind.cell) else (n,k)).lookup x=some k'->(x,NameKind.free)∈names
 | [],_,_,_,_,h=>by simp at h
 | (n,k)::r,x,k',hn,hk',h=>by
  have h':List.lookup x ((if (k==NameKind.free&&env.scope.kind== .function&&env.kindOf n==some .cell)=true then (n,NameKind.cell) else (n,k))::r.map _)=some k':=h;cases hx:x==n with
  | true =>
   have e:x=n:=by simpa using hx
   subst e
   by_cases hf:k= .free
   ·subst hf;exact List.mem_cons_self
   ·have hb:(k==NameKind.free)=false:=by simpa using hf
    simp only[hb,Bool.false_and,Bool.false_eq_true,if_false,List.lookup_cons,hx]at h';cases h';rcases hk' with z|z
    ·exact absurd z (hn (x,k) List.mem_cons_self)
    ·exact absurd z hf
  | false =>
   have h2:List.lookup x (r.map fun (n,k)=>if (k==NameKind.free&&env.scope.kind== .function&&env.kindOf n==some .cell) then (n,NameKind.cell) else (n,k))=some k':=by
    split at h'
    ·simp only[List.lookup_cons,hx]at h';exact h'
    ·simp only[List.lookup_cons,hx]at h';exact h'
   exact List.mem_cons_of_mem _ (gK (fun y hy=>hn y (List.mem_cons_of_mem _ hy)) hk' h2)
theorem blk {X:Cx}{scope:Scope}{N:List Str}{nl:Nat}{ci:List Nat} (n0:Nat) (hX:X.env.cells=cellsFrom n0 X.env.scope.names []) (hkf:X.env.scope.kind= .function) (hk:scope.kind= .function)
  (h:K6 X.env.scope.names X.N scope.names N nl ci=true):Blk X scope (o2 scope.names X.env.cells []) N nl ci:=by
 unfold K6 at h;rw[Bool.and_eq_true,Bool.and_eq_true]at h;obtain⟨⟨h1,h2⟩,h3⟩:=h;rw[List.all_eq_true]at h1;have h1':∀y∈scope.names,y.2≠ .cell/\(y.2= .local->scope.names.lookup y.1=some .local)/\(y.2= .free->X.env.scope.names.lookup y.1=some .cell/\scope.names.lookup y.1=some .free):=fun y hy=>by
  have q:=h1 y hy;simp only[Bool.and_eq_true,Bool.or_eq_true,bne_iff_ne,ne_eq,beq_iff_eq]at q;obtain⟨⟨q1,q2⟩,q3⟩:=q;exact⟨q1,fun e=>q2.resolve_left fun z=>z e,fun e=>q3.resolve_left fun z=>z e⟩
 have hcs:∀y∈scope.names,y.2= .free->∃c,X.env.cells.lookup y.1=some c:=fun y hy e=>by
  rw[hX];exact sY ((h1' y hy).2.2 e).1
 refine⟨hk,fun y hy=>(h1' y hy).2.1,fun y hy=>(h1' y hy).1,?_,?_,?_,by simpa using h2,?_⟩
 ·unfold closureFor;refine(congrArg (fun m:Sem (List (Str×Addr))=>m >>= fun cs=>pure cs) (pK scope.names [] hcs)).trans ?_;rfl
 ·exact z9 scope.names [] hcs fun n c z=>by cases z
 ·intro n hn;have hm:(n,NameKind.free)∈scope.names:=by
   rcases hn with z|z
   ·exact gK (fun y hy=>(h1' y hy).1) (.inl rfl) z
   ·exact gK (fun y hy=>(h1' y hy).1) (.inr rfl) z
  obtain⟨c,e⟩:=hcs _ hm rfl;exact⟨c,(iP scope.names [] n hcs (.inl hm) fun c z=>by cases z).trans e⟩
 ·intro j i hj;have hjl:j<ci.length:=(List.getElem?_eq_some_iff.mp hj).1;rw[List.all_eq_true]at h3;have q:=h3 j (List.mem_range.mpr hjl);rw[hj]at q;cases e:N[nl+j]? with
  | none=>rw[e]at q;cases q
  | some n =>
   rw[e]at q;simp only[Bool.and_eq_true,beq_iff_eq]at q;obtain⟨⟨q1,q2⟩,q3⟩:=q;refine⟨n,rfl,q1,.inl q2,.inl (kD hkf q3 q2),?_⟩;exact iP scope.names [] n hcs (.inl (PySem.mem_of_lookup q3)) fun c z=>by cases z
structure Fc (P:Program)(w:World)(K:PySem.W.Frag)(mg:Str->Option Value)(base:Heap)(x:Str)(k:Nat)(ps:List Str)(sp:Sp):Prop where
 ex:∃f fd,mg x=some (.ref f)/\PySem.W.keepIn K (.ref f)=true/\Binds K fd ps []/\FnOk P w K mg base CX0 k f fd ps sp
theorem bN {X:Cx}{x:Str}{k k':Nat}{ps:List Str}{sp:Sp}{e:Expr}{es:List Expr}{t:TA}{p pos:Pos} (F:Fc X.prog X.w X.K X.mg X.base x k ps sp) (hr:Room k' X.A) (ha:PA X (e::es) t) (hk:k<=k':=by decide) (hg:Gl X x:=by rfl)
  (hdb:(x==("__debug__" :Str))=false:=by decide)(he:starEach (e::es) X.env=(false,eval e X.env)::starEach es X.env:=by rfl)(hpl:(backTo pos (starEach es X.env)).any (·.1)=false:=by rfl) :
  PE X (.Call (.Name x p) (e::es) [] pos) (lV sp [] E0 t):=by
 obtain⟨f,fd,hm,kp,b,G⟩:=F.ex;exact C7 G (hr.mono hk) hg hm kp b .nil rF ha hdb he hpl
theorem oP {X:Cx}{x:Str}{n:String}{pos:Pos} (hg:Gl X x) (hm:X.mg x=none) (hv:bootBuiltins x=some (.type n)) (hn:x≠ "__name__" :=by decide) (hd:(x==("__debug__" :Str))=false:=by decide):PE X (.Name x pos) (tC (.ty n)):=MX hg hm hv rfl hn hd
theorem DO {X:Cx}{x:Str}{i:Int}{t:Tok}{pos:Pos} (hg:Gl X x) (hm:X.mg x=some (.int i t)) (hd:(x==("__debug__" :Str))=false:=by decide):PE X (.Name x pos) (tC (.int i)):=DE hg hm ⟨t,rfl⟩ hd
theorem l6 {X:Cx}{x:Str}{a:Addr}{pos:Pos} (hg:Gl X x) (hm:X.mg x=some (.ref a)) (hd:(x==("__debug__" :Str))=false:=by decide):PE X (.Name x pos) (tC (.ref a)):=DE hg hm rfl hd
theorem cG:bootBuiltins "isinstance" =some (.builtin "isinstance"):=by decide +kernel
theorem IM:bootBuiltins "all" =some (.builtin "all"):=by decide +kernel
theorem jV:bootBuiltins "len" =some (.builtin "len"):=by decide +kernel
theorem tU:bootBuiltins "int" =some (.type "int"):=by decide +kernel
theorem c8:bootBuiltins "str" =some (.type "str"):=by decide +kernel
theorem DK:bootBuiltins "bool" =some (.type "bool"):=by decide +kernel
inductive BTy (K:PySem.W.Frag)(H:Hp):V->String->Prop where
 | non:BTy K H .non "NoneType"
 | bl (x:Bool):BTy K H (.bl x) "bool"
 | int (i:Int):BTy K H (.int i) "int"
 | str (x:Str):BTy K H (.str x) "str"
 | lst {a:Addr}{xs:List V} (e:H a=some (.lst xs)):BTy K H (.ref a) "list"
 | tup {a:Addr}{xs:List V} (e:H a=some (.tup xs)):BTy K H (.ref a) "tuple"
 | dK {a:Addr}{kvs:List (Key×V)} (e:H a=some (.dK kvs)):BTy K H (.ref a) "dict"
theorem BTy.ty {K:PySem.W.Frag}{H:Hp}{x:V}{n:String} (b:BTy K H x n):i7 K H x (.type n):=by
 cases b with
 | non=>exact .non
 | bl=>exact .bl _
 | int=>exact .int _
 | str=>exact .str _
 | lst e=>exact .lst e
 | tup e=>exact .tup e
 | dK e=>exact .dK e
def isB (n c:String):Bool:=n==c||(n== "bool" &&c== "int")
theorem t6 {K:PySem.W.Frag}{H:Hp}{x:V}{n:String} (b:BTy K H x n) (c:String) (hc:c= "int" ∨c= "bool" ∨c= "str"):PySem.W.kitOne K (.type n) (.type c)=some (isB n c):=by
 cases b<;>rcases hc with rfl|rfl|rfl<;>kernel_rfl
end L2
namespace L2
open PySem PySem.Spec PyProof.Rows
theorem ID {J:It}{te:TE}{σ0:St}{fin:List V->Hp->Prop}{H1:Hp} (n:Nat) (Ok:Nat->List V->Hp->Prop) (hn:n<=sizeLine) (h00:σ0[0]? =some none) (h0:Ok 0 [] H1) (hlen:∀i ys H,Ok i ys H->ys.length<=i)
  (hst:∀ys H,Ok n ys H->J.stop n H/\fin ys H)(hstep:∀i ys H,i<n->Ok i ys H->J.go i H/\∀x H',J.yld i H x H'->∀R:VK,(∀y H4,Ok (i+1) (ys++[y]) H4->R y H4)->te (σ0.set 0 (some x)) H' R):fS J (dM 0) vU te σ0 fin H1:=by
 refine⟨fun i m ys H=>m=n - i/\i<=n/\Ok i ys H,⟨n,by simp,Nat.zero_le _,h0⟩,?_⟩;rintro i m ys H ⟨rfl,hi,ok⟩
 by_cases hlt:i<n
 ·obtain⟨go,st⟩:=hstep i ys H hlt ok;refine .inr ⟨go,fun x H' y=>⟨⟨by simp,fun j v hv=> ?_⟩,?_⟩⟩
  ·cases j with
   | zero=>rw[h00]at hv;cases hv
   | succ j=>rw[List.getElem?_set_ne (by lia)];exact hv
  ·unfold vU
   dsimp only
   rw[if_pos rfl];exact st x H' y _ fun z H4 ok4=>⟨by have:=hlen i ys H ok;lia,n - (i+1),by lia,rfl,hlt,ok4⟩
 ·have e:i=n:=by lia
  subst e;exact .inl (hst ys H ok)
theorem GG {K:PySem.W.Frag}{a:Addr}{xs:List V}{te:TE}{σ0:St}{fin:List V->Hp->Prop}{H1:Hp} (Ok:Nat->List V->Hp->Prop) (hn:xs.length<=sizeLine) (h00:σ0[0]? =some none) (h0:Ok 0 [] H1) (hlen:∀i ys H,Ok i ys H->ys.length<=i)
  (hl:∀i ys H,Ok i ys H->SqL K H a xs)(hfin:∀ys H,Ok xs.length ys H->fin ys H)
  (hstep:∀i x ys H,xs[i]? =some x->Ok i ys H->∀R:VK,(∀y H4,Ok (i+1) (ys++[y]) H4->R y H4)->te (σ0.set 0 (some x)) H R):fS (Itl K a) (dM 0) vU te σ0 fin H1 :=
 ID xs.length Ok hn h00 h0 hlen (fun ys H ok=>⟨⟨xs,hl _ _ _ ok,Nat.le_refl _⟩,hfin ys H ok⟩) fun i ys H hi ok=>⟨⟨xs,xs[i],hl _ _ _ ok,List.getElem?_eq_getElem hi⟩,fun x H' y=>by
  obtain⟨e1,e2⟩:=y;subst e1;exact hstep i x ys _ (e2 xs (hl _ _ _ ok)) ok⟩
section
variable {X:Cx}
end
structure FunV (K:PySem.W.Frag)(x qual:Str)(st:Stmt)(f:Addr)(fd:FuncData):Prop where
 ex:∃(oc:Value) (od:Option Addr) (dV kV doc pm:Value) (an:Option Addr) (cdv ct:Value) (osl:Array (Option Value)),
  fd=PySem.W.fnOf x qual (aM st) (aL st) (aE st) dV kV doc pm an cdv ct/\K.lookup f=some ⟨oc,od,.func fd,osl⟩/\PySem.W.codeIn K cdv qual=true
 kp:PySem.W.keepIn K (.ref f)=true
section
variable {P:Program}{w:World}{K:PySem.W.Frag}{mg:Str->Option Value}{base:Heap}
theorem FunV.ok {x qual:Str}{st:Stmt}{f:Addr}{fd:FuncData}{N ps:List Str}{k:Nat}{sp:Sp} (F:FunV K x qual st f fd) (S:aQ N ps (aE st)) (len:∀vs H Q E,sp vs H Q E->vs.length=ps.length)
  (hbody:∀(cdv:Value) (A:Around) (outer:List Env) (s:Shared) (H:Hp) (vs:List V) (Q:VK) (E:XK),Room k (A.deeper (envOfC qual (aE st) s.heap.objs.size f cdv))->sp vs H Q E →
   ∃t,PSs (eX CX0 P w K mg base N qual (aE st) f cdv A outer s H E).nox (aL st) t/\t { nx:=fun _ H'=>Q .non H',rt:=Q } (jW N vs) H):FnOk P w K mg base CX0 (k+1) f fd ps sp:=by
 obtain⟨oc,od,dV,kV,doc,pm,an,cdv,ct,osl,rfl,lk,hcd⟩:=F.ex;refine LG lk hcd S len fun A outer s H vs Q E hr h=> ?_;obtain⟨t,h1,h2⟩:=hbody cdv A outer s H vs Q E hr h;exact⟨t,PSs.nox h1,h2⟩
theorem aS {x qual:Str}{st:Stmt}{f:Addr}{oc:Value}{od an:Option Addr}{osl:Array (Option Value)}{dV kV doc pm cdv ct:Value} (l:K.lookup f=some ⟨oc,od,.func (PySem.W.fnOf x qual (aM st) (aL st) (aE st) dV kV doc pm an cdv ct),osl⟩) (c:PySem.W.codeIn K cdv qual=true)
  (k:PySem.W.keepIn K (.ref f)=true):FunV K x qual st f (PySem.W.fnOf x qual (aM st) (aL st) (aE st) dV kV doc pm an cdv ct):=⟨⟨oc,od,dV,kV,doc,pm,an,cdv,ct,osl,rfl,l,c⟩,k⟩
structure Mc (P:Program)(w:World)(K:PySem.W.Frag)(mg:Str->Option Value)(base:Heap)(C:Addr)(nm:Str)(k:Nat)(sp:Sp):Prop where
 ex:∃f fd ps,Cls K C/\dN K C nm f/\Binds K fd ps []/\FnOk P w K mg base CX0 k f fd ps sp
structure Kc (P:Program)(w:World)(K:PySem.W.Frag)(mg:Str->Option Value)(base:Heap)(x:Str)(C:Addr)(k:Nat)(dvs:List V)(sp:Sp):Prop where
 ex:∃f fd ps ds,mg x=some (.ref C)/\Mk K C f/\Vals dvs ds/\Binds K fd ps ds/\FnOk P w K mg base CX0 k f fd ps sp
end
section
variable {X:Cx}{k k':Nat}{sp:Sp}{x m:Str}{p pos apos:Pos}{e o:Expr}{es:List Expr}{ta:TE}{t:TA}{C:Addr}{dvs:List V}
def tMD (M:Addr->Sp->Prop)(m:Str)(ta:TE)(t:TA):TE:=fun σ H Q=>ta σ H fun x H1=>∃a C dx fs sp,x= .ref a/\H1 a=some (.ins C dx fs)/\fs.lookup m=none/\M C sp/\t σ H1 fun vs H2=>sp (x::vs) H2 Q E0
theorem EM (k:Nat){pl:Sem Bool}(hr:Room k' X.A)(ho:PE X o ta)(ha:PA X (e::es) t)(hk:k<=k':=by decide)
  (hst:starEach (e::es) X.env=(false,eval e X.env)::starEach es X.env:=by rfl)(hpl:(backTo pos (starEach es X.env)).any (·.1)=false:=by rfl)
  (ht:eval (.Call (.Attribute o m apos) (e::es) [] pos) X.env=(do
   let ov ←eval o X.env
   standAt apos.atName
   let (f,first) ←holding [ov] (getMethod ov m pl)
   callWith pos f first (backTo pos (starEach (e::es) X.env)) (backToKw pos (keywordEach [] X.env))):=by rfl) :
  PE X (.Call (.Attribute o m apos) (e::es) [] pos) (tMD (fun C sp=>Mc X.prog X.w X.K X.mg X.base C m k sp) m ta t):=by
 intro pins s σ H Q I h;refine PySem.W.methodCall_KW (pl:=pl) (thn (ho pins s σ H _ I h) fun u s1 ⟨x,H1,I1,rx,a,C,dx,fs,sp,ex,ea,l,M,q⟩=> ?_) ht;subst ex;obtain rfl:u=Value.ref a:=rx;obtain⟨f,fd,ps,c,hm,hb,F⟩:=M.ex;refine oW I1 ea c hm l ?_;refine PySem.W.callWith_K (first:=[.ref a]) (h₀:=X.base) I.ok.mod.kin hm.kp (thn (ha pos pins s1 σ H1 _ I1 q) fun us s2 ⟨vs,H2,I2,r,q2⟩=>⟨I2.kIn,?_⟩) hst hpl;exact oK (us:= .ref a::us) (vs:= .ref a::vs) (dvs:=[]) F (hr.mono hk) hb .nil rF I2 (.cons rfl r) (by rw[List.append_nil];exact q2)
theorem O0 (k:Nat){pl:Sem Bool}(hr:Room k' X.A)(ho:PE X o ta)(hk:k<=k':=by decide)
  (ht:eval (.Call (.Attribute o m apos) [] [] pos) X.env=(do
   let ov ←eval o X.env
   standAt apos.atName
   let (f,first) ←holding [ov] (getMethod ov m pl)
   callWith pos f first (backTo pos (starEach [] X.env)) (backToKw pos (keywordEach [] X.env))):=by rfl) :
  PE X (.Call (.Attribute o m apos) [] [] pos) (tMD (fun C sp=>Mc X.prog X.w X.K X.mg X.base C m k sp) m ta zK):=by
 intro pins s σ H Q I h;refine PySem.W.methodCall_KW (pl:=pl) (thn (ho pins s σ H _ I h) fun u s1 ⟨x,H1,I1,rx,a,C,dx,fs,sp,ex,ea,l,M,q⟩=> ?_) ht;subst ex;obtain rfl:u=Value.ref a:=rx;obtain⟨f,fd,ps,c,hm,hb,F⟩:=M.ex;refine oW I1 ea c hm l ?_;exact PySem.W.callWith_K0 (first:=[.ref a]) I1.kIn hm.kp (oK (us:=[.ref a]) (vs:=[.ref a]) (dvs:=[]) F (hr.mono hk) hb .nil rF I1 (.cons rfl .nil) q)
theorem gO (F:Kc X.prog X.w X.K X.mg X.base x C k dvs sp)(hr:Room k' X.A)(ha:PA X (e::es) t)(hk:k+1<=k':=by decide)(hg:Gl X x:=by rfl)
  (hdb:(x==("__debug__" :Str))=false:=by decide)(he:starEach (e::es) X.env=(false,eval e X.env)::starEach es X.env:=by rfl)(hpl:(backTo pos (starEach es X.env)).any (·.1)=false:=by rfl) :
  PE X (.Call (.Name x p) (e::es) [] pos) (ET C sp dvs E0 t):=by
 obtain⟨f,fd,ps,ds,hm,M,hd,hb,G⟩:=F.ex;exact N2 M G (hr.mono hk) hg hm hb hd rF ha hdb he hpl
structure Dc (P:Program)(w:World)(K:PySem.W.Frag)(mg:Str->Option Value)(base:Heap)(x m:Str)(k:Nat)(sp:Sp):Prop where
 ex:∃C f fd ps,mg x=some (.ref C)/\PySem.W.specialIn K (.ref C) "__getattribute__" =some (some (.builtin "type.__getattribute__"))/\PySem.W.readsIn K C (.type "type")=true/\PySem.W.findCls K (.ref C) (.type "type") m=some (.val (.ref f)) ∧
  PySem.W.keepIn K (.ref f)=true/\Binds K fd ps []/\FnOk P w K mg base CX0 k f fd ps sp
theorem yS {pl:Sem Bool}(F:Dc X.prog X.w X.K X.mg X.base x m k sp)(hr:Room k' X.A)(ha:PA X (e::es) t)(hk:k<=k':=by decide)(hg:Gl X x:=by rfl)(hdb:(x==("__debug__" :Str))=false:=by decide)
  (hst:starEach (e::es) X.env=(false,eval e X.env)::starEach es X.env:=by rfl)(hpl:(backTo pos (starEach es X.env)).any (·.1)=false:=by rfl)
  (ht:eval (.Call (.Attribute (.Name x p) m apos) (e::es) [] pos) X.env=(do
   let ov ←eval (.Name x p) X.env
   standAt apos.atName
   let (f,first) ←holding [ov] (getMethod ov m pl)
   callWith pos f first (backTo pos (starEach (e::es) X.env)) (backToKw pos (keywordEach [] X.env))):=by rfl) :
  PE X (.Call (.Attribute (.Name x p) m apos) (e::es) [] pos) (lV sp [] E0 t):=by
 intro pins s σ H Q I h;obtain⟨C,f,fd,ps,hm,hga,hrd,hfc,kp,hb,G⟩:=F.ex;refine PySem.W.methodCall_KW (pl:=pl) (iF I hg hm ?_ hdb) ht;refine PySem.W.method_cls I.kIn hga (PySem.W.cls_value I.kIn hrd hfc (qM (v:= .ref f) rfl) ?_);have I1:=I.tok (s.toks+1);refine PySem.W.callWith_K (first:=[]) (h₀:=X.base) I.ok.mod.kin kp (thn (ha pos pins _ σ H _ I1 h) fun us s2 ⟨vs,H2,I2,r,q2⟩=>⟨I2.kIn,?_⟩) hst hpl;exact oK G (hr.mono hk) hb .nil rF I2 r q2
end
end L2
namespace L2
open PySem PySem.Spec PyProof.Rows
def LR:R2:=fun x y H Q=>∃i j,x= .str i/\y= .str j/\i.length+j.length<=sizeLine/\Q (.str (i++j)) H
def QB:R2:=fun x y H Q=>y= .non/\Q (.bl (decide (x= .non))) H
def FD:R2:=fun x y H Q=>y= .non/\Q (.bl (!decide (x= .non))) H
def U1:R2:=fun x y H Q=>∃i j,x= .str i/\y= .str j/\Q (.bl (!decide (j.cps.toList<i.cps.toList))) H
def FG (K:PySem.W.Frag):List V->Hp->VK->Prop:=fun xs H Q=>∃x c t u b,xs=[x,c]/\i7 K H x t/\RelV c u/\PySem.W.kitOne K t u=some b/\Q (.bl b) H
def UR (K:PySem.W.Frag):List V->Hp->VK->Prop:=fun xs H Q=>∃(p:Addr) (bs:List Bool),xs=[.ref p]/\SqL K H p (bs.map V.bl)/\Q (.bl (bs.all id)) H
def K7:List V->Hp->VK->Prop:=fun xs H Q=>∃z,xs=[.str z]/\z.length<=sizeLine/\Q (.int z.length) H
def LO (K:PySem.W.Frag):List V->Hp->VK->Prop:=fun xs H Q=>∃p ys,xs=[.ref p]/\(SqL K H p ys∨SqT K H p ys)/\Q (.int ys.length) H
def LB:List V->Hp->VK->Prop:=fun xs H Q=>(∃i,xs=[.int i]/\Q (.int i) H)∨∃k,xs=[.bl k]/\Q (.int (if k then 1 else 0)) H
def E4:List V->Hp->VK->Prop:=fun xs H Q=>∃i,xs=[.int i]/\i.natAbs.log2<1920/\Q (.str (toString i)) H
section
variable {X:Cx}
theorem aO:OpR X (binaryOp .Add) LR:=FH
theorem R0:OpR X (compareOp .Is) QB:=PU
theorem DI:OpR X (compareOp .IsNot) FD:=MN
theorem uW:OpR X (compareOp .LtE) U1:=HI
theorem kJ:dA X (.builtin "isinstance") (FG X.K):=CG
theorem zH (hc:X.calm=true):dA X (.builtin "all") (UR X.K):=v6 hc
theorem nE:dA X (.builtin "len") K7:=AW
theorem lA:dA X (.builtin "len") (LO X.K):=zM
theorem GF:dA X (.type "int") LB:=GC
theorem lB:dA X (.type "str") E4:=AV
theorem rO {i j:Int}(n:Int){k1 k2 p1 p2 pos}(h:i^j.toNat=n)(c:OV i j):PE X (.BinOp (.Constant (.int i) k1 p1) .Pow (.Constant (.int j) k2 p2) pos) (tC (.int n)):=by
 subst h;intro pins s σ H Q I q;exact aG P4 aC aC pins s σ H Q I ⟨i,j,rfl,rfl,c,q⟩
end
def o3 (P:Bool->Hp->Prop):VK:=fun x H=>∃k,x= .bl k/\P k H
def QN (O:Option Int->Hp->Prop):VK:=fun x H=>∃i,x= .int i/\O (some i) H
def QX (Q:VK):List V->Hp->Prop:=fun xs H=>xs.length<=sizeLine/\∀p,H p=none->Q (.ref p) (upd H p (.lst xs))
def SG (Q:VK):List V->Hp->Prop:=fun xs H=>xs.length<=sizeLine/\∀p,H p=none->Q (.ref p) (upd H p (.tup xs))
def QI (Q:VK):List V->Hp->Prop:=fun ys H=>∀p,H p=none->Q (.ref p) (upd H p (.lst ys))
def R5 (K:PySem.W.Frag)(f:Str)(Q:VK):VK:=fun x H=>∃a C dx fs v,x= .ref a/\H a=some (.ins C dx fs)/\Cls K C/\NoAttr K C f/\fs.lookup f=some v/\Q v H
def LK (K:PySem.W.Frag)(f:Str)(y:V)(q:Hp->Prop):VK:=fun x H=>∃a C dx fs,x= .ref a/\H a=some (.ins C dx fs)/\Cls K C/\NoAttr K C f/\fs.length<1000/\q (upd H a (.ins C dx (b9 f y fs)))
def MdP (M:Addr->Sp->Prop)(m:Str)(t:TA)(σ:St)(Q:VK):VK:=fun x H=>∃a C dx fs sp,x= .ref a/\H a=some (.ins C dx fs)/\fs.lookup m=none/\M C sp/\t σ H fun vs H2=>sp (x::vs) H2 Q E0
def lU (C:Addr)(sp:Sp)(dvs:List V)(E:XK)(Q:VK):List V->Hp->Prop:=fun vs H1=>∀x dx,H1 x=none->H1 dx=none->dx≠x →
 sp (.ref x::(vs++dvs)) (upd (upd H1 dx (.own x)) x (.ins C dx [])) (fun v H2=>v= .non/\Q (.ref x) H2) E
def BmP (K:PySem.W.Frag)(T:String)(r:V->List V->Hp->VK->Prop)(t:TA)(σ:St)(Q:VK):VK:=fun x H1=>tyV K T x H1/\t σ H1 fun xs H2=>r x xs H2 Q
def RC (K:PySem.W.Frag)(T:String)(r:V->List V->Hp->VK->Prop)(Q:VK):VK:=fun x H1=>tyV K T x H1/\r x [] H1 Q
def RZ (K:PySem.W.Frag)(R:It->Hp->Prop):VK:=fun x H1=>∃a,x= .ref a/\(∃xs,SqL K H1 a xs)/\R (Itl K a) H1
def QR (R:It->Hp->Prop):VK:=fun x H1=>∃z,x= .str z/\R (Its z) H1
def PY (R:It->Hp->Prop):List V->Hp->Prop:=fun vs H1=>∃j:Int,vs=[.int j]/\ -(2^62)<=j/\j<2^62/\R (Itr 0 j.toNat) H1
section
variable {nx bk ct:St->Hp->Prop}{rt:VK}{σ:St}{H:Hp}{Q:VK}{t u:TS}{te ta tb tc:TE}{g:TG}{c d:TT}{v:V}{K:PySem.W.Frag}{E:XK}
theorem G8 (h:t ⟨u ⟨nx,rt,bk,ct⟩,rt,bk,ct⟩ σ H):zP t u ⟨nx,rt,bk,ct⟩ σ H:=h
theorem vO (R:St->Hp->Prop)(h2:∀σ' H',R σ' H'->u ⟨nx,rt,bk,ct⟩ σ' H')(h1:∀nx':St->Hp->Prop,(∀σ' H',R σ' H'->nx' σ' H')->t ⟨nx',rt,bk,ct⟩ σ H):zP t u ⟨nx,rt,bk,ct⟩ σ H:=h1 _ h2
theorem JA {v:TS}(h:zP (E7 c t u) v ⟨nx,rt,bk,ct⟩ σ H):zP (E7 c t u) v ⟨nx,rt,bk,ct⟩ σ H:=h
theorem L9 (h:nx σ H):K8 ⟨nx,rt,bk,ct⟩ σ H:=h
theorem QF (h:te σ H fun x H1=>g x σ H1 nx):EQ te g ⟨nx,rt,bk,ct⟩ σ H:=h
theorem RI (h:te σ H rt):P2 te ⟨nx,rt,bk,ct⟩ σ H:=h
theorem LZ (h:te σ H fun _ H1=>nx σ H1):LU te ⟨nx,rt,bk,ct⟩ σ H:=h
theorem UH (h:c σ H fun b H1=>if b=true then t ⟨nx,rt,bk,ct⟩ σ H1 else u ⟨nx,rt,bk,ct⟩ σ H1):E7 c t u ⟨nx,rt,bk,ct⟩ σ H:=h
def zS (J:It)(g:TG)(tb:TS)(D:j2)(σ:St)(H:Hp):Prop :=
 ∃W:Nat->Nat->St->Hp->Prop,(∃m,W 0 m σ H)/\∀i m σ H,W i m σ H →
  (J.stop i H/\D.nx σ H)∨(J.go i H/\∃N:St->Hp->Prop,(∀σ' H',N σ' H'->∃m',m'<m/\W (i+1) m' σ' H')/\∀x H',J.yld i H x H'->g x σ H' fun σ2 H2=>tb { D with nx:=N,ct:=N,bk:=D.nx } σ2 H2)
theorem QY {wi:TI}{tb:TS} (h:wi σ H fun J H1=>zS J g tb ⟨nx,rt,bk,ct⟩ σ H1):RV wi g tb ⟨nx,rt,bk,ct⟩ σ H:=h
theorem UK {l:St}(h:Q v H):iI 0 (some v::l) H Q:=⟨v,rfl,h⟩
theorem UI {a0}{l:St} (h:Q v H):iI 1 (a0::some v::l) H Q:=⟨v,rfl,h⟩
theorem UC {a0 a1}{l:St} (h:Q v H):iI 2 (a0::a1::some v::l) H Q:=⟨v,rfl,h⟩
theorem TB {a0 a1 a2}{l:St} (h:Q v H):iI 3 (a0::a1::a2::some v::l) H Q:=⟨v,rfl,h⟩
theorem TW {a0 a1 a2 a3}{l:St} (h:Q v H):iI 4 (a0::a1::a2::a3::some v::l) H Q:=⟨v,rfl,h⟩
theorem T0 {a0 a1 a2 a3 a4}{l:St} (h:Q v H):iI 5 (a0::a1::a2::a3::a4::some v::l) H Q:=⟨v,rfl,h⟩
theorem SY {a0 a1 a2 a3 a4 a5}{l:St} (h:Q v H):iI 6 (a0::a1::a2::a3::a4::a5::some v::l) H Q:=⟨v,rfl,h⟩
theorem UE {a0 a1 a2 a3 a4 a5 a6}{l:St} (h:Q v H):iI 7 (a0::a1::a2::a3::a4::a5::a6::some v::l) H Q:=⟨v,rfl,h⟩
theorem TH {a0 a1 a2 a3 a4 a5 a6 a7}{l:St} (h:Q v H):iI 8 (a0::a1::a2::a3::a4::a5::a6::a7::some v::l) H Q:=⟨v,rfl,h⟩
theorem TC {a0 a1 a2 a3 a4 a5 a6 a7 a8}{l:St} (h:Q v H):iI 9 (a0::a1::a2::a3::a4::a5::a6::a7::a8::some v::l) H Q:=⟨v,rfl,h⟩
theorem P7 {a0 a1 a2 a3 a4 a5 a6 a7 a8 a9}{l:St} (h:Q v H):iI 10 (a0::a1::a2::a3::a4::a5::a6::a7::a8::a9::some v::l) H Q:=⟨v,rfl,h⟩
variable {q:St->Hp->Prop}
theorem UJ {a0 a}{l:St} (h:q (a0::some v::l) H):dM 1 v (a0::a::l) H q:=h
theorem UA {a0 a1 a}{l:St} (h:q (a0::a1::some v::l) H):dM 2 v (a0::a1::a::l) H q:=h
theorem UF {a0 a1 a2 a}{l:St} (h:q (a0::a1::a2::some v::l) H):dM 3 v (a0::a1::a2::a::l) H q:=h
theorem UG {a0 a1 a2 a3 a}{l:St} (h:q (a0::a1::a2::a3::some v::l) H):dM 4 v (a0::a1::a2::a3::a::l) H q:=h
theorem UL {a0 a1 a2 a3 a4 a}{l:St} (h:q (a0::a1::a2::a3::a4::some v::l) H):dM 5 v (a0::a1::a2::a3::a4::a::l) H q:=h
theorem UO {a0 a1 a2 a3 a4 a5 a}{l:St} (h:q (a0::a1::a2::a3::a4::a5::some v::l) H):dM 6 v (a0::a1::a2::a3::a4::a5::a::l) H q:=h
theorem SV {a0 a1 a2 a3 a4 a5 a6 a}{l:St} (h:q (a0::a1::a2::a3::a4::a5::a6::some v::l) H):dM 7 v (a0::a1::a2::a3::a4::a5::a6::a::l) H q:=h
theorem TV {a0 a1 a2 a3 a4 a5 a6 a7 a}{l:St} (h:q (a0::a1::a2::a3::a4::a5::a6::a7::some v::l) H):dM 8 v (a0::a1::a2::a3::a4::a5::a6::a7::a::l) H q:=h
theorem SX {a0 a1 a2 a3 a4 a5 a6 a7 a8 a}{l:St} (h:q (a0::a1::a2::a3::a4::a5::a6::a7::a8::some v::l) H):dM 9 v (a0::a1::a2::a3::a4::a5::a6::a7::a8::a::l) H q:=h
theorem QA {a0 a1 a2 a3 a4 a5 a6 a7 a8 a9 a}{l:St} (h:q (a0::a1::a2::a3::a4::a5::a6::a7::a8::a9::some v::l) H):dM 10 v (a0::a1::a2::a3::a4::a5::a6::a7::a8::a9::a::l) H q:=h
theorem UV (h:Q v H):tC v σ H Q:=h
theorem T8 {r:R2}(h:ta σ H fun x H1=>tb σ H1 fun y H2=>r x y H2 Q):tOp r ta tb σ H Q:=h
theorem SU {r:V->Hp->VK->Prop}(h:ta σ H fun x H1=>r x H1 Q):tUn r ta σ H Q:=h
theorem TY {f:Int->Int->V}{i j:Int} (h:Q (f i j) H):rI0 f (.int i) (.int j) H Q:=⟨i,j,rfl,rfl,h⟩
theorem UQ {f:Int->V}{i:Int} (h:Q (f i) H):rU f (.int i) H Q:=⟨i,rfl,h⟩
theorem QM {f:Int->Int->V}{i j:Int} (h0:0<j) (h1:j<1073741824) (h:Q (f i j) H):rI R4 f (.int i) (.int j) H Q:=⟨i,j,rfl,rfl,⟨h0,h1⟩,h⟩
theorem SM {f:Int->Int->V}{i j:Int} (h0:0<j) (h:Q (f i j) H):rI (fun _ j=>0<j) f (.int i) (.int j) H Q:=⟨i,j,rfl,rfl,h0,h⟩
theorem MS {f:Int->Int->V}{i j:Int} (h0: -18446744073709551616<i) (h1:i<18446744073709551616) (h:Q (f i j) H):rI CMul f (.int i) (.int j) H Q:=⟨i,j,rfl,rfl,.inl ⟨by lia,by lia⟩,h⟩
theorem MQ {f:Int->Int->V}{i j:Int} (h0: -18446744073709551616<j) (h1:j<18446744073709551616) (h:Q (f i j) H):rI CMul f (.int i) (.int j) H Q:=⟨i,j,rfl,rfl,.inr ⟨by lia,by lia⟩,h⟩
theorem F9 {f:Int->Int->V}{i j:Int} (h0:0<=j) (h:Q (f i j) H):rI (fun _ j=>0<=j) f (.int i) (.int j) H Q:=⟨i,j,rfl,rfl,h0,h⟩
theorem LA {i j:Int}:decide (V.int i=V.int j)=decide (i=j):=by simp
theorem LC {i j:Str}:decide (V.str i=V.str j)=decide (i=j):=by simp
theorem P0 {i j:Int}(h:Q (.bl (decide (i=j))) H):rEq (.int i) (.int j) H Q:=⟨rfl,by rw[LA];exact h⟩
theorem QH {i j:Str}(h:Q (.bl (decide (i=j))) H):rEq (.str i) (.str j) H Q:=⟨rfl,by rw[LC];exact h⟩
theorem Q9 {i j:Int}(h:Q (.bl (!decide (i=j))) H):rNe (.int i) (.int j) H Q:=⟨rfl,by rw[LA];exact h⟩
theorem zA {i j:Str}(h:Q (.bl (!decide (i=j))) H):rNe (.str i) (.str j) H Q:=⟨rfl,by rw[LC];exact h⟩
theorem OC (h:Q (.bl (decide (v= .non))) H):QB v .non H Q:=⟨rfl,h⟩
theorem MT (h:Q (.bl false) H):FD .non .non H Q:=⟨rfl,h⟩
theorem MP {i:Str}(h:Q (.bl true) H):FD (.str i) .non H Q:=⟨rfl,by rw[decide_eq_false (fun z=>by cases z)];exact h⟩
theorem MD {i j:Str}(hl:i.length+j.length<=sizeLine)(h:Q (.str (i++j)) H):LR (.str i) (.str j) H Q:=⟨i,j,rfl,rfl,hl,h⟩
theorem OD (h:ta σ H (o3 fun c H1=>if c=true then tb σ H1 Q else Q (.bl false) H1)):LJ ta tb σ H Q:=h
theorem PN (h:ta σ H (o3 fun c H1=>if c=true then Q (.bl true) H1 else tb σ H1 Q)):P6 ta tb σ H Q:=h
theorem M2 (h:ta σ H (o3 fun c H1=>Q (.bl (!c)) H1)):K9 ta σ H Q:=h
theorem P5 (h:c σ H fun k H1=>if k=true then ta σ H1 Q else tb σ H1 Q):tIf c ta tb σ H Q:=h
theorem IY {r r':R2}(h:ta σ H fun x H1=>tb σ H1 fun y H2=>r x y H2 (o3 fun k H3=>if k=true then tc σ H3 fun w' H4=>r' y w' H4 Q else Q (.bl false) H3)):AQ r r' ta tb tc σ H Q:=h
theorem NT {sp:Sp}{t:TA} (h:t σ H fun vs H1=>sp vs H1 Q E):lV sp [] E t σ H Q:=by
 unfold lV;simp only[List.append_nil];exact h
theorem SS {r:List V->Hp->VK->Prop}{t:TA} (h:t σ H fun vs H1=>r vs H1 Q):tCB r t σ H Q:=h
theorem SA {t:TA}(h:t σ H (QX Q)):RO t σ H Q:=h
theorem SF {t:TA}(h:t σ H (SG Q)):SJ t σ H Q:=h
theorem oM {o:HO}{R:V->Hp->Prop} (h:∀p H',H p=none->Same H H'->H' p=some o->R (.ref p) H'):∀p,H p=none->R (.ref p) (upd H p o) :=
 fun p hp=>h p _ hp (fun b u e=>by rw[aX (bG e hp)];exact e) bP
theorem MF {xs:List V}(hn:xs.length<=sizeLine)(h:∀p H',H p=none->Same H H'->H' p=some (.lst xs)->Q (.ref p) H'):QX Q xs H:=⟨hn,oM h⟩
theorem NL {xs:List V}(hn:xs.length<=sizeLine)(h:∀p H',H p=none->Same H H'->H' p=some (.tup xs)->Q (.ref p) H'):SG Q xs H:=⟨hn,oM h⟩
theorem MI {xs:List V}(h:∀p H',H p=none->Same H H'->H' p=some (.lst xs)->Q (.ref p) H'):QI Q xs H:=oM h
theorem RW {f:Str}(h:ta σ H (R5 K f Q)):PP K ta f σ H Q:=h
theorem NG {a C dx:Addr}{fs:List (Str×V)}{f:Str} (e:H a=some (.ins C dx fs)) (cl:Cls K C) (na:NoAttr K C f) (l:fs.lookup f=some v) (h:Q v H):R5 K f Q (.ref a) H:=⟨a,C,dx,fs,v,rfl,e,cl,na,l,h⟩
theorem N0 {f:Str}(h:ta σ H fun y H1=>tb σ H1 (LK K f y (nx σ))):QK K tb ta f ⟨nx,rt,bk,ct⟩ σ H:=h
theorem KB {a C dx:Addr}{fs:List (Str×V)}{f:Str}{y:V}{w:Hp->Prop} (e:H a=some (.ins C dx fs)) (cl:Cls K C) (na:NoAttr K C f) (l:decide (fs.length<1000)=true)
  (h:∀H',(∀b o,H b=some o->b≠a->H' b=some o)->H' a=some (.ins C dx (b9 f y fs))->w H'):LK K f y w (.ref a) H :=
 ⟨a,C,dx,fs,rfl,e,cl,na,of_decide_eq_true l,h _ (fun b o q hb=>by rw[aX hb];exact q) bP⟩
theorem TU {M:Addr->Sp->Prop}{m:Str}{t:TA} (h:ta σ H (MdP M m t σ Q)):tMD M m ta t σ H Q:=h
theorem Q4 {M:Addr->Sp->Prop}{m:Str}{t:TA}{a C dx:Addr}{fs:List (Str×V)}{sp:Sp} (e:H a=some (.ins C dx fs)) (l:fs.lookup m=none) (F:M C sp) (h:t σ H fun vs H2=>sp (.ref a::vs) H2 Q E0):MdP M m t σ Q (.ref a) H :=
 ⟨a,C,dx,fs,sp,rfl,e,l,F,h⟩
theorem MK {C:Addr}{sp:Sp}{dvs:List V}{t:TA} (h:t σ H (lU C sp dvs E Q)):ET C sp dvs E t σ H Q:=h
theorem iZ {C:Addr}{sp:Sp}{dvs vs:List V}{fs:List (Str×V)}
  (hsp:∀p dx H0 (Q':VK),H0 p=some (.ins C dx [])->(∀H',(∀b o,H0 b=some o->b≠p->H' b=some o)->H' p=some (.ins C dx fs)->Q' .non H')->Same H H0->sp (.ref p::(vs++dvs)) H0 Q' E)
  (k:∀p dx H',H p=none->Same H H'->H' p=some (.ins C dx fs)->Q (.ref p) H'):lU C sp dvs E Q vs H:=by
 intro x dx nx nd ne;have s0:Same H (upd (upd H dx (.own x)) x (.ins C dx [])):=fun b o e=>by
  rw[aX (bG e nx),aX (bG e nd)];exact e
 exact hsp x dx _ _ bP (fun H' sb e=>⟨rfl,k x dx H' nx (fun b o q=>sb b o (s0 b o q) (bG q nx)) e⟩) s0
theorem MO {wi:TI}{nl:Nat}{ci:List Nat}{ti:TT} (h:wi σ H fun J H1=>fS J g ti te (bZ nl ci σ) (QI Q) H1):FY wi nl ci g ti te σ H Q:=h
theorem TD {r:V->Option Int->Option Int->Hp->VK->Prop}{tl th:TO} (h:te σ H fun x H1=>tl σ H1 fun l H2=>th σ H2 fun u H3=>r x l u H3 Q):tSl r te tl th σ H Q:=h
theorem RQ {z:Str}{lo hi:Option Int} (hz:z.length<=sizeLine) (h:(Txt.slice z lo hi).length<=z.length->Q (.str (Txt.slice z lo hi)) H):RL (.str z) lo hi H Q:=⟨z,rfl,hz,h (Txt.slice_le _ _ _)⟩
theorem HF {a:Addr}{xs:List V}{lo hi:Option Int} (e:SqL K H a xs) (h:∀p H',H p=none->Same H H'->H' p=some (.lst (gJ xs lo hi))->Q (.ref p) H'):JT K (.ref a) lo hi H Q:=⟨a,xs,rfl,e,oM h⟩
theorem OW {p:Addr}{xs:List V}{i:Int} (e:SqL K H p xs) (l:atI xs i=some v) (h:Q v H):nH K (.ref p) (.int i) H Q:=⟨p,xs,i,v,rfl,rfl,e,l,h⟩
theorem NV {p:Addr}{a b i:Int} (e:SqL K H p [.int a,.int b]) (h0:0<=i) (h1:i<2) (h:∀v,(i=0/\v=a)∨(i=1/\v=b)->Q (.int v) H):nH K (.ref p) (.int i) H Q:=by
 have:i=0∨i=1:=by lia
 rcases this with rfl|rfl
 ·exact⟨p,_,0,_,rfl,rfl,e,rfl,h a (.inl ⟨rfl,rfl⟩)⟩
 ·exact⟨p,_,1,_,rfl,rfl,e,rfl,h b (.inr ⟨rfl,rfl⟩)⟩
def FU (ns:List Int)(lo hi:Option Int):List Int:=(ns.drop (HT.sIx ns.length 0 lo)).take (HT.sIx ns.length ns.length hi - HT.sIx ns.length 0 lo)
theorem GW (ns:List Int)(lo hi:Option Int):gJ (ns.map V.int) lo hi=(FU ns lo hi).map V.int:=by
 unfold gJ FU;rw[List.length_map,List.map_take,List.map_drop]
theorem RU {a:Addr}{ns:List Int}{lo hi:Option Int} (e:SqL K H a (ns.map V.int)) (h:∀p H',H p=none->Same H H'->H' p=some (.lst ((FU ns lo hi).map V.int))->Q (.ref p) H'):JT K (.ref a) lo hi H Q :=
 HF e (by rw[GW];exact h)
theorem DN {l b:Addr}{xs zs:List V} (e:H l=some (.lst xs)) (e2:H b=some (.lst zs)) (hn:xs.length+zs.length<=sizeLine) (h:∀p H',H p=none->Same H H'->H' p=some (.lst (xs++zs))->Q (.ref p) H'):PD (.ref l) (.ref b) H Q :=
 ⟨l,b,xs,zs,rfl,rfl,e,e2,hn,oM h⟩
theorem TR {T:String}{r:V->List V->Hp->VK->Prop}{to:TE}{t:TA} (h:to σ H (BmP K T r t σ Q)):tBM K T r to t σ H Q:=h
theorem QO {T:String}{r:V->List V->Hp->VK->Prop}{to:TE} (h:to σ H (RC K T r Q)):Q8 K T r to σ H Q:=h
theorem PV {r:V->List V->Hp->VK->Prop}{t:TA}{z:Str} (h:t σ H fun xs H2=>r (.str z) xs H2 Q):BmP K "str" r t σ Q (.str z) H:=⟨rfl,h⟩
theorem SE {r:V->List V->Hp->VK->Prop}{t:TA}{p:Addr}{xs:List V} (e:SqL K H p xs) (h:t σ H fun xs H2=>r (.ref p) xs H2 Q):BmP K "list" r t σ Q (.ref p) H:=⟨.inl ⟨rfl,xs,e⟩,h⟩
theorem N6 {r:V->List V->Hp->VK->Prop}{i:Int} (h:r (.int i) [] H Q):RC K "int" r Q (.int i) H:=⟨rfl,h⟩
theorem kG {z:Str}{p:Addr}{ys:List Str} (e:SqL K H p (ys.map V.str)) (hn:(ys.map (·.length)).sum+ys.length * z.length<=16777216) (h:Q (.str (Txt.join z ys)) H):ER K (.str z) [.ref p] H Q:=⟨z,p,ys,rfl,rfl,e,hn,h⟩
theorem DH {x:V}{n cn:String} (b:BTy K H x n) (hc:cn= "int" ∨cn= "bool" ∨cn= "str") (h:Q (.bl (isB n cn)) H):FG K [x,.ty cn] H Q:=⟨x,.ty cn,_,_,_,rfl,b.ty,rfl,t6 b cn hc,h⟩
theorem JI {i:Int}(h:Q (.bl true) H):FG K [.int i,.ty "int"] H Q:=DH (.int i) (.inl rfl) h
theorem KJ {i:Int}(h:Q (.bl false) H):FG K [.int i,.ty "bool"] H Q:=DH (.int i) (.inr (.inl rfl)) h
structure ICls (K:PySem.W.Frag)(C:Addr):Prop where
 cl:Cls K C
 ha:PySem.W.findIn K (.ref C) "__class__" =some (some (.builtin "object.__class__"))
 hn:PySem.W.specialIn K (.builtin "object.__class__") "__get__" =some (some (.builtin "getset_descriptor.__get__"))
 tk:PySem.W.takesIn K (.builtin "object.__class__")=some true
 hm:PySem.W.mroIn K C (.type "object")=some true
theorem M3 {z:Str}(hz:z.length<=sizeLine)(h:Q (.int z.length) H):K7 [.str z] H Q:=⟨z,rfl,hz,h⟩
theorem OE {p:Addr}{ys:List V} (e:SqL K H p ys) (h:Q (.int ys.length) H):LO K [.ref p] H Q:=⟨p,ys,rfl,.inl e,h⟩
theorem OK {k:Bool}(h:Q (.int (if k then 1 else 0)) H):LB [.bl k] H Q:= .inr ⟨k,rfl,h⟩
variable {B:Bool->Hp->Prop}
theorem NZ (h:te σ H (o3 B)):F0 te σ H B:=h
theorem TZ (h:te σ H (o3 B)):tB te σ H B:=h
theorem RH (h:c σ H fun k H1=>if k=true then d σ H1 B else B false H1):RG c d σ H B:=h
theorem UD (h:c σ H fun k H1=>if k=true then B true H1 else d σ H1 B):tOr c d σ H B:=h
theorem RT (h:c σ H fun k H1=>B (!k) H1):RM c σ H B:=h
theorem PM {b:Bool}{P:Bool->Hp->Prop} (h:P b H):o3 P (.bl b) H:=⟨b,rfl,h⟩
theorem HC {A B:Prop}(h:A):if true=true then A else B:=by rw[if_pos rfl];exact h
theorem A7 {A B:Prop}(h:B):if false=true then A else B:=by rw[if_neg Bool.false_ne_true];exact h
theorem OH {A B:Prop}(h:B):if (!true)=true then A else B:=A7 h
theorem L8 {A B:Prop}(h:A):if (!false)=true then A else B:=HC h
theorem PC {p A B:Prop}[Decidable p](hp:p)(h:A):if decide p=true then A else B:=by rw[if_pos (decide_eq_true hp)];exact h
theorem O5 {p A B:Prop}[Decidable p](hp:¬p)(h:B):if decide p=true then A else B:=by rw[if_neg (by rw[decide_eq_false hp];exact Bool.false_ne_true)];exact h
theorem OI {p A B:Prop}[Decidable p](hp:p)(h:B):if (!decide p)=true then A else B:=by rw[decide_eq_true hp];exact A7 h
theorem bV {p A B:Prop}[Decidable p](h1:p->A)(h2:¬p->B):if decide p=true then A else B:=sR (fun h=>h1 (of_decide_eq_true h)) fun h=>h2 fun z=>h (decide_eq_true z)
variable {L:List V->Hp->Prop}{O:Option Int->Hp->Prop}{tr:TA}
theorem RY (h:L [] H):zK σ H L:=h
theorem NO (h:te σ H fun x H1=>tr σ H1 fun xs H2=>L (x::xs) H2):DU te tr σ H L:=h
theorem IG (h:O none H):DJ σ H O:=h
theorem N5 (h:te σ H (QN O)):LD te σ H O:=h
theorem R6 {i:Int}(h:O (some i) H):QN O (.int i) H:=⟨i,rfl,h⟩
variable {vs:List V}{gs:TGs}
theorem L4 (h:q σ H):O8 [] σ H q:=⟨rfl,h⟩
theorem JK (h:g v σ H fun σ' H'=>gs vs σ' H' q):LE g gs (v::vs) σ H q:=⟨v,vs,rfl,h⟩
theorem MW {a:Addr}{n:Nat} (e:SqT K H a vs) (hl:vs.length=n) (h:gs vs σ H q):QV K n gs (.ref a) σ H q:=⟨a,vs,rfl,e,hl,h⟩
variable {R:It->Hp->Prop}
theorem JP (h:te σ H (RZ K R)):LS K te σ H R:=h
theorem HL {a:Addr}{xs:List V} (e:SqL K H a xs) (h:R (Itl K a) H):RZ K R (.ref a) H:=⟨a,rfl,⟨xs,e⟩,h⟩
theorem J4 (h:tr σ H (PY R)):LM tr σ H R:=h
theorem GV {j:Int}(h0: -4611686018427387904<=j)(h1:j<4611686018427387904)(h:R (Itr 0 j.toNat) H):PY R [.int j] H:=⟨j,rfl,by lia,by lia,h⟩
theorem MU (h:te σ H (QR R)):PB te σ H R:=h
theorem JX {z:Str}(h:R (Its z) H):QR R (.str z) H:=⟨z,rfl,h⟩
theorem ME {a:Addr}{tb:TS} (xs:List V) (Pv:Nat->St->Hp->Prop) (h0:Pv 0 σ H) (hl:∀i σ H,i<=xs.length->Pv i σ H->SqL K H a xs)
  (hs:∀i x σ H,xs[i]? =some x->Pv i σ H->g x σ H fun σ2 H2=>tb ⟨Pv (i+1),rt,nx,Pv (i+1)⟩ σ2 H2)(hd:∀σ H,Pv xs.length σ H->nx σ H):zS (Itl K a) g tb ⟨nx,rt,bk,ct⟩ σ H :=
 JY (D:=⟨nx,rt,bk,ct⟩) Pv h0 hl hs hd
theorem NY {a:Addr}{tb:TS} (ns:List Int) (Pv:Nat->St->Hp->Prop) (h0:Pv 0 σ H) (hl:∀i σ H,Pv i σ H->SqL K H a (ns.map V.int))
  (hs:∀i n σ H,ns[i]? =some n->Pv i σ H->g (.int n) σ H fun σ2 H2=>tb ⟨Pv (i+1),rt,nx,Pv (i+1)⟩ σ2 H2)(hd:∀σ H,Pv ns.length σ H->nx σ H):zS (Itl K a) g tb ⟨nx,rt,bk,ct⟩ σ H:=by
 refine ME (ns.map V.int) Pv h0 (fun i σ H _ p=>hl i σ H p) (fun i x σ H hx p=> ?_) (fun σ H p=>hd σ H (by rw[List.length_map]at p;exact p));rw[List.getElem?_map]at hx;cases e:ns[i]? with
 | none=>rw[e]at hx;cases hx
 | some n =>
  rw[e]at hx;cases hx;exact hs i n σ H e p
theorem NI {lo:Int}{n:Nat}{tb:TS} (Pv:Nat->St->Hp->Prop) (h0:Pv 0 σ H)
  (hs:∀i σ H,i<n->Pv i σ H->g (.int (lo+i)) σ H fun σ2 H2=>tb ⟨Pv (i+1),rt,nx,Pv (i+1)⟩ σ2 H2)(hd:∀σ H,Pv n σ H->nx σ H):zS (Itr lo n) g tb ⟨nx,rt,bk,ct⟩ σ H :=
 HX (D:=⟨nx,rt,bk,ct⟩) Pv h0 hs hd
end
section
variable {K:PySem.W.Frag}{te:TE}{σ:St}{ci:List Nat}{rest:St}{fin:List V->Hp->Prop}{H:Hp}{a:Addr}
theorem AC (hr:ci.map (fun i=>(σ[i]?).join)=rest):bZ 1 ci σ=none::rest:=by
 unfold bZ;rw[hr];rfl
theorem E9 {xs:List V}(P:Nat->V->Prop)(hn:xs.length<=sizeLine)(hr:ci.map (fun i=>(σ[i]?).join)=rest)(hl:∀H1,Same H H1->SqL K H1 a xs)
  (hs:∀i x H1,xs[i]? =some x->Same H H1->∀R:VK,(∀y H2,P i y->Same H1 H2->R y H2)->te (some x::rest) H1 R)
  (hf:∀ys H1,Same H H1->ys.length=xs.length->(∀i y,ys[i]? =some y->P i y)->fin ys H1):fS (Itl K a) (dM 0) vU te (bZ 1 ci σ) fin H:=by
 rw[AC hr];refine GG (xs:=xs) (fun i ys H1=>Same H H1/\ys.length=i/\∀j y,ys[j]? =some y->P j y) hn rfl ⟨Same.refl _,rfl,fun j y h=>by simp at h⟩ (fun i ys H1 ok=>Nat.le_of_eq ok.2.1) (fun i ys H1 ok=>hl H1 ok.1) (fun ys H1 ok=>hf ys H1 ok.1 ok.2.1 ok.2.2) ?_;intro i x ys H1 hi ⟨s1,hl',hp⟩ R hR;refine hs i x H1 hi s1 R fun y H2 hy s2=>hR y H2 ⟨s1.trans s2,by simp[hl'],fun j z hz=> ?_⟩
 by_cases hj:j<ys.length
 ·rw[List.getElem?_append_left hj]at hz;exact hp j z hz
 ·rw[List.getElem?_append_right (by lia)]at hz;have hj0:j - ys.length=0:=by
   cases e:j - ys.length with
   | zero=>rfl
   | succ k=>rw[e]at hz;simp at hz
  rw[hj0]at hz;have:z=y:=by simpa using hz.symm
  subst this;have:j=i:=by lia
  subst this;exact hy
end
section
variable {K:PySem.W.Frag}{te:TE}{σ:St}{ci:List Nat}{rest:St}{fin:List V->Hp->Prop}{H:Hp}{a:Addr}
theorem EN {α β:Type}{xs:List α}{ys:List β}{f:α->β} (hl:ys.length=xs.length) (h:∀(i:Nat) y,ys[i]? =some y->∃x,xs[i]? =some x/\y=f x):ys=xs.map f:=by
 apply List.ext_getElem?
 intro i;rw[List.getElem?_map];cases e:ys[i]? with
 | none =>
  have:xs[i]? =none:=by
   rw[List.getElem?_eq_none_iff]at e ⊢
   lia
  rw[this];rfl
 | some y =>
  obtain⟨x,hx,rfl⟩:=h i y e;rw[hx];rfl
theorem w9 {ns:List Int}(f:Int->V)(hn:ns.length<=sizeLine)(hr:ci.map (fun i=>(σ[i]?).join)=rest)(hl:∀H1,Same H H1->SqL K H1 a (ns.map V.int))
  (hs:∀n H1,n∈ns->Same H H1->∀R:VK,(∀H2,Same H1 H2->R (f n) H2)->te (some (.int n)::rest) H1 R)
  (hf:∀H1,Same H H1->fin (ns.map f) H1):fS (Itl K a) (dM 0) vU te (bZ 1 ci σ) fin H:=by
 refine E9 (xs:=ns.map V.int) (fun i y=>∃n,ns[i]? =some n/\y=f n) (by rw[List.length_map];exact hn) hr hl ?_ ?_
 ·intro i x H1 hx s1 R hR;rw[List.getElem?_map]at hx;cases e:ns[i]? with
  | none=>rw[e]at hx;cases hx
  | some n =>
   rw[e]at hx;cases hx;exact hs n H1 (List.mem_of_getElem? e) s1 R fun H2 s2=>hR _ H2 ⟨n,e,rfl⟩ s2
 ·intro ys H1 s1 hl' hp;rw[EN (f:=f) (xs:=ns) (by rw[hl',List.length_map]) hp];exact hf H1 s1
end
theorem Same.at {H H':Hp}{b:Addr}{o:HO} (s:Same H H') (h:H b=some o):H' b=some o:=s b o h
def SameBut (p:Addr)(H H':Hp):Prop:=∀b o,H b=some o->b≠p->H' b=some o
theorem SameBut.upd {p:Addr}{H:Hp}{o:HO}:SameBut p H (upd H p o):=fun b u e hb=>by rw[aX hb];exact e
theorem SameBut.same {p:Addr}{H H0 H':Hp} (n:H0 p=none) (s:Same H0 H) (b:SameBut p H H'):Same H0 H':=fun c o e=>b c o (s c o e) (bG e n)
theorem aN {t:TS}{D:j2}{N:List Str}{vs:List V}{σ:St}{H:Hp} (e:jW N vs=σ) (h:t D σ H):t D (jW N vs) H:=e▸h
theorem SameBut.refl {p:Addr}{H:Hp}:SameBut p H H:=fun _ _ e _=>e
theorem SameBut.snoc {p:Addr}{H H1 H2:Hp} (b:∀c o,H1 c=some o->c≠p->H2 c=some o) (a:SameBut p H H1):SameBut p H H2:=fun c o h hc=>b c o (a c o h hc) hc
theorem SameBut.snocS {p:Addr}{H H1 H2:Hp} (b:Same H1 H2) (a:SameBut p H H1):SameBut p H H2:=fun c o h hc=>b c o (a c o h hc)
theorem Same.snoc {H H1 H2:Hp}(b:Same H1 H2)(a:Same H H1):Same H H2:=a.trans b
theorem M9 {f:Str}{v:V}{fs:List (Str×V)}:(b9 f v fs).lookup f=some v:=by rw[kZ,if_pos rfl]
theorem SR {f g:Str}{v:V}{o:Option V}{fs:List (Str×V)} (h:decide (g=f)=false) (l:fs.lookup g=o):(b9 f v fs).lookup g=o:=by rw[kZ,if_neg (of_decide_eq_false h)];exact l
theorem Q5 {f:Str}:([]:List (Str×V)).lookup f=none:=rfl
section
variable {K:PySem.W.Frag}{x qual:Str}{st:Stmt}{kV doc pm cdv ct:Value}{an:Option Addr}{ps:List Str}
theorem aT (h:∀us:List Value,us.length=ps.length->bindArgs (PySem.W.fnOf x qual (aM st) (aL st) (aE st) .none kV doc pm an cdv ct) ⟨us,[]⟩=pure (ps.zip us)) :
  Binds K (PySem.W.fnOf x qual (aM st) (aL st) (aE st) .none kV doc pm an cdv ct) ps []:= .all h
theorem oA (k:Nat){T:Addr}{ds:List Value}{oc:Value}{od:Option Addr}{sl:Array (Option Value)}{items:Array Value}{n:Nat} (lt:K.lookup T=some ⟨oc,od,.seq items n,sl⟩)
  (h:∀us:List Value,us.length=k->∃k,bindArgs (PySem.W.fnOf x qual (aM st) (aL st) (aE st) (.ref T) kV doc pm an cdv ct) ⟨us,[]⟩=seqItems? (.ref T) >>= k/\k (some items)=pure (ps.zip (us++ds)))(hk:k+ds.length=ps.length:=by rfl) :
  Binds K (PySem.W.fnOf x qual (aM st) (aL st) (aE st) (.ref T) kV doc pm an cdv ct) ps ds:=fun s us hK hl=>by
 obtain⟨k,h1,h2⟩:=h us (by rw[List.length_append]at hl;lia);exact .of_defaults (T:=T) (items:=items) (n:=n) rfl (hK T _ lt) rfl h1 h2
theorem JQ {C:Addr}:PySem.W.kitOne K (.ref C) (.ref C)=some true:=by
 unfold PySem.W.kitOne;rw[if_pos (beq_self_eq_true _)]
theorem R9 {C D:Addr}{cd:ClassData}{b:Bool} (ne:(Value.ref C==Value.ref D)=false) (c:PySem.W.clsIn K D=some cd) (t:PySem.W.typeIn K (.ref D)=some (.type "type")) (s:PySem.W.subIn K (.ref C) (.ref D)=some b) :
  PySem.W.kitOne K (.ref C) (.ref D)=some b:=by
 unfold PySem.W.kitOne;rw[ne,if_neg Bool.false_ne_true];show (if ((PySem.W.clsIn K D).isSome&&PySem.W.typeIn K (.ref D)==some (.type "type"))=true then PySem.W.subIn K (.ref C) (.ref D) else none)=_;rw[c,t,if_pos (by rfl)];exact s
end
def aY (i:Int):Str:=(toString i:String)
theorem u4 {m:Nat}(h:m<10^31):(Nat.toDigits 10 m).length<=31:=by
 have:=PySem.digitsCore_len_pow 10 (by decide) 31 (m+1) m [] (by decide) h
 simpa [Nat.toDigits] using this
theorem aJ (s:String):(Str.ofString s).length=s.length:=by
 rw[Str.ofString_eq_toList];show (s.toList.map Char.toNat).toArray.size=_;rw[List.size_toArray,List.length_map,String.length_toList]
theorem kH {i:Int}(h0: -1000000000000000000000000000000<i)(h1:i<1000000000000000000000000000000):(aY i).length<=40:=by
 unfold aY;rw[aJ];cases i with
 | ofNat m =>
  show (Nat.repr m).length<=40;have:=u4 (m:=m) (by have h1':((m:Nat):Int)<1000000000000000000000000000000:=h1;lia);have e:(Nat.repr m).length=(Nat.toDigits 10 m).length:=by rw[←String.length_toList,Nat.toList_repr]
  lia
 | negSucc m =>
  show ("-" ++Nat.repr (m+1)).length<=40;have:=u4 (m:=m+1) (by have h0': -1000000000000000000000000000000< -(((m:Nat):Int)+1):=h0;lia);have e:(Nat.repr (m+1)).length=(Nat.toDigits 10 (m+1)).length:=by rw[←String.length_toList,Nat.toList_repr]
  rw[String.length_append];have: "-".length=1:=rfl
  lia
theorem log2_lt {n:Nat}(h:n<2^100):n.log2<1920:=by
 by_cases h0:n=0
 ·subst h0;decide
 ·exact Nat.lt_trans (Nat.log2_lt h0 |>.mpr h) (by decide)
theorem SH {i:Int}{H:Hp}{Q:VK} (h0: -1000000000000000000000000000000<i) (h1:i<1000000000000000000000000000000) (h:(aY i).length<=40->Q (.str (aY i)) H):E4 [.int i] H Q :=
 ⟨i,rfl,log2_lt (by lia),h (kH h0 h1)⟩
def sgB (c:Nat):Bool:=decide (97<=c)&&decide (c<=122)
def kI (z:Str):Bool:=z.cps.toList.all sgB
def aH (z:Str):Bool:=decide (1<=(z.length:Int))&&decide ((z.length:Int)<=8)&&kI z
theorem c9 {z:Str}(h:aH z=true):z.length<=8:=by
 unfold aH at h;simp only[Bool.and_eq_true,decide_eq_true_eq]at h
 lia
theorem AT {z:Str}(h0:1<=z.length)(h1:z.length<=8)(h2:kI z=true):aH z=true:=by
 unfold aH;simp only[Bool.and_eq_true,decide_eq_true_eq];exact⟨⟨by lia,by lia⟩,h2⟩
theorem KF {c:Nat}{z:Str} (h:kI z=true) (hc:c∈z.cps.toList):kI ⟨#[c]⟩=true:=by
 unfold kI at h ⊢;rw[List.all_eq_true]at h;show [c].all sgB=true;rw[List.all_cons,h c hc];rfl
theorem jR (k:Nat):∀(l:List Str),(∀z∈l,z.length<=k)->(l.map (·.length)).sum<=l.length * k
 | [],_=>by simp
 | z::l,h=>by
  have h1:=h z List.mem_cons_self;have h2:=jR k l fun y hy=>h y (List.mem_cons_of_mem _ hy);rw[List.map_cons,List.sum_cons,List.length_cons,Nat.succ_mul]
  lia
theorem CB (x y:Str):(x++y).cps.toList=x.cps.toList++y.cps.toList:=by
 show (x.cps++y.cps).toList=_;simp
theorem bI (x y:Str):(x++y).length=x.length+y.length:=by
 show (x.cps++y.cps).size=_;rw[Array.size_append];rfl
theorem vK (c:Nat):(⟨#[c]⟩:Str).length=1:=rfl
theorem sJ {x y:Str}(h:kI x=true)(h':kI y=true):kI (x++y)=true:=by
 unfold kI at h h' ⊢;rw[CB,List.all_append,h,h'];rfl
theorem N7 {x y:Str}(h:x.cps.toList=y.cps.toList):x=y:=by
 cases x;cases y;have:_=_:=Array.ext' h;cases this;rfl
theorem HK (sep x y:Str)(r:List Str):Txt.join sep (x::y::r)=x++sep++Txt.join sep (y::r):=by
 show Builtin.Str.glued sep (x::y::r)=x++sep++Builtin.Str.glued sep (y::r);rw[StrLaws.glued_eq_join,StrLaws.glued_eq_join];rfl
theorem JN (sep x:Str):Txt.join sep [x]=x:=by
 show Builtin.Str.glued sep [x]=x;rw[StrLaws.glued_eq_join];rfl
end L2
namespace L2
open PySem PySem.Spec PyProof.Rows
section
variable {prog:Program}{w:World}{A:Around}{E:Value->Shared->Prop}{s:Shared}
end
section
variable {X:Cx}{pos:Pos}
end
section
variable {nx bk ct:St->Hp->Prop}{rt:VK}{σ:St}{H:Hp}{g:TG}{K:PySem.W.Frag}{a:Addr}{tb:TS}{xs:List V}
end
theorem MC {H:Hp}{Q:VK}{i j:Int} (h0:0<j) (h:0<=i%j->i%j<j->Q (.int (i%j)) H):rI (fun _ j=>0<j) (fun i j=> .int (i%j)) (.int i) (.int j) H Q:=⟨i,j,rfl,rfl,h0,h (Int.emod_nonneg _ (by lia)) (Int.emod_lt_of_pos _ h0)⟩
end L2
namespace L2
open PySem PySem.Spec PyProof.Rows PySem.W
structure lC (K:Frag)(C:Addr):Prop where
 ga:findIn K (.ref C) "__getattribute__" =some (some (.builtin "BaseException.__getattribute__"))
 gg:findIn K (.ref C) "__getattr__" =some none
 cl:findIn K (.ref C) "__class__" =some (some (.builtin "object.__class__"))
 so:subIn K (.ref C) (.type "object")=some true
 sb:subIn K (.ref C) (.type "BaseException")=some true
 cd:∃cd,clsIn K C=some cd
section
variable {prog:Program}{w:World}{A:Around}{E:Value->Shared->Prop}{h:Heap}{g:Array GenState}{d:Drawn}{t:Nat}{os:OsState}{a C:Addr}{o:Obj}{vs:Array Value}{K:Frag}
theorem l7 {M:Model}(hx:h.get? a=some o)(hc:o.cls= .ref C)(hd:o.data= .fields vs):Looks M h (typeOf (.ref a)) (.ref C):=by
 have L:Looks M h (typeOf (.ref a)) o.cls:=by
  refine(Looks.ld hx).andThen ?_;exact .now
 rw[hc]at L;exact L
theorem x8 {R:Result->Shared->Prop}(X:K.In h)(k:lC K C)(hx:h.get? a=some o)(hc:o.cls= .ref C)(hd:o.data= .fields vs)(hq:R (.ok (.ret (.ref C))) ⟨h,g,d,t,os⟩) :
  codeAny (model prog w) A (.call (.builtin "getset_descriptor.__get__") ⟨[.builtin "object.__class__",.ref a,.ref C],[]⟩) R ⟨h,g,d,t,os⟩:=by
 have hT5:(⟨h,g,d,t,os⟩:Shared).TypeIs (.builtin "object.__class__") "getset_descriptor" :=F.typeOf_object_class;have L0:=l7 (M:=model prog w) hx hc hd;have L1:Looks (model prog w) h (isSubtype (.ref C) (.type (".".intercalate ("object.__class__".cutAt '.').dropLast))) true:=by rw[F.owner_object_class];exact looks_subIn X k.so
 refine codeAny_call_builtin F.slot_gs_get.plain F.entry_gs_get (F.slot_gs_get.check _ _ _ _ _ _ _ _ hT5 (F.args_gs_get _ _ _) ?_)
 repeat (any_goals (first|assumption|(with_reducible refine L0.at ?_)|(with_reducible refine L1.at ?_)|wp_step))
 refine⟨Code.quiet_builtin _ (by decide +kernel),codeAny_builtin F.entry_object_class ?_⟩
 repeat (any_goals (first|assumption|(with_reducible refine L0.at ?_)|wp_step))
theorem uT {tk:Tok}{Q:Fin->Shared->Prop} (X:K.In h) (k:lC K C) (hx:h.get? a=some o) (hc:o.cls= .ref C) (hd:o.data= .fields vs) (hq:Q (.done (.ret (.ref C))) ⟨h,g,d,t,os⟩) :
  wpAny (model prog w) A (Builtin.«object.__getattribute__» ⟨[.ref a,.str "__class__" tk],[]⟩) Q E ⟨h,g,d,t,os⟩:=by
 have hT5:(⟨h,g,d,t,os⟩:Shared).TypeIs (.builtin "object.__class__") "getset_descriptor" :=F.typeOf_object_class;have L0:=l7 (M:=model prog w) hx hc hd;have L1:=looks_findIn (M:=model prog w) X k.cl;have f5:=F.typeOf_object_class;have f6:=F.slot_gs_get.lookup;have f7:=F.slot_gs_set.lookup
 repeat (any_goals (first|assumption|(with_reducible refine L0.at ?_)|(with_reducible refine L1.at ?_)|wp_step))
 refine x8 X k hx hc hd ?_
 repeat (any_goals (first|assumption|wp_step))
theorem zZ {M:Model}{nameV:Value}{Q:Unit->Shared->Prop} (X:K.In h) (k:lC K C) (hx:h.get? a=some o) (hc:o.cls= .ref C) (hd:o.data= .fields vs) (hq:Q () ⟨h,g,d,t,os⟩) :
  wpAny M A (checkBuiltinCall "BaseException.__getattribute__" ⟨[.ref a,nameV],[]⟩) Q E ⟨h,g,d,t,os⟩:=by
 have hk:builtinKind "BaseException.__getattribute__" =some .slot:=by decide +kernel
 have hsplit:splitId "BaseException.__getattribute__" =some ("BaseException","__getattribute__"):=by decide +kernel
 have ha:=F.args_bexc_ga (.ref a) nameV;have L0:=l7 (M:=M) hx hc hd;have L1:=looks_subIn (M:=M) X k.sb;simp only[checkBuiltinCall,hk,hsplit];refine wpAny_bind ?_
 ·unfold isInstance
  repeat (first|(with_reducible refine L0.at ?_)|(with_reducible refine L1.at ?_)|wp_step)
  exact hq
theorem vX {tk:Tok}{R:Result->Shared->Prop} (X:K.In h) (k:lC K C) (hx:h.get? a=some o) (hc:o.cls= .ref C) (hd:o.data= .fields vs) (hq:R (.ok (.ret (.ref C))) ⟨h,g,d,t,os⟩) :
  codeAny (model prog w) A (.call (.builtin "BaseException.__getattribute__") ⟨[.ref a,.str "__class__" tk],[]⟩) R ⟨h,g,d,t,os⟩ :=
 codeAny_call_builtin F.excAttr_ValueError.ga.plain F.entry_bexc_ga (zZ X k hx hc hd (uT X k hx hc hd hq))
theorem A0 {tk:Tok}{fill expr:Bool}{Q:Value->Shared->Prop} (X:K.In h) (k:lC K C) (hx:h.get? a=some o) (hc:o.cls= .ref C) (hd:o.data= .fields vs) (hq:Q (.ref C) ⟨h,g,d,t,os⟩) :
  wpAny (model prog w) A (getAttrBy (.ref a) (.str "__class__" tk) fill expr) Q E ⟨h,g,d,t,os⟩:=by
 have L0:=l7 (M:=model prog w) hx hc hd;have L1:=looks_findIn (M:=model prog w) X k.ga;have L2:=looks_findIn (M:=model prog w) X k.gg;have f3:=F.excAttr_ValueError.ga.bind (.ref a);have hx0:(expr&&onTheHeap (Value.builtin "BaseException.__getattribute__"))=false:=by cases expr<;>rfl
 have hx2:(Value.builtin "BaseException.__getattribute__" ==Value.builtin "object.__getattribute__")=false:=by decide +kernel
 have hx1:(onTheHeap (Value.ref C)&&Value.builtin "BaseException.__getattribute__" ==Value.builtin "object.__getattribute__")=false:=by rw[hx2];rfl
 repeat (any_goals (first|assumption|(with_reducible refine L0.at ?_)|(with_reducible refine L1.at ?_)|(with_reducible refine L2.at ?_)|wp_step))
 refine vX X k hx hc hd ?_
 repeat (any_goals (first|assumption|wp_step))
theorem vQ {Q:Option Value->Shared->Prop}(X:K.In h)(k:lC K C)(hx:h.get? a=some o)(hc:o.cls= .ref C)(hd:o.data= .fields vs)(hq:Q (some (.ref C)) ⟨h,g,d,t+1,os⟩) :
  wpAny (model prog w) A (getAttr? (.ref a) "__class__") Q E ⟨h,g,d,t,os⟩:=by
 unfold getAttr? getAttrBy?
 repeat (any_goals (first|assumption|with_reducible apply A0 X k hx hc hd|wp_step))
end
def iX (a C:Addr)(h:Heap):Prop:=∃o vs,h.get? a=some o/\o.cls= .ref C/\o.data= .fields vs
theorem AA {K:Frag}{a C:Addr} (k:lC K C):KitX K (.ref a) (.ref C) (iX a C) where
 ty:=fun M h X ⟨o,vs,hx,hc,hd⟩=>l7 hx hc hd
 it:=fun _ _ X _=>by
  obtain⟨cd,hcD⟩:=k.cd;unfold clsIn at hcD
  split at hcD
  ·rename_i c' d' cd' sl' ho;intro A' Q' E' s' k q;unfold isType loadHead;exact wpAny_bind (wpAny_loadPart (k _ _ (X _ _ ho)) (wpAny_pure q))
  ·cases hcD
 ne:=fun h tp dd its n sl X htp=>by
  obtain⟨cd,hcD⟩:=k.cd;refine Bool.eq_false_iff.mpr fun q=> ?_;have e:C=tp:=Value.ref.inj (beq_iff_eq.mp q);subst e;unfold clsIn at hcD
  split at hcD
  ·rename_i c' d' cd' sl' ho;have z:=(X _ _ ho).symm.trans htp;cases z
  ·cases hcD
 ca:=fun {_ _ _ _ _ s} X ⟨o,vs,hx,hc,hd⟩ q=>by
  obtain⟨h,g,d,t,os⟩:=s;exact vQ X k hx hc hd q
end L2
namespace L2
open PySem PySem.Spec PyProof.Rows PySem.W
def FC (h base:Heap)(ea:Addr)(cls:Value)(dd:Option Addr)(a0:Value):Prop :=
 ∃ob fv tb tbo tv,h.get? ea=some ob/\ob.cls=cls/\ob.dict=dd/\fv[0]? =some a0/\ob.data= .fields fv/\fv[1]? =some (.ref tb)/\base.get? tb=none/\tb≠ea/\h.get? tb=some tbo/\tbo.data= .fields tv/\tv[3]? =some .none
def ES (base:Heap)(l:List Env)(ea:Addr)(cls:Value)(dd:Option Addr)(a0:Value)(h h':Heap):Prop :=
 base.StaysIn h'/\h'.FunFrames base l/\FC h' base ea cls dd a0/\h.UpToSlots h'
theorem xA (ob:Obj)(g):(ob.mapFields g).dict=ob.dict:=by
 obtain⟨c,d,dt,sl⟩:=ob;cases dt<;>rfl
section
variable {M:Model}{A:Around}{E:Value->Shared->Prop}{s:Shared}{base:Heap}{env:Env}{outer:List Env}{L ea:Addr}{Q:Unit->Shared->Prop}
theorem u6 {ob:Obj}{fv:Array Value}{hd0 a0:Value}{nx:Bool} (hfr:A.frames=some (env::outer)) (ff:s.heap.FunFrames base (env::outer)) (hL:env.frame=some L) (go:s.heap.get? ea=some ob) (st:base.StaysIn s.heap)
  (nb:base.get? ea=none)(hdt:ob.data= .fields fv)(hz:1<fv.size)(h0:fv[0]? =some a0)(k:∀h',ES base (env::outer) ea ob.cls ob.dict a0 s.heap h'->Q () { s with heap:=h' }) :
  wpAny M A (do let a ←frameOf env;let pl ←entryPlaceOf L nx;let b ←EntryCells.newEntry hd0 a .none (rawInt L) .none pl;setField (.ref ea) 1 b) (fun _ s'=>wpAny M A (setFlight (.ref ea) none) Q E s') E s:=by
 have nin:ea∉(env::outer).filterMap (·.frame):=fun hm=>by
  obtain⟨_,o,ho,hnf⟩:=ff.mem hm;rw[go]at ho;cases ho;exact hnf fv hdt
 refine wpAny_bind (wpAny_frameOf_fun hfr ff hL fun hA sA=>wpAny_bind (wpAny_entryPlaceOf fun pl hpl=> ?_));unfold EntryCells.newEntry newFields;refine wpAny_bind (wpAny_newObj_type ?_ (hpl.sizeOk5 _ _ _ _ _));have gA:hA.get? ea=some ob:=(sA.2.1 ea nin).trans go;have stA:base.StaysIn hA:=fun b o q=>(sA.2.1 b fun hm=>by rw[(ff.mem hm).1]at q;cases q).trans (st b o q);generalize hN:({ cls:= .type "traceback",dict:=none,data:= .fields ([hd0,.ref L,.none,rawInt L,.none]++(if pl.isEmpty then List.replicate 6 Value.none else pl)).toArray }:Obj)=nob;have hNd:∃tv,nob.data= .fields tv/\3<tv.size:=by
  rw[←hN];exact⟨_,rfl,by simp only[List.size_toArray,List.length_append,List.length_cons,List.length_nil];lia⟩
 obtain⟨tv,hNd,hNs⟩:=hNd;have gB:(hA.push nob).get? ea=some ob:=Heap.get?_push_of_some nob gA;refine wpAny_setField gB hdt hz ?_;have tne:hA.objs.size≠ea:=Nat.ne_of_gt (Heap.lt_size gA);have dC:=Obj.data_mapFields hdt (·.setIfInBounds 1 (Value.ref hA.objs.size));have gC:=Heap.get?_update_self (Obj.mapFields (·.setIfInBounds 1 (Value.ref hA.objs.size))) gB (Obj.isFreed_of_fields dC);have tC:((hA.push nob).update ea (Obj.mapFields (·.setIfInBounds 1 (Value.ref hA.objs.size)))).get? hA.objs.size=some nob:=(Heap.get?_update_other _ _ (Ne.symm tne)).trans (Heap.get?_push_size hA (Obj.isFreed_of_fields hNd));unfold setFlight;refine wpAny_bind (wpAny_field gC dC (x:= .ref hA.objs.size) (by simp[hz]) ?_);rw[if_pos (show (Value.ref hA.objs.size !=Value.none)=true from by simp)];refine wpAny_setField tC hNd hNs (k _ ?_);generalize hF:((hA.push nob).update ea (Obj.mapFields (·.setIfInBounds 1 (Value.ref hA.objs.size)))).update hA.objs.size _=hX;have keepF:∀b o,b≠ea->hA.get? b=some o->hX.get? b=some o:=fun b o hb q=>by
  rw[←hF,Heap.get?_update_other _ _ (Nat.ne_of_gt (Heap.lt_size q)),Heap.get?_update_other _ _ (Ne.symm hb)];exact Heap.get?_push_of_some _ q
 have norec:∀b o,s.heap.get? b=some o->(∀vs,o.data≠ .fields vs)->b≠ea:=fun b o q hnf z=>by
  rw[z,go]at q;cases q;exact hnf fv hdt
 refine⟨fun b o q=>keepF b o (fun z=>by rw[z,nb]at q;cases q) (stA b o q),ff.of_keeps fun b o q hnf=> ?_,?_,fun b o q hnf=> ?_⟩
 ·obtain⟨sl,hs⟩:=sA.2.2 b o q;exact⟨_,keepF b _ (norec b o q hnf) hs,rfl⟩
 ·refine⟨_,_,hA.objs.size,_,_,by rw[←hF,Heap.get?_update_other _ _ tne];exact gC,Obj.cls_mapFields _ _,xA _ _,by rw[Array.getElem?_setIfInBounds_ne (by decide)];exact h0,dC,by simp[hz],stA.fresh,tne,
   by rw[←hF];exact Heap.get?_update_self _ tC (Obj.isFreed_of_fields (Obj.data_mapFields hNd _)),Obj.data_mapFields hNd _,?_⟩
  simp[hNs]
 ·obtain⟨sl,hs⟩:=sA.2.2 b o q;exact⟨sl,keepF b _ (norec b o q hnf) hs⟩
theorem y4 {ob:Obj}{fv:Array Value}{a0:Value} (hfr:A.frames=some (env::outer)) (ff:s.heap.FunFrames base (env::outer)) (hL:env.frame=some L) (go:s.heap.get? ea=some ob) (st:base.StaysIn s.heap) (nb:base.get? ea=none)
  (hdt:ob.data= .fields fv)(h1:fv[1]? =some .none)(h0:fv[0]? =some a0)(k:∀h',ES base (env::outer) ea ob.cls ob.dict a0 s.heap h'->Q () { s with heap:=h' }):wpAny M A (leaving env (.ref ea)) Q E s:=by
 unfold leaving noteFrame;simp only[hL];refine wpAny_bind (wpAny_bind (wpAny_field go hdt h1 ?_));rw[if_neg (by decide)];exact u6 hfr ff hL go st nb hdt (Array.getElem?_eq_some_iff.mp h1).1 h0 k
theorem B5 {cls a0:Value}{dd:Option Addr} (hfr:A.frames=some (env::outer)) (ff:s.heap.FunFrames base (env::outer)) (hL:env.frame=some L) (tr:FC s.heap base ea cls dd a0) (st:base.StaysIn s.heap) (nb:base.get? ea=none)
  (k:∀h',ES base (env::outer) ea cls dd a0 s.heap h'->Q () { s with heap:=h' }):wpAny M A (leaving env (.ref ea)) Q E s:=by
 obtain⟨ob,fv,tb,tbo,tv,go,ec,ed,h0,hdt,h1,nT,tne,gT,dT,h3⟩:=tr;subst ec ed;unfold leaving noteFrame;simp only[hL];refine wpAny_bind (wpAny_bind (wpAny_field go hdt h1 ?_));rw[if_pos (show (Value.ref tb !=Value.none)=true from by simp)];refine wpAny_bind (wpAny_field gT dT h3 ?_);rw[if_neg (show ¬((Value.none==rawInt L)=true) from by simp[rawInt])];refine wpAny_bind (wpAny_setField gT dT (Array.getElem?_eq_some_iff.mp h3).1 ?_);have oth:∀b,b≠tb->(s.heap.update tb (Obj.mapFields (·.setIfInBounds 3 Value.none))).get? b=s.heap.get? b:=fun b hb=>Heap.get?_update_other _ _ (Ne.symm hb);have norec:∀b o,s.heap.get? b=some o->(∀vs,o.data≠ .fields vs)->b≠tb:=fun b o q hnf z=>by
  rw[z,gT]at q;cases q;exact hnf tv dT
 refine u6 hfr (ff.of_keeps fun b o q hnf=>⟨o,(oth b (norec b o q hnf)).trans q,rfl⟩) hL ((oth ea (Ne.symm tne)).trans go) (fun b o q=>(oth b fun z=>by rw[z,nT]at q;cases q).trans (st b o q)) nb hdt (Array.getElem?_eq_some_iff.mp h1).1 h0 fun h' ⟨x1,x2,x3,x4⟩=> ?_;exact k h' ⟨x1,x2,x3,fun b o q hnf=>x4 b o ((oth b (norec b o q hnf)).trans q) hnf⟩
def FlyD (base:Heap)(l:List Env)(ea:Addr)(cls:Value)(dd:Option Addr)(a0:Value)(h:Heap):Prop:=base.StaysIn h/\base.get? ea=none/\h.FunFrames base l/\FC h base ea cls dd a0
theorem FlyD.there {l:List Env}{cls a0:Value}{dd:Option Addr}{h:Heap} (x:FlyD base l ea cls dd a0 h):∃ob fv,h.get? ea=some ob/\ob.cls=cls/\ob.dict=dd/\ob.data= .fields fv:=by
 obtain⟨_,_,_,ob,fv,_,_,_,go,ec,ed,_,hdt,_⟩:=x;exact⟨ob,fv,go,ec,ed,hdt⟩
theorem FK {cls a0:Value}{dd:Option Addr} (hfr:A.frames=some (env::outer)) (hL:env.frame=some L) (fl:FlyD base (env::outer) ea cls dd a0 s.heap) (k:∀h',FlyD base outer ea cls dd a0 h'->s.heap.UpToSlots h'->Q () { s with heap:=h' }) :
  wpAny M A (leaving env (.ref ea)) Q E s:=by
 obtain⟨f1,f2,f3,f4⟩:=fl;refine B5 hfr f3 hL f4 f1 f2 fun h' hl=> ?_;obtain⟨k1,⟨_,_,k2⟩,k3,k4⟩:=hl;exact k h' ⟨k1,f2,k2,k3⟩ k4
theorem AM {h:Heap}{cls:Value}{args:List Value} (hfr:A.frames=some (env::outer)) (hL:env.frame=some L) (st:base.StaysIn h) (ff:h.FunFrames base (env::outer)) (m:Heap.MadeExcOf h s.heap ea cls args)
  (k:∀h' t,FlyD base outer ea cls none (.ref t) h'->s.heap.UpToSlots h'->Q () { s with heap:=h' }):wpAny M A (leaving env (.ref ea)) Q E s:=by
 obtain⟨t,go,_,_⟩:=m.there;have nb:base.get? ea=none:=by
  cases q:base.get? ea with
  | none=>rfl
  | some o =>
   have z:=st ea o q;rw[m.new]at z;cases z
 refine y4 (a0:= .ref t) hfr (ff.of_keeps fun b o q _=>⟨o,m.keeps b o q,rfl⟩) hL go (fun b o q=>m.keeps b o (st b o q)) nb rfl rfl rfl fun h' hl=> ?_;obtain⟨k1,⟨_,_,k2⟩,k3,k4⟩:=hl;exact k h' t ⟨k1,nb,k2,k3⟩ k4
end
end L2
namespace L2
open PySem PySem.Spec PyProof.Rows PySem.W
section
variable {P:Program}{w:World}{H H':Hp}{h h':Heap}{a:Addr}{o:HO}
theorem ObjOk.there (x:ObjOk P w H h a o):∃ob,h.get? a=some ob:=by
 cases o with
 | lst xs=>obtain⟨_,_,_,_,e⟩:=x;exact⟨_,e⟩
 | tup xs=>obtain⟨_,_,_,ob,e,_⟩:=x;exact⟨_,e⟩
 | dK kvs=>obtain⟨_,_,_,_,o,_,_,e,_⟩:=x;exact⟨_,e⟩
 | dT kvs=>obtain⟨_,_,_,_,o,_,_,e,_⟩:=x;exact⟨_,e⟩
 | set S n=>obtain⟨o,_,_,_,e,_⟩:=x;exact⟨_,e⟩
 | ins C dx fs=>obtain⟨_,_,_,e,_⟩:=x;exact⟨_,e⟩
 | own y=>exact x
 | xd fs=>obtain⟨_,⟨_,_,_,e,_⟩,_⟩:=x;exact⟨_,e⟩
 | rng lo hi=>obtain⟨_,_,_,e⟩:=x;exact⟨_,e⟩
 | frz ob u=>obtain⟨e,_⟩:=x;exact⟨_,e⟩
 | tbl ps=>exact⟨_,(show h.get? a=some _ from x)⟩
 | met f y=>exact⟨_,(show h.get? a=some _ from x)⟩
 | ext φ=>obtain⟨_,e,_⟩:=x;exact e
end
def CXE (P:Program)(w:World):CXT:=fun outer H s E e s' =>
 ∃ea cls dd a0 H' B,e= .ref ea/\s'.os=s.os/\AllBare s'.gens/\Un (frs outer) [] H H' s.heap s'.heap/\HOk P w H' s'.heap/\H' ea=none/\s.heap.get? ea=none ∧
  FlyD B outer ea cls dd a0 s'.heap/\(∀b,(H' b≠none∨∃o,s.heap.get? b=some o)->b∉frs outer->∃o,B.get? b=some o)/\E cls dd H'
section
variable {X:Cx}{pins:List (Addr×Obj)}{σ:St}{H H1:Hp}{s s1:Shared}{h2 B:Heap}
theorem LH (I:Inv X pins σ H s)(hex:X.ex=[])(st:B.StaysIn h2)(sb:B.StaysIn s.heap)(up:s.heap.UpToSlots h2)(cov:∀b,(H b≠none∨∃o,X.s₀.heap.get? b=some o)->b∉frs X.stack->∃o,B.get? b=some o)(hst:X.stack=X.env::X.outer)(hf:X.env.frame=some X.env.locals) :
  Un X.fs [] X.H₀ H X.s₀.heap h2/\HOk X.prog X.w H h2:=by
 have hfr:∀b,b∈frs X.stack->b=X.env.locals∨b∈X.fs:=fun b hb=>List.mem_cons.mp (I.stkSub b hb);have nloc:∀b o,X.s₀.heap.get? b=some o->b≠X.env.locals:=fun b o q z=>by
  have e1:=Nat.lt_of_lt_of_le (Heap.lt_size q) I.ok.above;rw[z]at e1;exact Nat.lt_irrefl _ e1
 have same:∀b o,(H b≠none∨∃o,X.s₀.heap.get? b=some o)->b∉frs X.stack->s.heap.get? b=some o->h2.get? b=some o:=fun b o hc hb q=>by
  obtain⟨o',e⟩:=cov b hc hb;have e1:=sb b o' e;rw[q]at e1;cases e1;exact st b _ e
 have ub:=I.base;rw[hex]at ub;refine⟨⟨fun b o q n hb _=> ?_,fun b o q n hb _=> ?_,fun b o q n _=>ub.free b o q n (by simp),fun b o q _=> ?_,ub.tups,ub.frzs,ub.tbls⟩,fun b u e=> ?_⟩
 ·have q1:=ub.keep b o q n hb (by simp);exact same b o (.inr ⟨o,q⟩) (fun z=>(hfr b z).elim (nloc b o q) hb) q1
 ·obtain⟨sl,q1⟩:=ub.slot b o q n hb (by simp);obtain⟨_,o',ho',hd⟩:=I.funs.mem hb;have hd1:∀vs,({ o with slots:=sl }:Obj).data≠ .fields vs:=fun vs z=>by
   rw[q1]at ho';cases ho';exact hd vs z
  obtain⟨sl2,q2⟩:=up b _ q1 hd1;exact⟨sl2,q2⟩
 ·obtain⟨o1,q1⟩:=ub.there b o q (by simp)
  by_cases hb:b∈frs X.stack
  ·obtain⟨_,o',ho',hd⟩:=I.stack.mem hb;rw[q1]at ho';cases ho';obtain⟨sl2,q2⟩:=up b _ q1 hd;exact⟨_,q2⟩
  ·exact⟨o1,same b o1 (.inr ⟨o,q⟩) hb q1⟩
 ·refine(I.hok b u e).stay (fun c v hc q=> ?_) (fun _ q=>q) fun _ _ q=>q;have hn:H c≠none:=by
   rcases hc with z|z
   ·rw[z,e];simp
   ·rw[z];simp
  exact same c v (.inl hn) (fun z=>hn (I.stkFree c z)) q
end
theorem lX {P:Program}{w:World}{K:PySem.W.Frag}{mg:Str->Option Value}{base:Heap}{N:List Str}{qual:Str}{scope:Scope}{f:Addr}{cd:Value}{A:Around}{outer:List Env}{s₀:Shared}{H₀:Hp}{E:XK} :
  iO (CXE P w) (eX (CXE P w) P w K mg base N qual scope f cd A outer s₀ H₀ E) E:=by
 intro pins σ H s e s' I h;obtain⟨ea,cls,dd,a0,H',B,rfl,os,bare,un,hok,hn,new,fl,cov,q⟩:=h;have I':=I.call' (ch:=[]) os un hok bare (fun b z=>absurd z (by simp));have there:∀b o,s₀.heap.get? b=some o->∃o',s.heap.get? b=some o':=fun b o e=>I.base.there b o e (fun z=>absurd (show b∈([]:List Addr) from z) (by simp));show wpAny _ _ (leaving _ _) _ _ s';refine FK (I.ok.frames) rfl fl fun h2 fl2 up=> ?_;obtain⟨un2,hok2⟩:=LH (B:=B) (h2:=h2) I' rfl fl2.1 fl.1 up (fun b hb hs=>cov b (hb.imp id fun⟨o,e⟩=>there b o e) hs) rfl rfl;refine⟨ea,cls,dd,a0,H',B,rfl,I'.os,bare,un2,hok2,hn,?_,fl2,fun b hb hs=>cov b (hb.imp id fun⟨o,e⟩=>there b o e) fun z=> ?_,q⟩
 ·cases e:s₀.heap.get? ea with
  | none=>rfl
  | some o =>
   obtain⟨o',e'⟩:=there ea o e;rw[new]at e';cases e'
 ·rcases List.mem_cons.mp (I.stkSub b z) with e|hb'
  ·rcases hb with hb|⟨o,e2⟩
   ·exact hb (by rw[e];exact I'.free)
   ·have e1:=Nat.lt_of_lt_of_le (Heap.lt_size e2) I.ok.above;rw[e]at e1;exact Nat.lt_irrefl _ e1
  ·exact hs hb'
theorem FX {P:Program}{w:World}{K:PySem.W.Frag}{mg:Str->Option Value}{base:Heap}{N:List Str}{qual:Str}{scope:Scope}{f:Addr}{cd:Value}{A:Around}{outer:List Env}{s₀:Shared}{H₀:Hp}{E:XK}
  {pins:List (Addr×Obj)}{σ:St}{H:Hp}{s1:Shared}{h':Heap}{ea:Addr}{cls:Value}{args:List Value} (I:Inv (eX (CXE P w) P w K mg base N qual scope f cd A outer s₀ H₀ E) pins σ H s1)
  (m:Heap.MadeExcOf s1.heap h' ea cls args)(q:E cls none H):(eX (CXE P w) P w K mg base N qual scope f cd A outer s₀ H₀ E).xe (.ref ea) { s1 with heap:=h' }:=by
 have there:∀b o,s₀.heap.get? b=some o->∃o',s1.heap.get? b=some o':=fun b o e=>I.base.there b o e (fun z=>absurd (show b∈([]:List Addr) from z) (by simp));have hin:∀env∈(eX (CXE P w) P w K mg base N qual scope f cd A outer s₀ H₀ E).stack,∀b,env.frame=some b->b∈frs (eX (CXE P w) P w K mg base N qual scope f cd A outer s₀ H₀ E).stack:=fun env he b hb=>List.mem_filterMap.mpr ⟨env,he,hb⟩;have hk:(hideAll s1.heap (frs (eX (CXE P w) P w K mg base N qual scope f cd A outer s₀ H₀ E).stack)).StaysIn s1.heap:=fun b o e=>of_hideAll _ e;have cov:∀b,(H b≠none∨∃o,s₀.heap.get? b=some o)->b∉frs (eX (CXE P w) P w K mg base N qual scope f cd A outer s₀ H₀ E).stack →
   ∃o,(hideAll s1.heap (frs (eX (CXE P w) P w K mg base N qual scope f cd A outer s₀ H₀ E).stack)).get? b=some o:=fun b hb hs=>by
  have:∃o,s1.heap.get? b=some o:=by
   rcases hb with hb|⟨o,e⟩
   ·cases e:H b with
    | none=>exact absurd e hb
    | some u=>exact(I.hok b u e).there
   ·exact there b o e
  obtain⟨o,e⟩:=this;exact⟨o,hideAll_get _ e hs⟩
 show wpAny _ _ (leaving _ _) _ _ _;refine AM (s:={ s1 with heap:=h' }) (h:=s1.heap) (base:=hideAll s1.heap (frs (eX (CXE P w) P w K mg base N qual scope f cd A outer s₀ H₀ E).stack)) (I.ok.frames) rfl hk (funFrames_hide I.stack hin) m fun h2 t fl up=> ?_;have up2:s1.heap.UpToSlots h2:=(Heap.UpToSlots.of_keeps m.keeps).trans up;obtain⟨un2,hok2⟩:=LH (h2:=h2) I rfl fl.1 hk up2 cov rfl rfl;have hn:H ea=none:=by
  cases e:H ea with
  | none=>rfl
  | some u =>
   obtain⟨o,e2⟩:=(I.hok ea u e).there;rw[m.new]at e2;cases e2
 refine⟨ea,cls,none,.ref t,H,_,rfl,I.os,I.bare,un2,hok2,hn,?_,fl,fun b hb hs=>cov b hb fun z=> ?_,q⟩
 ·cases e:s₀.heap.get? ea with
  | none=>rfl
  | some o =>
   obtain⟨o',e'⟩:=there ea o e;rw[m.new]at e';cases e'
 ·rcases List.mem_cons.mp (I.stkSub b z) with e|hb'
  ·rcases hb with hb|⟨o,e2⟩
   ·exact hb (by rw[e];exact I.free)
   ·have e1:=Nat.lt_of_lt_of_le (Heap.lt_size e2) I.ok.above;rw[e]at e1;exact Nat.lt_irrefl _ e1
  ·exact hs hb'
end L2
namespace L2
open PySem PySem.Spec PyProof.Rows PySem.W
def IC (X:Cx)(E:XK):Prop:=∀(pins:List (Addr×Obj)) (σ:St) (H:Hp) (s1:Shared) (h':Heap) (ea:Addr) (cls:Value) (args:List Value),Inv X pins σ H s1->Heap.MadeExcOf s1.heap h' ea cls args->E cls none H->X.xe (.ref ea) { s1 with heap:=h' }
theorem t9 {P:Program}{w:World}{K:PySem.W.Frag}{mg:Str->Option Value}{base:Heap}{N:List Str}{qual:Str}{scope:Scope}{f:Addr}{cd:Value}{A:Around}{outer:List Env}{s₀:Shared}{H₀:Hp}{E:XK} :
  IC (eX (CXE P w) P w K mg base N qual scope f cd A outer s₀ H₀ E) E:=fun _ _ _ _ _ _ _ _ I m q=>FX I m q
abbrev bmV:List Value:=[.type "ValueError",.type "Exception",.type "BaseException",.type "object"]
abbrev SL (K:PySem.W.Frag)(C:Addr):Prop:=excIn K C bmV "ValueError.__new__" =true
theorem ML {K:Frag}{h₀:Heap}{C:Addr}{bmB:List Value}{newId:String} (X:K.In h₀) (q:excIn K C bmB newId=true) :
  ∃bm N nm q bs hdct sn sub ab col dd k0 k1 k2 k3 k5 mN,h₀.get? C=some (excClassObj nm q C N bs bm hdct sn sub ab col dd k0 k1 k2 k3 k5 newId)/\h₀.Ns N mN/\mN "__init__" =none/\OwnTail h₀ bmB bm:=by
 unfold excIn at q
 split at q
 ·rename_i dd cd sl ho
  split at q
  ·rename_i C' bm k0 k1 k2 k3 n k5 hm hs;simp only[Bool.and_eq_true,beq_iff_eq,Bool.not_eq_true']at q;obtain⟨⟨⟨⟨⟨rfl,rfl⟩,hdel⟩,ht⟩,hok⟩,hni⟩:=q;obtain⟨nm,bs,mro,ns,qn,hd,sn,sub,ab,col,del⟩:=cd
   dsimp only at hm hdel hok hni
   subst hm hdel;have hsl:sl= #[k0,k1,k2,k3,some (.builtin n),k5]:=by
    obtain⟨l⟩:=sl;simp only at hs;rw[hs]
   subst hsl;exact⟨bm,ns,nm,qn,bs,hd,sn,sub,ab,col,dd,k0,k1,k2,k3,k5,_,X _ _ ho,.of_isNs (isNs_of_in X hok),nsMap_none_of_in X hok hni,tail_of_in X ht⟩
  ·cases q
 ·cases q
section
variable {X:Cx}{E:XK}{x:Str}{C:Addr}{np cpos pos:Pos}{e:Expr}{es:List Expr}{t:TA}
def HV (C:Addr)(E:XK)(t:TA):TS:=fun D σ H=>t σ H fun vs H1=>vs.length<=sizeLine/\E (.ref C) none H1
theorem oV (hm:X.mg x=some (.ref C))(hc:SL X.K C)(hx:IC X E)(ha:PA X (e::es) t)(cm:X.calm=true:=by rfl)(hg:Gl X x:=by rfl)(hdb:(x==("__debug__" :Str))=false:=by decide)
  (he:starEach (e::es) X.env=(false,eval e X.env)::starEach es X.env:=by rfl)(hpl:(backTo cpos (starEach es X.env)).any (·.1)=false:=by rfl) :
  PS X (.Raise (some (.Call (.Name x np) (e::es) [] cpos)) none pos) (HV C E t):=by
 intro pins s σ H D I h;obtain⟨tl,N,nm,q,bs,hdct,sn,sub,ab,col,dd,k0,k1,k2,k3,k5,mN,hC,hN,hni,T⟩:=ML I.ok.mod.kin hc;refine wpAny_Raise_call_subT (C:=C) (nm:=nm) (q:=q) (N:=N) (bs:=bs) (bm:=tl) (hdct:=hdct) (sn:=sn) (sub:=sub) (ab:=ab) (col:=col) (dd:=dd) (k0:=k0) (k1:=k1) (k2:=k2) (k3:=k3) (k5:=k5)
  PySem.F.excBase_ValueError (mN:=mN) (T.hasType PySem.F.excBase_ValueError.hasBase) (I.ok.hd cm) (by rw[he];show (false||(backTo cpos (starEach es X.env)).any (·.1))=false;rw[hpl];rfl) hni (iF I hg hm ⟨rfl,?_⟩ hdb)
 have hh:=ha cpos pins s σ H _ I h;rw[he]at hh ⊢;refine Calls.evalArgs_plain (wpAny_mono hh (fun vs s₂ h₂=> ?_) fun _ _ y=>y);obtain⟨us,H2,I2,r,z,q2⟩:=h₂;exact⟨rfl,by rw[←r.length];exact z,I2.bk _ _ hC,hN.keeps I2.bk,T.keeps I2.bk,fun h' ea m=>hx pins σ H2 s₂ h' ea _ _ I2 m q2⟩
end
structure FcE (P:Program)(w:World)(K:PySem.W.Frag)(mg:Str->Option Value)(base:Heap)(x:Str)(k:Nat)(ps:List Str)(sp:Sp):Prop where
 ex:∃f fd,mg x=some (.ref f)/\PySem.W.keepIn K (.ref f)=true/\Binds K fd ps []/\FnOk P w K mg base (CXE P w) k f fd ps sp
structure McE (P:Program)(w:World)(K:PySem.W.Frag)(mg:Str->Option Value)(base:Heap)(C:Addr)(nm:Str)(k:Nat)(sp:Sp):Prop where
 ex:∃f fd ps,Cls K C/\dN K C nm f/\Binds K fd ps []/\FnOk P w K mg base (CXE P w) k f fd ps sp
section
variable {X:Cx}{k k':Nat}{sp:Sp}{x m:Str}{p pos apos:Pos}{e o:Expr}{es:List Expr}{ta:TE}{t:TA}{C:Addr}{dvs:List V}{E:XK}{ps:List Str}
theorem k7 (F:FcE X.prog X.w X.K X.mg X.base x k ps sp)(hr:Room k' X.A)(hx:iO (CXE X.prog X.w) X E)(ha:PA X (e::es) t)(hk:k<=k':=by decide)(hg:Gl X x:=by rfl)
  (hdb:(x==("__debug__" :Str))=false:=by decide)(he:starEach (e::es) X.env=(false,eval e X.env)::starEach es X.env:=by rfl)(hpl:(backTo pos (starEach es X.env)).any (·.1)=false:=by rfl) :
  PE X (.Call (.Name x p) (e::es) [] pos) (lV sp [] E t):=by
 obtain⟨f,fd,hm,kp,b,G⟩:=F.ex;exact C7 G (hr.mono hk) hg hm kp b .nil hx ha hdb he hpl
def O7 (M:Addr->Sp->Prop)(m:Str)(E:XK)(ta:TE)(t:TA):TE:=fun σ H Q=>ta σ H fun x H1=>∃a C dx fs sp,x= .ref a/\H1 a=some (.ins C dx fs)/\fs.lookup m=none/\M C sp/\t σ H1 fun vs H2=>sp (x::vs) H2 Q E
theorem rK (k:Nat){pl:Sem Bool}(hr:Room k' X.A)(hx:iO (CXE X.prog X.w) X E)(ho:PE X o ta)(hk:k<=k':=by decide)
  (ht:eval (.Call (.Attribute o m apos) [] [] pos) X.env=(do
   let ov ←eval o X.env
   standAt apos.atName
   let (f,first) ←holding [ov] (getMethod ov m pl)
   callWith pos f first (backTo pos (starEach [] X.env)) (backToKw pos (keywordEach [] X.env))):=by rfl) :
  PE X (.Call (.Attribute o m apos) [] [] pos) (O7 (fun C sp=>McE X.prog X.w X.K X.mg X.base C m k sp) m E ta zK):=by
 intro pins s σ H Q I h;refine PySem.W.methodCall_KW (pl:=pl) (thn (ho pins s σ H _ I h) fun u s1 ⟨x,H1,I1,rx,a,C,dx,fs,sp,ex,ea,l,M,q⟩=> ?_) ht;subst ex;obtain rfl:u=Value.ref a:=rx;obtain⟨f,fd,ps,c,hm,hb,F⟩:=M.ex;refine oW I1 ea c hm l ?_;exact PySem.W.callWith_K0 (first:=[.ref a]) I1.kIn hm.kp (oK (us:=[.ref a]) (vs:=[.ref a]) (dvs:=[]) F (hr.mono hk) hb .nil hx I1 (.cons rfl .nil) q)
end
section
variable {P:Program}{w:World}{K:PySem.W.Frag}{mg:Str->Option Value}{base:Heap}
theorem FunV.okE {x qual:Str}{st:Stmt}{f:Addr}{fd:FuncData}{N ps:List Str}{k:Nat}{sp:Sp} (F:FunV K x qual st f fd) (S:aQ N ps (aE st)) (len:∀vs H Q E,sp vs H Q E->vs.length=ps.length)
  (hbody:∀(cdv:Value) (A:Around) (outer:List Env) (s:Shared) (H:Hp) (vs:List V) (Q:VK) (E:XK),Room k (A.deeper (envOfC qual (aE st) s.heap.objs.size f cdv))->sp vs H Q E →
   ∃t,PSs (eX (CXE P w) P w K mg base N qual (aE st) f cdv A outer s H E) (aL st) t/\t { nx:=fun _ H'=>Q .non H',rt:=Q } (jW N vs) H):FnOk P w K mg base (CXE P w) (k+1) f fd ps sp:=by
 obtain⟨oc,od,dV,kV,doc,pm,an,cdv,ct,osl,rfl,lk,hcd⟩:=F.ex;exact LG lk hcd S len fun A outer s H vs Q E hr h=>hbody cdv A outer s H vs Q E hr h
end
end L2
namespace L2
open PySem PySem.Spec PyProof.Rows PySem.W
def FQ (h base:Heap)(ea:Addr)(cls:Value)(dd:Option Addr)(a0 mk:Value):Prop :=
 ∃ob fv tb tbo tv,h.get? ea=some ob/\ob.cls=cls/\ob.dict=dd/\fv[0]? =some a0/\ob.data= .fields fv/\fv[1]? =some (.ref tb)/\base.get? tb=none/\tb≠ea/\h.get? tb=some tbo/\tbo.data= .fields tv/\tv[3]? =some mk
def LP (base:Heap)(l:List Env)(ea:Addr)(cls:Value)(dd:Option Addr)(a0 mk:Value)(h h':Heap):Prop :=
 base.StaysIn h'/\h'.FunFrames base l/\FQ h' base ea cls dd a0 mk/\h.UpToSlots h'
section
variable {M:Model}{A:Around}{E:Value->Shared->Prop}{s:Shared}{base:Heap}{env:Env}{outer:List Env}{L ea:Addr}{Q:Unit->Shared->Prop}
theorem CC {ob:Obj}{fv:Array Value}{hd0 a0:Value}{nx:Bool} (hfr:A.frames=some (env::outer)) (ff:s.heap.FunFrames base (env::outer)) (hL:env.frame=some L) (go:s.heap.get? ea=some ob) (st:base.StaysIn s.heap)
  (nb:base.get? ea=none)(hdt:ob.data= .fields fv)(hz:1<fv.size)(h0:fv[0]? =some a0)(k:∀h',LP base (env::outer) ea ob.cls ob.dict a0 (rawInt L) s.heap h'->Q () { s with heap:=h' }) :
  wpAny M A (do let a ←frameOf env;let pl ←entryPlaceOf L nx;let b ←EntryCells.newEntry hd0 a .none (rawInt L) .none pl;setField (.ref ea) 1 b) Q E s:=by
 have nin:ea∉(env::outer).filterMap (·.frame):=fun hm=>by
  obtain⟨_,o,ho,hnf⟩:=ff.mem hm;rw[go]at ho;cases ho;exact hnf fv hdt
 refine wpAny_bind (wpAny_frameOf_fun hfr ff hL fun hA sA=>wpAny_bind (wpAny_entryPlaceOf fun pl hpl=> ?_));unfold EntryCells.newEntry newFields;refine wpAny_bind (wpAny_newObj_type ?_ (hpl.sizeOk5 _ _ _ _ _));have gA:hA.get? ea=some ob:=(sA.2.1 ea nin).trans go;have stA:base.StaysIn hA:=fun b o q=>(sA.2.1 b fun hm=>by rw[(ff.mem hm).1]at q;cases q).trans (st b o q);generalize hN:({ cls:= .type "traceback",dict:=none,data:= .fields ([hd0,.ref L,.none,rawInt L,.none]++(if pl.isEmpty then List.replicate 6 Value.none else pl)).toArray }:Obj)=nob;have hNd:∃tv,nob.data= .fields tv/\tv[3]? =some (rawInt L):=by
  rw[←hN];exact⟨_,rfl,by first|(simp;done)|(rcases hpl with rfl|⟨_,_,_,_,_,_,_,rfl⟩<;>simp)⟩
 obtain⟨tv,hNd,hN3⟩:=hNd;have gB:(hA.push nob).get? ea=some ob:=Heap.get?_push_of_some nob gA;refine wpAny_setField gB hdt hz (k _ ?_);have tne:hA.objs.size≠ea:=Nat.ne_of_gt (Heap.lt_size gA);have dC:=Obj.data_mapFields hdt (·.setIfInBounds 1 (Value.ref hA.objs.size));have gC:=Heap.get?_update_self (Obj.mapFields (·.setIfInBounds 1 (Value.ref hA.objs.size))) gB (Obj.isFreed_of_fields dC);have tC:((hA.push nob).update ea (Obj.mapFields (·.setIfInBounds 1 (Value.ref hA.objs.size)))).get? hA.objs.size=some nob:=(Heap.get?_update_other _ _ (Ne.symm tne)).trans (Heap.get?_push_size hA (Obj.isFreed_of_fields hNd));generalize hF:(hA.push nob).update ea (Obj.mapFields (·.setIfInBounds 1 (Value.ref hA.objs.size)))=hX at gC tC ⊢;have keepF:∀b o,b≠ea->hA.get? b=some o->hX.get? b=some o:=fun b o hb q=>by
  rw[←hF,Heap.get?_update_other _ _ (Ne.symm hb)];exact Heap.get?_push_of_some _ q
 have norec:∀b o,s.heap.get? b=some o->(∀vs,o.data≠ .fields vs)->b≠ea:=fun b o q hnf z=>by
  rw[z,go]at q;cases q;exact hnf fv hdt
 refine⟨fun b o q=>keepF b o (fun z=>by rw[z,nb]at q;cases q) (stA b o q),ff.of_keeps fun b o q hnf=> ?_,?_,fun b o q hnf=> ?_⟩
 ·obtain⟨sl,hs⟩:=sA.2.2 b o q;exact⟨_,keepF b _ (norec b o q hnf) hs,rfl⟩
 ·exact⟨_,_,hA.objs.size,_,_,gC,Obj.cls_mapFields _ _,xA _ _,by rw[Array.getElem?_setIfInBounds_ne (by decide)];exact h0,dC,by simp[hz],stA.fresh,tne,tC,hNd,hN3⟩
 ·obtain⟨sl,hs⟩:=sA.2.2 b o q;exact⟨sl,keepF b _ (norec b o q hnf) hs⟩
theorem p8 {cls a0:Value}{dd:Option Addr} (hfr:A.frames=some (env::outer)) (hL:env.frame=some L) (fl:FlyD base (env::outer) ea cls dd a0 s.heap)
  (k:∀h',LP base (env::outer) ea cls dd a0 (rawInt L) s.heap h'->Q () { s with heap:=h' }):wpAny M A (noteFrame (.ref ea) env) Q E s:=by
 obtain⟨st,nb,ff,ob,fv,tb,tbo,tv,go,ec,ed,h0,hdt,h1,nT,tne,gT,dT,h3⟩:=fl;subst ec ed;unfold noteFrame;simp only[hL];refine wpAny_bind (wpAny_field go hdt h1 ?_);rw[if_pos (show (Value.ref tb !=Value.none)=true from by simp)];refine wpAny_bind (wpAny_field gT dT h3 ?_);rw[if_neg (show ¬((Value.none==rawInt L)=true) from by simp[rawInt])];refine wpAny_bind (wpAny_setField gT dT (Array.getElem?_eq_some_iff.mp h3).1 ?_);have oth:∀b,b≠tb->(s.heap.update tb (Obj.mapFields (·.setIfInBounds 3 Value.none))).get? b=s.heap.get? b:=fun b hb=>Heap.get?_update_other _ _ (Ne.symm hb);have norec:∀b o,s.heap.get? b=some o->(∀vs,o.data≠ .fields vs)->b≠tb:=fun b o q hnf z=>by
  rw[z,gT]at q;cases q;exact hnf tv dT
 refine CC hfr (ff.of_keeps fun b o q hnf=>⟨o,(oth b (norec b o q hnf)).trans q,rfl⟩) hL ((oth ea (Ne.symm tne)).trans go) (fun b o q=>(oth b fun z=>by rw[z,nT]at q;cases q).trans (st b o q)) nb hdt (Array.getElem?_eq_some_iff.mp h1).1 h0 fun h' ⟨x1,x2,x3,x4⟩=> ?_;exact k h' ⟨x1,x2,x3,fun b o q hnf=>x4 b o ((oth b (norec b o q hnf)).trans q) hnf⟩
theorem uZ {l:List Env}{cls a0 mk:Value}{dd:Option Addr} (st:base.StaysIn s.heap) (nb:base.get? ea=none) (ff:s.heap.FunFrames base l) (tr:FQ s.heap base ea cls dd a0 mk)
  (k:∀h',FlyD base l ea cls dd a0 h'->s.heap.UpToSlots h'->Q () { s with heap:=h' }):wpAny M A (setFlight (.ref ea) none) Q E s:=by
 obtain⟨ob,fv,tb,tbo,tv,go,ec,ed,h0,hdt,h1,nT,tne,gT,dT,h3⟩:=tr;have oth:∀b,b≠tb->(s.heap.update tb (Obj.mapFields (·.setIfInBounds 3 ((none:Option Addr).elim Value.none fun f=>rawInt f)))).get? b=s.heap.get? b:=fun b hb=>Heap.get?_update_other _ _ (Ne.symm hb);have norec:∀b o,s.heap.get? b=some o->(∀vs,o.data≠ .fields vs)->b≠tb:=fun b o q hnf z=>by
  rw[z,gT]at q;cases q;exact hnf tv dT
 have z3:=(Array.getElem?_eq_some_iff.mp h3).1;unfold setFlight;refine wpAny_bind (wpAny_field go hdt h1 ?_);rw[if_pos (show (Value.ref tb !=Value.none)=true from by simp)];refine wpAny_setField gT dT z3 (k _ ⟨fun b o q=>(oth b fun z=>by rw[z,nT]at q;cases q).trans (st b o q),nb,ff.of_keeps fun b o q hnf=>⟨o,(oth b (norec b o q hnf)).trans q,rfl⟩,?_⟩ fun b o q hnf=>⟨o.slots,(oth b (norec b o q hnf)).trans q⟩);exact⟨ob,fv,tb,_,_,(oth ea (Ne.symm tne)).trans go,ec,ed,h0,hdt,h1,nT,tne,Heap.get?_update_self _ gT (Obj.isFreed_of_fields (Obj.data_mapFields dT _)),Obj.data_mapFields dT _,by simp[z3]⟩
end
end L2
namespace L2
open PySem PySem.Spec PyProof.Rows PySem.W
abbrev Cx.inx (X:Cx)(ea:Addr):Cx:={ X with A:=X.A.mark (some (.ref ea)),calm:=false,xe:=fun _ _=>False }
section
variable {X:Cx}{pins:List (Addr×Obj)}{σ:St}{H:Hp}{s:Shared}{ea:Addr}
theorem Cx.Ok.inx (ok:X.Ok)(ea:Addr):(X.inx ea).Ok :=
 ⟨ok.mod,ok.kind,ok.glob,ok.blt,ok.above,ok.inj,ok.has,ok.cab,(fun z=>by cases z),ok.frames,ok.stk,ok.exf,ok.bs,ok.bsz,ok.noex,ok.exfs,ok.funs,ok.frf⟩
theorem Inv.inx (I:Inv X pins σ H s)(ea:Addr):Inv (X.inx ea) pins σ H s:=⟨I.ok.inx ea,I.os,I.bare,I.base,I.loc,I.cell,I.free,I.freeC,I.pin,I.hok,I.len⟩
theorem Inv.outx (ok:X.Ok)(I:Inv (X.inx ea) pins σ H s):Inv X pins σ H s:=⟨ok,I.os,I.bare,I.base,I.loc,I.cell,I.free,I.freeC,I.pin,I.hok,I.len⟩
end
theorem DR {P:Program}{w:World}{fs:List Addr}{H1 H':Hp}{h1 h' h6 B:Heap} (un:Un fs [] H1 H' h1 h') (hok:HOk P w H' h') (cov:∀b,(H' b≠none∨∃o,h1.get? b=some o)->b∉fs->∃o,B.get? b=some o)
  (sb:B.StaysIn h')(st:B.StaysIn h6)(up:h'.UpToSlots h6)(hf:∀b∈fs,H' b=none/\∃o,h'.get? b=some o/\∀vs,o.data≠ .fields vs):Un fs [] H1 H' h1 h6/\HOk P w H' h6:=by
 have same:∀b o,(H' b≠none∨∃o,h1.get? b=some o)->b∉fs->h'.get? b=some o->h6.get? b=some o:=fun b o hc hb q=>by
  obtain⟨o',e⟩:=cov b hc hb;have e1:=sb b o' e;rw[q]at e1;cases e1;exact st b _ e
 have atf:∀b o,b∈fs->h'.get? b=some o->∃sl,h6.get? b=some { o with slots:=sl }:=fun b o hb q=>by
  obtain⟨_,o',e,d⟩:=hf b hb;rw[q]at e;cases e;exact up b _ q d
 refine⟨⟨fun b o q n hb hx=>same b o (.inr ⟨o,q⟩) hb (un.keep b o q n hb hx),fun b o q n hb hx=> ?_,un.free,fun b o q hx=> ?_,un.tups,un.frzs,un.tbls⟩,fun b u e=> ?_⟩
 ·obtain⟨sl,q1⟩:=un.slot b o q n hb hx;obtain⟨sl2,q2⟩:=atf b _ hb q1;exact⟨sl2,q2⟩
 ·obtain⟨o1,q1⟩:=un.there b o q hx
  by_cases hb:b∈fs
  ·obtain⟨sl,q2⟩:=atf b o1 hb q1;exact⟨_,q2⟩
  ·exact⟨o1,same b o1 (.inr ⟨o,q⟩) hb q1⟩
 ·refine(hok b u e).stay (fun c v hc q=> ?_) (fun _ q=>q) fun _ _ q=>q;have hn:H' c≠none:=by
   rcases hc with z|z
   ·rw[z,e];simp
   ·rw[z];simp
  exact same c v (.inl hn) (fun z=>hn (hf c z).1) q
def PJ (a C dx:Addr)(h:Heap):Prop:=∃o vs,h.get? a=some o/\o.cls= .ref C/\o.dict=some dx/\o.data= .fields vs
def uA (a C:Addr):Option Addr->HO
 | none=> .ext (iX a C)
 | some dx=> .ext (PJ a C dx)
theorem HG {P:Program}{w:World}{fs:List Addr}{H1 H':Hp}{h1 h6:Heap}{ea C:Addr}{φ:Heap->Prop} (un:Un fs [] H1 H' h1 h6) (hok:HOk P w H' h6) (new:h1.get? ea=none) (hn:H' ea=none) (x:φ h6) (tx:∃o,h6.get? ea=some o)
  (kx:∀g1 g2,φ g1->(∀o,g1.get? ea=some o->g2.get? ea=some o)->φ g2):Un fs [] H1 (upd H' ea (.ext φ)) h1 h6/\HOk P w (upd H' ea (.ext φ)) h6:=by
 have ne1:∀b o,h1.get? b=some o->b≠ea:=fun b o q z=>by rw[z,new]at q;cases q
 refine⟨⟨un.keep,un.slot,fun b o q n hx=>by rw[aX (ne1 b o q)];exact un.free b o q n hx,un.there,fun b xs q=> ?_,fun b o u q=> ?_,fun b ps q=> ?_⟩,fun b u e=> ?_⟩
 ·have z:=un.tups b xs q;rw[aX (bG z hn)];exact z
 ·have z:=un.frzs b o u q;rw[aX (bG z hn)];exact z
 ·obtain⟨m,z⟩:=un.tbls b ps q;exact⟨m,by rw[aX (bG z hn)];exact z⟩
 ·by_cases hb:b=ea
  ·subst hb;rw[bP]at e;cases e;exact⟨x,tx,kx⟩
  ·rw[aX hb]at e;exact(hok b u e).stay (fun _ _ _ q=>q) (fun c q=>by rw[aX (bG q hn)];exact q) fun c xs q=>by rw[aX (bG q hn)];exact q
theorem DB {P:Program}{w:World}{fs:List Addr}{H1 H':Hp}{h1 h6:Heap}{ea C:Addr}{dd:Option Addr}{ob:Obj}{vs:Array Value} (un:Un fs [] H1 H' h1 h6) (hok:HOk P w H' h6) (new:h1.get? ea=none) (hn:H' ea=none) (go:h6.get? ea=some ob) (hc:ob.cls= .ref C) (hd:ob.dict=dd) (hf:ob.data= .fields vs) :
  Un fs [] H1 (upd H' ea (uA ea C dd)) h1 h6/\HOk P w (upd H' ea (uA ea C dd)) h6:=by
 cases dd with
 | none=>exact HG (C:=C) un hok new hn ⟨ob,vs,go,hc,hf⟩ ⟨_,go⟩ fun g1 g2 ⟨o',vs',q1,q2,q3⟩ k=>⟨o',vs',k _ q1,q2,q3⟩
 | some dx=>exact HG (C:=C) un hok new hn ⟨ob,vs,go,hc,hd,hf⟩ ⟨_,go⟩ fun g1 g2 ⟨o',vs',q1,q2,q3⟩ k=>⟨o',vs',k _ q1,q2,q3⟩
def XW (X:Cx)(pins:List (Addr×Obj))(σ:St)(R:XK)(e:Value)(s':Shared):Prop:=∃H1 s1,Inv X pins σ H1 s1/\CXE X.prog X.w X.stack H1 s1 R e s'
def PEx (X:Cx)(e:Expr)(t:XK->TE):Prop :=
 ∀(R:XK) (pins:List (Addr×Obj)) (s:Shared) (σ:St) (H:Hp) (Q:VK),Inv X pins σ H s->t R σ H Q->wpAny (model X.prog X.w) X.A (eval e X.env) (EP X pins σ Q) (XW X pins σ R) s
theorem PA.noxx {X:Cx}{es:List Expr}{t:TA} (h:PA X.nox es t) {E:Value->Shared->Prop}:∀(pos:Pos) (pins:List (Addr×Obj)) (s:Shared) (σ:St) (H:Hp) (Q:List V->Hp->Prop),Inv X pins σ H s->t σ H Q->wpAny (model X.prog X.w) X.A (spliced (backTo pos (starEach es X.env))) (AP X pins σ Q) E s :=
 fun pos pins s σ H Q I q=>wpAny_mono (h pos pins s σ H Q (I.wish _) q) (fun _ _ ⟨vs,H',I',r,z⟩=>⟨vs,H',I'.unwish,r,z⟩) fun _ _ z=>False.elim z
section
variable {X:Cx}{k k':Nat}{sp:Sp}{x m:Str}{p pos apos:Pos}{e o:Expr}{es:List Expr}{ta:TE}{t:TA}{C f:Addr}{dvs:List V}{ds:List Value}{R:XK}{ps:List Str}{fd:FuncData}
theorem AI {pins:List (Addr×Obj)}{σ:St}{H:Hp}{s:Shared}{Q:VK}{us:List Value}{vs:List V} (F:FnOk X.prog X.w X.K X.mg X.base (CXE X.prog X.w) k f fd ps sp) (hr:Room k X.A) (hb:Binds X.K fd ps ds) (hd:Vals dvs ds)
  (I:Inv X pins σ H s)(r:Vals vs us)(h:sp (vs++dvs) H Q R):wpAny (model X.prog X.w) X.A (call (.ref f) us) (EP X pins σ Q) (XW X pins σ R) s:=by
 have r2:Vals (vs++dvs) (us++ds):=r.append hd;have hl:(us++ds).length=ps.length:=by rw[←r2.length];exact F.len _ _ _ _ h
 refine wpAny_call (codeAny_mono (F.run X.A X.stack s H ⟨us,[]⟩ (us++ds) (vs++dvs) Q R hr I.env0 (hb s us I.kIn hl) r2 h) fun r s' hq=> ?_);cases r with
 | error e=>exact⟨H,s,I,hq⟩
 | ok fl =>
  cases fl with
  | ret u=>exact I.after hq
  | next=>exact False.elim hq
  | brk=>exact False.elim hq
  | cont=>exact False.elim hq
theorem TM (F:FcE X.prog X.w X.K X.mg X.base x k ps sp)(hr:Room k' X.A)(ha:PA X.nox (e::es) t)(hk:k<=k':=by decide)(hg:Gl X x:=by rfl)
  (hdb:(x==("__debug__" :Str))=false:=by decide)(he:starEach (e::es) X.env=(false,eval e X.env)::starEach es X.env:=by rfl)(hpl:(backTo pos (starEach es X.env)).any (·.1)=false:=by rfl) :
  PEx X (.Call (.Name x p) (e::es) [] pos) (fun R=>lV sp [] R t):=by
 intro R pins s σ H Q I h;obtain⟨f,fd,hm,kp,b,G⟩:=F.ex;refine wpAny_Call_Name_kw (iF I hg hm ?_ hdb);refine PySem.W.callWith_K (h₀:=X.base) I.ok.mod.kin kp (thn (ha.noxx pos pins s σ H _ I h) fun us s1 ⟨vs,H1,I1,r,q⟩=>⟨I1.kIn,?_⟩) he hpl;exact AI G (hr.mono hk) b .nil I1 r q
end
section
variable {X:Cx}{k k':Nat}{sp:Sp}{x m:Str}{p pos apos:Pos}{e o:Expr}{es:List Expr}{ta:TE}{t:TA}{C:Addr}{dvs:List V}{R:XK}
end
theorem m8 {X:Cx}{pins:List (Addr×Obj)}{σ:St}{H:Hp}{s:Shared}{M:Model}{A:Around}{E:Value->Shared->Prop}{i:Nat}{n:Str}{pos:Pos}{Q:Unit->Shared->Prop} (I:Inv X pins σ H s) (hN:X.N.Nodup) (hi:X.N[i]? =some n) (hk:X.env.scope.names.lookup n=some .local)
  (h:∀s',Inv X pins (σ.set i none) H s'->Q () s'):wpAny M A (do bindName X.env n .none;unbindBehindTheSuite X.env n pos) Q E s:=by
 obtain⟨m,hn,hl⟩:=id I.loc;have hcls:(X.env.scope.kind== .class||(X.env.scope.kind== .module&&X.env.locals !=X.env.globals))=false:=by rw[I.ok.kind];rfl
 have cne:=I.cne;have tracked:∀{a:Addr}{h':Heap},(∃o,s.heap.get? a=some o/\H a=none)->Heap.SameBut a s.heap h'->HOk X.prog X.w H h':=fun {a h'} ha hs b ob e=>by
  obtain⟨_,_,hfree⟩:=ha;refine(I.hok b ob e).stay (fun c w' hc q=>(hs.2 c ?_).trans q) (fun _ q=>q) fun _ _ q=>q;rintro rfl;rcases hc with rfl|hc
  ·rw[hfree]at e;cases e
  ·rw[hfree]at hc;cases hc
 refine wpAny_nameGoes_keeps hk hn hcls fun h' v hn' hs=> ?_;obtain⟨oL,_,_,hoL,_⟩:=id hn;refine h _ ⟨I.ok,I.os,I.bare,⟨fun b o e n hb hx=> ?_,fun b o e n hb hx=> ?_,I.base.free,fun b o e hx=> ?_,I.base.tups,I.base.frzs,I.base.tbls⟩,⟨_,hn',fun j y v' e1 e2 e3=> ?_⟩,fun y c e=> ?_,I.free,I.freeC,fun p hp=> ?_,tracked ⟨oL,hoL,I.free⟩ hs,by simpa using I.len⟩
 ·exact(hs.2 b (Nat.ne_of_lt (Nat.lt_of_lt_of_le (Heap.lt_size e) I.ok.above))).trans (I.base.keep b o e n hb hx)
 ·obtain⟨sl,e1⟩:=I.base.slot b o e n hb hx;exact⟨sl,(hs.2 b (Nat.ne_of_lt (Nat.lt_of_lt_of_le (Heap.lt_size e) I.ok.above))).trans e1⟩
 ·obtain⟨o',e1⟩:=I.base.there b o e hx;exact⟨o',(hs.2 b (Nat.ne_of_lt (Nat.lt_of_lt_of_le (Heap.lt_size e) I.ok.above))).trans e1⟩
 ·by_cases hj:j=i
  ·subst hj;rw[List.getElem?_set]at e2;simp at e2
  ·rw[List.getElem?_set_ne (Ne.symm hj)]at e2;obtain⟨u',r',q⟩:=hl j y v' e1 e2 e3;refine⟨u',r',?_⟩;rcases q with⟨k,e⟩|⟨k,c,e,z⟩
   ·refine .inl ⟨k,?_⟩;have:y≠n:=fun e=>hj (sW hN e1 (e▸hi));simp[this,e]
   ·exact .inr ⟨k,c,e,z.sameBut hs (cne y c e)⟩
 ·obtain⟨w',z⟩:=I.cell y c e;exact⟨w',z.sameBut hs (cne y c e)⟩
 ·obtain⟨e,n,ne,nf,d⟩:=I.pin p hp;exact⟨(hs.2 p.1 ne).trans e,n,ne,nf,d⟩
section
variable {X:Cx}{i:Nat}{n x:Str}{T:Addr}{np hpos pos epos:Pos}{e:Expr}{tc:XK->TE}{b₀:Stmt}{suite:List Stmt}{ts:TS}
def LL (K:PySem.W.Frag)(T:Addr)(i:Nat)(ts:TS)(D:j2)(σ:St):XK:=fun cls dd H1=>∃C,cls= .ref C/\PySem.W.exmOne K (.ref C) (.ref T)=some true ∧
 ∀ea,H1 ea=none->ts { nx:=fun σ' H'=>D.nx (σ'.set i none) H',rt:=D.rt,bk:=fun σ' H'=>D.bk (σ'.set i none) H',ct:=fun σ' H'=>D.ct (σ'.set i none) H' } (σ.set i (some (.ref ea))) (upd H1 ea (uA ea C dd))
def PXs (X:Cx)(st:List Stmt)(t:XK->TS):Prop :=
 ∀(R:XK) (pins:List (Addr×Obj)) (s:Shared) (σ:St) (H:Hp) (D:j2),Inv X pins σ H s->t R D σ H->wpAny (model X.prog X.w) X.A (execs st X.env) (SP X pins D) (XW X pins σ R) s
def UX (K:PySem.W.Frag)(T:Addr)(i:Nat)(tc:XK->TE)(ts:TS):TS:=fun D σ H=>tc (LL K T i ts D σ) σ H fun _ H1=>D.nx σ H1
def txE (tc:XK->TE):XK->TS:=fun R D σ H=>tc R σ H fun _ H1=>D.nx σ H1
theorem TN (he:PEx X e tc)(hsw:swapsWith e none epos.line X.env=pure false:=by rfl):PXs X [.Expr e epos] (txE tc):=by
 intro R pins s σ H D I h;refine wpAny_execs_cons (wpAny_Expr_any ?_ I.quiet hsw);exact wpAny_mono (he R pins s σ H _ I h) (fun v s1 ⟨v',H1,I1,r1,q1⟩=>wpAny_execs_nil ⟨σ,H1,I1,q1⟩) fun _ _ z=>z
theorem LY {body:List Stmt}{tb:XK->TS} (hN:X.N.Nodup) (hi:X.N[i]? =some n) (hk:X.env.scope.names.lookup n=some .local) (hst:X.stack=X.env::X.outer) (hfr:X.env.frame=some X.env.locals) (hm:X.mg x=some (.ref T)) (he:PXs X body tb) (hs:∀ea,PSs (X.inx ea) (b₀::suite) ts)
  (hg:Gl X x:=by rfl)(hdb:(x==("__debug__" :Str))=false:=by decide) :
  PS X (.Try body [.ExceptHandler (some (.Name x np)) (some n) (b₀::suite) hpos] [] [] pos) (fun D σ H=>tb (LL X.K T i ts D σ) D σ H):=by
 intro pins s σ H D I h;refine wpAny_Try_except ?_;refine wpAny_mono (he _ pins s σ H _ I h) (fun f s1 q=> ?_) fun ev s' hx=> ?_
 ·cases f with
  | next=>exact wpAny_execs_nil q
  | ret v=>exact q
  | brk=>exact q
  | cont=>exact q
 obtain⟨H1,s1,I1,ea,cls,dd,a0,H',B,rfl,os,bare,un,hok,hn,new,fl,cov,C,rfl,hex,hq⟩:=hx;have frms:∀b∈frs X.stack,H' b=none:=fun b hb=>by
  obtain⟨_,o,ho,_⟩:=I1.stack.mem hb;exact un.free b o ho (I1.stkFree b hb) (by simp)
 have fl0:=fl;rw[hst]at fl0;refine p8 (by rw[I.ok.frames,hst]) hfr fl0 fun h4 ⟨k1,k2,k3,up4⟩=> ?_;refine uZ k1 fl.2.1 k2 k3 fun h5 hfl5 up5=> ?_;have step:∀h6,FlyD B (X.env::X.outer) ea (.ref C) dd a0 h6->s'.heap.UpToSlots h6->Inv X pins σ (upd H' ea (uA ea C dd)) { s' with heap:=h6 }:=fun h6 f6 up6=>by
  obtain⟨un2,hok2⟩:=DR un hok cov fl.1 f6.1 up6 fun b hb=>⟨frms b hb,(fl.2.2.1.mem hb).2⟩
  obtain⟨oe,vs,q1,q2,q3,q4⟩:=f6.there;obtain⟨un3,hok3⟩:=DB (C:=C) un2 hok2 new hn q1 q2 q3 q4;exact I1.call' (s':={ s' with heap:=h6 }) (ch:=[]) os un3 hok3 bare fun b z=>absurd z (by simp)
 have I5:=step h5 hfl5 (up4.trans up5);obtain⟨ob,_,hob,hobc,_⟩:=hfl5.there;have LT:Looks (model X.prog X.w) h5 (typeOf (.ref ea)) (.ref C):=by
  rw[←hobc];exact(Looks.ld hob).andThen .now
 refine wpAny_handleBy_cons (codeAny_handlers_test ?_) (by intro q;cases q);refine iF (X:=X.inx ea) (I5.inx ea) hg hm ?_ hdb;refine(PySem.W.exm_one I5.kIn LT hex).here ?_;show codeAny _ _ _ _ _;refine codeAny_handlers_suite_as ?_;obtain⟨l1,l2,l3,l4⟩:=hfl5;refine uZ l1 l2 l3 l4 fun h6 hfl6 up6=> ?_;have I6:=step h6 hfl6 ((up4.trans up5).trans up6);refine sK (X:=X.inx ea) (v:= .ref ea) (I6.inx ea) hN hi (.inl hk) rfl (fun s7 I7=> ?_) (.inr hk);refine wpAny_mono (hs ea pins s7 _ _ _ I7 (hq ea hn)) (fun f s8 hsp=> ?_) fun _ _ z=>False.elim z;cases f with
 | next =>
  obtain⟨σ',H8,I8,q8⟩:=hsp;exact m8 (I8.outx I.ok) hN hi hk fun s9 I9=>⟨_,H8,I9,q8⟩
 | brk =>
  obtain⟨σ',H8,I8,q8⟩:=hsp;exact m8 (I8.outx I.ok) hN hi hk fun s9 I9=>⟨_,H8,I9,q8⟩
 | cont =>
  obtain⟨σ',H8,I8,q8⟩:=hsp;exact m8 (I8.outx I.ok) hN hi hk fun s9 I9=>⟨_,H8,I9,q8⟩
 | ret u =>
  obtain⟨v,σ',H8,I8,r8,q8⟩:=hsp;exact m8 (I8.outx I.ok) hN hi hk fun s9 I9=>⟨v,_,H8,I9,r8,q8⟩
theorem P8 (hN:X.N.Nodup)(hi:X.N[i]? =some n)(hk:X.env.scope.names.lookup n=some .local)(hst:X.stack=X.env::X.outer)(hfr:X.env.frame=some X.env.locals)(hm:X.mg x=some (.ref T))(he:PEx X e tc)(hs:∀ea,PSs (X.inx ea) (b₀::suite) ts)
  (hg:Gl X x:=by rfl)(hdb:(x==("__debug__" :Str))=false:=by decide)(hsw:swapsWith e none epos.line X.env=pure false:=by rfl) :
  PS X (.Try [.Expr e epos] [.ExceptHandler (some (.Name x np)) (some n) (b₀::suite) hpos] [] [] pos) (UX X.K T i tc ts):=LY hN hi hk hst hfr hm (TN he hsw) hs hg hdb
end
def IsX (H:Hp)(a C:Addr):Prop:=∃φ,H a=some (.ext φ)/\∀h,φ h->iX a C h
def JL (K:PySem.W.Frag):List V->Hp->VK->Prop:=fun xs H Q=>∃a C c u b,xs=[.ref a,c]/\IsX H a C/\lC K C/\(c= .ref u/\PySem.W.kitOne K (.ref C) (.ref u)=some b)/\Q (.bl b) H
def D5 (K:PySem.W.Frag):List V->Hp->VK->Prop:=fun xs H Q=>∃a C n b,xs=[.ref a,.ty n]/\IsX H a C/\lC K C/\PySem.W.kitOne K (.ref C) (.type n)=some b/\Q (.bl b) H
theorem KH {X:Cx}:dA X (.builtin "isinstance") (JL X.K):=by
 intro pins s σ H xs us Q I r h;obtain⟨a,C,c,u,b,rfl,hs,k,⟨rfl,e⟩,q⟩:=h;obtain⟨v1,v2,rfl,r1,r2⟩:=FI r;obtain rfl:v1= .ref a:=r1;obtain rfl:v2= .ref u:=r2;obtain⟨φ,hs,hφ⟩:=hs;obtain⟨z,_⟩:=I.hok a _ hs;exact kia_one (AA k) I.kIn (hφ _ z) e (fun z=>by cases z) fun tk=>⟨.bl b,H,I.tok tk,rfl,q⟩
theorem HJ {X:Cx}:dA X (.builtin "isinstance") (D5 X.K):=by
 intro pins s σ H xs us Q I r h;obtain⟨a,C,n,b,rfl,hs,k,e,q⟩:=h;obtain⟨v1,v2,rfl,r1,r2⟩:=FI r;obtain rfl:v1= .ref a:=r1;obtain rfl:v2= .type n:=r2;obtain⟨φ,hs,hφ⟩:=hs;obtain⟨z,_⟩:=I.hok a _ hs;exact kia_one (AA k) I.kIn (hφ _ z) e (fun z=>by cases z) fun tk=>⟨.bl b,H,I.tok tk,rfl,q⟩
end L2
namespace L2
open PySem PySem.Spec PyProof.Rows PySem.W
theorem uB {P:Program}{w:World}{X:Cx}:iO (CXE P w) X E0:=fun _ _ _ _ _ _ _ h=>by
 obtain⟨_,_,_,_,_,_,_,_,_,_,_,_,_,_,_,q⟩:=h;exact q.elim
section
variable {X:Cx}{x:Str}{j:Nat}{p pos:Pos}{e v1 v2:Expr}{es:List Expr}{te:TE}{t:TJ}
end
theorem sN {C:Addr}{E:XK}{t:TA}{D:j2}{σ:St}{H:Hp} (h:t σ H fun vs H1=>vs.length<=sizeLine/\E (.ref C) none H1):HV C E t D σ H:=h
end L2
namespace L2
open PySem PySem.W
theorem xL:bootBuiltins "ValueError" =some (.type "ValueError"):=PyProof.Rows.Boot.«ValueError»
section
variable {K:Frag}{C D:Addr}{cd:ClassData}{b:Bool}
theorem IF (c:clsIn K D=some cd)(t:typeIn K (.ref D)=some (.type "type"))(sb:subIn K (.ref D) (.type "BaseException")=some true)(s:subIn K (.ref C) (.ref D)=some b):exmOne K (.ref C) (.ref D)=some b:=by
 unfold exmOne;rw[if_pos (by rw[sb];rfl)];show (if ((clsIn K D).isSome&&typeIn K (.ref D)==some (.type "type"))=true then subIn K (.ref C) (.ref D) else none)=_;rw[c,t,if_pos (by rfl)];exact s
theorem Q3 {n:String}(hm:kitMeta n=true)(s:subIn K (.ref C) (.type n)=some b):kitOne K (.ref C) (.type n)=some b:=by
 unfold kitOne;rw[if_neg (by intro h;cases (beq_iff_eq.mp h))];show (if kitMeta n=true then subIn K (.ref C) (.type n) else none)=_;rw[if_pos hm];exact s
end
theorem qU:kitMeta "ValueError" =true:=by decide +kernel
variable {K:Frag}{H:Hp}{Q:VK}
theorem Q7 {a C D:Addr}{b:Bool} (e:H a=some (.ext (iX a C))) (k:lC K C) (i:kitOne K (.ref C) (.ref D)=some b) (h:Q (.bl b) H):JL K [.ref a,.ref D] H Q:=⟨a,C,.ref D,D,b,rfl,⟨_,e,fun _ z=>z⟩,k,⟨rfl,i⟩,h⟩
theorem ND {a C:Addr}{n:String}{b:Bool} (e:H a=some (.ext (iX a C))) (k:lC K C) (i:kitOne K (.ref C) (.type n)=some b) (h:Q (.bl b) H):D5 K [.ref a,.ty n] H Q:=⟨a,C,n,b,rfl,⟨_,e,fun _ z=>z⟩,k,i,h⟩
end L2
namespace L2
open PySem PySem.W
theorem xD {X:Cx}(K:Frag)(h:X.K=K):dA X (.builtin "isinstance") (JL K):=by
 subst h;exact KH
theorem EW {X:Cx}(K:Frag)(h:X.K=K):dA X (.builtin "isinstance") (D5 K):=by
 subst h;exact HJ
end L2
set_option maxHeartbeats 4000000
namespace L2
open PySem PySem.Spec PyProof.Rows
section
variable {X:Cx}{pins:List (Addr×Obj)}{σ:St}{H:Hp}{s:Shared}
end
section
variable {X:Cx}{CX:CXT}{k k':Nat}{sp:Sp}{E:XK}{x y:Str}{p pos:Pos}{e:Expr}{es:List Expr}{t:TA}{i:Nat}{c:Addr}
end
section
variable {P:Program}{w:World}{K:PySem.W.Frag}{mg:Str->Option Value}{base:Heap}
end
section
variable {X:Cx}{k k':Nat}{x:Str}{p pos:Pos}{e:Expr}{es:List Expr}{t:TA}
end
section
variable {X:Cx}{args:Arguments}{body:Expr}{lsc:Scope}{pos:Pos}{y:Str}{c cL PL:Addr}
end
end L2
namespace L2
open PySem PySem.Spec PyProof.Rows
section
variable {P:Program}{w:World}{K:PySem.W.Frag}{mg:Str->Option Value}{base:Heap}
end
section
variable {X:Cx}{o:Expr}{to:TE}{ap pos:Pos}
def rBL:V->List V->Hp->VK->Prop:=fun x xs H Q=>∃i,x= .int i/\xs=[]/\Q (.int (Builtin.Int.intBits i)) H
theorem GA:MtR X "int.bit_length" rBL:=by
 intro pins s σ H x xs v us Q I rx rs h;obtain⟨i,rfl,rfl,q⟩:=h;obtain⟨t,rfl⟩:=rx;cases rs;exact call_int_bit_length ⟨.int (Builtin.Int.intBits i),H,I.tok _,⟨_,rfl⟩,q⟩
theorem HN {b t:Int}(hb:0<=b)(h:(Builtin.Int.intBits b:Int)<=t):b/2^t.toNat%2=0:=by
 have ht:Builtin.Int.intBits b<=t.toNat:=by lia
 have hlt:b<2^t.toNat:=by
  unfold Builtin.Int.intBits at ht
  by_cases h0:b=0
  ·subst h0;exact Int.pow_pos (by decide)
  ·rw[if_neg (by simpa using h0)]at ht;have h1:b.natAbs<2^(b.natAbs.log2+1):=Nat.lt_log2_self;have h2:2^(b.natAbs.log2+1)<=2^t.toNat:=Nat.pow_le_pow_right (by decide) ht;have h3:((2^t.toNat:Nat):Int)=(2:Int)^t.toNat:=by simp
   lia
 rw[Int.ediv_eq_zero_of_lt hb hlt];rfl
theorem HH {H:Hp}{Q:VK}{i:Int} (h:Q (.int (Builtin.Int.intBits i)) H):rBL (.int i) [] H Q:=⟨i,rfl,rfl,h⟩
end
structure DcD (P:Program)(w:World)(K:PySem.W.Frag)(mg:Str->Option Value)(base:Heap)(x m:Str)(k:Nat)(dvs:List V)(sp:Sp):Prop where
 ex:∃C f fd ps ds,mg x=some (.ref C)/\PySem.W.specialIn K (.ref C) "__getattribute__" =some (some (.builtin "type.__getattribute__"))/\PySem.W.readsIn K C (.type "type")=true/\PySem.W.findCls K (.ref C) (.type "type") m=some (.val (.ref f)) ∧
  PySem.W.keepIn K (.ref f)=true/\Vals dvs ds/\Binds K fd ps ds/\FnOk P w K mg base CX0 k f fd ps sp
section
variable {X:Cx}{k k':Nat}{sp:Sp}{x m:Str}{p pos apos:Pos}{e:Expr}{es:List Expr}{t:TA}{dvs:List V}
theorem GT {pl:Sem Bool}(F:DcD X.prog X.w X.K X.mg X.base x m k dvs sp)(hr:Room k' X.A)(ha:PA X (e::es) t)(hk:k<=k':=by decide)(hg:Gl X x:=by rfl)(hdb:(x==("__debug__" :Str))=false:=by decide)
  (hst:starEach (e::es) X.env=(false,eval e X.env)::starEach es X.env:=by rfl)(hpl:(backTo pos (starEach es X.env)).any (·.1)=false:=by rfl)
  (ht:eval (.Call (.Attribute (.Name x p) m apos) (e::es) [] pos) X.env=(do
   let ov ←eval (.Name x p) X.env
   standAt apos.atName
   let (f,first) ←holding [ov] (getMethod ov m pl)
   callWith pos f first (backTo pos (starEach (e::es) X.env)) (backToKw pos (keywordEach [] X.env))):=by rfl) :
  PE X (.Call (.Attribute (.Name x p) m apos) (e::es) [] pos) (lV sp dvs E0 t):=by
 intro pins s σ H Q I h;obtain⟨C,f,fd,ps,ds,hm,hga,hrd,hfc,kp,hd,hb,G⟩:=F.ex;refine PySem.W.methodCall_KW (pl:=pl) (iF I hg hm ?_ hdb) ht;refine PySem.W.method_cls I.kIn hga (PySem.W.cls_value I.kIn hrd hfc (qM (v:= .ref f) rfl) ?_);have I1:=I.tok (s.toks+1);refine PySem.W.callWith_K (first:=[]) (h₀:=X.base) I.ok.mod.kin kp (thn (ha pos pins _ σ H _ I1 h) fun us s2 ⟨vs,H2,I2,r,q2⟩=>⟨I2.kIn,?_⟩) hst hpl;exact oK G (hr.mono hk) hb hd rF I2 r q2
theorem zD {E:XK}{σ:St}{H:Hp}{Q:VK} (h:t σ H fun vs H1=>sp (vs++dvs) H1 Q E):lV sp dvs E t σ H Q:=h
end
end L2
namespace L2
open PySem PySem.Spec PyProof.Rows
section
variable {P:Program}{w:World}
end
section
variable {P:Program}{w:World}{K:PySem.W.Frag}{mg:Str->Option Value}{base:Heap}
end
section
variable {X:Cx}{st:Stmt}{rest:List Stmt}{t:TS}{u:j2->(St->V->Hp->Prop)->St->Hp->Prop}{e:Expr}{te:TE}{pos:Pos}
end
section
variable {P:Program}{w:World}{K:PySem.W.Frag}{mg:Str->Option Value}{base:Heap}
theorem FnOk.toX {CX:CXT}{k:Nat}{f:Addr}{fd:FuncData}{ps:List Str}{sp:Sp} (F:FnOk P w K mg base CX0 k f fd ps sp):FnOk P w K mg base CX k f fd ps (fun vs H Q _=>sp vs H Q E0) :=
 ⟨fun vs H Q _ h=>F.len vs H Q E0 h,fun A outer s H args us vs Q E hr e0 hb hv hs=>codeAny_mono (F.run A outer s H args us vs Q E0 hr e0 hb hv hs) fun r s' h=>by
  cases r with
  | error e=>exact False.elim h
  | ok fl=>cases fl<;>exact h⟩
end
def QW (M:Addr->Sp->Prop)(m:Str)(E:XK)(t:TA)(σ:St)(Q:VK):VK:=fun x H=>∃a C dx fs sp,x= .ref a/\H a=some (.ins C dx fs)/\fs.lookup m=none/\M C sp/\t σ H fun vs H2=>sp (x::vs) H2 Q E
theorem u8 {M:Addr->Sp->Prop}{m:Str}{E:XK}{ta:TE}{t:TA}{σ:St}{H:Hp}{Q:VK} (h:ta σ H (QW M m E t σ Q)):O7 M m E ta t σ H Q:=h
theorem rA {M:Addr->Sp->Prop}{m:Str}{E:XK}{t:TA}{σ:St}{H:Hp}{Q:VK}{a C dx:Addr}{fs:List (Str×V)}{sp:Sp} (e:H a=some (.ins C dx fs)) (l:fs.lookup m=none) (F:M C sp) (h:t σ H fun vs H2=>sp (.ref a::vs) H2 Q E):QW M m E t σ Q (.ref a) H :=
 ⟨a,C,dx,fs,sp,rfl,e,l,F,h⟩
section
open PySem.W
variable {X:Cx}{i j:Nat}{n x y:Str}{T:Addr}{np yp hpos pos epos:Pos}{e:Expr}{tc:XK->TE}{b₀:Stmt}{suite:List Stmt}{ts:TS}
end
end L2
namespace L2
open PySem PySem.Spec PyProof.Rows
end L2
namespace L2
open PySem PySem.Spec PyProof.Rows
section
variable {X:Cx}
def RP (K:PySem.W.Frag):R2:=fun x y H Q=>∃a b xs,x= .ref a/\y= .ref b/\SqL K H a xs/\SqL K H b []/\Q (.bl (!xs.isEmpty)) H
theorem RB (hu:X.A.units<cLine):OpR X (compareOp .NotEq) (RP X.K):=by
 intro pins s σ H x y v u Q I rx ry h;obtain⟨a,b,xs,rfl,rfl,ha,hb,q⟩:=h;cases rx;cases ry;obtain⟨its,r,pl,hz⟩:=I.list ha;obtain⟨its2,r2,pl2,_⟩:=I.list hb;cases r2;cases xs with
 | nil =>
  cases r;refine SeqAt.RcNeAt.lists (e:=fun _=>true) pl.isList pl2.isList rfl hu (fun j h1=>absurd h1 (Nat.not_lt_zero _)) X.prog X.w X.xe _ ⟨.bl false,H,I,rfl,q⟩
 | cons x xs =>
  cases r with
  | cons r1 r2 =>
   exact SeqAt.RcNeAt.lists_lengths pl.isList pl2.isList (by simp) hu X.prog X.w X.xe _ ⟨.bl true,H,I,rfl,q⟩
theorem RJ {K:PySem.W.Frag}{H:Hp}{Q:VK}{a b:Addr}{xs:List V} (ha:SqL K H a xs) (hb:SqL K H b []) (h:Q (.bl (!xs.isEmpty)) H):RP K (.ref a) (.ref b) H Q:=⟨a,b,xs,rfl,rfl,ha,hb,h⟩
end
end L2
namespace L2
open PySem PySem.Spec PyProof.Rows
section
variable {κ:Type}[DecidableEq κ]
def c6 (kvs:List (κ×V))(k:κ):Option V:=(kvs.find? fun kv=>decide (kv.1=k)).map (·.2)
theorem KT {p:κ×V}{r:List (κ×V)}{k:κ} (e:p.1=k):c6 (p::r) k=some p.2:=by simp[c6,List.find?_cons,e]
theorem KN {p:κ×V}{r:List (κ×V)}{k:κ} (e:¬p.1=k):c6 (p::r) k=c6 r k:=by simp[c6,List.find?_cons,e]
theorem RelO.isSome_eq {o:Option V}{u:Option Value} (r:RelO o u):o.isSome=u.isSome:=by
 cases o with
 | none=>cases u with
  | none=>rfl
  | some _=>exact(show False from r).elim
 | some _=>cases u with
  | none=>exact(show False from r).elim
  | some _=>rfl
theorem RelO.getD {o:Option V}{u:Option Value}{d:V}{d':Value} (r:RelO o u) (rd:RelV d d'):RelV (o.getD d) (u.getD d'):=by
 cases o with
 | none=>cases u with
  | none=>exact rd
  | some _=>exact(show False from r).elim
 | some _=>cases u with
  | none=>exact(show False from r).elim
  | some _=>exact r
theorem KV.val {kvs:List (κ×V)}{vs:List (κ×Value)} (r:KV kvs vs) (k:κ):RelO (c6 kvs k) (valueAt vs k):=by
 unfold KV at r
 induction r with
 | nil=>exact True.intro
 | @cons p q ps qs h t ih =>
  obtain⟨h1,h2⟩:=h
  by_cases e:p.1=k
  ·have e':q.1=k:=h1.symm.trans e;have b:valueAt (q::qs) k=some q.2:=by simp[valueAt,List.find?_cons,e']
   rw[KT e,b];exact h2
  ·have e':¬q.1=k:=fun z=>e (h1.trans z);have b:valueAt (q::qs) k=valueAt qs k:=by simp[valueAt,List.find?_cons,e']
   rw[KN e,b];exact ih
end
theorem E5 {P:Program}{w:World}{k:Key}{u:Value} (r:RelV (kV k) u):(iE P w).is k u=true:=by
 cases k with
 | inl i=>obtain⟨t,e⟩:=(show ∃t,u=Value.int i t from r);subst e;exact CJ P w i t
 | inr x=>obtain⟨t,e⟩:=(show ∃t,u=Value.str x t from r);subst e;exact CA P w x t
section
variable {P:Program}{w:World}{H:Hp}{h:Heap}{a:Addr}
end
section
variable {X:Cx}{pins:List (Addr×Obj)}{σ:St}{H:Hp}{s:Shared}{a:Addr}{y v:V}{u r:Value}{o:Option V}{A:Around}{E:Value->Shared->Prop}
end
section
variable {X:Cx}{pins:List (Addr×Obj)}{σ:St}{H:Hp}{s:Shared}{a:Addr}{kvs:List (Key×V)}{k:Key}{u:Value}{A:Around}{E:Value->Shared->Prop}
end
def SN (i:Expr):Prop:=∀ov iv,subscripted i false ov iv=operate [ov,iv] (getItem ov iv)
theorem OM {prog:Program}{w:World}{A:Around}{E:Value->Shared->Prop}{s:Shared}{env:Env}{value slice:Expr}{pos:Pos}{T id:String}{Q:Value->Shared->Prop}
  (hl:typeLookup (.type T) "__getitem__" =pure (some (.builtin id)))(hs:SN slice)
  (h:wpAny (model prog w) A (eval value env) (fun o s₁=>wpAny (model prog w) A (eval slice env) (fun i s₂=>s₂.TypeIs o T/\wpAny (model prog w) A (getItem o i) Q E s₂) E s₁) E s) :
  wpAny (model prog w) A (eval (.Subscript value slice pos) env) Q E s:=by
 refine Subscript_ (wpAny_mono h (fun o s₁ h₁=>wpAny_mono h₁ (fun i s₂ h₂=> ?_) fun _ _ x=>x) fun _ _ x=>x);obtain⟨hT,h₂⟩:=h₂;unfold subscriptTail;refine wpAny_bind ?_;rw[getitemInPython_of_ne hT.not_modules];refine wpAny_bind (wpAny_specialOf hT hl ?_);have fin:wpAny (model prog w) A (subscripted slice false o i) (fun r s₃=>wpAny (model prog w) A (letTemporaryGo value o r >>= fun _=>pure r) Q E s₃) E s₂:=by
  rw[hs o i];exact wpAny_operating (wpAny_mono h₂ (fun r s₃ h₃=>wpAny_bind (wpAny_letTemporaryGo (wpAny_pure h₃))) fun _ _ x=>x)
 first
  | exact wpAny_pure (wpAny_bind fin)
  | exact wpAny_bind (wpAny_pure (wpAny_bind fin))
  | exact wpAny_bind fin
section
variable {X:Cx}{o i e value:Expr}{pos pos' tpos:Pos}{td ty tv:TE}
end
section
variable {X:Cx}{pos:Pos}
end
structure M1 (X:Cx)(o:Expr)(m:Str)(apos:Pos)(e:Expr)(cpos:Pos):Prop where
 base:attributeBase o m X.env (eval o X.env)=eval o X.env
 few:((backTo cpos (starEach [e] X.env)).all (fun x=> !x.1)&&(backToKw cpos (keywordEach [] X.env)).all (fun x=>x.1.isSome)
  && decide (([e]:List Expr).length+([]:List Keyword).length+(if ([]:List Keyword).isEmpty then 0 else 1)<30))=true
 line:(apos.endLine==cpos.line)=true
 trees:backTo cpos (starEach [e] X.env)=[(false,eval e X.env)]
section
variable {X:Cx}{pins:List (Addr×Obj)}{σ:St}{H:Hp}{s:Shared}{a:Addr}{y d:V}{u r:Value}{o:Option V}{A:Around}{E:Value->Shared->Prop}
end
section
variable {X:Cx}{o e f:Expr}{apos cpos:Pos}{td ty tx:TE}
end
section
variable {X:Cx}{pins:List (Addr×Obj)}{σ:St}{H:Hp}{s:Shared}{a:Addr}{kvs:List (Key×V)}{A:Around}{E:Value->Shared->Prop}
end
section
variable {X:Cx}{pins:List (Addr×Obj)}{σ:St}{H:Hp}{s:Shared}{a:Addr}{y:V}{u:Value}{A:Around}{E:Value->Shared->Prop}
end
end L2
namespace L2
open PySem PySem.Spec PyProof.Rows
section
variable {κ:Type}[DecidableEq κ]
end
end L2
namespace L2
open PySem PySem.W PyProof.Rows
end L2
namespace L2
open PySem PySem.W PyProof.Rows PySem.Calls
section
variable {prog:Program}{w:World}{A:Around}{E:Value->Shared->Prop}{s:Shared}
end
end L2
namespace L2
open PySem PySem.W PyProof.Rows
section
variable {prog:Program}{w:World}{A:Around}{s:Shared}
end
section
variable {X:Cx}{pins:List (Addr×Obj)}{σ:St}{H:Hp}{s:Shared}
end
end L2
namespace L2
open PySem PySem.W PyProof.Rows
section
variable {prog:Program}{w:World}{A:Around}{E:Value->Shared->Prop}{s:Shared}{d it:Addr}{o:Obj}{es:Array DictEntry}{ep i:Nat}
end
end L2
namespace L2
open PySem PySem.W PyProof.Rows
section
variable {X:Cx}{tg:Expr}
end
end L2
namespace L2
open PySem PySem.W PyProof.Rows
section
variable {X:Cx}{e c:Expr}{te:TE}{lo hi:Option Expr}{tl th ts:TO}{pos p2:Pos}
end
section
variable {X:Cx}
end
section
variable {X:Cx}{pins:List (Addr×Obj)}{σ:St}{H:Hp}{s:Shared}
end
section
variable {X:Cx}
end
end L2
namespace L2
open PySem PySem.W PyProof.Rows
section
variable {K:PySem.W.Frag}{ti:TT}{te:TE}{σ:St}{ci:List Nat}{rest:St}{fin:List V->Hp->Prop}{H:Hp}{a:Addr}
end
end L2
namespace L2
open PySem PySem.W PyProof.Rows
section
variable {K:PySem.W.Frag}{H:Hp}{Q:VK}
end
section
variable {H:Hp}{Q:VK}{σ:St}
end
end L2
namespace L2
open PySem PySem.W PyProof.Rows
section
variable {X:Cx}{K:PySem.W.Frag}
end
section
variable {K:PySem.W.Frag}{H:Hp}{Q:VK}{σ:St}{nx rt bk ct:St->Hp->Prop}
end
end L2
namespace L2
open PySem PySem.W PyProof.Rows
section
variable {X:Cx}{tg:Expr}
end
section
variable {X:Cx}
end
end L2
namespace L2
open PySem PySem.W PyProof.Rows
section
variable {X:Cx}{pins:List (Addr×Obj)}{σ:St}{H:Hp}{s:Shared}{a:Addr}{o:Obj}{u:HO}
end
section
variable {X:Cx}
end
end L2
namespace L2
open PySem PySem.W PyProof.Rows
section
variable {X:Cx}
end
section
variable {K:PySem.W.Frag}{H:Hp}{Q:VK}
end
end L2
namespace L2
open PySem PySem.W PyProof.Rows
section
variable {prog:Program}{w:World}{A:Around}{E:Value->Shared->Prop}{s:Shared}
end
end L2
namespace L2
open PySem PySem.W PyProof.Rows
section
variable {prog:Program}{w:World}{A:Around}{E:Value->Shared->Prop}{κ:Type} [DecidableEq κ] {knd:KeyKind prog w κ}{I d:Addr}{fp wr:List Addr}{n:Nat}{P:Nat->Value->Prop}{St:Nat->Heap->Prop}{R:Result->Shared->Prop}
end
end L2
namespace L2
open PySem PySem.W PyProof.Rows
section
variable {prog:Program}{w:World}{A:Around}{E:Value->Shared->Prop}{κ:Type} [DecidableEq κ] {knd:KeyKind prog w κ}{s:Shared}{l:Addr}{its:Array Value}{c:Nat}
end
end L2
namespace L2
open PySem PySem.W PyProof.Rows
section
variable {X:Cx}{pins:List (Addr×Obj)}{σ:St}{H:Hp}{s:Shared}
end
end L2
namespace L2
open PySem PySem.W PyProof.Rows
section
variable {prog:Program}{w:World}{A:Around}{E:Value->Shared->Prop}{s:Shared}{d it:Addr}{o:Obj}{es:Array DictEntry}{ep i:Nat}{k0 v0:Value}
end
end L2
namespace L2
open PySem PySem.W PyProof.Rows
section
variable {prog:Program}{w:World}{A:Around}{E:Value->Shared->Prop}{s:Shared}{d it:Addr}{o:Obj}{es:Array DictEntry}{ep i:Nat}
end
section
variable {X:Cx}
end
end L2
namespace L2
open PySem PySem.W PyProof.Rows
section
variable (r:Nat->Int)
variable {r}{p:Array Nat}
end
end L2
namespace L2
open PySem PySem.W PyProof.Rows
section
variable {r:Nat->Int}{p:Array Nat}
end
end L2
namespace L2
open PySem PySem.W PyProof.Rows
section
variable {α:Type}{lt:α->α->Bool}{l:List α}{d:α}
end
end L2
namespace L2
open PySem PySem.W PyProof.Rows
section
variable {X:Cx}
end
end L2
namespace L2
open PySem PySem.W PyProof.Rows
section
variable {X:Cx}{pins:List (Addr×Obj)}{σ:St}{H:Hp}{s:Shared}
end
end L2
namespace L2
open PySem PySem.W PyProof.Rows
section
variable {X:Cx}
end
end L2
namespace L2
open PySem PySem.W PyProof.Rows
theorem Paired.snoc {α β:Type}{F:α->β->Prop}:∀{l:List α}{m:List β}{a:α}{b:β},Paired F l m->F a b->Paired F (l++[a]) (m++[b])
 | _,_,_,_,.nil,h=> .cons h .nil
 | _,_,_,_,.cons r t,h=> .cons r (Paired.snoc t h)
theorem Paired.at2 {α β:Type}{F:α->β->Prop}:∀{l:List α}{m:List β}{i:Nat}{a:α}{b:β},Paired F l m->l[i]? =some a->m[i]? =some b->F a b
 | _,_,0,_,_,.cons r _,h1,h2=>by cases h1;cases h2;exact r
 | _,_,i+1,_,_,.cons _ t,h1,h2=>Paired.at2 (i:=i) t (by simpa using h1) (by simpa using h2)
 | _,_,_,_,_,.nil,h1,_=>by simp at h1
theorem AF {α:Type}{J:It}{g:TG}{ti:TT}{te:TE}{σ0:St}{fin:List V->Hp->Prop}{H:Hp} (xs:List α) (c:α->Bool) (P:α->V->Hp->Prop) (hm:∀x y H1 H2,P x y H1->Same H1 H2->P x y H2) (hn:xs.length<=sizeLine)
  (hgo:∀i H1,Same H H1->i<xs.length->J.go i H1)(hst:∀H1,Same H H1->J.stop xs.length H1)
  (hb:∀i x H1,xs[i]? =some x->Same H H1->∀v H',J.yld i H1 v H'->Same H1 H'/\∃σ2:St,σ2.length=σ0.length/\(∀(j:Nat) v,σ0[j]? =some (some v)->σ2[j]? =some (some v))/\(∀R:St->Hp->Prop,R σ2 H'->g v σ0 H' R) ∧
   (∀R:Bool->Hp->Prop,(∀H2,Same H' H2->R (c x) H2)->ti σ2 H' R)/\(c x=true->∀H2,Same H' H2->∀R:VK,(∀y H3,P x y H3->Same H2 H3->R y H3)->te σ2 H2 R))
  (hf:∀ys H1,Same H H1->Paired (fun x y=>P x y H1) (xs.filter c) ys->fin ys H1):fS J g ti te σ0 fin H:=by
 refine⟨fun i m ys H1=>i+m=xs.length/\Same H H1/\Paired (fun x y=>P x y H1) ((xs.take i).filter c) ys,⟨xs.length,by lia,Same.refl _,.nil⟩,?_⟩;rintro i m ys H1 ⟨e1,s1,pr⟩;cases m with
 | zero =>
  have ei:i=xs.length:=by lia
  subst ei;rw[List.take_length]at pr;exact .inl ⟨hst H1 s1,hf ys H1 s1 pr⟩
 | succ m =>
  have hi:i<xs.length:=by lia
  refine .inr ⟨hgo i H1 s1 hi,fun v H' y=> ?_⟩;have ex:xs[i]? =some xs[i]:=List.getElem?_eq_getElem hi;have etake:xs.take (i+1)=xs.take i++[xs[i]]:=by rw[List.take_succ,ex];rfl
  have hlen:ys.length<=i:=by
   rw[←Paired.length pr];exact Nat.le_trans (List.length_filter_le _ _) (by rw[List.length_take];lia)
  obtain⟨s2,σ2,l2,c2,hg,ht,he⟩:=hb i xs[i] H1 ex s1 v H' y;refine hg _ ⟨⟨l2,c2⟩,ht _ fun H2 s3=> ?_⟩;cases hc:c xs[i] with
  | true =>
   show te σ2 H2 _;refine he hc H2 s3 _ fun y H3 py s4=>⟨by lia,m,by lia,by lia,((s1.trans s2).trans s3).trans s4,?_⟩
   rw[etake,List.filter_append,List.filter_cons_of_pos hc];exact Paired.snoc (Paired.imp' (fun a b h=>hm a b _ _ h ((s2.trans s3).trans s4)) pr) py
  | false =>
   show ∃m',_;refine⟨m,by lia,by lia,(s1.trans s2).trans s3,?_⟩;rw[etake,List.filter_append,List.filter_cons_of_neg (by rw[hc];exact Bool.false_ne_true),List.filter_nil,List.append_nil];exact Paired.imp' (fun a b h=>hm a b _ _ h (s2.trans s3)) pr
section
variable {K:PySem.W.Frag}{ti:TT}{te:TE}{σ:St}{ci:List Nat}{rest:St}{fin:List V->Hp->Prop}{H:Hp}{a:Addr}
end
end L2
namespace L2
open PySem PySem.W PyProof.Rows
section
variable {K:PySem.W.Frag}{ti:TT}{te:TE}{σ:St}{ci:List Nat}{rest:St}{fin:List V->Hp->Prop}{H:Hp}{a:Addr}
end
section
variable {σ:St}{H:Hp}{g:TG}{tb:TS}{nx bk ct:St->Hp->Prop}{rt:VK}
end
section
variable {K:PySem.W.Frag}{H:Hp}{Q:VK}{σ:St}{nx:St->Hp->Prop}{R:It->Hp->Prop}{td ty tx:TE}
end
section
variable {X:Cx}{K:PySem.W.Frag}
end
end L2
namespace L2
open PySem PySem.W PyProof.Rows
section
variable {K:PySem.W.Frag}{ti:TT}{te:TE}{σ:St}{ci:List Nat}{rest:St}{fin:List V->Hp->Prop}{H:Hp}{a:Addr}{α:Type}
theorem NX {vs:List V}{xs:List α} (F:V->α->Prop) (c:α->Bool) (P:α->V->Hp->Prop) (hm:∀x y H1 H2,P x y H1->Same H1 H2->P x y H2) (hn:xs.length<=sizeLine) (hr:ci.map (fun i=>(σ[i]?).join)=rest) (hl:SqL K H a vs) (hv:Paired F vs xs)
  (ht:∀v x H1,F v x->x∈xs->Same H H1->∀R:Bool->Hp->Prop,(∀H2,Same H1 H2->R (c x) H2)->ti (some v::rest) H1 R)
  (he:∀v x H1,F v x->x∈xs->c x=true->Same H H1->∀R:VK,(∀y H2,P x y H2->Same H1 H2->R y H2)->te (some v::rest) H1 R)
  (hf:∀ys H1,Same H H1->Paired (fun x y=>P x y H1) (xs.filter c) ys->fin ys H1):fS (Itl K a) (dM 0) ti te (bZ 1 ci σ) fin H:=by
 rw[AC hr];have hlen:vs.length=xs.length:=Paired.length hv;refine AF xs c P hm hn (fun i H1 s hi=>⟨vs,vs[i],s.seq hl,List.getElem?_eq_getElem (by lia)⟩) (fun H1 s=>⟨vs,s.seq hl,by lia⟩) (fun i x H1 hx s1 v H' y=> ?_) hf;obtain⟨rfl,e2⟩:=y;have ev:=e2 vs (s1.seq hl);have hF:=Paired.at2 hv ev hx;have hmem:=List.mem_of_getElem? hx;refine⟨Same.refl _,some v::rest,rfl,fun j v hv=> ?_,fun R h=>h,fun R h=>ht v x _ hF hmem s1 R h,fun hc H2 s2 R h=>he v x H2 hF hmem hc (s1.trans s2) R h⟩;cases j with
 | zero=>cases hv
 | succ j=>exact hv
end
end L2
namespace L2
open PySem PySem.W PyProof.Rows
end L2
namespace L2
open PySem PySem.W PyProof.Rows
section
variable {prog:Program}{w:World}{A:Around}{E:Value->Shared->Prop}{s:Shared}{d:Addr}{κ:Type} [DecidableEq κ] {knd:KeyKind prog w κ}{ps:List (κ×Value)}{ep:Nat}
end
section
variable {X:Cx}
end
end L2
namespace L2
open PySem PySem.W PyProof.Rows
section
variable {X:Cx}
end
end L2
namespace L2
open PySem PySem.W PyProof.Rows
section
variable {X:Cx}{pins:List (Addr×Obj)}{σ:St}{H:Hp}{s:Shared}{h':Heap}
end
section
variable {X:Cx}
end
end L2
namespace L2
open PySem PySem.W PyProof.Rows
section
variable {K:PySem.W.Frag}{H:Hp}{Q:VK}{σ:St}{nx:St->Hp->Prop}{td ty tv:TE}{rd:V->V->Hp->VK->Prop}{rt:VK}{bk ct:St->Hp->Prop}{R:It->Hp->Prop}
end
end L2
namespace L2
open PySem PySem.W PyProof.Rows
end L2
namespace L2
open PySem PySem.W PyProof.Rows PySem.Calls
section
variable {prog:Program}{w:World}{A:Around}{E:Value->Shared->Prop}{s:Shared}{d v:Addr}{o:Obj}{es:Array DictEntry}{ep:Nat}
end
section
variable {X:Cx}
end
section
variable {K:PySem.W.Frag}{H:Hp}{Q:VK}{σ:St}{td:TE}
end
end L2
namespace L2
open PySem PySem.W PyProof.Rows
def fC (z:Str)(n:Nat):Str:=⟨(List.replicate n z.cps).foldl (·++·) #[]⟩
theorem z6:∀(l:List (Array Nat)) (a:Array Nat),(l.foldl (·++·) a).toList=a.toList++(l.map Array.toList).flatten
 | [],a=>by simp
 | x::l,a=>by rw[List.foldl_cons,z6 l];simp
theorem wY (z:Str)(n:Nat):(fC z n).cps.toList=(List.replicate n z.cps.toList).flatten:=by
 unfold fC;rw[z6];simp
def LV:R2:=fun x y H Q=>∃z n,x= .str z/\y= .int n/\0<=n/\n<=1000/\z.length<=1000/\Q (.str (fC z n.toNat)) H
section
variable {X:Cx}
theorem C9:OpR X (binaryOp .Mult) LV:=by
 intro pins s σ H x y v u Q I rx ry h;obtain⟨z,n,rfl,rfl,h0,h1,h2,q⟩:=h;obtain⟨t,rfl⟩:=rx;obtain⟨t',rfl⟩:=ry;have hl:z.length * n.toNat<=1000 * 1000:=Nat.mul_le_mul h2 (by lia);refine P.mul_str ?_ (fun h3 _=> ?_) (fun _ _=> ?_) ?_
 ·rw[decide_eq_false (by lia),decide_eq_false (by lia)];rfl
 ·have h4:(1000:Int)<=(2^63 - 1)/n:=Int.le_ediv_of_mul_le (by lia) (by lia)
  lia
 ·exact decide_eq_false (by rw[sizeLine_eq];lia)
 ·by_cases h3:n<1
  ·rw[if_pos h3];have e:fC z n.toNat=Str.empty:=by rw[show n.toNat=0 by lia];rfl
   rw[e]at q;exact⟨by decide,⟨.str Str.empty,H,I.tok _,⟨_,rfl⟩,q⟩⟩
  ·rw[if_neg h3]
   by_cases h4:(n==1||z.length==0)=true
   ·rw[if_pos h4];have e:fC z n.toNat=z:=by
     apply N7
     rw[wY];rcases (Bool.or_eq_true _ _).mp h4 with h5|h5
     ·rw[show n.toNat=1 by have:=eq_of_beq h5;lia];simp
     ·have h6:z.cps.toList=[]:=by
       have:z.length=0:=eq_of_beq h5;exact List.length_eq_zero_iff.mp (by rw[Array.length_toList];exact this)
      rw[h6];simp
    rw[e]at q;exact⟨.str z,H,I,⟨_,rfl⟩,q⟩
   ·rw[if_neg h4];exact⟨(by
     show (fC z n.toNat).cps.size<=sizeLine;rw[←Array.length_toList,wY,List.length_flatten,List.map_replicate,List.sum_replicate_nat,Array.length_toList,sizeLine_eq];have hl':n.toNat * z.cps.size<=1000 * 1000:=by rw[Nat.mul_comm];exact hl
     lia),⟨.str (fC z n.toNat),H,I.tok _,⟨_,rfl⟩,q⟩⟩
end
section
variable {X:Cx}{P:Program}{w:World}{K:PySem.W.Frag}{mg:Str->Option Value}{base:Heap}{k':Nat}{o e:Expr}{es:List Expr}{m:Str}{ta:TE}{t:TA}{apos pos:Pos}
theorem GQ (k:Nat){pl:Sem Bool}(hr:Room k' X.A)(ho:PE X o ta)(ha:PA X (e::es) t)(hk:k<=k':=by decide)(hst:starEach (e::es) X.env=(false,eval e X.env)::starEach es X.env:=by rfl)(hpl:(backTo pos (starEach es X.env)).any (·.1)=false:=by rfl)
  (ht:eval (.Call (.Attribute o m apos) (e::es) [] pos) X.env=(do let ov ←eval o X.env;standAt apos.atName;let (f,first) ←holding [ov] (getMethod ov m pl);callWith pos f first (backTo pos (starEach (e::es) X.env)) (backToKw pos (keywordEach [] X.env))):=by rfl)
  (h1:X.prog=P:=by rfl)(h2:X.w=w:=by rfl)(h3:X.K=K:=by rfl)(h4:X.mg=mg:=by rfl)(h5:X.base=base:=by rfl):PE X (.Call (.Attribute o m apos) (e::es) [] pos) (tMD (fun C sp=>Mc P w K mg base C m k sp) m ta t):=by
 subst h1 h2 h3 h4 h5;exact EM k hr ho ha hk hst hpl ht
end
theorem C6 {H:Hp}{Q:VK}{z:Str}{n:Int} (h0:0<=n) (h1:n<=1000) (h2:z.length<=1000) (h:Q (.str (fC z n.toNat)) H):LV (.str z) (.int n) H Q:=⟨z,n,rfl,rfl,h0,h1,h2,h⟩
end L2
namespace L2
open PySem PySem.W PyProof.Rows
theorem Room.units9 {k:Nat}{A:Around} (r:Room k A):A.units+9<cLine:=by have:=r.un;have:cLine=9900:=rfl;lia
section
variable {X:Cx}{pins:List (Addr×Obj)}{σ:St}{H:Hp}{s:Shared}
end
section
variable {X:Cx}
end
section
variable {K:PySem.W.Frag}{H H':Hp}{Q:VK}
end
section
variable {H:Hp}{Q:VK}{σ:St}{ty tx:TE}
end
end L2
namespace L2
open PySem PySem.W PyProof.Rows
section
variable {H:Hp}{Q:VK}
end
end L2
namespace L2
open PySem PySem.Spec PyProof.Rows
section
variable {X:Cx}{args:Arguments}{body:Expr}{lsc:Scope}{pos:Pos}{y:Str}{c cL PL:Addr}
end
section
variable {K:PySem.W.Frag}{ti:TT}{te:TE}{σ:St}{ci:List Nat}{rest:St}{fin:List V->Hp->Prop}{H:Hp}{a:Addr}{α:Type}
end
end L2
namespace L2
open PySem PySem.W PyProof.Rows
section
variable {X:Cx}{pins:List (Addr×Obj)}{σ:St}{H:Hp}{s:Shared}
end
open Classical in
section
variable {X:Cx}{K:PySem.W.Frag}
open Classical in
open Classical in
open Classical in
end
end L2
namespace L2
open PySem PySem.W PyProof.Rows
section
variable {K:PySem.W.Frag}{ti:TT}{te:TE}{σ:St}{ci:List Nat}{rest:St}{fin:List V->Hp->Prop}{H:Hp}{a:Addr}
end
end L2
namespace L2
open PySem PySem.W PyProof.Rows
section
variable {X:Cx}
end
end L2
namespace L2
open PySem PySem.W PyProof.Rows
section
variable {X:Cx}{ek ev:Expr}{tk tv:TE}{pos:Pos}
end
end L2
namespace L2
open PySem PySem.W PyProof.Rows
section
variable {K:Frag}{x qual:Str}{st:Stmt}{f:Addr}
end
end L2
namespace L2
open PySem PySem.W PyProof.Rows
section
variable {prog:Program}{w:World}{A:Around}{E:Value->Shared->Prop}{s:Shared}{κ:SortKind}{D:Keyed->Prop}{ρ:Keyed->Int}{st:SortSt}
end
end L2
namespace L2
open PySem PySem.W PyProof.Rows
section
variable {ρ:Keyed->Int}
variable {all o p ra rb:List Keyed}
end
end L2
namespace L2
open PySem PySem.W PyProof.Rows
section
variable {prog:Program}{w:World}{A:Around}{E:Value->Shared->Prop}{s:Shared}{κ:SortKind}{D:Keyed->Prop}{ρ:Keyed->Int}{st:SortSt}
end
end L2
namespace L2
open PySem PySem.W PyProof.Rows
section
variable {prog:Program}{w:World}{A:Around}{E:Value->Shared->Prop}{s:Shared}{κ:SortKind}{D:Keyed->Prop}{ρ:Keyed->Int}{st:SortSt}
end
end L2
namespace L2
open PySem PySem.W PyProof.Rows
section
variable {prog:Program}{w:World}{A:Around}{E:Value->Shared->Prop}{s:Shared}{κ:SortKind}{D:Keyed->Prop}{ρ:Keyed->Int}{st:SortSt}
end
end L2
namespace L2
open PySem PySem.W PyProof.Rows
section
variable {prog:Program}{w:World}{A:Around}{E:Value->Shared->Prop}{s:Shared}{κ:SortKind}{D:Keyed->Prop}{ρ:Keyed->Int}{st:SortSt}
end
end L2
namespace L2
open PySem PySem.W PyProof.Rows
section
variable {prog:Program}{w:World}{A:Around}{E:Value->Shared->Prop}{s:Shared}{κ:SortKind}{D:Keyed->Prop}{ρ:Keyed->Int}{st:SortSt}
end
end L2
namespace L2
open PySem PySem.W PyProof.Rows
section
variable {prog:Program}{w:World}{A:Around}{E:Value->Shared->Prop}{s:Shared}{κ:SortKind}{D:Keyed->Prop}{ρ:Keyed->Int}{st:SortSt}{a₀:Array Keyed}
end
end L2
namespace L2
open PySem PySem.W PyProof.Rows
section
variable {prog:Program}{w:World}{A:Around}{E:Value->Shared->Prop}{s:Shared}{κ:SortKind}{D:Keyed->Prop}{ρ:Keyed->Int}{st:SortSt}{a₀:Array Keyed}
end
end L2
namespace L2
open PySem PySem.W PyProof.Rows PySem.Calls
section
variable {prog:Program}{w:World}{A:Around}{E:Value->Shared->Prop}{s:Shared}{α:Type}{f:Value->α}{lt:α->α->Bool}{d:α}{l:List α}
end
end L2
namespace L2
open PySem PySem.W PyProof.Rows PySem.Calls
section
variable {X:Cx}{H:Hp}
end
end L2
namespace L2
open PySem PySem.W PyProof.Rows
section
variable {prog:Program}{w:World}{A:Around}{E:Value->Shared->Prop}{s:Shared}
end
open Sem (wp) in
open AutoSeq1 (wpAny_loadPart') in
section
variable {prog:Program}{w:World}{A:Around}{E:Value->Shared->Prop}{s:Shared}
end
end L2
namespace L2
open PySem PySem.W PyProof.Rows
section
variable {prog:Program}{w:World}{A:Around}{E:Value->Shared->Prop}{s:Shared}
end
section
variable {X:Cx}
end
end L2
namespace L2
open PySem PySem.W PyProof.Rows
section
variable {K:PySem.W.Frag}{H:Hp}{σ:St}{Q:VK}{R:It->Hp->Prop}{nx bk ct:St->Hp->Prop}{rt:VK}
end
end L2
namespace L2
open PySem PySem.W PyProof.Rows
section
variable {prog:Program}{w:World}{A:Around}{E:Value->Shared->Prop}{s:Shared}
variable {κ:Type}[DecidableEq κ]{knd:HeapKind prog w κ}
end
section
variable {A:Around}{s:Shared}
end
section
variable {prog:Program}{w:World}{A:Around}{E:Value->Shared->Prop}{s:Shared}
variable {κ:Type}[DecidableEq κ]{knd:HeapKind prog w κ}
end
section
variable {X:Cx}{pins:List (Addr×Obj)}{σ:St}{H:Hp}{s:Shared}
end
section
variable {X:Cx}
end
section
variable {X:Cx}
end
end L2
namespace L2
open PySem PySem.W PyProof.Rows
section
variable {X:Cx}
end
end L2
set_option autoImplicit false
namespace L2
open PySem PySem.Spec PyProof.Rows
section
variable {σ:St}{H:Hp}{nx bk ct:St->Hp->Prop}{rt:VK}
def WhT (W:Nat->St->Hp->Prop)(m:Nat)(tb:TS)(nx:St->Hp->Prop)(rt:VK)(σ:St)(H:Hp):Prop :=
 ∃N:St->Hp->Prop,(∀σ' H',N σ' H'->∃m',m'<m/\W m' σ' H')/\tb ⟨N,rt,nx,N⟩ σ H
theorem JH {c:TT}{tb:TS} (W:Nat->St->Hp->Prop) (m0:Nat) (h0:W m0 σ H)
  (hs:∀m σ H,W m σ H->c σ H fun b H1=>if b=true then WhT W m tb nx rt σ H1 else nx σ H1):IE c tb ⟨nx,rt,bk,ct⟩ σ H :=
 ⟨W,⟨m0,h0⟩,hs⟩
theorem QG {W:Nat->St->Hp->Prop}{m:Nat}{tb:TS}
  (h:tb ⟨fun σ' H'=>∃m',m'<m/\W m' σ' H',rt,nx,fun σ' H'=>∃m',m'<m/\W m' σ' H'⟩ σ H):WhT W m tb nx rt σ H :=
 ⟨_,fun _ _ h=>h,h⟩
end
end L2
namespace L2
open PySem PySem.Spec PyProof.Rows
section
variable {P:Program}{w:World}
end
section
variable {P:Program}{w:World}{K:PySem.W.Frag}{mg:Str->Option Value}{base:Heap}
end
section
variable {X:Cx}{args:Arguments}{body:Expr}{lsc:Scope}{pos:Pos}{cs:List (Str×Addr)}{cL PL:Addr}
end
section
variable {P:Program}{w:World}{K:PySem.W.Frag}{mg:Str->Option Value}{base:Heap}
end
end L2
namespace L2
open PySem PySem.W PyProof.Rows
section
variable {P:Program}{w:World}{K:PySem.W.Frag}{mg:Str->Option Value}{base:Heap}
end
end L2
namespace L2
open PySem PySem.W PyProof.Rows
end L2
namespace L2
open PySem PySem.W PyProof.Rows
section
variable {X:Cx}{rest a:List Stmt}{u v:j2->(St->V->Hp->Prop)->St->Hp->Prop}{c:Expr}{tc:TT}{pos:Pos}
end
end L2
namespace L2
open PySem PySem.W PyProof PyProof.Rows
section
variable {X:Cx}{pins:List (Addr×Obj)}{σ:St}{H:Hp}{s:Shared}{a:Addr}{k:Option Str}{v:V}{u r:Value}{A:Around}{E:Value->Shared->Prop}{kvs:List (Option Str×V)}
end
section
variable {X:Cx}{o i value:Expr}{pos pos':Pos}{td ty tv:TE}
end
section
variable {X:Cx}
end
section
variable {P:Program}{w:World}{H:Hp}{Q:VK}{σ:St}{nx bk ct:St->Hp->Prop}{rt:VK}{R:It->Hp->Prop}{td ty tv:TE}{p:Addr}{kvs:List (Option Str×V)}{v:V}
end
end L2
namespace L2
open PySem PySem.W PyProof PyProof.Rows
theorem y6 {P:Program}{w:World}{K:PySem.W.Frag}{mg:Str->Option Value}{base:Heap}{N:List Str}{qual:Str}{scope:Scope}{f:Addr}{cd:Value}{A:Around}{outer:List Env}{s₀:Shared}{H₀:Hp}{E:XK} :
  PassesOwn (model P w) (eX (CXE P w) P w K mg base N qual scope f cd A outer s₀ H₀ E).A (eX (CXE P w) P w K mg base N qual scope f cd A outer s₀ H₀ E).env (eX (CXE P w) P w K mg base N qual scope f cd A outer s₀ H₀ E).xe :=
 fun e s' h=>wpAny_leaving_again (SameStack.refl _) h
end L2
namespace L2
open PySem PySem.W PyProof.Rows PySem.Calls
section
variable {prog:Program}{w:World}{A:Around}{E:Value->Shared->Prop}{s:Shared}
variable {R:Result->Shared->Prop}
end
end L2
namespace L2
open PySem PySem.W PyProof.Rows PySem.Calls
section
variable {prog:Program}{w:World}{A:Around}{E:Value->Shared->Prop}{s:Shared}
end
end L2
namespace L2
open PySem PySem.W PyProof.Rows PySem.Calls
section
variable {prog:Program}{w:World}{A:Around}{E:Value->Shared->Prop}{s:Shared}{r:Addr}
variable {it a:Addr}{f:Value}{i n ep:Nat}{o:Obj}{es:Array (Int×Value)}{t:SetTable}
variable {tp:Addr}{ot:Obj}{ps:List Nat}{ec:Nat}
end
end L2
namespace L2
open PySem PySem.W PyProof.Rows PySem.Calls
section
variable {prog:Program}{w:World}{A:Around}{E:Value->Shared->Prop}{s:Shared}{a:Addr}{o:Obj}
variable {es:Array (Int×Value)}{ep:Nat}{t:SetTable}
end
end L2
namespace L2
open PySem PySem.W PyProof.Rows PySem.Calls
section
variable {prog:Program}{w:World}{A:Around}{E:Value->Shared->Prop}{s:Shared}{a:Addr}{o:Obj}{ss:List Str}
end
end L2
namespace L2
open PySem PySem.W PyProof.Rows PySem.Calls
section
variable {X:Cx}
variable {H:Hp}{Q:VK}{w:World}
end
end L2
namespace L2
open PySem PySem.Spec PyProof.Rows
section
variable {M:Model}{A:Around}{E:Value->Shared->Prop}{s:Shared}
end
section
variable {X:Cx}{scope:Scope}{cl:List (Str×Addr)}{N:List Str}{nl:Nat}{ci:List Nat}{y0:Str}{pins:List (Addr×Obj)}{σ:St}{H2:Hp}{s2:Shared}{fp:List Addr}
end
section
variable {X:Cx}{scope:Scope}{cl:List (Str×Addr)}{N:List Str}{nl:Nat}{ci:List Nat}{y0:Str}{tg elt iter:Expr}{ifs:List Expr}{pos:Pos}{wi:TI}{g:TG}{ti:TT}{te:TE}
end
end L2
namespace L2
open PySem PySem.Spec PyProof.Rows
end L2
namespace L2
open PySem PySem.Spec PyProof.Rows PySem.W
def bQ (X:Cx)(E:XK)(scope:Scope)(cl:List (Str×Addr))(N:List Str)(C:Addr)(s0:Shared)(H0:Hp)(fp:List Addr):Cx :=
 { bE X scope cl N C s0 H0 fp with xe:=fun e s'=>∃pins σ H1 s1,Inv (bE X scope cl N C s0 H0 fp) pins σ H1 s1/\CXE X.prog X.w X.stack H1 s1 E e s' }
section
variable {X:Cx}{E:XK}{scope:Scope}{cl:List (Str×Addr)}{N:List Str}{C:Addr}{s0 s:Shared}{H0 H:Hp}{fp:List Addr}{pins:List (Addr×Obj)}{σ:St}
theorem LN (I:Inv (bQ X E scope cl N C s0 H0 fp) pins σ H s):Inv (bE X scope cl N C s0 H0 fp) pins σ H s :=
 ⟨⟨I.ok.mod,I.ok.kind,I.ok.glob,I.ok.blt,I.ok.above,I.ok.inj,I.ok.has,I.ok.cab,I.ok.hd,I.ok.frames,I.ok.stk,I.ok.exf,I.ok.bs,I.ok.bsz,I.ok.noex,I.ok.exfs,I.ok.funs,I.ok.frf⟩,I.os,I.bare,I.base,I.loc,I.cell,I.free,I.freeC,I.pin,I.hok,I.len⟩
theorem QE (I:Inv (bE X scope cl N C s0 H0 fp) pins σ H s):Inv (bQ X E scope cl N C s0 H0 fp) pins σ H s :=
 ⟨⟨I.ok.mod,I.ok.kind,I.ok.glob,I.ok.blt,I.ok.above,I.ok.inj,I.ok.has,I.ok.cab,I.ok.hd,I.ok.frames,I.ok.stk,I.ok.exf,I.ok.bs,I.ok.bsz,I.ok.noex,I.ok.exfs,I.ok.funs,I.ok.frf⟩,I.os,I.bare,I.base,I.loc,I.cell,I.free,I.freeC,I.pin,I.hok,I.len⟩
theorem T7:iO (CXE X.prog X.w) (bQ X E scope cl N C s0 H0 fp) E:=fun pins σ H s e s' I h=>⟨pins,σ,H,s,LN I,h⟩
end
section
variable {X:Cx}{scope:Scope}{cl:List (Str×Addr)}{N:List Str}{nl:Nat}{ci:List Nat}{tg elt iter:Expr}{ifs:List Expr}{pos:Pos}{wi:TI}{g:TG}{ti:TT}{te:TE}{E0x:XK}
theorem EX {pins:List (Addr×Obj)}{σ:St}{H2:Hp}{s2:Shared}{fp:List Addr}{it:Addr}{J:It}{tn:Nat->Heap->Prop}{E:Value->Shared->Prop}{RR:Value->Addr->Result->Shared->Prop}{fin:List V->Hp->Prop}
  (hc:X.calm=true)(B:Blk X scope cl N nl ci)(hg:∀C s0 H0 fp,PG (bQ X E0x scope cl N C s0 H0 fp) tg g)(hi:∀C s0 H0 fp,PF (bQ X E0x scope cl N C s0 H0 fp) ifs ti)(he:∀C s0 H0 fp,PE (bQ X E0x scope cl N C s0 H0 fp) elt te)
  (I2:Inv X pins σ H2 s2)(T:sL X.prog X.w X.K tg J fp it tn)(st2:tn 0 s2.heap)(f2:∀b∈fp,i5 X pins H2 b)(hW:fS J g ti te (bZ nl ci σ) fin H2)
  (hxn:∀(D C:Addr) (pB:List (Addr×Obj)) (σB:St) (H1:Hp) (s1:Shared) (e:Value) (s':Shared),s2.heap.objs.size<=C->Inv (bE X scope cl N C s2 H2 fp) pB σB H1 s1->CXE X.prog X.w X.stack H1 s1 E0x e s'->notedBy (model X.prog X.w) X.A (compEnvC scope cl C X.env) (fun e s''=>RR (.ref D) C (.error e) s'') e s')
  (hfin:∀(D C:Addr) (s':Shared) (H':Hp) (ys:List V) (oC:Obj) (m:Str->Option Value),H' D=none->Inv X (pins++[(C,oC)]) σ (upd H' D (.lst ys)) s'->s'.heap.Ns C m->s2.heap.objs.size<=C->fin ys H'->RR (.ref D) C (.ok .next) s') :
  wpAny (model X.prog X.w) X.A (newList []) (fun acc s₃=>wpAny (model X.prog X.w) X.A (newFunctionEnv scope X.env.globals cl [] X.env.qual none .none (some X.env)) (fun cenv s₄=>cenv.frame=X.env.frame ∧
   codeAny (model X.prog X.w) X.A (.compStart (.ListComp elt [⟨tg,iter,ifs,0⟩] scope pos) 0 (.ref it) acc { cenv with scope:=relabel scope X.env }) (RR acc cenv.locals) s₄) E s₃) E s2:=by
 obtain⟨W,⟨m0,w0⟩,turn⟩:=hW;refine wpAny_newObj_type (wpAny_newFunctionEnv B.nocell (by intro y hy;simp at hy) (fun h1 hns1 hsb1=> ?_) B.kind)
 dsimp only at hns1 hsb1 ⊢
 generalize hH2:s2.heap.push { cls:= .type "list",dict:=none,data:= .seq ([]:List Value).toArray }=G2 at hns1 hsb1 ⊢;have hCs:G2.objs.size=s2.heap.objs.size+1:=by rw[←hH2,Heap.size_push]
 generalize hCe:G2.objs.size=C at hns1 hsb1 hCs ⊢;have hDC:s2.heap.objs.size≠C:=by rw[hCs];exact Nat.ne_of_lt (Nat.lt_succ_self _)
 have hCle:s2.heap.objs.size<=C:=by rw[hCs];exact Nat.le_succ _
 have old:∀b o,s2.heap.get? b=some o->h1.get? b=some o:=fun b o e=>hsb1.extBut b o (by rw[hCs];exact Nat.ne_of_lt (Nat.lt_succ_of_lt (Heap.lt_size e))) (Heap.get?_push_of_some _ (hH2▸Heap.get?_push_of_some _ e));have hacc:h1.get? s2.heap.objs.size=some { cls:= .type "list",data:= .seq ([]:List Value).toArray 0 }:=hsb1.extBut _ _ hDC (Heap.get?_push_of_some _ (hH2▸Heap.get?_push_size _ rfl));have fo:∀b∈fp,∃o,s2.heap.get? b=some o:=fun b hb=>let ⟨o,e,_⟩:=T.obj 0 _ st2 b hb;⟨o,e⟩;have lt2:∀b∈fp,b<s2.heap.objs.size:=fun b hb=>let ⟨o,e⟩:=fo b hb;Heap.lt_size e;have hDfp:s2.heap.objs.size∉fp:=fun z=>Nat.lt_irrefl _ (lt2 _ z);have hCfp:C∉fp:=fun z=>Nat.lt_irrefl _ (Nat.lt_of_lt_of_le (lt2 _ z) hCle);generalize hDe:s2.heap.objs.size=D at hCs hDC hCle hacc hDfp lt2;have loop:∀s3:Shared,s3={ s2 with heap:=h1,toks:=s2.toks+([]:List (Str×Value)).length } →
   codeAny (model X.prog X.w) X.A (.compLoop (.ListComp elt [⟨tg,iter,ifs,0⟩] scope pos) 0 (.ref it) (.ref D) (compEnvC scope cl C X.env)) (RR (.ref D) C) s3:=by
  rintro s3 rfl;have I4:Inv (bQ X E0x scope cl N C s2 H2 fp) [] (bZ nl ci σ) H2 { s2 with heap:=h1,toks:=s2.toks+([]:List (Str×Value)).length }:=QE (sB B I2 f2 fo (by rw[hDe];exact hCle) hns1 old);have fpk:∀{H':Hp},(∀b∈fp,H' b=none)->∀b∈fp,i5 (bQ X E0x scope cl N C s2 H2 fp) [] H' b:=fun hn b hb =>
   ⟨hn b hb,(I4.ok.exf b hb).1,I4.ok.exfs b hb,.inl hb,(I4.ok.exf b hb).2,fun p hp=>by cases hp⟩
  have hDX:∀x c,(bQ X E0x scope cl N C s2 H2 fp).env.cells.lookup x=some c->c≠D:=fun x c e=>by
   obtain⟨v,o,ho,_⟩:=I2.cell x c (B.sub x c e);rw[←hDe];exact Nat.ne_of_lt (Heap.lt_size ho)
  have hDL:D≠(bQ X E0x scope cl N C s2 H2 fp).env.locals:=hDC;have hDf:D∉(bQ X E0x scope cl N C s2 H2 fp).fs:=fun z=>by
   rcases List.mem_cons.mp (I2.stkSub D z) with q|q
   ·exact Nat.lt_irrefl _ (by have:=I2.lt;rw[hDe,←q]at this;exact this)
   ·exact I2.nofs (by rw[hDe];exact Nat.le_refl _) q
  refine sH (fun n s'=>∃i ys its k H',W i n ys H'/\Inv (bQ X E0x scope cl N C s2 H2 fp) [] (bZ nl ci σ) H' s'/\tn i s'.heap/\(∀b∈fp,H' b=none)/\H' D=none ∧
   s'.heap.get? D=some { cls:= .type "list",data:= .seq its.toArray k }/\Vals ys its/\ys.length<=sizeLine) ?_ m0 ?_
  ·rintro n s' ⟨i,ys,its,k,H',w',I',st',fr',hD',eD,rv,hz⟩;have IP:Inv (bQ X E0x scope cl N C s2 H2 fp) [(D,{ cls:= .type "list",data:= .seq its.toArray k })] (bZ nl ci σ) H' s':=I'.pins_of fun p hp=>by
    obtain rfl:p=_:=by simpa using hp
    exact⟨eD,hD',hDL,hDf,fun v z=>by cases z⟩
   have fpD:∀{H'':Hp},(∀b∈fp,H'' b=none)->∀b∈fp,i5 (bQ X E0x scope cl N C s2 H2 fp) [(D,{ cls:= .type "list",data:= .seq its.toArray k })] H'' b:=fun hn b hb =>
    ⟨hn b hb,(I4.ok.exf b hb).1,I4.ok.exfs b hb,.inl hb,(I4.ok.exf b hb).2,fun p hp=>by
     obtain rfl:p=_:=by simpa [bQ,bE] using hp
     exact fun z=>hDfp ((show D=b from z)▸hb)⟩
   rcases turn i n ys H' w' with⟨stop,q⟩|⟨go,step⟩
   ·refine thn (T.done (bQ X E0x scope cl N C s2 H2 fp) rfl rfl rfl hc i _ s' (bZ nl ci σ) H' _ IP (fpD fr') st' stop) fun r s'' ⟨hr,I''⟩=> ?_;subst hr;have eD2:=(I''.pin (D,_) (List.mem_append_right _ List.mem_cons_self)).1;have J1:Inv (bQ X E0x scope cl N C s2 H2 fp) [] (bZ nl ci σ) (upd H' D (.lst ys)) s'' :=
     (I''.pins_of (pins':=[]) fun p hp=>by cases hp).track hD' eD2 rv hz (by show s2.heap.objs.size<=D;rw[hDe];exact Nat.le_refl _) hDL hDX fun p hp=>by cases hp
    have K1:Inv X pins σ (upd H' D (.lst ys)) s'':=qA I2 f2 (LN J1);obtain⟨mC,nsC,_⟩:=J1.loc;obtain⟨oC,es,ep,hoC,hdC,rC⟩:=id nsC;refine hfin D C s'' H' ys oC mC hD' (K1.pins_of fun p hp=> ?_) nsC (by rw[hDe];exact hCle) q;rcases List.mem_append.mp hp with hp|hp
    ·exact K1.pin p (List.mem_append_right _ hp)
    ·obtain rfl:p=(C,oC):=by simpa using hp
     refine⟨hoC,J1.free,Nat.ne_of_gt (Nat.lt_of_lt_of_le I2.lt (by rw[hDe];exact hCle)),I2.nofs (by rw[hDe];exact hCle),fun v z=> ?_⟩;rw[hdC]at z;cases z
   ·refine thn (T.item (bQ X E0x scope cl N C s2 H2 fp) rfl rfl rfl hc i _ s' (bZ nl ci σ) H' _ IP (fpD fr') st' go) fun r s4 ⟨u,hr,h4⟩=> ?_;subst hr;refine thn h4 fun _ s5 ⟨x,H5,I5,r5,y5,st5,fr5⟩=> ?_;have I5':=I5.pinned (fpD fr5) (T.obj _ _ st5);refine wpAny_mono (hg C s2 H2 fp _ s5 (bZ nl ci σ) H5 x u _ I5' r5 (step x H5 y5)) (fun _ s6 ⟨σ6,H6,I6,⟨hl6,hk6⟩,q6⟩=> ?_) fun e s' ⟨pB,σB,H1,s1,J,hx⟩=>hxn D C pB σB H1 s1 e s' (by rw[hDe];exact hCle) J hx;refine wpAny_mono (hi C s2 H2 fp _ s6 σ6 H6 _ I6 q6) (fun b s7 ⟨H7,I7,q7⟩=> ?_) fun e s' ⟨pB,σB,H1,s1,J,hx⟩=>hxn D C pB σB H1 s1 e s' (by rw[hDe];exact hCle) J hx;have pinD:∀{pp:List (Addr×Obj)}{σx:St}{Hx:Hp}{sx:Shared},Inv (bQ X E0x scope cl N C s2 H2 fp) ([(D,({ cls:= .type "list",data:= .seq its.toArray k }:Obj))]++fU fp s5.heap) σx Hx sx →
      sx.heap.get? D=some { cls:= .type "list",data:= .seq its.toArray k }/\Hx D=none/\tn (i+1) sx.heap/\(∀b∈fp,Hx b=none):=fun {pp σx Hx sx} Ix=>by
     refine⟨(Ix.pin (D,_) (List.mem_append_right _ (List.mem_append_left _ List.mem_cons_self))).1,(Ix.pin (D,_) (List.mem_append_right _ (List.mem_append_left _ List.mem_cons_self))).2.1,T.keep _ _ _ st5 fun b hb o e=>(Ix.pin (b,o) (List.mem_append_right _ (List.mem_append_right _ (eL hb e)))).1,fun b hb=> ?_⟩;obtain⟨o,e,d⟩:=T.obj _ _ st5 b hb;exact(Ix.pin (b,o) (List.mem_append_right _ (List.mem_append_right _ (eL hb e)))).2.1
    cases b with
    | false =>
     rw[if_neg Bool.false_ne_true]at q7 ⊢;obtain⟨m',hm',w7⟩:=q7;obtain⟨e7,n7,st7,fr7⟩:=pinD (pp:=[]) I7;exact⟨m',hm',i+1,ys,its,k,H7,w7,(I7.pins_of (pins':=[]) fun p hp=>by cases hp).weak hl6.symm hk6,st7,fr7,n7,e7,rv,hz⟩
    | true =>
     rw[if_pos rfl]at q7 ⊢;refine wpAny_mono (he C s2 H2 fp _ s7 σ6 H7 _ I7 q7) (fun y' s8 ⟨y,H8,I8,r8,hlt,m',hm',w8⟩=> ?_) fun e s' ⟨pB,σB,H1,s1,J,hx⟩=>hxn D C pB σB H1 s1 e s' (by rw[hDe];exact hCle) J hx;obtain⟨e8,n8,st8,fr8⟩:=pinD (pp:=[]) I8;have I8f:Inv (bQ X E0x scope cl N C s2 H2 fp) (fU fp s5.heap) σ6 H8 s8:=I8.pins_of fun p hp=>I8.pin p (List.mem_append_right _ (List.mem_append_right _ hp));have I8t:=I8f.track n8 e8 rv hz (by show s2.heap.objs.size<=D;rw[hDe];exact Nat.le_refl _) hDL hDX fun p hp=>by
      have hp':p∈fU fp s5.heap:=by simpa [bQ,bE] using hp
      exact fun z=>hDfp (z▸(qS hp').1)
     refine wpAny_mono (qJ (X:=bQ X E0x scope cl N C s2 H2 fp) (fU fp s5.heap) s8 σ6 _ (.ref D) [y] (.ref D) [y'] (fun _ H9=>H9=upd H8 D (.lst (ys++[y]))) I8t rfl (.cons r8 .nil)
      ⟨D,ys,y,rfl,rfl,bP,hlt,C4⟩) (fun _ s9 ⟨_,H9,I9,_,e9⟩=> ?_) fun e s' ⟨pB,σB,H1,s1,J,hx⟩=>hxn D C pB σB H1 s1 e s' (by rw[hDe];exact hCle) J hx
     subst e9;obtain⟨hz9,its9,k9,rv9,e9⟩:=I9.hok D _ bP;have I9u:=I9.untrack n8;refine⟨m',hm',i+1,ys++[y],its9,k9,H8,w8,(I9u.pins_of (pins':=[]) fun p hp=>by cases hp).weak hl6.symm hk6,?_,fr8,n8,e9,rv9,hz9⟩;exact T.keep _ _ _ st5 fun b hb o e=>(I9u.pin (b,o) (List.mem_append_right _ (eL hb e))).1
  ·exact⟨0,[],[],0,H2,w0,I4,T.keep _ _ _ st2 fun b hb o e=>old b o e,fun b hb=>(f2 b hb).1,I2.hok.fresh (by rw[hDe];exact Nat.le_refl _),hacc,.nil,Nat.zero_le _⟩
 exact⟨rfl,codeAny_compStart_list (loop _ rfl) (T.self _ 0 _ _ _ (T.keep _ _ _ st2 fun b hb o e=>old b o e) (loop _ rfl))⟩
end
end L2
namespace L2
open PySem PySem.Spec PyProof.Rows PySem.W
def pY (M:Model)(A:Around)(E:Value->Shared->Prop)(use:Option (Value->Sem Unit))(Q:Value->Shared->Prop)(F:Option Addr)(acc:Value)(C:Addr)(r:Result)(s':Shared):Prop :=
 match r,use with
 | .ok _,none=>∃m,s'.heap.Ns C m/\∀h',Heap.SameBut C s'.heap h'->Q acc { s' with heap:=h' }
 | .ok _,some u=>wpAny M A (u acc) (fun _ s''=>∃m,s''.heap.Ns C m/\∀h',Heap.SameBut C s''.heap h'->Q .none { s'' with heap:=h' }) E s'
 | .error x,_=>∃m,s'.heap.Ns C m/\∀h',Heap.SameBut C s'.heap h'->∀cenv:Env,cenv.frame=F->wpAny M A (passOn "comprehension.variables-let-go" x cenv:Sem Value) (fun _ _=>False) E { s' with heap:=h' }
section
variable {M:Model}{A:Around}{E:Value->Shared->Prop}{s:Shared}{env:Env}
theorem EE {e:Expr}{scope:Scope}{pos:Pos}{newAcc first:Sem Value}{g:Comprehension}{gs:List Comprehension}{cl:List (Str×Addr)}{use:Option (Value->Sem Unit)}{Q:Value->Shared->Prop}
  (hcl:clausesOf e=g::gs)(hs:∀x,foldedSetIterable g.iter env x=pure x)(hclos:closureFor scope env=pure cl)(hkind:scope.kind= .function)(hnames:∀x∈scope.names,x.2= .local->scope.names.lookup x.1=some .local)
  (h:wpAny M A first (fun x s1=>wpAny M A (pyIter x) (fun it s2=>wpAny M A newAcc (fun acc s3=>wpAny M A (newFunctionEnv scope env.globals cl [] env.qual none .none (some env)) (fun cenv s4=>cenv.frame=env.frame ∧
    codeAny M A (.compStart e 0 it acc { cenv with scope:=relabel scope env }) (pY M A E use Q env.frame acc cenv.locals) s4) E s3) E s2) E s1) E s) :
  wpAny M A (comprehension e scope env pos newAcc false first use) Q E s:=by
 unfold comprehension;rw[hclos,hcl];refine wpAny_bind (wpAny_mono h (fun x s1 h1=>wpAny_bind (wpAny_standAt (wpAny_bind (wpAny_of_eq (hs x) (wpAny_bind (wpAny_holding (wpAny_mono h1 (fun it s2 h2 =>
  wpAny_standIf (wpAny_bind (wpAny_mono h2 (fun acc s3 h3=>wpAny_bind (wpAny_pure (wpAny_bind (wpAny_mono h3 (fun cenv s4 ⟨hfr,h4⟩=> ?_) fun _ _ h'=>h')))) fun _ _ h'=>h'))) fun _ _ h'=>h'))))))) fun _ _ h'=>h')
 dsimp only
 have hv:∀x∈(scope.names.filter fun x=>(x.2== .local||x.2== .cell)&&x.1 !=(".0" :Str)).reverse,x.2= .local->Env.kindOf { cenv with scope:=relabel scope env } x.1=some .local:=fun x hx hl=>lookup_relabel_local (hnames x (List.mem_filter.mp (List.mem_reverse.mp hx)).1 hl);have hv2:∀x∈(scope.names.filter fun x=>(x.2== .local||x.2== .cell)&&x.1 !=(".0" :Str)).reverse.drop 1++(scope.names.filter fun x=>(x.2== .local||x.2== .cell)&&x.1 !=(".0" :Str)).reverse.take 1,x.2= .local->Env.kindOf { cenv with scope:=relabel scope env } x.1=some .local:=fun x hx hl=>by
  rcases List.mem_append.mp hx with z|z
  ·exact hv x (List.mem_of_mem_drop z) hl
  ·exact hv x (List.mem_of_mem_take z) hl
 refine wpAny_holding (wpAny_bind (wpAny_attempt (wpAny_holding (wpAny_run (codeAny_mono h4 fun r s' hr=> ?_)))));cases r with
 | ok f =>
  cases use with
  | none =>
   obtain⟨m,hn,hr⟩:=hr;exact wpAny_bind (wpAny_holding (wpAny_comp_letGo (cenv:={ cenv with scope:=relabel scope env }) hkind _ s' m hv hn fun h' m' _ hs'=>wpAny_pure (hr h' hs')))
  | some u =>
   refine wpAny_bind (wpAny_rule (wpAny_bind (wpAny_holding (wpAny_mono hr (fun _ s'' hr'=> ?_) fun _ _ h'=>h'))));obtain⟨m,hn,hr'⟩:=hr';exact wpAny_bind (wpAny_comp_letGo (cenv:={ cenv with scope:=relabel scope env }) hkind _ s'' m hv2 hn fun h' m' _ hs'=>wpAny_pure (hr' h' hs'))
 | error x =>
  have hr2:∃m,s'.heap.Ns cenv.locals m/\∀h',Heap.SameBut cenv.locals s'.heap h'->∀cenv':Env,cenv'.frame=env.frame->wpAny M A (passOn "comprehension.variables-let-go" x cenv':Sem Value) (fun _ _=>False) E { s' with heap:=h' }:=by cases use<;>exact hr
  obtain⟨m,hn,hr⟩:=hr2;exact wpAny_bind (wpAny_holding (wpAny_comp_letGo (cenv:={ cenv with scope:=relabel scope env }) hkind _ s' m hv hn fun h' m' _ hs'=>wpAny_mono (hr h' hs' _ hfr) (fun _ _ f=>f.elim) fun _ _ y=>y))
end
section
variable {X:Cx}{pins:List (Addr×Obj)}{σ:St}{H:Hp}{s:Shared}{h2 B:Heap}
theorem OX (I:Inv X pins σ H s)(hex:X.ex=[])(st:B.StaysIn h2)(sb:B.StaysIn s.heap)(up:∀b∈frs X.stack,∀o,s.heap.get? b=some o->(∀vs,o.data≠ .fields vs)->∃sl,h2.get? b=some { o with slots:=sl })(cov:∀b,(H b≠none∨∃o,X.s₀.heap.get? b=some o)->b∉frs X.stack->∃o,B.get? b=some o)(hst:X.stack=X.env::X.outer)(hf:X.env.frame=some X.env.locals) :
  Un X.fs [] X.H₀ H X.s₀.heap h2/\HOk X.prog X.w H h2:=by
 have hfr:∀b,b∈frs X.stack->b=X.env.locals∨b∈X.fs:=fun b hb=>List.mem_cons.mp (I.stkSub b hb);have hfs:∀b,b∈X.fs->b∈frs X.stack:=fun b hb=>by
  rw[hst];unfold frs;rw[List.filterMap_cons,hf];exact List.mem_cons_of_mem _ hb
 have nloc:∀b o,X.s₀.heap.get? b=some o->b≠X.env.locals:=fun b o q z=>by
  have e1:=Nat.lt_of_lt_of_le (Heap.lt_size q) I.ok.above;rw[z]at e1;exact Nat.lt_irrefl _ e1
 have same:∀b o,(H b≠none∨∃o,X.s₀.heap.get? b=some o)->b∉frs X.stack->s.heap.get? b=some o->h2.get? b=some o:=fun b o hc hb q=>by
  obtain⟨o',e⟩:=cov b hc hb;have e1:=sb b o' e;rw[q]at e1;cases e1;exact st b _ e
 have ub:=I.base;rw[hex]at ub;refine⟨⟨fun b o q n hb _=> ?_,fun b o q n hb _=> ?_,fun b o q n _=>ub.free b o q n (by simp),fun b o q _=> ?_,ub.tups,ub.frzs,ub.tbls⟩,fun b u e=> ?_⟩
 ·have q1:=ub.keep b o q n hb (by simp);exact same b o (.inr ⟨o,q⟩) (fun z=>(hfr b z).elim (nloc b o q) hb) q1
 ·obtain⟨sl,q1⟩:=ub.slot b o q n hb (by simp);obtain⟨_,o',ho',hd⟩:=I.funs.mem hb;have hd1:∀vs,({ o with slots:=sl }:Obj).data≠ .fields vs:=fun vs z=>by
   rw[q1]at ho';cases ho';exact hd vs z
  obtain⟨sl2,q2⟩:=up b (hfs b hb) _ q1 hd1;exact⟨sl2,q2⟩
 ·obtain⟨o1,q1⟩:=ub.there b o q (by simp)
  by_cases hb:b∈frs X.stack
  ·obtain⟨_,o',ho',hd⟩:=I.stack.mem hb;rw[q1]at ho';cases ho';obtain⟨sl2,q2⟩:=up b hb _ q1 hd;exact⟨_,q2⟩
  ·exact⟨o1,same b o1 (.inr ⟨o,q⟩) hb q1⟩
 ·refine(I.hok b u e).stay (fun c v hc q=> ?_) (fun _ q=>q) fun _ _ q=>q;have hn:H c≠none:=by
   rcases hc with z|z
   ·rw[z,e];simp
   ·rw[z];simp
  exact same c v (.inl hn) (fun z=>hn (I.stkFree c z)) q
end
end L2
namespace L2
open PySem PySem.Spec PyProof.Rows PySem.W
def yT (X:Cx)(E:XK):Prop:=∀(pins:List (Addr×Obj)) (σ:St) (H':Hp) (s':Shared) (h3:Heap) (ea:Addr) (cls:Value) (dd:Option Addr) (a0:Value) (B:Heap),Inv X pins σ H' s'->H' ea=none->X.s₀.heap.get? ea=none->B.StaysIn s'.heap->B.StaysIn h3->B.get? ea=none->h3.FunFrames B X.stack →
 FQ h3 B ea cls dd a0 (rawInt X.env.locals)->(∀b∈frs X.stack,∀o,s'.heap.get? b=some o->(∀vs,o.data≠ .fields vs)->∃sl,h3.get? b=some { o with slots:=sl })->(∀b,(H' b≠none∨∃o,X.s₀.heap.get? b=some o)->b∉frs X.stack->∃o,B.get? b=some o)->E cls dd H'->X.xe (.ref ea) { s' with heap:=h3 }
theorem K5 {P:Program}{w:World}{K:PySem.W.Frag}{mg:Str->Option Value}{base:Heap}{N:List Str}{qual:Str}{scope:Scope}{f:Addr}{cd:Value}{A:Around}{outer:List Env}{s₀:Shared}{H₀:Hp}{E:XK} :
  yT (eX (CXE P w) P w K mg base N qual scope f cd A outer s₀ H₀ E) E:=by
 intro pins σ H' s' h3 ea cls dd a0 B I hn new sb st nb ff tr up cov q;show wpAny _ _ (leaving _ _) _ _ _;obtain⟨ob,fv,tb,tbo,tv,go,ec,ed,h0,hdt,h1,nT,tne,gT,dT,hm⟩:=id tr;unfold leaving noteFrame;simp only[show (envOfC qual scope s₀.heap.objs.size f cd).frame=some s₀.heap.objs.size from rfl];refine wpAny_bind (wpAny_bind (wpAny_field go hdt h1 ?_));rw[if_pos (show (Value.ref tb !=Value.none)=true from by simp)];refine wpAny_bind (wpAny_field gT dT hm ?_);refine wpAny_ite_split (fun _=> ?_) (fun z=>absurd (show (rawInt (s₀.heap.objs.size:Int)==rawInt (s₀.heap.objs.size:Int))=true from beq_self_eq_true _) z);refine wpAny_pure (uZ (s:={ s' with heap:=h3 }) st nb ff tr fun h4 fl up4=> ?_);obtain⟨f1,f2,⟨_,_,f3⟩,f4⟩:=fl;obtain⟨un2,hok2⟩:=OX (B:=B) (h2:=h4) I rfl f1 sb (fun b hb o e hd=>by
  obtain⟨sl,e3⟩:=up b hb o e hd;obtain⟨sl2,e4⟩:=up4 b _ e3 hd;exact⟨sl2,e4⟩) cov rfl rfl
 refine⟨ea,cls,dd,a0,H',B,rfl,I.os,I.bare,un2,hok2,hn,new,⟨f1,f2,f3,f4⟩,fun b hb hs=>cov b hb fun z=> ?_,q⟩;rcases List.mem_cons.mp (I.stkSub b z) with e|hb'
 ·rcases hb with hb|⟨o,e2⟩
  ·exact hb (by rw[e];exact I.free)
  ·have e1:=Nat.lt_of_lt_of_le (Heap.lt_size e2) I.ok.above;rw[e]at e1;exact Nat.lt_irrefl _ e1
 ·exact hs hb'
theorem FS {h h' B B':Heap}(bn:∀b,B.get? b=none->B'.get? b=none):∀{l:List Env},(∀b∈frs l,∀o,h.get? b=some o->(∀vs,o.data≠ .fields vs)->∃o',h'.get? b=some o'/\o'.data=o.data)->h.FunFrames B l->h'.FunFrames B' l
 | [],_,_=>trivial
 | env::l,k,⟨h1,⟨L,o,e1,e2,e3,e4⟩,h3⟩=>by
  have hm:∀b,b∈frs l->b∈frs (env::l):=fun b hb=>by unfold frs;rw[List.filterMap_cons,e1];exact List.mem_cons_of_mem _ hb
  obtain⟨o',e5,e6⟩:=k L (by unfold frs;rw[List.filterMap_cons,e1];exact List.mem_cons_self) o e3 e4;exact⟨h1,⟨L,o',e1,bn L e2,e5,fun vs z=>e4 vs (by rw[←e6];exact z)⟩,FS bn (fun b hb=>k b (hm b hb)) h3⟩
theorem JM {X:Cx}{E:XK}{pins pB:List (Addr×Obj)}{σ σB:St}{H2 H1:Hp}{s2 s1 s':Shared}{fp:List Addr}{scope:Scope}{cl:List (Str×Addr)}{N:List Str}{C:Addr}{e acc:Value}{use:Option (Value->Sem Unit)}{Q:Value->Shared->Prop}
  (hst:X.stack=X.env::X.outer)(hf:X.env.frame=some X.env.locals)(hex:X.ex=[])(pf:yT X E)(I2:Inv X pins σ H2 s2)(f2:∀b∈fp,i5 X pins H2 b)(hC:s2.heap.objs.size<=C)(J:Inv (bE X scope cl N C s2 H2 fp) pB σB H1 s1)(h:CXE X.prog X.w X.stack H1 s1 E e s') :
  notedBy (model X.prog X.w) X.A (compEnvC scope cl C X.env) (fun e s''=>pY (model X.prog X.w) X.A X.xe use Q X.env.frame acc C (.error e) s'') e s':=by
 obtain⟨ea,cls,dd,a0,H',B,rfl,os,bare,un,hok,hn,new,fl,cov,q⟩:=h;have K1:=qA I2 f2 J;have K2:=K1.call' (ch:=[]) os un hok bare (fun b z=>absurd z (by simp));obtain⟨mC,nsC,_⟩:=J.loc;obtain⟨oC,es,ep,hoC,hdC,rC⟩:=id nsC;have hoC:s1.heap.get? C=some oC:=hoC;have hCf:C∉frs X.stack:=fun z=>by
  rcases List.mem_cons.mp (I2.stkSub C z) with q|q
  ·have:=I2.lt;rw[←q]at this;exact Nat.lt_irrefl _ (Nat.lt_of_lt_of_le this hC)
  ·exact I2.nofs hC q
 have hC1:H1 C=none:=J.free;have oC2:s'.heap.get? C=some oC:=un.keep C oC hoC hC1 hCf (by simp);have hC2:H' C=none:=un.free C oC hoC hC1 (by simp);obtain⟨oB,bC⟩:=cov C (.inr ⟨oC,hoC⟩) hCf;obtain rfl:oB=oC:=by
  have:=fl.1 C oB bC;rw[oC2]at this;exact(Option.some.inj this).symm
 have eaC:ea≠C:=fun z=>by rw[z]at new;rw[hoC]at new;cases new
 have hfrA:X.A.frames=some (X.env::X.outer):=by rw[I2.ok.frames,hst]
 have fl':=fl;rw[hst]at fl';show wpAny _ X.A (noteFrame (.ref ea) (compEnvC scope cl C X.env)) _ _ s';rw[show noteFrame (.ref ea) (compEnvC scope cl C X.env)=noteFrame (.ref ea) X.env from rfl];refine p8 hfrA hf fl' fun h1 held=> ?_;obtain⟨g1,g2,g3,g4⟩:=held;have oC3:=g1 C oB bC;refine⟨mC,⟨oB,es,ep,oC3,hdC,rC⟩,fun h2 sb cenv hfc=> ?_⟩;obtain⟨ob,fv,tb,tbo,tv,go,ec,ed,h0,hdt,hh1,nT,tne,gT,dT,hm⟩:=g3;have tbC:tb≠C:=fun z=>by rw[z,bC]at nT;cases nT
 have go2:h2.get? ea=some ob:=(sb.2 ea eaC).trans go;have gT2:h2.get? tb=some tbo:=(sb.2 tb tbC).trans gT;have z3:=(Array.getElem?_eq_some_iff.mp hm).1;unfold PySem.passOn setFlight;refine wpAny_bind (wpAny_field go2 hdt hh1 ?_);rw[if_neg (show ¬(Value.ref tb==Value.none)=true from Bool.false_ne_true)];show wpAny _ X.A ((field (.ref ea) 1 >>= fun tb=>if (tb !=Value.none)=true then setField tb 3 (cenv.frame.elim Value.none fun f=>rawInt f) else pure ()) >>= fun _=>throw (Value.ref ea)) _ _ _;refine wpAny_bind (wpAny_bind (wpAny_field go2 hdt hh1 ?_));rw[if_pos (show (Value.ref tb !=Value.none)=true from by simp),hfc,hf];refine wpAny_setField gT2 dT z3 (wpAny_throw ?_);have oth:∀b,b≠tb->(h2.update tb (Obj.mapFields (·.setIfInBounds 3 (rawInt X.env.locals)))).get? b=h2.get? b:=fun b hb=>Heap.get?_update_other _ _ (Ne.symm hb);have gT3:=Heap.get?_update_self (Obj.mapFields (·.setIfInBounds 3 (rawInt X.env.locals))) gT2 (Obj.isFreed_of_fields (Obj.data_mapFields dT _));have dT3:=Obj.data_mapFields dT (·.setIfInBounds 3 (rawInt X.env.locals));show X.xe (.ref ea) { s' with heap:=h2.update tb (Obj.mapFields (·.setIfInBounds 3 (rawInt X.env.locals))) };generalize h2.update tb (Obj.mapFields (·.setIfInBounds 3 (rawInt X.env.locals)))=h3 at oth gT3 ⊢;have there:∀b o,X.s₀.heap.get? b=some o->∃o',s1.heap.get? b=some o':=fun b o e=>K1.base.there b o e (by rw[hex];simp);have nbC:∀b o,(hideAll B [C]).get? b=some o->b≠C/\B.get? b=some o:=fun b o e=>⟨fun z=>(by rw[z,hideAll_none [C] List.mem_cons_self]at e;cases e),of_hideAll _ e⟩
 have bn:∀b,B.get? b=none->(hideAll B [C]).get? b=none:=fun b e=>by
  cases e2:(hideAll B [C]).get? b with
  | none=>rfl
  | some o=>rw[(nbC b o e2).2]at e;cases e
 have frC:∀b∈frs X.stack,b≠C:=fun b hb z=>hCf (z▸hb);have norec:∀b o,h1.get? b=some o->(∀vs,o.data≠ .fields vs)->b≠tb:=fun b o q hnf z=>by
  rw[z,gT]at q;cases q;exact hnf tv dT
 refine pf pins σ H' s' h3 ea cls dd a0 (hideAll B [C]) K2 hn ?_ (fun b o e=>fl.1 b o (nbC b o e).2) (fun b o e=> ?_) (bn ea fl.2.1) ?_ ?_ (fun b hb o e hd=> ?_) (fun b hb hs=> ?_) q
 ·cases e:X.s₀.heap.get? ea with
  | none=>rfl
  | some o =>
   obtain⟨o',e'⟩:=there ea o e;rw[new]at e';cases e'
 ·obtain⟨n1,e2⟩:=nbC b o e;exact(oth b fun z=>by rw[z,nT]at e2;cases e2).trans ((sb.2 b n1).trans (g1 b o e2))
 ·rw[hst];refine FS bn (fun b hb o e hd=> ?_) g2;have hb':b∈frs X.stack:=by rw[hst];exact hb
  exact⟨o,(oth b (norec b o e hd)).trans ((sb.2 b (frC b hb')).trans e),rfl⟩
 ·exact⟨ob,fv,tb,_,_,(oth ea (Ne.symm tne)).trans go2,ec,ed,h0,hdt,hh1,bn tb nT,tne,gT3,dT3,by simp[z3]⟩
 ·obtain⟨sl,e1⟩:=g4 b o e hd;exact⟨sl,(oth b (norec b _ e1 hd)).trans ((sb.2 b (frC b hb)).trans e1)⟩
 ·obtain⟨o,e⟩:=cov b (hb.imp id fun⟨o,e⟩=>there b o e) hs;refine⟨o,hideAll_get _ e fun z=> ?_⟩;have z:=List.mem_singleton.mp z;rcases hb with hb|⟨o',e'⟩
  ·exact hb (by rw[z];exact hC2)
  ·have:=Heap.lt_size e';rw[z]at this;exact Nat.lt_irrefl _ (Nat.lt_of_lt_of_le this (Nat.le_trans I2.sz hC))
end L2
namespace L2
open PySem PySem.Spec PyProof.Rows PySem.W
section
variable {X:Cx}{scope:Scope}{cl:List (Str×Addr)}{N:List Str}{nl:Nat}{ci:List Nat}{tg elt iter:Expr}{ifs:List Expr}{pos:Pos}{wi:TI}{g:TG}{ti:TT}{te:TE}{E0x:XK}
theorem CD {i:Nat}{x:Str}{pos' spos:Pos} (hN:X.N.Nodup) (hix:X.N[i]? =some x) (hx:Loc X.env.scope x) (pf:yT X E0x) (hc:X.calm=true) (B:Blk X scope cl N nl ci) (hp:PI X tg iter wi) (hg:∀C s0 H0 fp,PG (bQ X E0x scope cl N C s0 H0 fp) tg g)
  (hi:∀C s0 H0 fp,PF (bQ X E0x scope cl N C s0 H0 fp) ifs ti)(he:∀C s0 H0 fp,PE (bQ X E0x scope cl N C s0 H0 fp) elt te)
  (hsw:swapsWith (.ListComp elt [⟨tg,iter,ifs,0⟩] scope pos) (some (.Name x pos')) spos.line X.env=pure true:=by rfl)(hs:∀x,foldedSetIterable iter X.env x=pure x:=by intro _;rfl)(hst:X.stack=X.env::X.outer:=by rfl)(hf0:X.env.frame=some X.env.locals:=by rfl)(hex:X.ex=[]:=by rfl)
  (hf:X.fn x=true∨X.env.scope.names.lookup x=some .local:=by first|exact .inl rfl|exact .inr rfl|assumption) :
  PS X (.Assign [.Name x pos'] (.ListComp elt [⟨tg,iter,ifs,0⟩] scope pos) spos) (EQ (FY wi nl ci g ti te) (dM i)):=by
 intro pins s σ H D I h;rw[exec_Assign_Name_used _ _ _ _ hsw];refine wpAny_bind (wpAny_standAt (wpAny_bind ?_));show wpAny _ X.A (do let _ ←comprehension (.ListComp elt [⟨tg,iter,ifs,0⟩] scope pos) scope X.env _ (newList []) false (eval iter X.env) (some (assign (.Name x pos') X.env))) _ _ s;refine wpAny_bind (wpAny_mono (EE (use:=some (assign (.Name x pos') X.env)) (Q:=fun _ s'=>SP X pins D .next s') rfl hs B.clos B.kind B.names
  (thn (hp pins s σ H _ I h) fun v s1 h1=>thn h1 fun itv s2 h2=> ?_)) (fun _ s' hq=>wpAny_pure (wpAny_pure hq)) fun _ _ e=>e)
 obtain⟨it,fp,tn,J,H2,e,I2,T,st2,f2,hW⟩:=h2;subst e;refine EX (RR:=fun acc C=>pY (model X.prog X.w) X.A X.xe (some (assign (.Name x pos') X.env)) (fun _ s'=>SP X pins D .next s') X.env.frame acc C) hc B hg hi he I2 T st2 f2 hW (fun D C pB σB H1 s1 e s2 hC J h=>JM hst hf0 hex pf I2 f2 hC J h) ?_;intro Dd C s' H' ys oC m hD K1 hn hC q;show wpAny _ X.A (assign (.Name x pos') X.env (.ref Dd)) _ _ _;refine thn (dQ (i:=i) hN hix hx hf (pins++[(C,oC)]) s' σ (upd H' Dd (.lst ys)) (.ref Dd) (.ref Dd) (fun σ' H''=>D.nx σ' H'') K1 rfl (q Dd hD)) fun _ s'' ⟨σ',H'',K2,q2⟩=> ?_;have eC:=K2.pin (C,oC) (by simp);obtain⟨oC',es,ep,hoC,hdC,rC⟩:=id hn;have eo:oC'=oC:=by
  have:=(K1.pin (C,oC) (by simp)).1;rw[hoC]at this;exact Option.some.inj this
 subst eo;refine⟨m,⟨oC',es,ep,eC.1,hdC,rC⟩,fun h' hs'=> ?_⟩;have hL:C≠X.env.locals:=eC.2.2.1;have I9:Inv X pins σ' H'' { s'' with heap:=h',toks:=s''.toks }:=K2.unpinned.turned (t':=s''.toks) (it:=C) (fun b o hb e=>hs'.extBut b o hb e) eC.2.1 hL (.inr (Nat.le_trans I2.sz hC)) (fun x c e z=> ?_) fun p hp z=> ?_
 ·exact⟨σ',H'',I9,q2⟩
 ·obtain⟨v,o,ho,_⟩:=I2.cell x c e;exact absurd (Nat.lt_of_lt_of_le (Heap.lt_size ho) (z▸hC)) (Nat.lt_irrefl _)
 ·exact absurd (Nat.lt_of_lt_of_le (Heap.lt_size (I2.pin p hp).1) (z▸hC)) (Nat.lt_irrefl _)
end
end L2
namespace L2
open PySem PySem.W PyProof.Rows PySem.Calls PySem.Builtin PySem.Builtin.Str
section
variable {X:Cx}
theorem xC:∀l:List (Str×Tok),Vals ((l.map (·.1)).map V.str) (strValues l)
 | []=> .nil
 | (x,t)::l=> .cons ⟨t,rfl⟩ (xC l)
def HD:V->List V->Hp->VK->Prop:=fun x vs H Q=>∃(z:Str) (c:Nat),x= .str z/\vs=[.str ⟨#[c]⟩]/\z.length<=1000000/\∀p,H p=none->Q (.ref p) (upd H p (.lst ((Txt.split z ⟨#[c]⟩).map V.str)))
theorem AR:MtR X "str.split" HD:=by
 intro pins s σ H x xs v us Q I rx rs h;obtain⟨z,c,rfl,rfl,hz,q⟩:=h;obtain⟨t,rfl⟩:=rx;obtain⟨u,rfl,u',rfl⟩:=iU rs;have hn:(partsBetween z (occurrences z ⟨#[c]⟩ 0 z.length (z.length+1)) (⟨#[c]⟩:Str).length).length<=z.length+2:=by
  unfold partsBetween;rw[List.length_map,List.length_zip,List.length_cons,List.length_map,List.length_append];have:=StrLaws.occ_length_le z ⟨#[c]⟩ 0 z.length (z.length+1);simp only[List.length_cons,List.length_nil]
  lia
 have hzl:z.length<=sizeLine:=by rw[sizeLine_eq];lia
 have done:∀(l:List (Str×Tok)) (tk:Nat),l.map (·.1)=Txt.split z ⟨#[c]⟩->l.length<=z.length+2->EP X pins σ Q (.ref s.heap.objs.size) { s with toks:=tk,heap:=s.heap.push { cls:= .type "list",data:= .seq (strValues l).toArray } }:=fun l tk e hl=>by
  refine⟨.ref s.heap.objs.size,_,I.laid (t':=tk) (fun _ _ q=>Heap.get?_push_of_some _ q) (Nat.le_refl _) (show ObjOk X.prog X.w _ _ _ (.lst ((Txt.split z ⟨#[c]⟩).map V.str)) from⟨?_,strValues l,0,?_,Heap.get?_push_size _ rfl⟩),rfl,q _ (I.hok.fresh (Nat.le_refl _))⟩
  ·rw[←e,List.length_map,List.length_map,sizeLine_eq];lia
  ·rw[←e];exact xC l
 have hT:=typeIs_str s z t;cases h1:(decide (z.length<(⟨#[c]⟩:Str).length)||decide (strKind z<strKind ⟨#[c]⟩))
 ·cases hf:(occurrences z ⟨#[c]⟩ 0 z.length (z.length+1)).isEmpty
  ·refine call_meetsIn PySem.F.slot_str_split hT PySem.F.entry_str_split (PySem.F.args_str_split_2 _ _) ((meets_str_split_sep z ⟨#[c]⟩ t u' h1 rfl hf hzl (by rw[sizeLine_eq];lia)).inModel _ _) ?_;show wants _ _ _ { s with toks:=_,heap:=s.heap.push { cls:= .type "list",data:= .seq (strsFrom s.toks (partsBetween z (occurrences z ⟨#[c]⟩ 0 z.length (z.length+1)) (⟨#[c]⟩:Str).length)).toArray } };rw[strsFrom_eq];refine done (numbered s.toks _) _ ((numbered_texts _ _).trans ((if_neg (ne_true_of_eq_false h1)).trans (if_neg (ne_true_of_eq_false hf))).symm) ?_;rw[←List.length_map (f:=(·.1)),numbered_texts];exact hn
  ·exact call_meetsIn PySem.F.slot_str_split hT PySem.F.entry_str_split (PySem.F.args_str_split_2 _ _) ((meets_str_split_not_found z ⟨#[c]⟩ t u' h1 rfl hf).inModel _ _) (done [(z,t)] s.toks ((if_neg (ne_true_of_eq_false h1)).trans (if_pos hf)).symm (by show 1<=_;lia))
 ·exact call_meetsIn PySem.F.slot_str_split hT PySem.F.entry_str_split (PySem.F.args_str_split_2 _ _) ((meets_str_split_cannot_occur z ⟨#[c]⟩ t u' h1).inModel _ _) (done [(z,t)] s.toks (if_pos h1).symm (by show 1<=_;lia))
end
end L2
namespace L2
open PySem PySem.W PyProof.Rows PySem.Calls
section
variable {prog:Program}{w:World}{A:Around}{E:Value->Shared->Prop}{s:Shared}{it t:Addr}{i:Nat}{its:Array Value}
variable {z TI TO i1 i2 l2:Addr}{k1 k2:Nat}{ys:Array Value}{a b:Value}
end
end L2
namespace L2
open PySem PySem.W PyProof.Rows PySem.Calls
section
variable {prog:Program}{w:World}{A:Around}{E:Value->Shared->Prop}{s:Shared}
end
end L2
namespace L2
open PySem PySem.W PyProof.Rows PySem.Calls
section
variable {X:Cx}
def jN (z y:Str):Bool:=decide (0+y.length<=z.length)&&PySem.Builtin.Str.subAt z y 0
theorem HE:MtR X "str.startswith" (fun x vs H Q=>∃z y:Str,x= .str z/\vs=[.str y]/\Q (.bl (jN z y)) H):=by
 intro pins s σ H x xs v us Q I rx rs h;obtain⟨z,y,rfl,rfl,q⟩:=h;obtain⟨t,rfl⟩:=rx;obtain⟨u,rfl,u',rfl⟩:=iU rs;exact call_gives PySem.F.slot_str_startswith (typeIs_str s z t) PySem.F.entry_str_startswith (PySem.F.args_str_startswith_2 _ _) (gives_str_startswith z y t u') ⟨.bl _,H,I,rfl,q⟩
def T9:List V->Hp->VK->Prop:=fun vs H Q=>∃(x:Str) (n:Int),vs=[.str x]/\PySem.intText? x=some n/\x.length<=640/\Q (.int n) H
theorem HY:dA X (.type "int") T9:=by
 intro pins s σ H xs us Q I r h;obtain⟨x,n,rfl,hn,hl,q⟩:=h;obtain⟨u,rfl,t,rfl⟩:=iU r;exact KIN.call_text hn hl ⟨.int n,H,I.tok _,⟨_,rfl⟩,q⟩
end
section
variable {K:PySem.W.Frag}{ci:List Nat}{σ:St}{rest:List (Option V)}{H:Hp}{te:TE}{fin:List V->Hp->Prop}{t a:Addr}
end
end L2
namespace L2
open PySem PySem.W PyProof.Rows PySem.Calls PySem.NumText
def noC (c:Nat)(x:Str):Prop:=c∉x.cps.toList
theorem DL {c:Nat}:∀{a b u v:List Nat},c∉a->c∉b->a++c::u=b++c::v->a=b/\u=v
 | [],[],u,v,_,_,h=>⟨rfl,(List.cons.inj h).2⟩
 | [],y::b,u,v,_,hb,h=>absurd (show c∈y::b by rw[←(List.cons.inj h).1];exact .head _) hb
 | x::a,[],u,v,ha,_,h=>absurd (show c∈x::a by rw[(List.cons.inj h).1];exact .head _) ha
 | x::a,y::b,u,v,ha,hb,h=>by
  obtain⟨h1,h2⟩:=List.cons.inj h;obtain⟨h3,h4⟩:=DL (fun z=>ha (.tail _ z)) (fun z=>hb (.tail _ z)) h2;exact⟨by rw[h1,h3],h4⟩
theorem cA (x y:Str):(x++y).cps.toList=x.cps.toList++y.cps.toList:=by
 show (x.cps++y.cps).toList=_;rw[Array.toList_append]
theorem eJ {x y:Str}(h:x.cps.toList=y.cps.toList):x=y:=by
 obtain⟨a⟩:=x;obtain⟨b⟩:=y
 congr 1
 exact Array.toList_inj.mp h
theorem zB {c:Nat}:∀{ps qs:List Str},ps≠[]->qs≠[]->(∀p∈ps,noC c p)->(∀p∈qs,noC c p)->Str.join ⟨#[c]⟩ ps=Str.join ⟨#[c]⟩ qs->ps=qs
 | [],_,h,_,_,_,_=>absurd rfl h
 | _,[],_,h,_,_,_=>absurd rfl h
 | [x],[y],_,_,_,_,h=>by rw[show x=y from h]
 | [x],y::y2::qs,_,_,hp,_,h=>by
  have h':=congrArg (fun z:Str=>z.cps.toList) (show x=y++(⟨#[c]⟩:Str)++Str.join ⟨#[c]⟩ (y2::qs) from h);simp only[cA]at h';exact absurd (show c∈x.cps.toList by rw[h'];simp) (hp x (.head _))
 | x::x2::ps,[y],_,_,_,hq,h=>by
  have h':=congrArg (fun z:Str=>z.cps.toList) (show x++(⟨#[c]⟩:Str)++Str.join ⟨#[c]⟩ (x2::ps)=y from h);simp only[cA]at h';exact absurd (show c∈y.cps.toList by rw[←h'];simp) (hq y (.head _))
 | x::x2::ps,y::y2::qs,_,_,hp,hq,h=>by
  have h':=congrArg (fun z:Str=>z.cps.toList) (show x++(⟨#[c]⟩:Str)++Str.join ⟨#[c]⟩ (x2::ps)=y++(⟨#[c]⟩:Str)++Str.join ⟨#[c]⟩ (y2::qs) from h);simp only[cA]at h';obtain⟨h1,h2⟩:=DL (c:=c) (hp x (.head _)) (hq y (.head _)) (by simpa using h');have ih:=zB (ps:=x2::ps) (qs:=y2::qs) (List.cons_ne_nil _ _) (List.cons_ne_nil _ _) (fun p hp'=>hp p (.tail _ hp')) (fun p hq'=>hq p (.tail _ hq')) (eJ h2);rw[eJ h1,ih]
theorem D9 {c:Nat}{ps:List Str} (hne:ps≠[]) (hp:∀p∈ps,noC c p):Txt.split (Str.join ⟨#[c]⟩ ps) ⟨#[c]⟩=ps:=by
 refine(zB hne ?_ hp (fun p hp=>StrLaws.split_free _ c p hp) ?_).symm
 ·intro z;have:=split_pos (Str.join ⟨#[c]⟩ ps) ⟨#[c]⟩;rw[z]at this;exact absurd this (by decide)
 ·exact(StrLaws.join_split _ _).symm
theorem oI (n:Nat):(toString (n:Int):Str).cps.toList=(Nat.toDigits 10 n).map Char.toNat:=KIN.signs_num n
theorem o5 (n:Nat):∀c∈(toString (n:Int):Str).cps.toList,48<=c/\c<=57:=by
 intro c hc;rw[oI]at hc;obtain⟨ch,hch,e⟩:=List.mem_map.mp hc;have r:=digit_range (Nat.isDigit_of_mem_toDigits (by decide) (by decide) hch);rw[←e];exact r
theorem N8 (n:Nat):digitsVal (toString (n:Int):Str).cps.toList=n:=by rw[oI];exact KIN.val_back n
theorem IJ (n:Nat):(toString (n:Int):Str).cps.toList≠[]:=by
 rw[oI];intro e;have h:=toDigits_len_ge 10 n;rw[List.map_eq_nil_iff.mp e]at h;exact absurd h (by decide)
theorem zG:∀(k n:Nat),n<10^k->(Nat.toDigits 10 n).length<=max 1 k
 | 0,n,h=>by
  have:n=0:=by simpa using h
  subst this;decide
 | k+1,n,h=>by
  by_cases hn:n<10
  ·rw[Nat.toDigits_of_lt_base hn];simp
  ·have hm:n%10<10:=Nat.mod_lt n (by decide);have t:Nat.toDigits 10 (n/10)++Nat.toDigits 10 (n%10)=Nat.toDigits 10 (10 * (n/10)+n%10):=Nat.toDigits_append_toDigits (by decide) (by lia) hm;rw[Nat.div_add_mod]at t;have h1:n/10<10^k:=by rw[Nat.pow_succ]at h;lia
   have ih:=zG k (n/10) h1;have hk:1<=k:=by
    cases k with
    | zero=>simp at h1;lia
    | succ k=>lia
   rw[←t,List.length_append,Nat.toDigits_of_lt_base hm];simp only[List.length_cons,List.length_nil]
   lia
theorem iD {n:Int}{k:Nat} (h0:0<=n) (h1:n<10^k) (hk:1<=k):(toString n:Str).length<=k:=by
 obtain⟨m,rfl⟩:=Int.eq_ofNat_of_zero_le h0;have e:(toString (m:Int):Str).length=(toString (m:Int):Str).cps.toList.length:=by rw[Array.length_toList];rfl
 rw[e,oI,List.length_map];have:=zG k m (by exact_mod_cast h1)
 lia
theorem GL:∀n:Nat,0<n->∀c r,Nat.toDigits 10 n=c::r->c.toNat≠48:=by
 intro n
 induction n using Nat.strongRecOn with
 | _ n ih =>
  intro h c r e
  by_cases hn:n<10
  ·rw[Nat.toDigits_of_lt_base hn]at e;cases e;have:∀d:Nat,d<10->0<d->(Nat.digitChar d).toNat≠48:=by decide
   exact this n hn h
  ·have hm:n%10<10:=Nat.mod_lt n (by decide);have t:Nat.toDigits 10 (n/10)++Nat.toDigits 10 (n%10)=Nat.toDigits 10 (10 * (n/10)+n%10):=Nat.toDigits_append_toDigits (by decide) (by lia) hm;rw[Nat.div_add_mod]at t;rw[←t]at e;cases hd:Nat.toDigits 10 (n/10) with
   | nil =>
    have hl:=toDigits_len_ge 10 (n/10);rw[hd]at hl;exact absurd hl (by decide)
   | cons d ds =>
    rw[hd]at e;cases e;exact ih (n/10) (by lia) (by lia) c ds hd
theorem KO {n:Nat}(h:0<n):∀c r,(toString (n:Int):Str).cps.toList=c::r->c≠48:=by
 intro c r e hc;subst hc;rw[oI]at e;cases hd:Nat.toDigits 10 n with
 | nil=>rw[hd]at e;cases e
 | cons d ds =>
  rw[hd]at e;have e1:d.toNat=48:=(List.cons.inj e).1;exact GL n h d ds hd e1
end L2
namespace L2
open PySem PySem.W PyProof.Rows
section
variable {K:PySem.W.Frag}{te:TE}{σ:St}{ci:List Nat}{rest:St}{fin:List V->Hp->Prop}{H:Hp}{a:Addr}
end
end L2
namespace L2
open PySem PySem.W PyProof.Rows
section
variable {X:Cx}
def PQ (X:Cx)(e:Expr)(t:TE):Prop :=
 ∀(pins:List (Addr×Obj)) (s:Shared) (σ:St) (H:Hp) (Q:VK),Inv X pins σ H s->t σ H Q->wpAny (model X.prog X.w) X.A (eval e X.env) (fun u s'=>s'=s/\EP X pins σ Q u s') X.xe s
theorem SI (i:Nat){x:Str}{pos:Pos} (hN:X.N[i]? =some x:=by rfl) (hv:Vis X.env.scope x:=by first|exact Or.inl rfl|exact Or.inr (Or.inl rfl)|exact Or.inr (Or.inr rfl)) (hd:(x==("__debug__" :Str))=false:=by decide)
  (hcd:(x==("__classdict__" :Str))=false:=by decide):PQ X (.Name x pos) (iI i):=by
 intro pins s σ H Q I h;obtain⟨v,e,h⟩:=h;obtain⟨m,hn,hl⟩:=I.loc;obtain⟨u,r,l⟩:=hl i x v hN e hv;have fin:s=s/\EP X pins σ Q u s:=⟨rfl,v,H,I,r,h⟩
 rcases l with⟨hk,hm⟩|⟨hk,c,hc,hcell⟩
 ·exact wpAny_Name (wpAny_loadName_local I.ok.kind hk hn hm fin) hd
 ·rcases hk with hk|hk
  ·exact wpAny_Name (wpAny_loadName_cell I.ok.kind hk hc hcell fin) hd
  ·exact wpAny_Name (wpAny_loadName_free I.ok.kind hk hc hcell fin hcd) hd
def SW (K:PySem.W.Frag)(b y z:Str)(ta to:TE):TA:=fun σ H Q=>ta σ H fun x H1=>∃z0,x= .str z0/\z0.length+b.length<=sizeLine/\to σ H1 fun w H2=>∃z1,w= .str z1/\z1.length<=1000000/\Q [.str (z0++b),.str (Txt.replace z1 y z)] H2
theorem N1 {a o:Expr}{ta to:TE}{b y z:Str}{kb ky kz:Nat}{pb py pz pos1 apos cpos:Pos} (ha:PE X a ta) (ho:PQ X o to) (hyz:(y==z)=false) (hz:z.length<=14)
  (hbase:attributeBase o "replace" X.env (eval o X.env)=eval o X.env:=by rfl)
  (hfew:((backTo cpos (starEach [.Constant (.str y) ky py,.Constant (.str z) kz pz] X.env)).all (fun x=> !x.1)&&(backToKw cpos (keywordEach [] X.env)).all (fun x=>x.1.isSome)
   && decide (([.Constant (.str y) ky py,.Constant (.str z) kz pz]:List Expr).length+([]:List Keyword).length+(if ([]:List Keyword).isEmpty then 0 else 1)<30))=true:=by rfl)
  (hline:(apos.endLine==cpos.line)=true:=by rfl)
  (hs:starEach [.BinOp a .Add (.Constant (.str b) kb pb) pos1,.Call (.Attribute o "replace" apos) [.Constant (.str y) ky py,.Constant (.str z) kz pz] [] cpos] X.env=(false,eval (.BinOp a .Add (.Constant (.str b) kb pb) pos1) X.env)::(false,eval (.Call (.Attribute o "replace" apos) [.Constant (.str y) ky py,.Constant (.str z) kz pz] [] cpos) X.env)::starEach [] X.env:=by rfl)
  (hs2:starEach [.Constant (.str y) ky py,.Constant (.str z) kz pz] X.env=(false,eval (.Constant (.str y) ky py) X.env)::(false,eval (.Constant (.str z) kz pz) X.env)::starEach [] X.env:=by rfl) :
  PA X [.BinOp a .Add (.Constant (.str b) kb pb) pos1,.Call (.Attribute o "replace" apos) [.Constant (.str y) ky py,.Constant (.str z) kz pz] [] cpos] (SW X.K b y z ta to):=by
 intro pos pins s σ H Q I h;rw[hs];show wpAny _ _ (spliced ((false,_)::(false,_)::backTo pos (starEach [] X.env))) _ _ s;refine Calls.spliced_cons (wpAny_BinOp (thn (ha pins s σ H _ I h) fun u s1 ⟨x,H1,I1,r1,q1⟩=>Calls.Constant_str ?_));obtain⟨z0,rfl,hl,q1⟩:=q1;obtain⟨t,rfl⟩:=r1;have nxt:∀t' tk,0<tk->wpAny (model X.prog X.w) X.A (spliced ((false,eval (.Call (.Attribute o "replace" apos) [.Constant (.str y) ky py,.Constant (.str z) kz pz] [] cpos) X.env)::backTo pos (starEach [] X.env))) (fun us s'=>AP X pins σ Q (Value.str (z0++b) t'::us) s') X.xe { s1 with toks:=tk }:=fun t' tk hk=>by
  refine Calls.spliced_cons ?_;refine wpAny_Call_method_late hbase hfew hline rfl (thn (ho pins _ σ H1 _ (I1.tok tk) q1) fun v s2 ⟨e2,x,H2,I2,r2,z1,ex,hz1,q2⟩=> ?_);subst e2;subst ex;obtain⟨t2,rfl⟩:=r2;refine⟨"str",_,PySem.F.plainAttrs_str,PySem.F.slot_str_replace,PySem.F.type_str_replace,typeIs_str _ _ _,?_,?_⟩
  ·intro _ z;cases z
  ·rw[hs2];refine Calls.callWith_builtin rfl (Calls.evalArgs_plain ?_);refine Calls.spliced_cons (Calls.Constant_str (k:=ky) (pos:=py) (Calls.spliced_cons (Calls.Constant_str (k:=kz) (pos:=pz) (Calls.spliced_nil ?_))));refine PySem.SC.replaceW (by show tk≠0;lia) (by show tk+1≠0;lia) (by show tk≠tk+1;lia) hyz (by lia) hz fun t' k=> ?_;exact Calls.spliced_nil ⟨[.str (z0++b),.str (Txt.replace z1 y z)],H2,I2.tok _,.cons ⟨_,rfl⟩ (.cons ⟨_,rfl⟩ .nil),q2⟩
 refine PySem.P.add_str ?_
 by_cases e1:(z0.length==0)=true
 ·rw[if_pos e1];have e:z0++b=b:=eJ (by rw[cA,List.eq_nil_of_length_eq_zero (l:=z0.cps.toList) (by rw[Array.length_toList];exact eq_of_beq e1)];rfl);have k:=nxt s1.toks (s1.toks+1) (Nat.succ_pos _);rw[e]at k;exact k
 ·rw[if_neg e1]
  by_cases e2:(b.length==0)=true
  ·rw[if_pos e2];have e:z0++b=z0:=eJ (by rw[cA,List.eq_nil_of_length_eq_zero (l:=b.cps.toList) (by rw[Array.length_toList];exact eq_of_beq e2),List.append_nil]);have k:=nxt t (s1.toks+1) (Nat.succ_pos _);rw[e]at k;exact k
  ·rw[if_neg e2];exact⟨by rw[bI];exact hl,nxt _ _ (Nat.succ_pos _)⟩
end
end L2
namespace L2
open PySem PySem.W PyProof.Rows
section
variable {X:Cx}
end
end L2
namespace L2
open PySem PySem.W PyProof.Rows
def rP (w:World)(K:PySem.W.Frag)(D:Addr)(kvs:List (Key×V)):Prop:=(D==sysModules)=false/\∃(o:Obj) (es:Array DictEntry) (ep:Nat) (vs:List (Key×Value)),K.lookup D=some o/\o.ExactDict/\o.data= .dict es ep/\(∀P,PySem.KeysOf (iE P w) es/\Pairs (iE P w) es.toList vs)/\(vs.map (·.1)).Nodup/\KV kvs vs
section
variable {X:Cx}{D:Addr}{kvs:List (Key×V)}
theorem yZ {pins:List (Addr×Obj)}{σ:St}{H:Hp}{s:Shared} (I:Inv X pins σ H s) (kd:rP X.w X.K D kvs):∃vs,KV kvs vs/\s.heap.DictOf (iE X.prog X.w) D vs:=by
 obtain⟨_,o,es,ep,vs,h1,h2,h3,h4,h5,h6⟩:=kd;exact⟨vs,h6,o,es,ep,I.kIn D o h1,h2,h3,(h4 X.prog).1,(h4 X.prog).2,h5⟩
def KQ (D:Addr)(kvs:List (Key×V)):R2:=fun x y H Q=>∃k,x=kV k/\y= .ref D/\Q (.bl (c6 kvs k).isSome) H
theorem R7 (kd:rP X.w X.K D kvs):OpR X (compareOp .In) (KQ D kvs):=by
 intro pins s σ H x y v u Q I rx ry h;obtain⟨k,rfl,rfl,q⟩:=h;cases ry;obtain⟨vs,rel,dd⟩:=yZ I kd;refine wpAny_in_of (E5 rx) kd.1 dd.mapOf ?_;rw[←(rel.val k).isSome_eq];exact⟨.bl (c6 kvs k).isSome,H,I.tok _,rfl,q⟩
def O9 (D:Addr)(kvs:List (Key×V)):R2:=fun x y H Q=>∃k v,x= .ref D/\y=kV k/\c6 kvs k=some v/\Q v H
theorem RE {o i:Expr}{td ty:TE}{pos:Pos} (kd:rP X.w X.K D kvs) (ho:PE X o td) (hi:PE X i ty) (hs:SN i):PE X (.Subscript o i pos) (tOp (O9 D kvs) td ty):=by
 intro pins s σ H Q I h;refine OM PySem.F.slot_dict_getitem.lookup hs (thn (ho pins s σ H _ I h) fun u s1 ⟨x,H1,I1,rx,q1⟩=>thn (hi pins s1 σ H1 _ I1 q1) fun iv s2 ⟨y,H2,I2,ry,k,v,ex,ey,l,q2⟩=> ?_);subst ex;subst ey;obtain rfl:u=Value.ref D:=rx;obtain⟨vs,rel,dd⟩:=yZ I2 kd;obtain⟨w',hw,rw'⟩:=RelO.some_of (v:=v) (o:=valueAt vs k) (by rw[←l];exact rel.val k);exact⟨dd.typeIs,wpAny_getItem_of (E5 ry) dd.mapOf hw ⟨v,H2,I2.tok _,rw',q2⟩⟩
def LW (D:Addr)(kvs:List (Key×V))(td ty:TE):TE:=fun σ H Q=>td σ H fun x H1=>x= .ref D/\ty σ H1 fun y H2=>∃k,y=kV k/\Q ((c6 kvs k).getD .non) H2
theorem OJ {o e:Expr}{td ty:TE}{apos cpos:Pos} (kd:rP X.w X.K D kvs) (ho:PE X o td) (he:PE X e ty) (m:M1 X o "get" apos e cpos):PE X (.Call (.Attribute o "get" apos) [e] [] cpos) (LW D kvs td ty):=by
 intro pins s σ H Q I h;refine wpAny_Call_method m.base m.few m.line PySem.F.plainAttrs_dict PySem.F.slot_dict_get PySem.F.type_dict_get (thn (ho pins s σ H _ I h) fun u s1 ⟨x,H1,I1,rx,ex,q1⟩=> ?_);subst ex;obtain rfl:u=Value.ref D:=rx;obtain⟨vs,rel,dd⟩:=yZ I1 kd;refine⟨dd.typeIs,fun b q=> ?_,?_⟩
 ·cases q;obtain⟨ob,_,_,h1,h2,_⟩:=dd;exact⟨ob,h1,h2.2.1⟩
 rw[m.trees];refine Calls.callWith_builtin rfl (Calls.evalArgs_plain (Calls.spliced_cons (thn (he pins s1 σ H1 _ I1 q1) fun iv s2 ⟨y,H2,I2,ry,k,ey,q2⟩=>Calls.spliced_nil ?_)));subst ey;obtain⟨vs',rel',dd'⟩:=yZ I2 kd;refine call_meetsIn PySem.F.slot_dict_get dd'.typeIs PySem.F.entry_dict_get (PySem.F.args_dict_get_2 _ _) (meets_dict_get (iE X.prog X.w) D (E5 ry) kd.1) ⟨_,dd'.mapOf,(c6 kvs k).getD .non,H2,I2.tok _,(rel'.val k).getD (show RelV .non Value.none from rfl),q2⟩
end
end L2
namespace L2
open PySem PySem.W PyProof.Rows PySem.Calls
def Itb (K:PySem.W.Frag)(a:Addr)(n:Nat):It :=
 ⟨fun i H=>∃xs x,SqL K H a xs/\xs.length=n/\i<n/\xs[n - 1 - i]? =some x,fun i H x H'=>H'=H/\∀xs,SqL K H a xs->xs[n - 1 - i]? =some x,fun i _=>i=n⟩
theorem KR {P:Program}{w:World}{K:PySem.W.Frag}{tg:Expr}{n:Nat} (a it:Addr):sL P w K tg (Itb K a n) [it] it (fun i h=>h.IsRevIter it a ((n:Int) - 1 - (i:Int))) where
 mem:=by simp
 obj:=fun i h st b hb=>by
  have e:b=it:=by simpa using hb
  subst e;obtain⟨o,e,c,d⟩:=st;exact⟨o,e,fun v z=>by rw[d]at z;cases z⟩
 keep:=fun i h h' st k=>st.at fun o e=>k it (by simp) o e
 item:=by
  intro X hP hw hK hc i pins s σ H E I hf st hg;subst hP hw hK;obtain⟨xs,x,hq,hn,hi,hx⟩:=hg;obtain⟨its,rv,p,hz⟩:=I.list hq;obtain⟨u,hu,ru⟩:=rv.get hx;obtain⟨f0,f1,f2,f3,f4,f5⟩:=hf it (by simp);have e1:(n:Int) - 1 - (i:Int)=((n - 1 - i:Nat):Int):=by lia
  have st':=st;rw[e1]at st';refine wpAny_pyNext_rev_item st' p.isList (x:=u) (by simpa using hu) fun h' st2 sb=> ?_;have e2:((n - 1 - i:Nat):Int) - 1=(n:Int) - 1 - ((i+1:Nat):Int):=by lia
  rw[e2]at st2;have I1:Inv X pins σ H { s with heap:=h' }:=I.turned (t':=s.toks) (fun b o hb e=>(sb.2 b hb).trans e) f0 f1 f3 f4 f5;obtain⟨o,e,c,d⟩:=id st2;exact⟨u,rfl,yR (s:={ s with heap:=h' }) e c d (by decide) ⟨x,H,I1,ru,⟨rfl,fun ys hy=>by rw[I.list_inj hy hq];exact hx⟩,st2,fun b hb=>(hf b hb).1⟩⟩
 done:=by
  intro X hP hw hK hc i pins s σ H E I hf st hg;subst hP hw hK;have hg':i=n:=hg;subst hg';obtain⟨f0,f1,f2,f3,f4,f5⟩:=hf it (by simp);have e1:(i:Int) - 1 - (i:Int)= -1:=by lia
  have st':=st;rw[e1]at st';exact wpAny_pyNext_rev_end (I.ok.hd hc) st' fun h' eb=>⟨rfl,I.turned (t':=s.toks) (fun b o hb e=>eb b o hb e) f0 f1 f3 f4 f5⟩
 self:=fun _ _ _ _ _ st h=>wpAny_pyIter_revIter st h
theorem B6:bootBuiltins "reversed" =some (.type "reversed"):=by decide +kernel
def RD (K:PySem.W.Frag)(ta:TA):TI:=fun σ H R=>ta σ H fun vs H1=>∃b xs,vs=[.ref b]/\SqL K H1 b xs/\R (Itb K b xs.length) H1
section
variable {X:Cx}
theorem RK {tg a:Expr}{ta:TA}{p pos:Pos} (hg:Gl X "reversed") (hm:X.mg "reversed" =none) (ha:PA X [a] ta) (hs:starEach [a] X.env=(false,eval a X.env)::starEach [] X.env:=by rfl) (hpl:(backTo pos (starEach [] X.env)).any (·.1)=false:=by rfl):PI X tg (.Call (.Name "reversed" p) [a] [] pos) (RD X.K ta):=by
 intro pins s σ H R I h;refine Call_ (qQ I hg hm B6 (PyProof.Rows.callWith_type1 (thn (ha pos pins s σ H _ I h) fun us s1 ⟨vs,H1,I1,r1,q1⟩=> ?_) hs hpl));obtain⟨l,xs,rfl,hq,q⟩:=q1;obtain⟨u,rfl,ru⟩:∃u,us=[u]/\RelV (.ref l) u:=by
  cases r1 with
  | cons a b=>cases b;exact⟨_,rfl,a⟩
 cases ru;obtain⟨its,rv,pl,hz⟩:=I1.list hq;refine call_reversed_list pl.isList ?_;refine wpAny_pyIter_revIter (l:=l) (i:=(its.toArray.size:Int) - 1) ⟨_,Heap.get?_push_size _ rfl,rfl,rfl⟩ ?_;have hl:=rv.length;refine⟨s1.heap.objs.size,[s1.heap.objs.size],_,_,H1,rfl,I1.kept (t':=s1.toks) fun b o e=>Heap.get?_push_of_some _ e,KR l _,?_,fun b hb=> ?_,q⟩
 ·refine⟨_,Heap.get?_push_size _ rfl,rfl,?_⟩;show Data.fields #[.ref l,rawInt ((its.toArray.size:Int) - 1)]=_;rw[List.size_toArray,←hl];simp
 ·have e:b=s1.heap.objs.size:=by simpa using hb
  subst e;exact I1.fpOk (Nat.le_refl _) (I1.hok.fresh (Nat.le_refl _))
end
section
variable {K:PySem.W.Frag}{g:TG}{tb:TS}{nx bk ct:St->Hp->Prop}{rt:VK}{σ:St}{H:Hp}{a:Addr}
theorem NJ (xs:List V)(Pv:Nat->St->Hp->Prop)(h0:Pv 0 σ H)(hl:∀i σ' H',i<=xs.length->Pv i σ' H'->SqL K H' a xs)
  (hs:∀i x σ' H',xs.reverse[i]? =some x->Pv i σ' H'->g x σ' H' fun σ2 H2=>tb ⟨Pv (i+1),rt,nx,Pv (i+1)⟩ σ2 H2)(hd:∀σ' H',Pv xs.length σ' H'->nx σ' H'):zS (Itb K a xs.length) g tb ⟨nx,rt,bk,ct⟩ σ H:=by
 refine⟨fun i m σ' H'=>m=xs.length - i/\i<=xs.length/\Pv i σ' H',⟨xs.length,by simp,Nat.zero_le _,h0⟩,?_⟩;rintro i m σ' H' ⟨rfl,hi,p⟩;have q:=hl i σ' H' hi p
 by_cases hlt:i<xs.length
 ·have hlt':xs.length - 1 - i<xs.length:=by lia
  refine .inr ⟨⟨xs,xs[xs.length - 1 - i],q,rfl,hlt,List.getElem?_eq_getElem hlt'⟩,Pv (i+1),fun σ2 H2 p'=>⟨xs.length - (i+1),by lia,rfl,hlt,p'⟩,fun x H2 y=> ?_⟩;obtain⟨e,y⟩:=y;subst e;refine hs i x σ' _ ?_ p;rw[List.getElem?_reverse hlt];exact y xs q
 ·have e:i=xs.length:=by lia
  subst e;exact .inl ⟨rfl,hd σ' H' p⟩
end
end L2
namespace L2
open PySem PySem.Spec PyProof.Rows PySem.W
section
variable {X:Cx}{x:Str}{T:Addr}{np hpos pos epos:Pos}{e:Expr}{tc:XK->TE}{b₀:Stmt}{suite:List Stmt}{E0x:XK}
def FT (tc:XK->TE):XK->TS:=fun R D σ H=>tc R σ H fun v H1=>D.rt v H1
theorem NB (he:PEx X e tc):PXs X [.Return (some e) epos] (FT tc):=by
 intro R pins s σ H D I h;refine wpAny_execs_cons (wpAny_Return_some ?_);exact wpAny_mono (he R pins s σ H _ I h) (fun v s1 ⟨v',H1,I1,r1,q1⟩=>⟨v',σ,H1,I1,r1,q1⟩) fun _ _ z=>z
def Q0 (f1 f2:Addr)(sp1 sp2:Sp)(i:Nat)(R:XK)(t:TA):TE:=fun σ H Q=>∃v,σ[i]? =some (some v)/\((v= .ref f1/\t σ H fun vs H1=>sp1 (vs++[]) H1 Q R)∨(v= .ref f2/\t σ H fun vs H1=>sp2 (vs++[]) H1 Q R))
theorem QP {k1 k2 k':Nat}{x1 x2 n:Str}{ps1 ps2:List Str}{sp1 sp2:Sp}{f1 f2:Addr}{i:Nat}{p:Pos}{es:List Expr}{t:TA} (F1:FcE X.prog X.w X.K X.mg X.base x1 k1 ps1 sp1) (F2:FcE X.prog X.w X.K X.mg X.base x2 k2 ps2 sp2) (m1:X.mg x1=some (.ref f1)) (m2:X.mg x2=some (.ref f2)) (hr:Room k' X.A) (ha:PA X.nox (e::es) t) (hk1:k1<=k':=by decide) (hk2:k2<=k':=by decide)
  (hN:X.N[i]? =some n:=by rfl)(hv:Vis X.env.scope n:=by first|exact Or.inl rfl|exact Or.inr (Or.inl rfl)|exact Or.inr (Or.inr rfl))(hd:(n==("__debug__" :Str))=false:=by decide)(hcd:(n==("__classdict__" :Str))=false:=by decide)
  (hst:starEach (e::es) X.env=(false,eval e X.env)::starEach es X.env:=by rfl)(hpl:(backTo pos (starEach es X.env)).any (·.1)=false:=by rfl) :
  PEx X (.Call (.Name n p) (e::es) [] pos) (fun R=>Q0 f1 f2 sp1 sp2 i R t):=by
 intro R pins s σ H Q I h;obtain⟨v,ev,h⟩:=h;obtain⟨f,fd,hm,kp,b,G⟩:=F1.ex;obtain⟨f',fd',hm',kp',b',G'⟩:=F2.ex;rw[m1]at hm;rw[m2]at hm';cases hm;cases hm';refine wpAny_Call_Name_kw ?_;have go:∀u,RelV v u->wpAny (model X.prog X.w) X.A (callWith pos u [] (backTo pos (starEach (e::es) X.env)) (backToKw pos (keywordEach [] X.env))) (EP X pins σ Q) (XW X pins σ R) s:=fun u ru=>by
  rcases h with⟨rfl,h⟩|⟨rfl,h⟩
  ·cases ru;refine PySem.W.callWith_K (h₀:=X.base) I.ok.mod.kin kp (thn (ha.noxx pos pins s σ H _ I h) fun us s1 ⟨vs,H1,I1,r,q⟩=>⟨I1.kIn,?_⟩) hst hpl;exact AI G (hr.mono hk1) b .nil I1 r q
  ·cases ru;refine PySem.W.callWith_K (h₀:=X.base) I.ok.mod.kin kp' (thn (ha.noxx pos pins s σ H _ I h) fun us s1 ⟨vs,H1,I1,r,q⟩=>⟨I1.kIn,?_⟩) hst hpl;exact AI G' (hr.mono hk2) b' .nil I1 r q
 obtain⟨mm,hn,hl⟩:=I.loc;obtain⟨u,r,l⟩:=hl i n v hN ev hv;rcases l with⟨hk,hm⟩|⟨hk,c,hc,hcell⟩
 ·exact wpAny_Name (wpAny_loadName_local I.ok.kind hk hn hm (go u r)) hd
 ·rcases hk with hk|hk
  ·exact wpAny_Name (wpAny_loadName_cell I.ok.kind hk hc hcell (go u r)) hd
  ·exact wpAny_Name (wpAny_loadName_free I.ok.kind hk hc hcell (go u r) hcd) hd
def OnP (K:PySem.W.Frag)(T:Addr)(E:XK):XK:=fun cls dd H1=>∃C,cls= .ref C/\PySem.W.exmOne K (.ref C) (.ref T)=some false/\E cls dd H1
theorem N3 {body:List Stmt}{tb:XK->TS} (pf:yT X E0x) (hst:X.stack=X.env::X.outer) (hfr:X.env.frame=some X.env.locals) (hex0:X.ex=[]) (hm:X.mg x=some (.ref T)) (he:PXs X body tb)
  (hg:Gl X x:=by rfl)(hdb:(x==("__debug__" :Str))=false:=by decide) :
  PS X (.Try body [.ExceptHandler (some (.Name x np)) none (b₀::suite) hpos] [] [] pos) (fun D σ H=>tb (OnP X.K T E0x) D σ H):=by
 intro pins s σ H D I h;refine wpAny_Try_except ?_;refine wpAny_mono (he _ pins s σ H _ I h) (fun f s1 q=> ?_) fun ev s' hx=> ?_
 ·cases f with
  | next=>exact wpAny_execs_nil q
  | ret v=>exact q
  | brk=>exact q
  | cont=>exact q
 obtain⟨H1,s1,I1,ea,cls,dd,a0,H',B,rfl,os,bare,un,hok,hn,new,fl,cov,C,rfl,hex,hq⟩:=hx;have frms:∀b∈frs X.stack,H' b=none:=fun b hb=>by
  obtain⟨_,o,ho,_⟩:=I1.stack.mem hb;exact un.free b o ho (I1.stkFree b hb) (by simp)
 have fl0:=fl;rw[hst]at fl0;refine p8 (by rw[I.ok.frames,hst]) hfr fl0 fun h4 ⟨k1,k2,k3,up4⟩=> ?_;refine uZ k1 fl.2.1 k2 k3 fun h5 hfl5 up5=> ?_;have I0:Inv X pins σ H' s':=I1.call' (ch:=[]) os un hok bare (fun b z=>absurd z (by simp));have step:∀h6,FlyD B (X.env::X.outer) ea (.ref C) dd a0 h6->s'.heap.UpToSlots h6->Inv X pins σ (upd H' ea (uA ea C dd)) { s' with heap:=h6 }:=fun h6 f6 up6=>by
  obtain⟨un2,hok2⟩:=DR un hok cov fl.1 f6.1 up6 fun b hb=>⟨frms b hb,(fl.2.2.1.mem hb).2⟩
  obtain⟨oe,vs,q1,q2,q3,q4⟩:=f6.there;obtain⟨un3,hok3⟩:=DB (C:=C) un2 hok2 new hn q1 q2 q3 q4;exact I1.call' (s':={ s' with heap:=h6 }) (ch:=[]) os un3 hok3 bare fun b z=>absurd z (by simp)
 have I5:=step h5 hfl5 (up4.trans up5);obtain⟨ob,_,hob,hobc,_⟩:=hfl5.there;have LT:Looks (model X.prog X.w) h5 (typeOf (.ref ea)) (.ref C):=by
  rw[←hobc];exact(Looks.ld hob).andThen .now
 refine wpAny_handleBy_cons (codeAny_handlers_test ?_) (by intro q;cases q);refine iF (X:=X.inx ea) (I5.inx ea) hg hm ?_ hdb;refine(PySem.W.exm_one I5.kIn LT hex).here ?_;show wpAny _ _ (handleBy (.ref ea) X.env []) _ _ _;refine wpAny_handleBy_nil ?_;have up:=up4.trans up5;obtain⟨g1,nb,g2,ob,fv,tb,tbo,tv,go,ec,ed,h0,hdt,hh1,nT,tne,gT,dT,hmk⟩:=hfl5;have z3:=(Array.getElem?_eq_some_iff.mp hmk).1;unfold PySem.passOn setFlight;refine wpAny_bind (wpAny_field go hdt hh1 ?_);rw[if_neg (show ¬(Value.ref tb==Value.none)=true from Bool.false_ne_true)];show wpAny _ X.A ((field (.ref ea) 1 >>= fun tb=>if (tb !=Value.none)=true then setField tb 3 (X.env.frame.elim Value.none fun f=>rawInt f) else pure ()) >>= fun _=>throw (Value.ref ea)) _ _ _;refine wpAny_bind (wpAny_bind (wpAny_field go hdt hh1 ?_));rw[if_pos (show (Value.ref tb !=Value.none)=true from by simp),hfr];refine wpAny_setField gT dT z3 (wpAny_throw ?_);have oth:∀b,b≠tb->(h5.update tb (Obj.mapFields (·.setIfInBounds 3 (rawInt X.env.locals)))).get? b=h5.get? b:=fun b hb=>Heap.get?_update_other _ _ (Ne.symm hb);have gT3:=Heap.get?_update_self (Obj.mapFields (·.setIfInBounds 3 (rawInt X.env.locals))) gT (Obj.isFreed_of_fields (Obj.data_mapFields dT _));have dT3:=Obj.data_mapFields dT (·.setIfInBounds 3 (rawInt X.env.locals));show X.xe (.ref ea) { s' with heap:=h5.update tb (Obj.mapFields (·.setIfInBounds 3 (rawInt X.env.locals))) };generalize h5.update tb (Obj.mapFields (·.setIfInBounds 3 (rawInt X.env.locals)))=h3 at oth gT3 ⊢;have there:∀b o,X.s₀.heap.get? b=some o->∃o',s1.heap.get? b=some o':=fun b o e=>I1.base.there b o e (by rw[hex0];simp);have norec:∀b o,h5.get? b=some o->(∀vs,o.data≠ .fields vs)->b≠tb:=fun b o q hnf z=>by
  rw[z,gT]at q;cases q;exact hnf tv dT
 refine pf pins σ H' s' h3 ea (.ref C) dd a0 B I0 hn ?_ (fun b o e=>fl.1 b o e) (fun b o e=> ?_) nb ?_ ?_ (fun b hb o e hd=> ?_) (fun b hb hs=> ?_) hq
 ·cases e:X.s₀.heap.get? ea with
  | none=>rfl
  | some o =>
   obtain⟨o',e'⟩:=there ea o e;rw[new]at e';cases e'
 ·exact(oth b fun z=>by rw[z,nT]at e;cases e).trans (g1 b o e)
 ·rw[hst];refine FS (fun b e=>e) (fun b hb o e hd=> ?_) g2;exact⟨o,(oth b (norec b o e hd)).trans e,rfl⟩
 ·exact⟨ob,fv,tb,_,_,(oth ea (Ne.symm tne)).trans go,ec,ed,h0,hdt,hh1,nT,tne,gT3,dT3,by simp[z3]⟩
 ·obtain⟨sl,e1⟩:=up b o e hd;exact⟨sl,(oth b (norec b _ e1 hd)).trans e1⟩
 ·exact cov b (hb.imp id fun⟨o,e⟩=>there b o e) hs
end
end L2
namespace L2
open PySem PySem.W PyProof.Rows PySem.Calls PySem.Builtin PySem.Builtin.Str
def upS (x:Str):Str:=⟨placed x fun _ c=>Unicode.upperOf c⟩
section
variable {X:Cx}
def RN:V->List V->Hp->VK->Prop:=fun x vs H Q=>∃z:Str,x= .str z/\vs=[]/\tooLong (upS z).cps.size=false/\Q (.str (upS z)) H
theorem IZ:MtR X "str.upper" RN:=by
 intro pins s σ H x xs v us Q I rx rs h;obtain⟨z,rfl,rfl,hf,q⟩:=h;obtain⟨t,rfl⟩:=rx;cases rs;exact call_gives PySem.F.slot_str_upper (typeIs_str _ _ _) PySem.F.entry_str_upper (PySem.F.args_str_upper_1 _) (gives_str_upper z t hf) ⟨fit_le hf,⟨.str (upS z),H,I.tok _,⟨_,rfl⟩,q⟩⟩
end
end L2
namespace L2
def QZ {α:Type}:Nat->(List α->Prop)->Prop
 | 0,p=>p []
 | n+1,p=>∀a,QZ n (fun l=>p (a::l))
theorem aP {α:Type}:∀(n:Nat) (p:List α->Prop),QZ n p->∀us:List α,us.length=n->p us
 | 0,_,h,[],_=>h
 | n+1,_,h,a::us,e=>aP n _ (h a) us (by simpa using e)
 | 0,_,_,_::_,e=>by simp at e
 | _+1,_,_,[],e=>by simp at e
end L2
namespace Prf
open PySem L2
set_option hygiene false
local macro_rules| `(tactic| walk_at"fs")=> `(tactic| exact⟨rfl,rfl,rfl,by decide +kernel,rfl,by decide +kernel,by decide +kernel⟩)
set_option hygiene true
def top (i:Nat):Stmt:=PySem.Challenge.pw_firstout_k71_numbers_and_doors_read.main.body.getD i (.Pass ⟨0,0,0,0⟩)
abbrev fK:Stmt:=top 5
theorem sc_is_whole:aQ ["thing"] ["thing"] (aE fK):=by walk_at"fs"
abbrev gU:Stmt:=top 8
theorem sc_is_name:aQ ["thing"] ["thing"] (aE gU):=by walk_at"fs"
abbrev eR:Stmt:=top 9
theorem sc_need_name:aQ ["part","thing"] ["part","thing"] (aE eR):=by walk_at"fs"
abbrev d7:Stmt:=top 10
theorem sc_need_whole:aQ ["part","thing","least"] ["part","thing","least"] (aE d7):=by walk_at"fs"
abbrev cZ:Stmt:=top 11
theorem sc_row_of_words:aQ ["kind","door","numbers","end"] ["kind","door","numbers"] (aE cZ):=by walk_at"fs"
abbrev b5:Stmt:=bX (top 12) 0
theorem sc_Door___init__:aQ ["self","name","start","end","wide"] ["self","name","start","end","wide"] (aE b5):=by walk_at"fs"
abbrev eW:Stmt:=bX (top 12) 1
theorem sc_Door_lets:aQ ["self","turn"] ["self","turn"] (aE eW):=by walk_at"fs"
abbrev cW:Stmt:=bX (top 12) 2
theorem sc_Door_is_exit:aQ ["self"] ["self"] (aE cW):=by walk_at"fs"
abbrev d9:Stmt:=bX (top 12) 3
theorem sc_Door_words:aQ ["self"] ["self"] (aE d9):=by walk_at"fs"
abbrev cI:Stmt:=bX (top 13) 0
theorem sc_Since___init__:aQ ["self","name","start","end","wide","since"] ["self","name","start","end","wide","since"] (aE cI):=by walk_at"fs"
abbrev d5:Stmt:=bX (top 13) 1
theorem sc_Since_lets:aQ ["self","turn"] ["self","turn"] (aE d5):=by walk_at"fs"
abbrev dD:Stmt:=bX (top 13) 2
theorem sc_Since_words:aQ ["self"] ["self"] (aE dD):=by walk_at"fs"
abbrev cK:Stmt:=bX (top 14) 0
theorem sc_Until___init__:aQ ["self","name","start","end","wide","until"] ["self","name","start","end","wide","until"] (aE cK):=by walk_at"fs"
abbrev dX:Stmt:=bX (top 14) 1
theorem sc_Until_lets:aQ ["self","turn"] ["self","turn"] (aE dX):=by walk_at"fs"
abbrev dB:Stmt:=bX (top 14) 2
theorem sc_Until_words:aQ ["self"] ["self"] (aE dB):=by walk_at"fs"
abbrev cF:Stmt:=bX (top 15) 0
theorem sc_Beat___init__:aQ ["self","name","start","end","wide","every","since"] ["self","name","start","end","wide","every","since"] (aE cF):=by walk_at"fs"
abbrev eV:Stmt:=bX (top 15) 1
theorem sc_Beat_lets:aQ ["self","turn","waited"] ["self","turn"] (aE eV):=by walk_at"fs"
abbrev d0:Stmt:=bX (top 15) 2
theorem sc_Beat_words:aQ ["self"] ["self"] (aE d0):=by walk_at"fs"
abbrev cC:Stmt:=bX (top 16) 0
theorem sc_Marked___init__:aQ ["self","name","start","end","wide","bits"] ["self","name","start","end","wide","bits"] (aE cC):=by walk_at"fs"
abbrev dF:Stmt:=bX (top 16) 1
theorem sc_Marked_lets:aQ ["self","turn"] ["self","turn"] (aE dF):=by walk_at"fs"
abbrev cX:Stmt:=bX (top 16) 2
theorem sc_Marked_words:aQ ["self"] ["self"] (aE cX):=by walk_at"fs"
abbrev cN:Stmt:=bX (top 17) 0
theorem sc_Shut___init__:aQ ["self","door","turn"] ["self","door","turn"] (aE cN):=by walk_at"fs"
abbrev eQ:Stmt:=bX (top 17) 1
theorem sc_Shut_lets:aQ ["self","turn"] ["self","turn"] (aE eQ):=by walk_at"fs"
abbrev d2:Stmt:=bX (top 17) 2
theorem sc_Shut_words:aQ ["self"] ["self"] (aE d2):=by walk_at"fs"
abbrev cJ:Stmt:=bX (top 18) 0
theorem sc_Wider___init__:aQ ["self","door","turn","more"] ["self","door","turn","more"] (aE cJ):=by walk_at"fs"
abbrev dW:Stmt:=bX (top 18) 1
theorem sc_Wider_lets:aQ ["self","turn","number"] ["self","turn"] (aE dW):=by walk_at"fs"
abbrev dG:Stmt:=bX (top 18) 2
theorem sc_Wider_words:aQ ["self"] ["self"] (aE dG):=by walk_at"fs"
abbrev eP:Stmt:=top 23
theorem sc_need_text:aQ ["thing"] ["thing"] (aE eP):=by walk_at"fs"
abbrev b7:Stmt:=top 24
theorem sc_is_written_whole:aQ ["text"] ["text"] (aE b7):=by walk_at"fs"
abbrev dY:Stmt:=top 25
theorem sc_read_whole:aQ ["text"] ["text"] (aE dY):=by walk_at"fs"
abbrev dZ:Stmt:=top 26
theorem sc_door_round:aQ ["inner","words"] ["inner","words"] (aE dZ):=by walk_at"fs"
abbrev cH:Stmt:=top 27
theorem sc_door_by_itself:aQ ["words","name","start","end","numbers"] ["words"] (aE cH):=by walk_at"fs"
abbrev cQ:Stmt:=top 28
theorem sc_door_of_words:aQ ["words","rounds","at","behind","door","words_round"] ["words"] (aE cQ):=by walk_at"fs"
abbrev eU:Stmt:=top 29
theorem sc_read_door:aQ ["text"] ["text"] (aE eU):=by walk_at"fs"
abbrev cU:Stmt:=top 31
theorem sc__law_cell_at:aQ ["_law_script","_law_k"] ["_law_script","_law_k"] (aE cU):=by walk_at"fs"
abbrev d6:Stmt:=top 32
theorem sc__law_drawn:aQ ["_law_cell","_law_k","_law_number"] ["_law_cell","_law_k"] (aE d6):=by walk_at"fs"
abbrev cV:Stmt:=top 33
theorem sc__law_refused:aQ ["_law_read","_law_thing","e"] ["_law_read","_law_thing"] (aE cV):=by walk_at"fs"
abbrev b4:Stmt:=top 34
theorem sc__law_number_right:aQ ["_law_cell","_law_number","_law_text","_law_found","_law_bad"] ["_law_cell"] (aE b4):=by walk_at"fs"
abbrev eS:Stmt:=top 35
theorem sc__law_name:aQ ["_law_draw","_law_some","_law_name_here"] ["_law_draw"] (aE eS):=by walk_at"fs"
abbrev dU:Stmt:=top 36
theorem sc__law_plain:aQ ["_law_cell","_law_name_here","_law_start","_law_end","_law_wide","_law_one","_law_two","_law_kind","_law_tail","_law_head","_law_text"] ["_law_cell"] (aE dU):=by walk_at"fs"
abbrev eY:Stmt:=top 37
theorem sc__law_door:aQ ["_law_cell","_law_door_here","_law_text","_law_k","_law_draw","_law_turn"] ["_law_cell"] (aE eY):=by walk_at"fs"
abbrev cY:Stmt:=top 38
theorem sc__law_spoiled:aQ ["_law_text","_law_cell","_law_words","_law_way","_law_at"] ["_law_text","_law_cell"] (aE cY):=by walk_at"fs"
abbrev cD:Stmt:=top 39
theorem sc__law_door_right:aQ ["_law_cell","_law_door_here","_law_text","_law_found"] ["_law_cell"] (aE cD):=by walk_at"fs"
abbrev k6:Stmt:=top 40
theorem sc_law:aQ ["_law_script","_law_cell"] ["_law_script"] (aE k6):=by walk_at"fs"
theorem JG:("shut" :Str).length=4:=by rw[aJ];rfl
theorem JR:("wider" :Str).length=5:=by rw[aJ];rfl
theorem KY:("door" :Str).length=4:=by rw[aJ];rfl
theorem IV:("since" :Str).length=5:=by rw[aJ];rfl
theorem IW:("until" :Str).length=5:=by rw[aJ];rfl
theorem JB:("beat" :Str).length=4:=by rw[aJ];rfl
theorem J7:("marked" :Str).length=6:=by rw[aJ];rfl
theorem JZ:("abcdefghijklmnopqrstuvwxyz" :Str).length=26:=by rw[aJ];rfl
theorem IU:("-" :Str).length=1:=by rw[aJ];rfl
theorem KD:(" " :Str).length=1:=by rw[aJ];rfl
theorem D3:("\nx" :Str).length=2:=by rw[aJ];rfl
theorem EG:("name" :Str).length=4:=by rw[aJ];rfl
theorem DY:("start" :Str).length=5:=by rw[aJ];rfl
theorem E8:("wide" :Str).length=4:=by rw[aJ];rfl
theorem FO:("every" :Str).length=5:=by rw[aJ];rfl
theorem E2:("bits" :Str).length=4:=by rw[aJ];rfl
theorem FF:("turn" :Str).length=4:=by rw[aJ];rfl
theorem FR:("more" :Str).length=4:=by rw[aJ];rfl
theorem FZ:("it is no text" :Str).length=13:=by rw[aJ];rfl
theorem EB:("0" :Str).length=1:=by rw[aJ];rfl
theorem D1:("the text is no number" :Str).length=21:=by rw[aJ];rfl
theorem D4:("these are no words of a door" :Str).length=28:=by rw[aJ];rfl
theorem DZ:("there is no door within" :Str).length=23:=by rw[aJ];rfl
theorem D7:("+" :Str).length=1:=by rw[aJ];rfl
theorem EY:("" :Str).length=0:=by rw[aJ];rfl
theorem EF:("k" :Str).length=1:=by rw[aJ];rfl
theorem DW:(" 1" :Str).length=2:=by rw[aJ];rfl
theorem D6:("shut " :Str).length=5:=by rw[aJ];rfl
theorem D2:("wider 3 " :Str).length=8:=by rw[aJ];rfl
theorem FJ:(" is no name" :Str).length=11:=by rw[aJ];rfl
theorem FM:(" is no whole number from " :Str).length=25:=by rw[aJ];rfl
theorem FV:(" on" :Str).length=3:=by rw[aJ];rfl
theorem FN:("end" :Str).length=3:=by rw[aJ];rfl
theorem EL:("the door is refused" :Str).length=19:=by rw[aJ];rfl
theorem DV:("9" :Str).length=1:=by rw[aJ];rfl
theorem D8:("a" :Str).length=1:=by rw[aJ];rfl
theorem DT:(".0" :Str).length=2:=by rw[aJ];rfl
theorem FP:("x" :Str).length=1:=by rw[aJ];rfl
theorem EI:("_1" :Str).length=2:=by rw[aJ];rfl
theorem E6:("door " :Str).length=5:=by rw[aJ];rfl
theorem EH:("z" :Str).length=1:=by rw[aJ];rfl
theorem FW:("marked " :Str).length=7:=by rw[aJ];rfl
theorem EJ:("  " :Str).length=2:=by rw[aJ];rfl
theorem FL:("since " :Str).length=6:=by rw[aJ];rfl
theorem FB:("until " :Str).length=6:=by rw[aJ];rfl
theorem EZ:("beat " :Str).length=5:=by rw[aJ];rfl
theorem FE:("wider " :Str).length=6:=by rw[aJ];rfl
structure DCls (K:PySem.W.Frag)(C:Addr):Prop where
 ic:ICls K C
 n_name:NoAttr K C "name"
 n_start:NoAttr K C "start"
 n_end:NoAttr K C "end"
 n_wide:NoAttr K C "wide"
 n_since:NoAttr K C "since"
 n_until:NoAttr K C "until"
 n_every:NoAttr K C "every"
 n_bits:NoAttr K C "bits"
 n_inner:NoAttr K C "inner"
 n_turn:NoAttr K C "turn"
 n_more:NoAttr K C "more"
structure M (w:World)(K:PySem.W.Frag)(mg:Str->Option Value) where
 pI:Addr
 pH:FuncData
 lZ:FunV K "is_whole" "is_whole" fK pI pH
 F5:Binds K pH ["thing"] []
 qX:Addr
 qZ:FuncData
 nG:FunV K "is_name" "is_name" gU qX qZ
 IT:Binds K qZ ["thing"] []
 nJ:Addr
 nW:FuncData
 gG:FunV K "need_name" "need_name" eR nJ nW
 CM:Binds K nW ["part","thing"] []
 mK:Addr
 mS:FuncData
 bH:FunV K "need_whole" "need_whole" d7 mK mS
 BU:Binds K mS ["part","thing","least"] []
 kL:Addr
 kT:FuncData
 bR:FunV K "row_of_words" "row_of_words" cZ kL kT
 wO:Binds K kT ["kind","door","numbers"] []
 nR:Addr
 nZ:FuncData
 gF:FunV K "need_text" "need_text" eP nR nZ
 CV:Binds K nZ ["thing"] []
 hJ:Addr
 iC:FuncData
 eO:FunV K "is_written_whole" "is_written_whole" b7 hJ iC
 qV:Binds K iC ["text"] []
 iA:Addr
 mE:FuncData
 bY:FunV K "read_whole" "read_whole" dY iA mE
 BV:Binds K mE ["text"] []
 mJ:Addr
 mZ:FuncData
 kA:FunV K "door_round" "door_round" dZ mJ mZ
 BW:Binds K mZ ["inner","words"] []
 i8:Addr
 jB:FuncData
 fO:FunV K "door_by_itself" "door_by_itself" cH i8 jB
 tK:Binds K jB ["words"] []
 kB:Addr
 kC:FuncData
 gQ:FunV K "door_of_words" "door_of_words" cQ kB kC
 vE:Binds K kC ["words"] []
 iT:Addr
 nV:FuncData
 gI:FunV K "read_door" "read_door" eU iT nV
 CK:Binds K nV ["text"] []
 kY:Addr
 kX:FuncData
 fH:FunV K "_law_cell_at" "_law_cell_at" cU kY kX
 wR:Binds K kX ["_law_script","_law_k"] []
 mG:Addr
 mL:FuncData
 bD:FunV K "_law_drawn" "_law_drawn" d6 mG mL
 BQ:Binds K mL ["_law_cell","_law_k"] []
 kM:Addr
 kQ:FuncData
 dS:FunV K "_law_refused" "_law_refused" cV kM kQ
 wJ:Binds K kQ ["_law_read","_law_thing"] []
 gL:Addr
 gM:FuncData
 cT:FunV K "_law_number_right" "_law_number_right" b4 gL gM
 pS:Binds K gM ["_law_cell"] []
 nN:Addr
 nX:FuncData
 gH:FunV K "_law_name" "_law_name" eS nN nX
 CT:Binds K nX ["_law_draw"] []
 mM:Addr
 mO:FuncData
 j6:FunV K "_law_plain" "_law_plain" dU mM mO
 BF:Binds K mO ["_law_cell"] []
 nL:Addr
 nQ:FuncData
 k8:FunV K "_law_door" "_law_door" eY nL nQ
 CZ:Binds K nQ ["_law_cell"] []
 kW:Addr
 kS:FuncData
 iH:FunV K "_law_spoiled" "_law_spoiled" cY kW kS
 wC:Binds K kS ["_law_text","_law_cell"] []
 iJ:Addr
 iM:FuncData
 dI:FunV K "_law_door_right" "_law_door_right" cD iJ iM
 r0:Binds K iM ["_law_cell"] []
 F3:Addr
 F6:FuncData
 UP:FunV K "law" "law" k6 F3 F6
 U3:Binds K F6 ["_law_script"] []
 gR:Addr
 eN:FuncData
 j7:FunV K "__init__" "Door.__init__" b5 gR eN
 nF:Binds K eN ["self","name","start","end","wide"] []
 nP:Addr
 nM:FuncData
 CY:FunV K "lets" "Door.lets" eW nP nM
 CQ:Binds K nM ["self","turn"] []
 cB:Addr
 kN:FuncData
 wP:FunV K "is_exit" "Door.is_exit" cW cB kN
 c3:Binds K kN ["self"] []
 mH:Addr
 mW:FuncData
 BI:FunV K "words" "Door.words" d9 mH mW
 B1:Binds K mW ["self"] []
 jG:Addr
 jD:FuncData
 tF:FunV K "__init__" "Since.__init__" cI jG jD
 tD:Binds K jD ["self","name","start","end","wide","since"] []
 mV:Addr
 mR:FuncData
 BJ:FunV K "lets" "Since.lets" d5 mV mR
 BD:Binds K mR ["self","turn"] []
 lI:Addr
 lL:FuncData
 yM:FunV K "words" "Since.words" dD lI lL
 yN:Binds K lL ["self"] []
 jA:Addr
 i9:FuncData
 tJ:FunV K "__init__" "Until.__init__" cK jA i9
 tM:Binds K i9 ["self","name","start","end","wide","until"] []
 mT:Addr
 mB:FuncData
 BP:FunV K "lets" "Until.lets" dX mT mB
 BY:Binds K mB ["self","turn"] []
 lP:Addr
 lH:FuncData
 yI:FunV K "words" "Until.words" dB lP lH
 yF:Binds K lH ["self"] []
 j5:Addr
 gP:FuncData
 vI:FunV K "__init__" "Beat.__init__" cF j5 gP
 vG:Binds K gP ["self","name","start","end","wide","every","since"] []
 nS:Addr
 nK:FuncData
 C0:FunV K "lets" "Beat.lets" eV nS nK
 CS:Binds K nK ["self","turn"] []
 mY:Addr
 mP:FuncData
 BL:FunV K "words" "Beat.words" d0 mY mP
 BK:Binds K mP ["self"] []
 iK:Addr
 iL:FuncData
 rX:FunV K "__init__" "Marked.__init__" cC iK iL
 rW:Binds K iL ["self","name","start","end","wide","bits"] []
 lK:Addr
 lJ:FuncData
 yO:FunV K "lets" "Marked.lets" dF lK lJ
 yG:Binds K lJ ["self","turn"] []
 kR:Addr
 kP:FuncData
 wD:FunV K "words" "Marked.words" cX kR kP
 wF:Binds K kP ["self"] []
 j8:Addr
 j9:FuncData
 u9:FunV K "__init__" "Shut.__init__" cN j8 j9
 vH:Binds K j9 ["self","door","turn"] []
 nY:Addr
 nU:FuncData
 CL:FunV K "lets" "Shut.lets" eQ nY nU
 CO:Binds K nU ["self","turn"] []
 mU:Addr
 mF:FuncData
 BZ:FunV K "words" "Shut.words" d2 mU mF
 BC:Binds K mF ["self"] []
 jE:Addr
 jC:FuncData
 tN:FunV K "__init__" "Wider.__init__" cJ jE jC
 tL:Binds K jC ["self","door","turn","more"] []
 mX:Addr
 mI:FuncData
 BO:FunV K "lets" "Wider.lets" dW mX mI
 BR:Binds K mI ["self","turn"] []
 lM:Addr
 lQ:FuncData
 yD:FunV K "words" "Wider.words" dG lM lQ
 yP:Binds K lQ ["self"] []
 F8:mg "is_whole" =some (.ref pI)
 IS:mg "is_name" =some (.ref qX)
 CP:mg "need_name" =some (.ref nJ)
 BM:mg "need_whole" =some (.ref mK)
 wQ:mg "row_of_words" =some (.ref kL)
 CW:mg "need_text" =some (.ref nR)
 qW:mg "is_written_whole" =some (.ref hJ)
 mQ:mg "read_whole" =some (.ref iA)
 B0:mg "door_round" =some (.ref mJ)
 tP:mg "door_by_itself" =some (.ref i8)
 vB:mg "door_of_words" =some (.ref kB)
 nO:mg "read_door" =some (.ref iT)
 wB:mg "_law_cell_at" =some (.ref kY)
 BH:mg "_law_drawn" =some (.ref mG)
 wI:mg "_law_refused" =some (.ref kM)
 pT:mg "_law_number_right" =some (.ref gL)
 CN:mg "_law_name" =some (.ref nN)
 BX:mg "_law_plain" =some (.ref mM)
 CU:mg "_law_door" =some (.ref nL)
 wL:mg "_law_spoiled" =some (.ref kW)
 rY:mg "_law_door_right" =some (.ref iJ)
 U2:mg "law" =some (.ref F3)
 qY:∃ds,Vals [.int 1] ds/\Binds K eN ["self","name","start","end","wide"] ds
 IO:∃ds,Vals [.non,.int 1] ds/\Binds K eN ["self","name","start","end","wide"] ds
 IR:∃ds,Vals [.int 0] ds/\Binds K gP ["self","name","start","end","wide","every","since"] ds
 eA:Addr
 BG:mg "Door" =some (.ref eA)
 eF:Addr
 OO:mg "Since" =some (.ref eF)
 eG:Addr
 OS:mg "Until" =some (.ref eG)
 fZ:Addr
 SQ:mg "Beat" =some (.ref fZ)
 dH:Addr
 K4:mg "Marked" =some (.ref dH)
 fI:Addr
 SO:mg "Shut" =some (.ref fI)
 dR:Addr
 OP:mg "Wider" =some (.ref dR)
 vC:Addr
 F4:mg "OutError" =some (.ref vC)
 tI:Addr
 B2:mg "NoDoor" =some (.ref tI)
 aV:Addr
 mD:mg "NoText" =some (.ref aV)
 jO:DCls K eA
 OR:Mk K eA gR
 BS:dN K eA "lets" nP
 vJ:dN K eA "is_exit" cB
 yJ:dN K eA "words" mH
 hZ:DCls K eF
 K0:Mk K eF jG
 yH:dN K eF "lets" mV
 wE:dN K eF "words" lI
 tG:dN K eF "is_exit" cB
 iB:DCls K eG
 K3:Mk K eG jA
 yL:dN K eG "lets" mT
 wN:dN K eG "words" lP
 tO:dN K eG "is_exit" cB
 jP:DCls K fZ
 OQ:Mk K fZ j5
 BE:dN K fZ "lets" nS
 yK:dN K fZ "words" mY
 vD:dN K fZ "is_exit" cB
 fJ:DCls K dH
 IQ:Mk K dH iK
 wH:dN K dH "lets" lK
 vA:dN K dH "words" kR
 rZ:dN K dH "is_exit" cB
 jQ:DCls K fI
 OT:Mk K fI j8
 BT:dN K fI "lets" nY
 yC:dN K fI "words" mU
 vF:dN K fI "is_exit" cB
 hV:DCls K dR
 KZ:Mk K dR jE
 yE:dN K dR "lets" mX
 wM:dN K dR "words" lM
 tH:dN K dR "is_exit" cB
 c4:PySem.W.specialIn K (.ref eA) "__getattribute__" =some (some (.builtin "type.__getattribute__"))/\PySem.W.readsIn K eA (.type "type")=true/\PySem.W.findCls K (.ref eA) (.type "type") "__init__" =some (.val (.ref gR))
 pG:SL K aV
 q0:lC K aV
 hU:PySem.W.exmOne K (.ref aV) (.ref vC)=some true
 tE:PySem.W.exmOne K (.ref aV) (.ref tI)=some false
 jF:PySem.W.kitOne K (.ref aV) (.ref tI)=some false
 jH:PySem.W.kitOne K (.ref aV) (.ref aV)=some true
 fN:PySem.W.kitOne K (.ref aV) (.type "ValueError")=some true
 BN:mg "ValueError" =none
 y1:mg "int" =none
 F7:mg "reversed" =none
 eM:mg "str" =none
 DS:mg "range" =none
 cR:mg "isinstance" =none
 LX:mg "all" =none
 lY:mg "len" =none
 IN:mg "bool" =none
 kU:∃t:Tok,mg "LONGEST_NAME" =some (.int 8 t)
 kO:∃t:Tok,mg "MOST_FIGURES" =some (.int 60 t)
 pP:Addr
 pO:mg "WORDS_ROUND" =some (.ref pP)
 pN:rP w K pP [(.inr "shut",.int 2),(.inr "wider",.int 3)]
 oO:Addr
 wG:mg "WORDS_IN_ALL" =some (.ref oO)
 wK:rP w K oO [(.inr "door",.int 5),(.inr "since",.int 6),(.inr "until",.int 6),(.inr "beat",.int 7),(.inr "marked",.int 6)]
theorem gl_ {G:Prop}(h:∀G':Prop,G'=G->G'):G:=h G rfl
set_option hygiene false
local macro_rules| `(tactic| walk_at"g1")=> `(tactic| (refine gl_ ?_;intro G_ hG_))
local macro_rules| `(tactic| walk_at"g2")=> `(tactic| subst hG_)
local macro_rules| `(tactic| walk_at"cx")=> `(tactic| try dsimp only[cxK,cxP,cxW,cxM,cxB])
set_option hygiene true
local macro_rules| `(tactic| walk_at"hp")=> `(tactic| first|assumption|(refine' Same.at ?s ?h;(case s=>assumption);(case h=>walk_at"hp"))|(refine' SqL.of ?h;(case h=>walk_at"hp"))|(refine' SqT.of ?h;(case h=>walk_at"hp"))|(refine' Same.seq ?s ?h;(case s=>assumption);(case h=>walk_at"hp"))|(refine' Same.sqT ?s ?h;(case s=>assumption);(case h=>walk_at"hp")))
local macro_rules| `(tactic| walk_at"sm")=> `(tactic| first|assumption|exact Same.refl _|(refine' Same.snoc ?s ?h;(case s=>assumption);(case h=>walk_at"sm")))
local macro_rules| `(tactic| walk_at"sb")=> `(tactic| first|assumption|exact SameBut.refl|(refine' SameBut.snoc ?s ?h;(case s=>assumption);(case h=>walk_at"sb"))|(refine' SameBut.snocS ?s ?h;(case s=>assumption);(case h=>walk_at"sb")))
local macro_rules| `(tactic| walk_at"lk")=> `(tactic| first|assumption|exact Q5|(with_reducible exact M9)|(refine' SR ?d ?h;(case d=>decide +kernel);(case h=>walk_at"lk")))
local macro_rules| `(tactic| walk_at"sz")=> `(tactic| first|with_reducible assumption|lia|omega|(simp only[bI,vK,JG,JR,KY,IV,IW,JB,J7,JZ,IU,KD,D3,EG,DY,E8,FO,E2,FF,FR,FZ,EB,D1,D4,DZ,D7,EY,EF,DW,D6,D2,FJ,FM,FV,FN,EL,DV,D8,DT,FP,EI,E6,EH,FW,EJ,FL,FB,EZ,FE,sizeLine_eq,List.length_cons,List.length_nil,List.length_append,List.length_map];done)|(simp only[bI,vK,JG,JR,KY,IV,IW,JB,J7,JZ,IU,KD,D3,EG,DY,E8,FO,E2,FF,FR,FZ,EB,D1,D4,DZ,D7,EY,EF,DW,D6,D2,FJ,FM,FV,FN,EL,DV,D8,DT,FP,EI,E6,EH,FW,EJ,FL,FB,EZ,FE,sizeLine_eq,List.length_cons,List.length_nil,List.length_append,List.length_map];omega)|(simp only[bI,vK,JG,JR,KY,IV,IW,JB,J7,JZ,IU,KD,D3,EG,DY,E8,FO,E2,FF,FR,FZ,EB,D1,D4,DZ,D7,EY,EF,DW,D6,D2,FJ,FM,FV,FN,EL,DV,D8,DT,FP,EI,E6,EH,FW,EJ,FL,FB,EZ,FE,sizeLine_eq,List.length_cons,List.length_nil,List.length_append,List.length_map]at *;omega))
local macro_rules| `(tactic| walk_at"sd")=> `(tactic| first|with_reducible assumption|lia|omega|decide)
local macro_rules| `(tactic| walk_at"dc")=> `(tactic| first|((with_reducible refine ICls.cl (DCls.ic ?_));assumption)|((with_reducible refine DCls.ic ?_);assumption)|((with_reducible refine DCls.n_name ?_);assumption)|((with_reducible refine DCls.n_start ?_);assumption)|((with_reducible refine DCls.n_end ?_);assumption)|((with_reducible refine DCls.n_wide ?_);assumption)|((with_reducible refine DCls.n_since ?_);assumption)|((with_reducible refine DCls.n_until ?_);assumption)|((with_reducible refine DCls.n_every ?_);assumption)|((with_reducible refine DCls.n_bits ?_);assumption)|((with_reducible refine DCls.n_inner ?_);assumption)|((with_reducible refine DCls.n_turn ?_);assumption)|((with_reducible refine DCls.n_more ?_);assumption))
local macro_rules| `(tactic| walk_at"rd1")=> `(tactic| first|(with_reducible first|refine G8 ?_|refine QF ?_|refine UV ?_|refine T8 ?_|refine UK ?_|refine UI ?_|refine UC ?_|refine TB ?_|refine TW ?_|refine T0 ?_|refine SY ?_|refine UE ?_|refine TH ?_|refine TC ?_|refine P7 ?_|refine rd_v11 ?_|refine rd_v12 ?_|refine NO ?_|refine RY ?_|refine TY ?_|refine UH ?_|refine NZ ?_|refine TZ ?_|refine PM ?_|refine NT ?_|refine SS ?_|refine RW ?_|refine TU ?_|refine HC ?_|refine A7 ?_|refine OH ?_|refine L8 ?_|refine rd_s0 ?_|refine UJ ?_|refine UA ?_|refine UF ?_|refine UG ?_|refine UL ?_|refine UO ?_|refine SV ?_|refine TV ?_|refine SX ?_|refine QA ?_|refine rd_s11 ?_|refine rd_s12 ?_|refine RI ?_|refine L9 ?_|refine LZ ?_|refine rd_retN ?_|refine RT ?_|refine RH ?_|refine UD ?_|refine OD ?_|refine PN ?_|refine M2 ?_|refine P5 ?_|refine IY ?_|refine SU ?_|refine UQ ?_|refine P0 ?_|refine rd_eqB ?_|refine QH ?_|refine rd_eqSN ?_|refine rd_eqNS ?_|refine rd_eqNN ?_|refine Q9 ?_|refine rd_neB ?_|refine zA ?_|refine rd_neNN ?_|refine rd_isNN ?_|refine rd_isNS ?_|refine rd_isNI ?_|refine rd_isNR ?_|refine MT ?_|refine MP ?_|refine rd_ntNI ?_|refine rd_ntNR ?_|refine OC ?_|refine rd_ntNV ?_|refine SA ?_|refine SF ?_|refine N0 ?_|refine MK ?_|refine MO ?_|refine TD ?_|refine TR ?_|refine QO ?_|refine PV ?_|refine N6 ?_|refine JI ?_|refine KJ ?_|refine rd_isiBB ?_|refine rd_isiBI ?_|refine rd_isiSS ?_|refine rd_isiNS ?_|refine rd_max2 ?_|refine rd_min2 ?_|refine OK ?_|refine rd_intI ?_|refine IG ?_|refine N5 ?_|refine R6 ?_|refine rd_gsub ?_|refine L4 ?_|refine JK ?_|refine QY ?_|refine JP ?_|refine rd_iTup ?_|refine J4 ?_|refine rd_iRng2 ?_|refine MU ?_|refine JX ?_|refine rd_break ?_|refine rd_cont ?_|refine rd_aug ?_)|((with_reducible refine' SM ?s ?_);(case s=>decide))|((with_reducible refine' MC ?s ?_);(case s=>walk_at"sd");intro h0' h1')|((with_reducible refine' rd_repL ?e ?a ?b ?s ?_);(case e=>walk_at"hp");(case a=>decide);(case b=>decide);(case s=>first|(simp;done)|(simp[sizeLine_eq];done)|walk_at"sz");intro p' H' n' S' e')|((with_reducible refine' QM ?s ?r ?_);(case s=>walk_at"sd");(case r=>walk_at"sd"))|((with_reducible refine' MS ?s ?r ?_);(case s=>walk_at"sd");(case r=>walk_at"sd"))|((with_reducible refine' MQ ?s ?r ?_);(case s=>walk_at"sd");(case r=>walk_at"sd"))|((with_reducible refine' MF ?s ?_);(case s=>walk_at"sz");intro p' H' n' S' e')|((with_reducible refine' NL ?s ?_);(case s=>walk_at"sz");intro p' H' n' S' e')|((with_reducible refine MI ?_);intro p' H' n' S' e')|((with_reducible refine' NG ?e ?c ?n ?l ?_);(case e=>walk_at"hp");(case c=>walk_at"dc");(case n=>walk_at"dc");(case l=>walk_at"lk"))|((with_reducible refine' KB ?e ?c ?n ?l ?_);(case e=>walk_at"hp");(case c=>walk_at"dc");(case n=>walk_at"dc");(case l=>kernel_rfl);intro H' B' e')|((with_reducible refine' Q4 ?e ?l ?F ?_);(case e=>walk_at"hp");(case l=>walk_at"lk");(case F=>assumption))|((with_reducible refine' rd_isiC ?e ?i ?k ?_);(case e=>walk_at"hp");(case i=>walk_at"dc");(case k=>assumption))|((with_reducible refine' OW ?e ?l ?_);(case e=>walk_at"hp");(case l=>rfl))|((with_reducible refine' NV ?e ?s ?r ?_);(case e=>walk_at"hp");(case s=>walk_at"sd");(case r=>walk_at"sd");intro v' hv')|((with_reducible refine' rd_ix3i ?e ?s ?r ?_);(case e=>walk_at"hp");(case s=>walk_at"sd");(case r=>walk_at"sd");intro v' hv')|((with_reducible refine' rd_setLm ?e ?l ?_);(case e=>walk_at"hp");(case l=>rfl);intro H' B' e')|((with_reducible refine' OE ?e ?_);(case e=>walk_at"hp"))|((with_reducible refine' M3 ?e ?_);(case e=>walk_at"sz"))|((with_reducible refine' MD ?e ?_);(case e=>walk_at"sz"))|((with_reducible refine' RQ ?e ?_);(case e=>walk_at"sz");intro hl')|((with_reducible refine' RU ?e ?_);(case e=>walk_at"hp");intro p' H' n' S' e')|((with_reducible refine' HF ?e ?_);(case e=>walk_at"hp");intro p' H' n' S' e')|((with_reducible refine' DN ?e ?f ?s ?_);(case e=>walk_at"hp");(case f=>walk_at"hp");(case s=>walk_at"sz");intro p' H' n' S' e')|((with_reducible refine' rd_listOf ?e ?_);(case e=>walk_at"hp");intro p' H' n' S' e')|((with_reducible refine' SE ?e ?_);(case e=>walk_at"hp"))|((with_reducible refine' HL ?e ?_);(case e=>walk_at"hp"))|((with_reducible refine' GV ?s ?r ?_);(case s=>walk_at"sd");(case r=>walk_at"sd"))|((with_reducible refine' rd_iRng2V ?s ?r ?t ?u ?_);(case s=>walk_at"sd");(case r=>walk_at"sd");(case t=>walk_at"sd");(case u=>walk_at"sd"))|((with_reducible refine' SH ?s ?r ?_);(case s=>walk_at"sd");(case r=>walk_at"sd");intro hl')|((with_reducible refine' rd_gtupL ?e ?l ?_);(case e=>walk_at"hp");(case l=>rfl))|((with_reducible refine' MW ?e ?l ?_);(case e=>walk_at"hp");(case l=>rfl))|((with_reducible refine' PC ?s ?_);(case s=>walk_at"sd"))|((with_reducible refine' O5 ?s ?_);(case s=>walk_at"sd"))|((with_reducible refine' OI ?s ?_);(case s=>walk_at"sd"))|((with_reducible refine' rd_ifnN ?s ?_);(case s=>walk_at"sd")))
local macro_rules| `(tactic| walk_at"go")=> `(tactic| repeat walk_at"rd1")
local macro_rules| `(tactic| walk_at"gs")=> `(tactic| repeat ((fail_if_success (with_reducible refine JA ?_));walk_at"rd1"))
local macro_rules| `(tactic| walk_at"nn")=> `(tactic| repeat first|exact nn_nil|refine nn_app ?_ ?_|refine nn_cons (by omega) ?_|exact nn_map (fun n=>by omega))
section
variable {P:Program}{w:World}{K:PySem.W.Frag}{mg:Str->Option Value}{base:Heap}
def u2:List V->Hp->VK->Prop:=fun vs H Q=>(∃i:Int,vs=[.int i]/\i.natAbs.log2<1920/\Q (.str (toString i)) H)∨(∃x:Str,vs=[.str x]/\Q (.str x) H)∨(vs=[.non]/\Q (.str "None") H)
theorem cO {X:Cx}:dA X (.type "str") u2:=by
 intro pins s σ H xs us Q I r h;rcases h with⟨i,rfl,hz,q⟩|⟨x,rfl,q⟩|⟨rfl,q⟩
 ·exact lB pins s σ H _ us Q I r ⟨i,rfl,hz,q⟩
 ·walk_at"g1";obtain⟨u,rfl,t,rfl⟩:=iU r;walk_at"g2";exact PySem.P.str_of_str ⟨.str x,H,I,⟨t,rfl⟩,q⟩
 ·obtain⟨u,rfl,r1⟩:=iU r;obtain rfl:u=Value.none:=r1;exact PySem.P.str_of_none ⟨.str "None",H,I.tok _,⟨_,rfl⟩,q⟩
theorem JO {i:Int}(h0:0<=i)(h1:i<10^60):i.natAbs.log2<1920:=by
 by_cases hz:i.natAbs=0
 ·rw[hz];decide
 ·refine(Nat.log2_lt hz).mpr ?_;have:i.natAbs<10^60:=by lia
  exact Nat.lt_of_lt_of_le this (by decide)
theorem gD {H:Hp}{Q:VK}{i:Int} (h0:0<=i) (h1:i<10^60) (h:Q (.str (toString i)) H):u2 [.int i] H Q:= .inl ⟨i,rfl,JO h0 h1,h⟩
theorem L6 {H:Hp}{Q:VK}{x:Str} (h:Q (.str x) H):u2 [.str x] H Q:= .inr (.inl ⟨x,rfl,h⟩)
theorem M0 {H:Hp}{Q:VK} (h:Q (.str "None") H):u2 [.non] H Q:= .inr (.inr ⟨rfl,h⟩)
def Q6:V->Bool
 | .int _=>true
 | _=>false
def sP (K:PySem.W.Frag):Sp:=fun vs H Q _=>∃x n,vs=[x]/\BTy K H x n/\Q (.bl (Q6 x)) H
theorem J0 {H:Hp}{Q:VK}{E:XK}{i:Int} (h:Q (.bl true) H):sP K [.int i] H Q E:=⟨_,_,rfl,.int i,h⟩
theorem CF (m:M w K mg):FnOk P w K mg base CX0 1 m.pI m.pH ["thing"] (sP K):=by
 refine m.lZ.ok sc_is_whole (fun vs H Q E h=> ?_) (fun cdv A outer s H vs Q E hr h=> ?_)
 ·walk_at"g1";obtain⟨x,n,rfl,b,k⟩:=h;walk_at"g2";rfl
 ·walk_at"g1";obtain⟨x,n,rfl,b,k⟩:=h;walk_at"g2";have nd:=sc_is_whole.nd;have hu0:=Room.units0 hr;have hu9:=Room.units9 hr;refine⟨_,(aF (aK (pZ (bU kJ rfl m.cR cG (aA (pv 0) (aA (oP rfl m.y1 tU) aB))) (pV (z8 (bU kJ rfl m.cR cG (aA (pv 0) (aA (oP rfl m.IN DK) aB)))))))),?_⟩;refine aN (σ:=[some (x)]) rfl ?_;walk_at"cx";refine⟨_,rfl,_,_,_,_,_,rfl,b.ty,rfl,t6 b "int" (.inl rfl),_,rfl,?_⟩;refine sR (fun h1=>⟨_,rfl,_,_,_,_,_,rfl,b.ty,rfl,t6 b "bool" (.inr (.inl rfl)),_,rfl,?_⟩) (fun h1=> ?_)
  ·cases b<;>first|exact k|exact absurd h1 (by decide)
  ·cases b<;>first|exact k|exact absurd (by decide) h1
theorem B9 (m:M w K mg):Fc P w K mg base "is_whole" 1 ["thing"] (sP K):=⟨_,_,m.F8,m.lZ.kp,m.F5,CF m⟩
def nmB:V->Bool
 | .str z=>aH z
 | _=>false
def v7 (K:PySem.W.Frag):Sp:=fun vs H Q _=>∃x n,vs=[x]/\BTy K H x n/\(∀z,x= .str z->z.length<=1000)/\∀H',Same H H'->Q (.bl (nmB x)) H'
theorem N9 {H:Hp}{Q:VK}{E:XK}{z:Str} (hz:aH z=true) (h:∀H',Same H H'->Q (.bl true) H'):v7 K [.str z] H Q E :=
 ⟨_,_,rfl,.str z,fun y e=>by cases e;exact Nat.le_trans (c9 hz) (by decide),fun H' s=>by rw[show nmB (.str z)=true from hz];exact h H' s⟩
theorem le1 (a c:Nat):(!decide ([c]<[a]))=decide (a<=c):=by
 have:([c]<[a])↔c<a:=by
  constructor
  ·intro h;cases h with
   | rel h=>exact h
   | cons h=>cases h
  ·exact fun h=> .rel h
 by_cases h:c<a
 ·rw[decide_eq_true (this.mpr h),decide_eq_false (by lia)];rfl
 ·rw[decide_eq_false (fun z=>h (this.mp z)),decide_eq_true (by lia)];rfl
theorem TL:("a" :Str).cps.toList=[97]:=by decide +kernel
theorem TK:("z" :Str).cps.toList=[122]:=by decide +kernel
theorem qB {α:Type}(p:α->Bool)(d:α):∀l:List α,((List.range l.length).map fun i=>p (l.getD i d)).all id=l.all p
 | []=>rfl
 | a::l=>by
  rw[List.length_cons,List.range_succ_eq_map,List.map_cons,List.all_cons,List.map_map,List.all_cons,←qB p d l];rfl
theorem o4 {H:Hp}{p:Addr}{o:HO} (h:H p=none):Same H (upd H p o):=fun b u e=>by rw[aX (bG e h)];exact e
theorem DX (m:M w K mg):FnOk P w K mg base CX0 1 m.qX m.qZ ["thing"] (v7 K):=by
 refine m.nG.ok sc_is_name (fun vs H Q E h=> ?_) (fun cdv A outer s H vs Q E hr h=> ?_)
 ·walk_at"g1";obtain⟨x,n,rfl,b,hz,k⟩:=h;walk_at"g2";rfl
 ·walk_at"g1";obtain⟨x,n,rfl,b,hz,k⟩:=h;walk_at"g2";have nd:=sc_is_name.nd;have hu0:=Room.units0 hr;have hu9:=Room.units9 hr;obtain⟨tok_LONGEST_NAME,kU⟩:=m.kU;refine⟨_,(aD (bL (iR (g0 (bU kJ rfl m.cR cG (aA (pv 0) (aA (oP rfl m.eM c8) aB))))) (aF (aK jZ)) bA)
   (aF (aK (pZ (sQ yW yW aC (bU nE rfl m.lY jV (aA (pv 0) aB)) (DO rfl kU)) (pV (bU (zH rfl) rfl m.LX IM (aA (rD (N:=["sign"]) (nl:=1) (ci:=[]) rfl (blk (s.heap.objs.size+1) rfl rfl rfl (by kernel_rfl)) (G9 (pv 0)) (fun _ _ _ _=>(dQ (i:=0) (show (["sign"]:List Str).Nodup by decide +kernel) rfl (by walk_at"oi"))) (fun _ _ _ _=>uL) (fun _ _ _ _=>(sQ uW uW aI (pv 0) aI))) aB))))))),?_⟩
  refine aN (σ:=[some (x)]) rfl ?_;walk_at"cx";refine⟨_,rfl,_,_,_,_,_,rfl,b.ty,rfl,t6 b "str" (.inr (.inr rfl)),_,rfl,?_⟩;refine sR (fun h1=> ?_) (fun h1=> ?_)
  ·show Q (.bl false) H;cases b<;>first|exact k H (Same.refl H)|exact absurd h1 (by decide)
  ·have hs:∃z,x= .str z:=by
    cases b<;>first|exact⟨_,rfl⟩|exact absurd (by decide) h1
   obtain⟨z,rfl⟩:=hs;have hl:=hz z rfl;have hl':z.length<=sizeLine:=Nat.le_of_lt (HS hl);refine⟨_,rfl,z,rfl,hl',_,_,rfl,rfl,_,rfl,?_⟩;refine sR (fun h2=>⟨_,_,rfl,rfl,_,rfl,?_⟩) (fun h2=>⟨_,rfl,?_⟩)
   ·refine sR (fun h3=> ?_) (fun h3=> ?_)
    ·refine⟨_,rfl,z,rfl,?_⟩;refine C5 z.cps.size (fun i=> .bl (sgB (z.cps.toList.getD i 0))) hl' (fun H'=>H'=H) rfl (fun _ _=>rfl) (fun i _ hi _=>hi) ?_ ?_ ?_ ?_ ?_
     ·rintro i _ x H' hi rfl hq_;walk_at"g1";obtain⟨rfl,c,hc,rfl⟩:=hq_;walk_at"g2";refine⟨⟨rfl,fun j v hv=> ?_⟩,rfl,?_⟩
      ·match j,hv with
       | 0,hv=>cases hv
       | j+1,hv=>cases hv
      ·have hc':z.cps.toList.getD i 0=c:=by
        rw[List.getD_eq_getElem?_getD,Array.getElem?_toList,hc];rfl
       refine⟨_,rfl,_,_,rfl,rfl,_,rfl,?_⟩;rw[TL,hc'];refine sR (fun h4=>⟨_,_,rfl,rfl,?_,rfl⟩) (fun h4=>⟨?_,rfl⟩)
       ·have h4':97<=c:=by rw[show (⟨#[c]⟩:Str).cps.toList=[c] from rfl,le1]at h4;exact of_decide_eq_true h4
        rw[TK,show (⟨#[c]⟩:Str).cps.toList=[c] from rfl,le1];unfold sgB;rw[decide_eq_true h4',Bool.true_and]
       ·have h4':¬97<=c:=by rw[show (⟨#[c]⟩:Str).cps.toList=[c] from rfl,le1]at h4;exact fun z=>h4 (decide_eq_true z)
        unfold sgB;rw[decide_eq_false h4',Bool.false_and]
     ·exact fun _ _ _ _ f q=>f _ _ q
     ·rintro σ H Q Q' f hq_;walk_at"g1";obtain⟨v,e,i,j,e1,e2,k,e3,q⟩:=hq_;walk_at"g2";refine⟨v,e,i,j,e1,e2,k,e3,?_⟩;revert q
      split
      ·rintro hq_;walk_at"g1";obtain⟨i,j,e1,e2,q⟩:=hq_;walk_at"g2";exact⟨i,j,e1,e2,f _ _ q⟩
      ·exact fun q=>f _ _ q
     ·exact fun _ _ _ _ _ f q=>f _ _ q
     ·rintro _ rfl p hp;refine⟨p,(List.range z.cps.size).map (fun i=>sgB (z.cps.toList.getD i 0)),rfl,SqL.of ?_,?_⟩
      ·rw[bP,List.map_map];rfl
      ·have e:=qB sgB 0 z.cps.toList;rw[Array.length_toList]at e;rw[e];have e2:nmB (.str z)=z.cps.toList.all sgB:=by
        show aH z=_;unfold aH;rw[show decide (1<=(z.length:Int))=true from h2,show decide ((z.length:Int)<=8)=true from h3];rfl
       rw[←e2];exact k _ (o4 hp)
    ·have e2:nmB (.str z)=false:=by
      show aH z=_;unfold aH;rw[show decide ((z.length:Int)<=8)=false from by simpa using h3];simp
     have:=k H (Same.refl H);rw[e2]at this;exact this
   ·have e2:nmB (.str z)=false:=by
     show aH z=_;unfold aH;rw[show decide (1<=(z.length:Int))=false from by simpa using h2];simp
    have:=k H (Same.refl H);rw[e2]at this;exact this
theorem E1 (m:M w K mg):Fc P w K mg base "is_name" 1 ["thing"] (v7 K):=⟨_,_,m.IS,m.nG.kp,m.IT,DX m⟩
local macro_rules| `(tactic| walk_at"rd1")=> `(tactic| first|(with_reducible refine J0 ?_)|((with_reducible refine' N9 ?s ?_);(case s=>assumption);intro H' S'))
inductive j3 (K:PySem.W.Frag)(vs:List V)(H:Hp)(Q:VK)(E:XK):Prop
 | mk (part z:Str) (_:vs=[.str part,.str z]) (_:aH z=true) (_:∀H',Same H H'->Q .non H'):j3 K vs H Q E
theorem B4 {H:Hp}{Q:VK}{E:XK}{part z:Str} (hz:aH z=true) (h:∀H',Same H H'->Q .non H'):j3 K [.str part,.str z] H Q E:=⟨_,_,rfl,hz,h⟩
theorem AH (m:M w K mg):FnOk P w K mg base CX0 2 m.nJ m.nW ["part","thing"] (j3 K):=by
 refine m.gG.ok sc_need_name (fun vs H Q E h=> ?_) (fun cdv A outer s H vs Q E hr h=> ?_)
 ·walk_at"g1";obtain⟨part,z,rfl,hz,k⟩:=h;walk_at"g2";rfl
 ·walk_at"g1";obtain⟨part,z,rfl,hz,k⟩:=h;walk_at"g2";have nd:=sc_need_name.nd;have hu0:=Room.units0 hr;have hu9:=Room.units9 hr;have nG:= @E1 P w K mg base m;refine⟨_,(aF (bL (iR (g0 (bN nG hr (aA (pv 1) aB)))) (aF AE) bA)),?_⟩;refine aN (σ:=[some (.str part),some (.str z)]) rfl ?_;walk_at"cx";walk_at"go";exact k _ (by walk_at"sm")
theorem A9 (m:M w K mg):Fc P w K mg base "need_name" 2 ["part","thing"] (j3 K):=⟨_,_,m.CP,m.gG.kp,m.CM,AH m⟩
inductive iV (K:PySem.W.Frag)(vs:List V)(H:Hp)(Q:VK)(E:XK):Prop
 | mk (part:Str) (i l:Int) (_:vs=[.str part,.int i,.int l]) (_:l<=i) (_:Q .non H):iV K vs H Q E
theorem AX {H:Hp}{Q:VK}{E:XK}{part:Str}{i l:Int} (hz:l<=i) (h:Q .non H):iV K [.str part,.int i,.int l] H Q E:=⟨_,_,_,rfl,hz,h⟩
theorem xP (m:M w K mg):FnOk P w K mg base CX0 2 m.mK m.mS ["part","thing","least"] (iV K):=by
 refine m.bH.ok sc_need_whole (fun vs H Q E h=> ?_) (fun cdv A outer s H vs Q E hr h=> ?_)
 ·walk_at"g1";obtain⟨part,i,l,rfl,hz,k⟩:=h;walk_at"g2";rfl
 ·walk_at"g1";obtain⟨part,i,l,rfl,hz,k⟩:=h;walk_at"g2";have nd:=sc_need_whole.nd;have hu0:=Room.units0 hr;have hu9:=Room.units9 hr;have lZ:= @B9 P w K mg base m;refine⟨_,(aF (bL (PW.pt (oR (iR (g0 (bN lZ hr (aA (pv 1) aB)))) (pW (aR tT (pv 1) (pv 2) (aU _))))) (aF AE) bA)),?_⟩;refine aN (σ:=[some (.str part),some (.int i),some (.int l)]) rfl ?_;walk_at"cx";walk_at"go";exact k
theorem dE (m:M w K mg):Fc P w K mg base "need_whole" 2 ["part","thing","least"] (iV K):=⟨_,_,m.BM,m.bH.kp,m.BU,xP m⟩
local macro_rules| `(tactic| walk_at"rd1")=> `(tactic| first|((with_reducible refine' B4 ?s ?_);(case s=>assumption);intro H' S')|((with_reducible refine' AX ?s ?_);(case s=>walk_at"sd")))
abbrev iQ (n s e w:V):List (Str×V):=b9 "wide" w (b9 "end" e (b9 "start" s (b9 "name" n [])))
def bF (e:V):Prop:=e= .non∨∃z,e= .str z/\aH z=true
inductive cP (K:PySem.W.Frag)(vs:List V)(H:Hp)(Q:VK)(E:XK):Prop
 | mk (p C dx:Addr) (n s:Str) (e:V) (wd:Int) (_:vs=[.ref p,.str n,.str s,e,.int wd]) (_:DCls K C) (_:H p=some (.ins C dx [])) (_:aH n=true) (_:aH s=true) (_:bF e) (_:0<=wd) (_:∀H',SameBut p H H'->H' p=some (.ins C dx (iQ (.str n) (.str s) e (.int wd)))->Q .non H'):cP K vs H Q E
theorem nI {H:Hp}{Q:VK}{E:XK}{p C dx:Addr}{n s:Str}{e:V}{wd:Int} (dc:DCls K C) (hp:H p=some (.ins C dx [])) (hn:aH n=true) (hs:aH s=true) (he:bF e) (hw:0<=wd)
  (k:∀H',SameBut p H H'->H' p=some (.ins C dx (iQ (.str n) (.str s) e (.int wd)))->Q .non H'):cP K [.ref p,.str n,.str s,e,.int wd] H Q E:=⟨_,_,_,_,_,_,_,rfl,dc,hp,hn,hs,he,hw,k⟩
theorem i6 (m:M w K mg):FnOk P w K mg base CX0 3 m.gR m.eN ["self","name","start","end","wide"] (cP K):=by
 refine m.j7.ok sc_Door___init__ (fun vs H Q E h=> ?_) (fun cdv A outer s H vs Q E hr h=> ?_)
 ·walk_at"g1";obtain⟨p,C,dx,n,st,e,wd,rfl,dc,hp,hn,hs,he,hw,k⟩:=h;walk_at"g2";rfl
 ·walk_at"g1";obtain⟨p,C,dx,n,st,e,wd,rfl,dc,hp,hn,hs,he,hw,k⟩:=h;walk_at"g2";have nd:=sc_Door___init__.nd;have hu0:=Room.units0 hr;have hu9:=Room.units9 hr;have gG:= @A9 P w K mg base m;have bH:= @dE P w K mg base m;refine⟨_,(aD (b3 (bN gG hr (aA aI (aA (pv 1) aB))))
   (aD (b3 (bN gG hr (aA aI (aA (pv 2) aB))))
   (aD (bL (aR DI (pv 3) l5 (aU _)) (aF (b3 (bN gG hr (aA aI (aA (pv 3) aB))))) bA)
   (aD (b3 (bN bH hr (aA aI (aA (pv 4) (aA aC aB)))))
   (aD (eK (pv 0) (pv 1) rfl)
   (aD (eK (pv 0) (pv 2) rfl)
   (aD (eK (pv 0) (pv 3) rfl)
   (aF (eK (pv 0) (pv 4) rfl))))))))),?_⟩
  refine aN (σ:=[some (.ref p),some (.str n),some (.str st),some (e),some (.int wd)]) rfl ?_;walk_at"cx";rcases he with rfl|⟨z,rfl,hz⟩
  ·walk_at"go";exact k _ (by walk_at"sb") (by assumption)
  ·walk_at"go";exact k _ (by walk_at"sb") (by assumption)
theorem wW (m:M w K mg):Kc P w K mg base "Door" m.eA 3 [] (cP K):=⟨_,_,_,_,m.BG,m.OR,.nil,m.nF,i6 m⟩
theorem eE (m:M w K mg):Dc P w K mg base "Door" "__init__" 3 (cP K):=⟨_,_,_,_,m.BG,m.c4.1,m.c4.2.1,m.c4.2.2,m.j7.kp,m.nF,i6 m⟩
theorem iS (m:M w K mg):DcD P w K mg base "Door" "__init__" 3 [.int 1] (cP K):=by
 obtain⟨ds,h1,h2⟩:=m.qY;exact⟨_,_,_,_,_,m.BG,m.c4.1,m.c4.2.1,m.c4.2.2,m.j7.kp,h1,h2,i6 m⟩
theorem JD {H:Hp}{Q:VK}{E:XK}{C:Addr}{vs dvs:List V}{n s:Str}{e:V}{wd:Int} (ev:vs++dvs=[.str n,.str s,e,.int wd]) (dc:DCls K C) (hn:aH n=true) (hs:aH s=true) (he:bF e) (hw:0<=wd)
  (k:∀p dx H',H p=none->Same H H'->H' p=some (.ins C dx (iQ (.str n) (.str s) e (.int wd)))->Q (.ref p) H'):lU C (cP K) dvs E Q vs H :=
 iZ (fun p dx H0 Q' h k' s0=>by rw[ev];exact nI dc h hn hs he hw k') k
local macro_rules| `(tactic| walk_at"rd1")=> `(tactic| ((with_reducible refine' JD ?v ?d ?hn ?hs ?he ?hw ?_);(case v=>rfl);(case d=>assumption);(case hn=>assumption);(case hs=>assumption);(case he=>first|assumption|exact .inl rfl|exact .inr ⟨_,rfl,by assumption⟩);(case hw=>walk_at"sd");intro p' dx' H' n' S' e'))
inductive gX (K:PySem.W.Frag)(vs:List V)(H:Hp)(Q:VK)(E:XK):Prop
 | mk (p C dx:Addr) (fs:List (Str×V)) (t wd:Int) (_:vs=[.ref p,.int t]) (_:DCls K C) (_:H p=some (.ins C dx fs)) (_:fs.lookup ("wide" :Str)=some (.int wd)) (_:Q (.int wd) H):gX K vs H Q E
theorem r6 {H:Hp}{Q:VK}{E:XK}{p C dx:Addr}{fs:List (Str×V)}{t wd:Int} (hp:H p=some (.ins C dx fs)) (dc:DCls K C) (l:fs.lookup ("wide" :Str)=some (.int wd)) (k:Q (.int wd) H):gX K [.ref p,.int t] H Q E:=⟨_,_,_,_,_,_,rfl,dc,hp,l,k⟩
theorem zE (m:M w K mg):FnOk P w K mg base CX0 1 m.nP m.nM ["self","turn"] (gX K):=by
 refine m.CY.ok sc_Door_lets (fun vs H Q E h=> ?_) (fun cdv A outer s H vs Q E hr h=> ?_)
 ·walk_at"g1";obtain⟨p,C,dx,fs,t,wd,rfl,dc,hp,l,k⟩:=h;walk_at"g2";rfl
 ·walk_at"g1";obtain⟨p,C,dx,fs,t,wd,rfl,dc,hp,l,k⟩:=h;walk_at"g2";have nd:=sc_Door_lets.nd;have hu0:=Room.units0 hr;have hu9:=Room.units9 hr;refine⟨_,(aF (aK (aW (pv 0) rfl))),?_⟩;refine aN (σ:=[some (.ref p),some (.int t)]) rfl ?_;walk_at"cx";walk_at"go";exact k
theorem y9 (m:M w K mg):Mc P w K mg base m.eA "lets" 1 (gX K):=⟨_,_,_,m.jO.ic.cl,m.BS,m.CQ,zE m⟩
inductive bS (K:PySem.W.Frag)(vs:List V)(H:Hp)(Q:VK)(E:XK):Prop
 | mk (p C dx:Addr) (fs:List (Str×V)) (e:V) (_:vs=[.ref p]) (_:DCls K C) (_:H p=some (.ins C dx fs)) (_:fs.lookup ("end" :Str)=some e) (_:Q (.bl (decide (e= .non))) H):bS K vs H Q E
theorem NM {H:Hp}{Q:VK}{E:XK}{p C dx:Addr}{fs:List (Str×V)} (hp:H p=some (.ins C dx fs)) (dc:DCls K C) (l:fs.lookup ("end" :Str)=some .non) (k:Q (.bl true) H):bS K [.ref p] H Q E:=⟨_,_,_,_,_,rfl,dc,hp,l,k⟩
theorem NR {H:Hp}{Q:VK}{E:XK}{p C dx:Addr}{fs:List (Str×V)}{z:Str} (hp:H p=some (.ins C dx fs)) (dc:DCls K C) (l:fs.lookup ("end" :Str)=some (.str z)) (k:Q (.bl false) H):bS K [.ref p] H Q E :=
 ⟨_,_,_,_,_,rfl,dc,hp,l,by rw[decide_eq_false (fun z=>by cases z)];exact k⟩
theorem cM (m:M w K mg):FnOk P w K mg base CX0 1 m.cB m.kN ["self"] (bS K):=by
 refine m.wP.ok sc_Door_is_exit (fun vs H Q E h=> ?_) (fun cdv A outer s H vs Q E hr h=> ?_)
 ·walk_at"g1";obtain⟨p,C,dx,fs,e,rfl,dc,hp,l,k⟩:=h;walk_at"g2";rfl
 ·walk_at"g1";obtain⟨p,C,dx,fs,e,rfl,dc,hp,l,k⟩:=h;walk_at"g2";have nd:=sc_Door_is_exit.nd;have hu0:=Room.units0 hr;have hu9:=Room.units9 hr;refine⟨_,(aF (aK (v5 R0 (aW (pv 0) rfl) l5 (aU _)))),?_⟩;refine aN (σ:=[some (.ref p)]) rfl ?_;walk_at"cx";walk_at"go";exact k
theorem nB (m:M w K mg):Mc P w K mg base m.eA "is_exit" 1 (bS K):=⟨_,_,_,m.jO.ic.cl,m.vJ,m.c3,cM m⟩
theorem l8 (m:M w K mg):Mc P w K mg base m.eF "is_exit" 1 (bS K):=⟨_,_,_,m.hZ.ic.cl,m.tG,m.c3,cM m⟩
theorem l9 (m:M w K mg):Mc P w K mg base m.eG "is_exit" 1 (bS K):=⟨_,_,_,m.iB.ic.cl,m.tO,m.c3,cM m⟩
theorem nA (m:M w K mg):Mc P w K mg base m.fZ "is_exit" 1 (bS K):=⟨_,_,_,m.jP.ic.cl,m.vD,m.c3,cM m⟩
theorem lR (m:M w K mg):Mc P w K mg base m.dH "is_exit" 1 (bS K):=⟨_,_,_,m.fJ.ic.cl,m.rZ,m.c3,cM m⟩
theorem t5 (m:M w K mg):Mc P w K mg base m.fI "is_exit" 1 (bS K):=⟨_,_,_,m.jQ.ic.cl,m.vF,m.c3,cM m⟩
theorem sU (m:M w K mg):Mc P w K mg base m.dR "is_exit" 1 (bS K):=⟨_,_,_,m.hV.ic.cl,m.tH,m.c3,cM m⟩
local macro_rules| `(tactic| walk_at"rd1")=> `(tactic| first|((with_reducible refine' r6 ?e ?d ?l ?_);(case e=>walk_at"hp");(case d=>assumption);(case l=>walk_at"lk"))|((with_reducible refine' NM ?e ?d ?l ?_);(case e=>walk_at"hp");(case d=>assumption);(case l=>walk_at"lk"))|((with_reducible refine' NR ?e ?d ?l ?_);(case e=>walk_at"hp");(case d=>assumption);(case l=>walk_at"lk")))
def fL:V->Str
 | .str z=>z
 | _=> "-"
def bJ (kind n s:Str)(e:V)(ns:List Int):Str:=Txt.join " " ([kind,n,s,fL e]++ns.map aY)
def bO (i:Int):Prop:= -1000000000000000000000000000000<i/\i<1000000000000000000000000000000
inductive uR (P:Program)(w:World)(K:PySem.W.Frag)(mg:Str->Option Value)(base:Heap)(vs:List V)(H:Hp)(Q:VK)(E:XK):Prop
 | mk (kind:Str) (p q C dx:Addr) (fs:List (Str×V)) (n s:Str) (e:V) (ns:List Int) (_:vs=[.str kind,.ref p,.ref q]) (_:DCls K C) (_:Mc P w K mg base C "is_exit" 1 (bS K)) (_:H p=some (.ins C dx fs)) (_:fs.lookup ("is_exit" :Str)=none) (_:fs.lookup ("name" :Str)=some (.str n)) (_:fs.lookup ("start" :Str)=some (.str s)) (_:fs.lookup ("end" :Str)=some e) (_:kind.length<=8) (_:aH n=true) (_:aH s=true) (_:bF e) (_:SqL K H q (ns.map V.int)) (_:ns.length<=3) (_:(∀i∈ns,bO i)) (_:∀H',Same H H'->Q (.str (bJ kind n s e ns)) H'):uR P w K mg base vs H Q E
theorem uH {H:Hp}{Q:VK}{E:XK}{kind:Str}{p q C dx:Addr}{fs:List (Str×V)}{n s:Str}{e:V}{ns:List Int} (hp:H p=some (.ins C dx fs)) (hq:SqL K H q (ns.map V.int)) (dc:DCls K C) (mc:Mc P w K mg base C "is_exit" 1 (bS K)) (l0:fs.lookup ("is_exit" :Str)=none)
  (l1:fs.lookup ("name" :Str)=some (.str n))(l2:fs.lookup ("start" :Str)=some (.str s))(l3:fs.lookup ("end" :Str)=some e)(hk:kind.length<=8)(hn:aH n=true)(hs:aH s=true)(he:bF e)(hl:ns.length<=3)(hb:∀i∈ns,bO i)
  (k:∀H',Same H H'->Q (.str (bJ kind n s e ns)) H'):uR P w K mg base [.str kind,.ref p,.ref q] H Q E:=⟨_,_,_,_,_,_,_,_,_,_,rfl,dc,mc,hp,l0,l1,l2,l3,hk,hn,hs,he,hq,hl,hb,k⟩
theorem NK {kind n s z:Str}{ns:List Int} (h1:kind.length<=8) (h2:n.length<=8) (h3:s.length<=8) (h4:z.length<=8) (h5:ns.length<=3) (hb:∀i∈ns,bO i) :
  (([kind,n,s,z]++ns.map aY).map (·.length)).sum+([kind,n,s,z]++ns.map aY).length * (" " :Str).length<=16777216:=by
 have e:=jR 40 ([kind,n,s,z]++ns.map aY) fun y hy=>by
  rcases List.mem_append.mp hy with h|h
  ·simp only[List.mem_cons,List.not_mem_nil,or_false]at h;rcases h with rfl|rfl|rfl|rfl<;>lia
  ·obtain⟨i,hi,rfl⟩:=List.mem_map.mp h;exact kH (hb i hi).1 (hb i hi).2
 have e2:([kind,n,s,z]++ns.map aY).length<=7:=by simp;lia
 have e3:(" " :Str).length=1:=by rw[aJ];rfl
 rw[e3]
 lia
theorem uD (m:M w K mg):FnOk P w K mg base CX0 2 m.kL m.kT ["kind","door","numbers"] (uR P w K mg base):=by
 refine m.bR.ok sc_row_of_words (fun vs H Q E h=> ?_) (fun cdv A outer s H vs Q E hr h=> ?_)
 ·walk_at"g1";obtain⟨kind,p,q,C,dx,fs,n,st,e,ns,rfl,dc,mc,hp,l0,l1,l2,l3,hk,hn,hs,he,hq,hl,hb,k⟩:=h;walk_at"g2";rfl
 ·walk_at"g1";obtain⟨kind,p,q,C,dx,fs,n,st,e,ns,rfl,dc,mc,hp,l0,l1,l2,l3,hk,hn,hs,he,hq,hl,hb,k⟩:=h;walk_at"g2";have nd:=sc_row_of_words.nd;have hu0:=Room.units0 hr;have hu9:=Room.units9 hr;refine⟨_,(aD (bB (i:=3) nd rfl (by walk_at"oi") (gS (g0 (O0 1 hr (pv 1))) aI (aW (pv 1) rfl)))
   (aF (aK (j4 PySem.F.plainAttrs_str PySem.F.slot_str_join PySem.F.type_str_join kF aI (aA (aG oG (b6 (aA (pv 0) (aA (aW (pv 1) rfl) (aA (aW (pv 1) rfl) (aA (pv 3) aB))))) (rD (N:=["number"]) (nl:=1) (ci:=[]) rfl (blk (s.heap.objs.size+1) rfl rfl rfl (by kernel_rfl)) (vW (pv 2)) (fun _ _ _ _=>(dQ (i:=0) (show (["number"]:List Str).Nodup by decide +kernel) rfl (by walk_at"oi"))) (fun _ _ _ _=>uL) (fun _ _ _ _=>(bW lB rfl m.eM c8 (aA (pv 0) aB))))) aB))))),?_⟩
  refine aN (σ:=[some (.str kind),some (.ref p),some (.ref q),none]) rfl ?_;walk_at"cx";have hn8:=c9 hn;have hs8:=c9 hs;have fin:∀z:Str,z.length<=8->fL e=z->∀(H1:Hp) (p1:Addr),Same H H1->H1 p1=some (.lst ([.str kind,.str n,.str st,.str z]++ns.map fun i=>V.str (aY i)))->ER K (.str " ") [.ref p1] H1 Q:=by
   intro z hz ez H1 p1 s1 h1;refine kG (ys:=[kind,n,st,z]++ns.map aY) (SqL.of ?_) (NK hk hn8 hs8 hz hl hb) ?_
   ·rw[List.map_append,List.map_map];exact h1
   ·have:=k H1 s1;unfold bJ at this;rw[ez]at this;exact this
  have item:∀(i:Int) (H1:Hp),i∈ns->∀R:VK,(∀H2,Same H1 H2->R (.str (aY i)) H2)->tCB E4 (DU (iI 0) zK) (some (.int i)::[]) H1 R:=by
   intro i H1 hi R hR;obtain⟨b0,b1⟩:=hb i hi;walk_at"go";exact hR _ (Same.refl _)
  have hsz:ns.length<=sizeLine:=by rw[sizeLine_eq];lia
  rcases he with rfl|⟨z,rfl,hz⟩
  ·walk_at"go";refine w9 (ns:=ns) (rest:=[]) (fun i=>V.str (aY i)) hsz (by rfl) (fun H1 s1=>by walk_at"hp") ?_ (fun H1 s1=> ?_)
   ·exact fun i H1 hi s1 R hR=>item i H1 hi R hR
   walk_at"go";exact fin "-" (by rw[aJ];decide) rfl _ _ (by walk_at"sm") (by assumption)
  ·have hz8:=c9 hz;walk_at"go";refine w9 (ns:=ns) (rest:=[]) (fun i=>V.str (aY i)) hsz (by rfl) (fun H1 s1=>by walk_at"hp") ?_ (fun H1 s1=> ?_)
   ·exact fun i H1 hi s1 R hR=>item i H1 hi R hR
   walk_at"go";exact fin z hz8 rfl _ _ (by walk_at"sm") (by assumption)
theorem eH (m:M w K mg):Fc P w K mg base "row_of_words" 2 ["kind","door","numbers"] (uR P w K mg base):=⟨_,_,m.wQ,m.bR.kp,m.wO,uD m⟩
theorem QL {a:Int}(h:bO a):∀i∈[a],bO i:=fun i hi=>by
 rw[List.mem_singleton]at hi;subst hi;exact h
theorem vN {a b:Int}(h:bO a)(h':bO b):∀i∈[a,b],bO i:=fun i hi=>by
 simp only[List.mem_cons,List.not_mem_nil,or_false]at hi;rcases hi with rfl|rfl
 ·exact h
 ·exact h'
theorem QT {a b c:Int}(h:bO a)(h':bO b)(h'':bO c):∀i∈[a,b,c],bO i:=fun i hi=>by
 simp only[List.mem_cons,List.not_mem_nil,or_false]at hi;rcases hi with rfl|rfl|rfl
 ·exact h
 ·exact h'
 ·exact h''
inductive fY (P:Program)(w:World)(K:PySem.W.Frag)(mg:Str->Option Value)(base:Heap)(vs:List V)(H:Hp)(Q:VK)(E:XK):Prop
 | mk (p C dx:Addr) (fs:List (Str×V)) (n s:Str) (e:V) (i0:Int) (_:vs=[.ref p]) (_:DCls K C) (_:Mc P w K mg base C "is_exit" 1 (bS K)) (_:H p=some (.ins C dx fs)) (_:fs.lookup ("is_exit" :Str)=none) (_:fs.lookup ("name" :Str)=some (.str n)) (_:fs.lookup ("start" :Str)=some (.str s)) (_:fs.lookup ("end" :Str)=some e) (_:fs.lookup ("wide" :Str)=some (.int i0)) (_:aH n=true) (_:aH s=true) (_:bF e) (_:bO i0) (_:∀H',Same H H'->Q (.str (bJ "door" n s e [i0])) H'):fY P w K mg base vs H Q E
theorem qT {H:Hp}{Q:VK}{E:XK}{p C dx:Addr}{fs:List (Str×V)}{n s:Str}{e:V}{i0:Int} (hp:H p=some (.ins C dx fs)) (dc:DCls K C) (mc:Mc P w K mg base C "is_exit" 1 (bS K)) (l0:fs.lookup ("is_exit" :Str)=none)
  (l1:fs.lookup ("name" :Str)=some (.str n))(l2:fs.lookup ("start" :Str)=some (.str s))(l3:fs.lookup ("end" :Str)=some e)(m0:fs.lookup ("wide" :Str)=some (.int i0))(hn:aH n=true)(hs:aH s=true)(he:bF e)(b0:bO i0)
  (k:∀H',Same H H'->Q (.str (bJ "door" n s e [i0])) H'):fY P w K mg base [.ref p] H Q E:=⟨_,_,_,_,_,_,_,_,rfl,dc,mc,hp,l0,l1,l2,l3,m0,hn,hs,he,b0,k⟩
theorem xT (m:M w K mg):FnOk P w K mg base CX0 3 m.mH m.mW ["self"] (fY P w K mg base):=by
 refine m.BI.ok sc_Door_words (fun vs H Q E h=> ?_) (fun cdv A outer s H vs Q E hr h=> ?_)
 ·walk_at"g1";obtain⟨p,C,dx,fs,n,st,e,i0,rfl,dc,mc,hp,l0,l1,l2,l3,m0,hn,hs,he,b0,k⟩:=h;walk_at"g2";rfl
 ·walk_at"g1";obtain⟨p,C,dx,fs,n,st,e,i0,rfl,dc,mc,hp,l0,l1,l2,l3,m0,hn,hs,he,b0,k⟩:=h;walk_at"g2";have nd:=sc_Door_words.nd;have hu0:=Room.units0 hr;have hu9:=Room.units9 hr;have bR:= @eH P w K mg base m;refine⟨_,(aF (aK (bN bR hr (aA aI (aA (pv 0) (aA (b6 (aA (aW (pv 0) rfl) aB)) aB)))))),?_⟩;refine aN (σ:=[some (.ref p)]) rfl ?_;walk_at"cx";walk_at"go";exact uH (ns:=[i0]) (by walk_at"hp") (SqL.of (by assumption)) dc mc l0 l1 l2 l3 (by rw[aJ];decide) hn hs he (by simp) (QL b0) (fun H2 s2=>k H2 (by walk_at"sm"))
theorem xY (m:M w K mg):Mc P w K mg base m.eA "words" 3 (fY P w K mg base):=⟨_,_,_,m.jO.ic.cl,m.yJ,m.B1,xT m⟩
local macro_rules| `(tactic| walk_at"rd1")=> `(tactic| ((with_reducible refine' qT ?e ?d ?m ?l0 ?l1 ?l2 ?l3 ?m0 ?hn ?hs ?he ?b0 ?_);(case e=>walk_at"hp");(case d=>assumption);(case m=>assumption);(case l0=>walk_at"lk");(case l1=>walk_at"lk");(case l2=>walk_at"lk");(case l3=>walk_at"lk");(case m0=>walk_at"lk");(case hn=>assumption);(case hs=>assumption);(case he=>assumption);(case b0=>exact⟨by omega,by omega⟩);intro H' S'))
local macro_rules| `(tactic| walk_at"rd1")=> `(tactic| ((with_reducible refine' nI ?d ?e ?hn ?hs ?he ?hw ?_);(case d=>assumption);(case e=>walk_at"hp");(case hn=>assumption);(case hs=>assumption);(case he=>assumption);(case hw=>walk_at"sd");intro H' B' e'))
abbrev rJ (n s e w i0:V):List (Str×V):=b9 "since" i0 (iQ n s e w)
inductive fR (K:PySem.W.Frag)(vs:List V)(H:Hp)(Q:VK)(E:XK):Prop
 | mk (p C dx:Addr) (n s:Str) (e:V) (wd i0:Int) (_:vs=[.ref p,.str n,.str s,e,.int wd,.int i0]) (_:DCls K C) (_:H p=some (.ins C dx [])) (_:aH n=true) (_:aH s=true) (_:bF e) (_:0<=wd) (_:0<=i0) (_:∀H',SameBut p H H'->H' p=some (.ins C dx (rJ (.str n) (.str s) e (.int wd) (.int i0)))->Q .non H'):fR K vs H Q E
theorem zU {H:Hp}{Q:VK}{E:XK}{p C dx:Addr}{n s:Str}{e:V}{wd i0:Int} (dc:DCls K C) (hp:H p=some (.ins C dx [])) (hn:aH n=true) (hs:aH s=true) (he:bF e) (hw:0<=wd) (b0:0<=i0)
  (k:∀H',SameBut p H H'->H' p=some (.ins C dx (rJ (.str n) (.str s) e (.int wd) (.int i0)))->Q .non H'):fR K [.ref p,.str n,.str s,e,.int wd,.int i0] H Q E:=⟨_,_,_,_,_,_,_,_,rfl,dc,hp,hn,hs,he,hw,b0,k⟩
theorem rV (m:M w K mg):FnOk P w K mg base CX0 4 m.jG m.jD ["self","name","start","end","wide","since"] (fR K):=by
 refine m.tF.ok sc_Since___init__ (fun vs H Q E h=> ?_) (fun cdv A outer s H vs Q E hr h=> ?_)
 ·walk_at"g1";obtain⟨p,C,dx,n,st,e,wd,i0,rfl,dc,hp,hn,hs,he,hw,b0,k⟩:=h;walk_at"g2";rfl
 ·walk_at"g1";obtain⟨p,C,dx,n,st,e,wd,i0,rfl,dc,hp,hn,hs,he,hw,b0,k⟩:=h;walk_at"g2";have nd:=sc_Since___init__.nd;have hu0:=Room.units0 hr;have hu9:=Room.units9 hr;have D_Door___init__:= @eE P w K mg base m;have bH:= @dE P w K mg base m;refine⟨_,(aD (b3 (yS D_Door___init__ hr (aA (pv 0) (aA (pv 1) (aA (pv 2) (aA (pv 3) (aA (pv 4) aB)))))))
   (aD (b3 (bN bH hr (aA aI (aA (pv 5) (aA aC aB)))))
   (aF (eK (pv 0) (pv 5) rfl)))),?_⟩
  refine aN (σ:=[some (.ref p),some (.str n),some (.str st),some (e),some (.int wd),some (.int i0)]) rfl ?_;walk_at"cx";walk_at"go";exact k _ (by walk_at"sb") (by assumption)
theorem tQ (m:M w K mg):Kc P w K mg base "Since" m.eF 4 [] (fR K):=⟨_,_,_,_,m.OO,m.K0,.nil,m.tD,rV m⟩
theorem GH {H:Hp}{Q:VK}{E:XK}{C:Addr}{vs dvs:List V}{n s:Str}{e:V}{wd i0:Int} (ev:vs++dvs=[.str n,.str s,e,.int wd,.int i0]) (dc:DCls K C) (hn:aH n=true) (hs:aH s=true) (he:bF e) (hw:0<=wd) (b0:0<=i0)
  (k:∀p dx H',H p=none->Same H H'->H' p=some (.ins C dx (rJ (.str n) (.str s) e (.int wd) (.int i0)))->Q (.ref p) H'):lU C (fR K) dvs E Q vs H :=
 iZ (fun p dx H0 Q' h k' s0=>by rw[ev];exact zU dc h hn hs he hw b0 k') k
local macro_rules| `(tactic| walk_at"rd1")=> `(tactic| ((with_reducible refine' GH ?v ?d ?hn ?hs ?he ?hw ?b0 ?_);(case v=>rfl);(case d=>assumption);(case hn=>assumption);(case hs=>assumption);(case he=>first|assumption|exact .inl rfl|exact .inr ⟨_,rfl,by assumption⟩);(case hw=>walk_at"sd");(case b0=>walk_at"sd");intro p' dx' H' n' S' e'))
def qC (wd i0 t:Int):Int:=if i0<=t then wd else 0
inductive fW (K:PySem.W.Frag)(vs:List V)(H:Hp)(Q:VK)(E:XK):Prop
 | mk (p C dx:Addr) (fs:List (Str×V)) (t wd i0:Int) (_:vs=[.ref p,.int t]) (_:DCls K C) (_:H p=some (.ins C dx fs)) (_:fs.lookup ("wide" :Str)=some (.int wd)) (_:fs.lookup ("since" :Str)=some (.int i0)) (_:0<=t) (_:0<=i0) (_:Q (.int (qC wd i0 t)) H):fW K vs H Q E
theorem qG {H:Hp}{Q:VK}{E:XK}{p C dx:Addr}{fs:List (Str×V)}{t wd i0:Int} (hp:H p=some (.ins C dx fs)) (dc:DCls K C) (l:fs.lookup ("wide" :Str)=some (.int wd)) (m0:fs.lookup ("since" :Str)=some (.int i0)) (ht:0<=t) (b0:0<=i0) (k:Q (.int (qC wd i0 t)) H):fW K [.ref p,.int t] H Q E:=⟨_,_,_,_,_,_,_,rfl,dc,hp,l,m0,ht,b0,k⟩
theorem yB (m:M w K mg):FnOk P w K mg base CX0 1 m.mV m.mR ["self","turn"] (fW K):=by
 refine m.BJ.ok sc_Since_lets (fun vs H Q E h=> ?_) (fun cdv A outer s H vs Q E hr h=> ?_)
 ·walk_at"g1";obtain⟨p,C,dx,fs,t,wd,i0,rfl,dc,hp,l,m0,ht,b0,k⟩:=h;walk_at"g2";rfl
 ·walk_at"g1";obtain⟨p,C,dx,fs,t,wd,i0,rfl,dc,hp,l,m0,ht,b0,k⟩:=h;walk_at"g2";have nd:=sc_Since_lets.nd;have hu0:=Room.units0 hr;have hu9:=Room.units9 hr;refine⟨_,(aF (aK (gS (aR tV (pv 1) (aW (pv 0) rfl) (aU _)) (aW (pv 0) rfl) aC))),?_⟩;refine aN (σ:=[some (.ref p),some (.int t)]) rfl ?_;walk_at"cx";unfold qC at k;walk_at"go";refine bV (fun hw=> ?_) (fun hw=> ?_)
  ·walk_at"go";rw[if_pos hw]at k;exact k
  ·walk_at"go";rw[if_neg hw]at k;exact k
theorem xJ (m:M w K mg):Mc P w K mg base m.eF "lets" 1 (fW K):=⟨_,_,_,m.hZ.ic.cl,m.yH,m.BD,yB m⟩
local macro_rules| `(tactic| walk_at"rd1")=> `(tactic| ((with_reducible refine' qG ?e ?d ?l ?m0 ?ht ?b0 ?_);(case e=>walk_at"hp");(case d=>assumption);(case l=>walk_at"lk");(case m0=>walk_at"lk");(case ht=>walk_at"sd");(case b0=>walk_at"sd")))
inductive fB (P:Program)(w:World)(K:PySem.W.Frag)(mg:Str->Option Value)(base:Heap)(vs:List V)(H:Hp)(Q:VK)(E:XK):Prop
 | mk (p C dx:Addr) (fs:List (Str×V)) (n s:Str) (e:V) (i0 i1:Int) (_:vs=[.ref p]) (_:DCls K C) (_:Mc P w K mg base C "is_exit" 1 (bS K)) (_:H p=some (.ins C dx fs)) (_:fs.lookup ("is_exit" :Str)=none) (_:fs.lookup ("name" :Str)=some (.str n)) (_:fs.lookup ("start" :Str)=some (.str s)) (_:fs.lookup ("end" :Str)=some e) (_:fs.lookup ("wide" :Str)=some (.int i0)) (_:fs.lookup ("since" :Str)=some (.int i1)) (_:aH n=true) (_:aH s=true) (_:bF e) (_:bO i0) (_:bO i1) (_:∀H',Same H H'->Q (.str (bJ "since" n s e [i0,i1])) H'):fB P w K mg base vs H Q E
theorem pM {H:Hp}{Q:VK}{E:XK}{p C dx:Addr}{fs:List (Str×V)}{n s:Str}{e:V}{i0 i1:Int} (hp:H p=some (.ins C dx fs)) (dc:DCls K C) (mc:Mc P w K mg base C "is_exit" 1 (bS K)) (l0:fs.lookup ("is_exit" :Str)=none)
  (l1:fs.lookup ("name" :Str)=some (.str n))(l2:fs.lookup ("start" :Str)=some (.str s))(l3:fs.lookup ("end" :Str)=some e)(m0:fs.lookup ("wide" :Str)=some (.int i0))(m1:fs.lookup ("since" :Str)=some (.int i1))(hn:aH n=true)(hs:aH s=true)(he:bF e)(b0:bO i0)(b1:bO i1)
  (k:∀H',Same H H'->Q (.str (bJ "since" n s e [i0,i1])) H'):fB P w K mg base [.ref p] H Q E:=⟨_,_,_,_,_,_,_,_,_,rfl,dc,mc,hp,l0,l1,l2,l3,m0,m1,hn,hs,he,b0,b1,k⟩
theorem wA (m:M w K mg):FnOk P w K mg base CX0 3 m.lI m.lL ["self"] (fB P w K mg base):=by
 refine m.yM.ok sc_Since_words (fun vs H Q E h=> ?_) (fun cdv A outer s H vs Q E hr h=> ?_)
 ·walk_at"g1";obtain⟨p,C,dx,fs,n,st,e,i0,i1,rfl,dc,mc,hp,l0,l1,l2,l3,m0,m1,hn,hs,he,b0,b1,k⟩:=h;walk_at"g2";rfl
 ·walk_at"g1";obtain⟨p,C,dx,fs,n,st,e,i0,i1,rfl,dc,mc,hp,l0,l1,l2,l3,m0,m1,hn,hs,he,b0,b1,k⟩:=h;walk_at"g2";have nd:=sc_Since_words.nd;have hu0:=Room.units0 hr;have hu9:=Room.units9 hr;have bR:= @eH P w K mg base m;refine⟨_,(aF (aK (bN bR hr (aA aI (aA (pv 0) (aA (b6 (aA (aW (pv 0) rfl) (aA (aW (pv 0) rfl) aB))) aB)))))),?_⟩;refine aN (σ:=[some (.ref p)]) rfl ?_;walk_at"cx";walk_at"go";exact uH (ns:=[i0,i1]) (by walk_at"hp") (SqL.of (by assumption)) dc mc l0 l1 l2 l3 (by rw[aJ];decide) hn hs he (by simp) (vN b0 b1) (fun H2 s2=>k H2 (by walk_at"sm"))
theorem v3 (m:M w K mg):Mc P w K mg base m.eF "words" 3 (fB P w K mg base):=⟨_,_,_,m.hZ.ic.cl,m.wE,m.yN,wA m⟩
local macro_rules| `(tactic| walk_at"rd1")=> `(tactic| ((with_reducible refine' pM ?e ?d ?m ?l0 ?l1 ?l2 ?l3 ?m0 ?m1 ?hn ?hs ?he ?b0 ?b1 ?_);(case e=>walk_at"hp");(case d=>assumption);(case m=>assumption);(case l0=>walk_at"lk");(case l1=>walk_at"lk");(case l2=>walk_at"lk");(case l3=>walk_at"lk");(case m0=>walk_at"lk");(case m1=>walk_at"lk");(case hn=>assumption);(case hs=>assumption);(case he=>assumption);(case b0=>exact⟨by omega,by omega⟩);(case b1=>exact⟨by omega,by omega⟩);intro H' S'))
abbrev rB (n s e w i0:V):List (Str×V):=b9 "until" i0 (iQ n s e w)
inductive fT (K:PySem.W.Frag)(vs:List V)(H:Hp)(Q:VK)(E:XK):Prop
 | mk (p C dx:Addr) (n s:Str) (e:V) (wd i0:Int) (_:vs=[.ref p,.str n,.str s,e,.int wd,.int i0]) (_:DCls K C) (_:H p=some (.ins C dx [])) (_:aH n=true) (_:aH s=true) (_:bF e) (_:0<=wd) (_:0<=i0) (_:∀H',SameBut p H H'->H' p=some (.ins C dx (rB (.str n) (.str s) e (.int wd) (.int i0)))->Q .non H'):fT K vs H Q E
theorem z5 {H:Hp}{Q:VK}{E:XK}{p C dx:Addr}{n s:Str}{e:V}{wd i0:Int} (dc:DCls K C) (hp:H p=some (.ins C dx [])) (hn:aH n=true) (hs:aH s=true) (he:bF e) (hw:0<=wd) (b0:0<=i0)
  (k:∀H',SameBut p H H'->H' p=some (.ins C dx (rB (.str n) (.str s) e (.int wd) (.int i0)))->Q .non H'):fT K [.ref p,.str n,.str s,e,.int wd,.int i0] H Q E:=⟨_,_,_,_,_,_,_,_,rfl,dc,hp,hn,hs,he,hw,b0,k⟩
theorem rT (m:M w K mg):FnOk P w K mg base CX0 4 m.jA m.i9 ["self","name","start","end","wide","until"] (fT K):=by
 refine m.tJ.ok sc_Until___init__ (fun vs H Q E h=> ?_) (fun cdv A outer s H vs Q E hr h=> ?_)
 ·walk_at"g1";obtain⟨p,C,dx,n,st,e,wd,i0,rfl,dc,hp,hn,hs,he,hw,b0,k⟩:=h;walk_at"g2";rfl
 ·walk_at"g1";obtain⟨p,C,dx,n,st,e,wd,i0,rfl,dc,hp,hn,hs,he,hw,b0,k⟩:=h;walk_at"g2";have nd:=sc_Until___init__.nd;have hu0:=Room.units0 hr;have hu9:=Room.units9 hr;have D_Door___init__:= @eE P w K mg base m;have bH:= @dE P w K mg base m;refine⟨_,(aD (b3 (yS D_Door___init__ hr (aA (pv 0) (aA (pv 1) (aA (pv 2) (aA (pv 3) (aA (pv 4) aB)))))))
   (aD (b3 (bN bH hr (aA aI (aA (pv 5) (aA aC aB)))))
   (aF (eK (pv 0) (pv 5) rfl)))),?_⟩
  refine aN (σ:=[some (.ref p),some (.str n),some (.str st),some (e),some (.int wd),some (.int i0)]) rfl ?_;walk_at"cx";walk_at"go";exact k _ (by walk_at"sb") (by assumption)
theorem u5 (m:M w K mg):Kc P w K mg base "Until" m.eG 4 [] (fT K):=⟨_,_,_,_,m.OS,m.K3,.nil,m.tM,rT m⟩
theorem GX {H:Hp}{Q:VK}{E:XK}{C:Addr}{vs dvs:List V}{n s:Str}{e:V}{wd i0:Int} (ev:vs++dvs=[.str n,.str s,e,.int wd,.int i0]) (dc:DCls K C) (hn:aH n=true) (hs:aH s=true) (he:bF e) (hw:0<=wd) (b0:0<=i0)
  (k:∀p dx H',H p=none->Same H H'->H' p=some (.ins C dx (rB (.str n) (.str s) e (.int wd) (.int i0)))->Q (.ref p) H'):lU C (fT K) dvs E Q vs H :=
 iZ (fun p dx H0 Q' h k' s0=>by rw[ev];exact z5 dc h hn hs he hw b0 k') k
local macro_rules| `(tactic| walk_at"rd1")=> `(tactic| ((with_reducible refine' GX ?v ?d ?hn ?hs ?he ?hw ?b0 ?_);(case v=>rfl);(case d=>assumption);(case hn=>assumption);(case hs=>assumption);(case he=>first|assumption|exact .inl rfl|exact .inr ⟨_,rfl,by assumption⟩);(case hw=>walk_at"sd");(case b0=>walk_at"sd");intro p' dx' H' n' S' e'))
def pU (wd i0 t:Int):Int:=if t<i0 then wd else 0
inductive fV (K:PySem.W.Frag)(vs:List V)(H:Hp)(Q:VK)(E:XK):Prop
 | mk (p C dx:Addr) (fs:List (Str×V)) (t wd i0:Int) (_:vs=[.ref p,.int t]) (_:DCls K C) (_:H p=some (.ins C dx fs)) (_:fs.lookup ("wide" :Str)=some (.int wd)) (_:fs.lookup ("until" :Str)=some (.int i0)) (_:0<=t) (_:0<=i0) (_:Q (.int (pU wd i0 t)) H):fV K vs H Q E
theorem qE {H:Hp}{Q:VK}{E:XK}{p C dx:Addr}{fs:List (Str×V)}{t wd i0:Int} (hp:H p=some (.ins C dx fs)) (dc:DCls K C) (l:fs.lookup ("wide" :Str)=some (.int wd)) (m0:fs.lookup ("until" :Str)=some (.int i0)) (ht:0<=t) (b0:0<=i0) (k:Q (.int (pU wd i0 t)) H):fV K [.ref p,.int t] H Q E:=⟨_,_,_,_,_,_,_,rfl,dc,hp,l,m0,ht,b0,k⟩
theorem xZ (m:M w K mg):FnOk P w K mg base CX0 1 m.mT m.mB ["self","turn"] (fV K):=by
 refine m.BP.ok sc_Until_lets (fun vs H Q E h=> ?_) (fun cdv A outer s H vs Q E hr h=> ?_)
 ·walk_at"g1";obtain⟨p,C,dx,fs,t,wd,i0,rfl,dc,hp,l,m0,ht,b0,k⟩:=h;walk_at"g2";rfl
 ·walk_at"g1";obtain⟨p,C,dx,fs,t,wd,i0,rfl,dc,hp,l,m0,ht,b0,k⟩:=h;walk_at"g2";have nd:=sc_Until_lets.nd;have hu0:=Room.units0 hr;have hu9:=Room.units9 hr;refine⟨_,(aF (aK (gS (aR tT (pv 1) (aW (pv 0) rfl) (aU _)) (aW (pv 0) rfl) aC))),?_⟩;refine aN (σ:=[some (.ref p),some (.int t)]) rfl ?_;walk_at"cx";unfold pU at k;walk_at"go";refine bV (fun hw=> ?_) (fun hw=> ?_)
  ·walk_at"go";rw[if_pos hw]at k;exact k
  ·walk_at"go";rw[if_neg hw]at k;exact k
theorem xV (m:M w K mg):Mc P w K mg base m.eG "lets" 1 (fV K):=⟨_,_,_,m.iB.ic.cl,m.yL,m.BY,xZ m⟩
local macro_rules| `(tactic| walk_at"rd1")=> `(tactic| ((with_reducible refine' qE ?e ?d ?l ?m0 ?ht ?b0 ?_);(case e=>walk_at"hp");(case d=>assumption);(case l=>walk_at"lk");(case m0=>walk_at"lk");(case ht=>walk_at"sd");(case b0=>walk_at"sd")))
inductive fE (P:Program)(w:World)(K:PySem.W.Frag)(mg:Str->Option Value)(base:Heap)(vs:List V)(H:Hp)(Q:VK)(E:XK):Prop
 | mk (p C dx:Addr) (fs:List (Str×V)) (n s:Str) (e:V) (i0 i1:Int) (_:vs=[.ref p]) (_:DCls K C) (_:Mc P w K mg base C "is_exit" 1 (bS K)) (_:H p=some (.ins C dx fs)) (_:fs.lookup ("is_exit" :Str)=none) (_:fs.lookup ("name" :Str)=some (.str n)) (_:fs.lookup ("start" :Str)=some (.str s)) (_:fs.lookup ("end" :Str)=some e) (_:fs.lookup ("wide" :Str)=some (.int i0)) (_:fs.lookup ("until" :Str)=some (.int i1)) (_:aH n=true) (_:aH s=true) (_:bF e) (_:bO i0) (_:bO i1) (_:∀H',Same H H'->Q (.str (bJ "until" n s e [i0,i1])) H'):fE P w K mg base vs H Q E
theorem pJ {H:Hp}{Q:VK}{E:XK}{p C dx:Addr}{fs:List (Str×V)}{n s:Str}{e:V}{i0 i1:Int} (hp:H p=some (.ins C dx fs)) (dc:DCls K C) (mc:Mc P w K mg base C "is_exit" 1 (bS K)) (l0:fs.lookup ("is_exit" :Str)=none)
  (l1:fs.lookup ("name" :Str)=some (.str n))(l2:fs.lookup ("start" :Str)=some (.str s))(l3:fs.lookup ("end" :Str)=some e)(m0:fs.lookup ("wide" :Str)=some (.int i0))(m1:fs.lookup ("until" :Str)=some (.int i1))(hn:aH n=true)(hs:aH s=true)(he:bF e)(b0:bO i0)(b1:bO i1)
  (k:∀H',Same H H'->Q (.str (bJ "until" n s e [i0,i1])) H'):fE P w K mg base [.ref p] H Q E:=⟨_,_,_,_,_,_,_,_,_,rfl,dc,mc,hp,l0,l1,l2,l3,m0,m1,hn,hs,he,b0,b1,k⟩
theorem vP (m:M w K mg):FnOk P w K mg base CX0 3 m.lP m.lH ["self"] (fE P w K mg base):=by
 refine m.yI.ok sc_Until_words (fun vs H Q E h=> ?_) (fun cdv A outer s H vs Q E hr h=> ?_)
 ·walk_at"g1";obtain⟨p,C,dx,fs,n,st,e,i0,i1,rfl,dc,mc,hp,l0,l1,l2,l3,m0,m1,hn,hs,he,b0,b1,k⟩:=h;walk_at"g2";rfl
 ·walk_at"g1";obtain⟨p,C,dx,fs,n,st,e,i0,i1,rfl,dc,mc,hp,l0,l1,l2,l3,m0,m1,hn,hs,he,b0,b1,k⟩:=h;walk_at"g2";have nd:=sc_Until_words.nd;have hu0:=Room.units0 hr;have hu9:=Room.units9 hr;have bR:= @eH P w K mg base m;refine⟨_,(aF (aK (bN bR hr (aA aI (aA (pv 0) (aA (b6 (aA (aW (pv 0) rfl) (aA (aW (pv 0) rfl) aB))) aB)))))),?_⟩;refine aN (σ:=[some (.ref p)]) rfl ?_;walk_at"cx";walk_at"go";exact uH (ns:=[i0,i1]) (by walk_at"hp") (SqL.of (by assumption)) dc mc l0 l1 l2 l3 (by rw[aJ];decide) hn hs he (by simp) (vN b0 b1) (fun H2 s2=>k H2 (by walk_at"sm"))
theorem vY (m:M w K mg):Mc P w K mg base m.eG "words" 3 (fE P w K mg base):=⟨_,_,_,m.iB.ic.cl,m.wN,m.yF,vP m⟩
local macro_rules| `(tactic| walk_at"rd1")=> `(tactic| ((with_reducible refine' pJ ?e ?d ?m ?l0 ?l1 ?l2 ?l3 ?m0 ?m1 ?hn ?hs ?he ?b0 ?b1 ?_);(case e=>walk_at"hp");(case d=>assumption);(case m=>assumption);(case l0=>walk_at"lk");(case l1=>walk_at"lk");(case l2=>walk_at"lk");(case l3=>walk_at"lk");(case m0=>walk_at"lk");(case m1=>walk_at"lk");(case hn=>assumption);(case hs=>assumption);(case he=>assumption);(case b0=>exact⟨by omega,by omega⟩);(case b1=>exact⟨by omega,by omega⟩);intro H' S'))
abbrev uY (n s e w i0 i1:V):List (Str×V):=b9 "since" i1 (b9 "every" i0 (iQ n s e w))
inductive hG (K:PySem.W.Frag)(vs:List V)(H:Hp)(Q:VK)(E:XK):Prop
 | mk (p C dx:Addr) (n s:Str) (e:V) (wd i0 i1:Int) (_:vs=[.ref p,.str n,.str s,e,.int wd,.int i0,.int i1]) (_:DCls K C) (_:H p=some (.ins C dx [])) (_:aH n=true) (_:aH s=true) (_:bF e) (_:0<=wd) (_:1<=i0) (_:0<=i1) (_:∀H',SameBut p H H'->H' p=some (.ins C dx (uY (.str n) (.str s) e (.int wd) (.int i0) (.int i1)))->Q .non H'):hG K vs H Q E
theorem B7 {H:Hp}{Q:VK}{E:XK}{p C dx:Addr}{n s:Str}{e:V}{wd i0 i1:Int} (dc:DCls K C) (hp:H p=some (.ins C dx [])) (hn:aH n=true) (hs:aH s=true) (he:bF e) (hw:0<=wd) (b0:1<=i0) (b1:0<=i1)
  (k:∀H',SameBut p H H'->H' p=some (.ins C dx (uY (.str n) (.str s) e (.int wd) (.int i0) (.int i1)))->Q .non H'):hG K [.ref p,.str n,.str s,e,.int wd,.int i0,.int i1] H Q E:=⟨_,_,_,_,_,_,_,_,_,rfl,dc,hp,hn,hs,he,hw,b0,b1,k⟩
theorem sO (m:M w K mg):FnOk P w K mg base CX0 4 m.j5 m.gP ["self","name","start","end","wide","every","since"] (hG K):=by
 refine m.vI.ok sc_Beat___init__ (fun vs H Q E h=> ?_) (fun cdv A outer s H vs Q E hr h=> ?_)
 ·walk_at"g1";obtain⟨p,C,dx,n,st,e,wd,i0,i1,rfl,dc,hp,hn,hs,he,hw,b0,b1,k⟩:=h;walk_at"g2";rfl
 ·walk_at"g1";obtain⟨p,C,dx,n,st,e,wd,i0,i1,rfl,dc,hp,hn,hs,he,hw,b0,b1,k⟩:=h;walk_at"g2";have nd:=sc_Beat___init__.nd;have hu0:=Room.units0 hr;have hu9:=Room.units9 hr;have D_Door___init__:= @eE P w K mg base m;have bH:= @dE P w K mg base m;refine⟨_,(aD (b3 (yS D_Door___init__ hr (aA (pv 0) (aA (pv 1) (aA (pv 2) (aA (pv 3) (aA (pv 4) aB)))))))
   (aD (b3 (bN bH hr (aA aI (aA (pv 5) (aA aC aB)))))
   (aD (b3 (bN bH hr (aA aI (aA (pv 6) (aA aC aB)))))
   (aD (eK (pv 0) (pv 5) rfl)
   (aF (eK (pv 0) (pv 6) rfl)))))),?_⟩
  refine aN (σ:=[some (.ref p),some (.str n),some (.str st),some (e),some (.int wd),some (.int i0),some (.int i1)]) rfl ?_;walk_at"cx";walk_at"go";exact k _ (by walk_at"sb") (by assumption)
theorem xH (m:M w K mg):Kc P w K mg base "Beat" m.fZ 4 [] (hG K):=⟨_,_,_,_,m.SQ,m.OQ,.nil,m.vG,sO m⟩
theorem KM {H:Hp}{Q:VK}{E:XK}{C:Addr}{vs dvs:List V}{n s:Str}{e:V}{wd i0 i1:Int} (ev:vs++dvs=[.str n,.str s,e,.int wd,.int i0,.int i1]) (dc:DCls K C) (hn:aH n=true) (hs:aH s=true) (he:bF e) (hw:0<=wd) (b0:1<=i0) (b1:0<=i1)
  (k:∀p dx H',H p=none->Same H H'->H' p=some (.ins C dx (uY (.str n) (.str s) e (.int wd) (.int i0) (.int i1)))->Q (.ref p) H'):lU C (hG K) dvs E Q vs H :=
 iZ (fun p dx H0 Q' h k' s0=>by rw[ev];exact B7 dc h hn hs he hw b0 b1 k') k
local macro_rules| `(tactic| walk_at"rd1")=> `(tactic| ((with_reducible refine' KM ?v ?d ?hn ?hs ?he ?hw ?b0 ?b1 ?_);(case v=>rfl);(case d=>assumption);(case hn=>assumption);(case hs=>assumption);(case he=>first|assumption|exact .inl rfl|exact .inr ⟨_,rfl,by assumption⟩);(case hw=>walk_at"sd");(case b0=>walk_at"sd");(case b1=>walk_at"sd");intro p' dx' H' n' S' e'))
def t3 (wd i0 i1 t:Int):Int:=if 0<=t - i1/\(t - i1)%i0=0 then wd else 0
inductive gY (K:PySem.W.Frag)(vs:List V)(H:Hp)(Q:VK)(E:XK):Prop
 | mk (p C dx:Addr) (fs:List (Str×V)) (t wd i0 i1:Int) (_:vs=[.ref p,.int t]) (_:DCls K C) (_:H p=some (.ins C dx fs)) (_:fs.lookup ("wide" :Str)=some (.int wd)) (_:fs.lookup ("every" :Str)=some (.int i0)) (_:fs.lookup ("since" :Str)=some (.int i1)) (_:0<=t) (_:1<=i0) (_:0<=i1) (_:Q (.int (t3 wd i0 i1 t)) H):gY K vs H Q E
theorem sG {H:Hp}{Q:VK}{E:XK}{p C dx:Addr}{fs:List (Str×V)}{t wd i0 i1:Int} (hp:H p=some (.ins C dx fs)) (dc:DCls K C) (l:fs.lookup ("wide" :Str)=some (.int wd)) (m0:fs.lookup ("every" :Str)=some (.int i0)) (m1:fs.lookup ("since" :Str)=some (.int i1)) (ht:0<=t) (b0:1<=i0) (b1:0<=i1) (k:Q (.int (t3 wd i0 i1 t)) H):gY K [.ref p,.int t] H Q E:=⟨_,_,_,_,_,_,_,_,rfl,dc,hp,l,m0,m1,ht,b0,b1,k⟩
theorem y8 (m:M w K mg):FnOk P w K mg base CX0 1 m.nS m.nK ["self","turn"] (gY K):=by
 refine m.C0.ok sc_Beat_lets (fun vs H Q E h=> ?_) (fun cdv A outer s H vs Q E hr h=> ?_)
 ·walk_at"g1";obtain⟨p,C,dx,fs,t,wd,i0,i1,rfl,dc,hp,l,m0,m1,ht,b0,b1,k⟩:=h;walk_at"g2";rfl
 ·walk_at"g1";obtain⟨p,C,dx,fs,t,wd,i0,i1,rfl,dc,hp,l,m0,m1,ht,b0,b1,k⟩:=h;walk_at"g2";have nd:=sc_Beat_lets.nd;have hu0:=Room.units0 hr;have hu9:=Room.units9 hr;refine⟨_,(aD (bB (i:=2) nd rfl (by walk_at"oi") (aG uX (pv 1) (aW (pv 0) rfl)))
   (aF (aK (gS (PW.pt (AN (aR tV (pv 2) aC (aU _)) (vR (aR cE (aG bT (pv 2) (aW (pv 0) rfl)) aC (aU _))))) (aW (pv 0) rfl) aC)))),?_⟩
  refine aN (σ:=[some (.ref p),some (.int t),none]) rfl ?_;walk_at"cx";unfold t3 at k;walk_at"go";refine bV (fun hw=> ?_) (fun hw=> ?_)
  ·walk_at"go";refine bV (fun hv=> ?_) (fun hv=> ?_)
   ·walk_at"go";rw[if_pos ⟨hw,hv⟩]at k;exact k
   ·walk_at"go";rw[if_neg (fun z=>hv z.2)]at k;exact k
  ·walk_at"go";rw[if_neg (fun z=>hw z.1)]at k;exact k
theorem AK (m:M w K mg):Mc P w K mg base m.fZ "lets" 1 (gY K):=⟨_,_,_,m.jP.ic.cl,m.BE,m.CS,y8 m⟩
local macro_rules| `(tactic| walk_at"rd1")=> `(tactic| ((with_reducible refine' sG ?e ?d ?l ?m0 ?m1 ?ht ?b0 ?b1 ?_);(case e=>walk_at"hp");(case d=>assumption);(case l=>walk_at"lk");(case m0=>walk_at"lk");(case m1=>walk_at"lk");(case ht=>walk_at"sd");(case b0=>walk_at"sd");(case b1=>walk_at"sd")))
inductive fP (P:Program)(w:World)(K:PySem.W.Frag)(mg:Str->Option Value)(base:Heap)(vs:List V)(H:Hp)(Q:VK)(E:XK):Prop
 | mk (p C dx:Addr) (fs:List (Str×V)) (n s:Str) (e:V) (i0 i1 i2:Int) (_:vs=[.ref p]) (_:DCls K C) (_:Mc P w K mg base C "is_exit" 1 (bS K)) (_:H p=some (.ins C dx fs)) (_:fs.lookup ("is_exit" :Str)=none) (_:fs.lookup ("name" :Str)=some (.str n)) (_:fs.lookup ("start" :Str)=some (.str s)) (_:fs.lookup ("end" :Str)=some e) (_:fs.lookup ("wide" :Str)=some (.int i0)) (_:fs.lookup ("every" :Str)=some (.int i1)) (_:fs.lookup ("since" :Str)=some (.int i2)) (_:aH n=true) (_:aH s=true) (_:bF e) (_:bO i0) (_:bO i1) (_:bO i2) (_:∀H',Same H H'->Q (.str (bJ "beat" n s e [i0,i1,i2])) H'):fP P w K mg base vs H Q E
theorem qL {H:Hp}{Q:VK}{E:XK}{p C dx:Addr}{fs:List (Str×V)}{n s:Str}{e:V}{i0 i1 i2:Int} (hp:H p=some (.ins C dx fs)) (dc:DCls K C) (mc:Mc P w K mg base C "is_exit" 1 (bS K)) (l0:fs.lookup ("is_exit" :Str)=none)
  (l1:fs.lookup ("name" :Str)=some (.str n))(l2:fs.lookup ("start" :Str)=some (.str s))(l3:fs.lookup ("end" :Str)=some e)(m0:fs.lookup ("wide" :Str)=some (.int i0))(m1:fs.lookup ("every" :Str)=some (.int i1))(m2:fs.lookup ("since" :Str)=some (.int i2))(hn:aH n=true)(hs:aH s=true)(he:bF e)(b0:bO i0)(b1:bO i1)(b2:bO i2)
  (k:∀H',Same H H'->Q (.str (bJ "beat" n s e [i0,i1,i2])) H'):fP P w K mg base [.ref p] H Q E:=⟨_,_,_,_,_,_,_,_,_,_,rfl,dc,mc,hp,l0,l1,l2,l3,m0,m1,m2,hn,hs,he,b0,b1,b2,k⟩
theorem xM (m:M w K mg):FnOk P w K mg base CX0 3 m.mY m.mP ["self"] (fP P w K mg base):=by
 refine m.BL.ok sc_Beat_words (fun vs H Q E h=> ?_) (fun cdv A outer s H vs Q E hr h=> ?_)
 ·walk_at"g1";obtain⟨p,C,dx,fs,n,st,e,i0,i1,i2,rfl,dc,mc,hp,l0,l1,l2,l3,m0,m1,m2,hn,hs,he,b0,b1,b2,k⟩:=h;walk_at"g2";rfl
 ·walk_at"g1";obtain⟨p,C,dx,fs,n,st,e,i0,i1,i2,rfl,dc,mc,hp,l0,l1,l2,l3,m0,m1,m2,hn,hs,he,b0,b1,b2,k⟩:=h;walk_at"g2";have nd:=sc_Beat_words.nd;have hu0:=Room.units0 hr;have hu9:=Room.units9 hr;have bR:= @eH P w K mg base m;refine⟨_,(aF (aK (bN bR hr (aA aI (aA (pv 0) (aA (b6 (aA (aW (pv 0) rfl) (aA (aW (pv 0) rfl) (aA (aW (pv 0) rfl) aB)))) aB)))))),?_⟩;refine aN (σ:=[some (.ref p)]) rfl ?_;walk_at"cx";walk_at"go";exact uH (ns:=[i0,i1,i2]) (by walk_at"hp") (SqL.of (by assumption)) dc mc l0 l1 l2 l3 (by rw[aJ];decide) hn hs he (by simp) (QT b0 b1 b2) (fun H2 s2=>k H2 (by walk_at"sm"))
theorem xR (m:M w K mg):Mc P w K mg base m.fZ "words" 3 (fP P w K mg base):=⟨_,_,_,m.jP.ic.cl,m.yK,m.BK,xM m⟩
local macro_rules| `(tactic| walk_at"rd1")=> `(tactic| ((with_reducible refine' qL ?e ?d ?m ?l0 ?l1 ?l2 ?l3 ?m0 ?m1 ?m2 ?hn ?hs ?he ?b0 ?b1 ?b2 ?_);(case e=>walk_at"hp");(case d=>assumption);(case m=>assumption);(case l0=>walk_at"lk");(case l1=>walk_at"lk");(case l2=>walk_at"lk");(case l3=>walk_at"lk");(case m0=>walk_at"lk");(case m1=>walk_at"lk");(case m2=>walk_at"lk");(case hn=>assumption);(case hs=>assumption);(case he=>assumption);(case b0=>exact⟨by omega,by omega⟩);(case b1=>exact⟨by omega,by omega⟩);(case b2=>exact⟨by omega,by omega⟩);intro H' S'))
local macro_rules| `(tactic| walk_at"rd1")=> `(tactic| first|(with_reducible refine HH ?_)|((with_reducible refine' F9 ?s ?_);(case s=>walk_at"sd"))|((with_reducible refine' rd_pow ?s ?r ?u ?_);(case s=>walk_at"sd");(case r=>walk_at"sd");(case u=>decide)))
abbrev pD (n s e w i0:V):List (Str×V):=b9 "bits" i0 (iQ n s e w)
inductive fF (K:PySem.W.Frag)(vs:List V)(H:Hp)(Q:VK)(E:XK):Prop
 | mk (p C dx:Addr) (n s:Str) (e:V) (wd i0:Int) (_:vs=[.ref p,.str n,.str s,e,.int wd,.int i0]) (_:DCls K C) (_:H p=some (.ins C dx [])) (_:aH n=true) (_:aH s=true) (_:bF e) (_:0<=wd) (_:0<=i0) (_:∀H',SameBut p H H'->H' p=some (.ins C dx (pD (.str n) (.str s) e (.int wd) (.int i0)))->Q .non H'):fF K vs H Q E
theorem xX {H:Hp}{Q:VK}{E:XK}{p C dx:Addr}{n s:Str}{e:V}{wd i0:Int} (dc:DCls K C) (hp:H p=some (.ins C dx [])) (hn:aH n=true) (hs:aH s=true) (he:bF e) (hw:0<=wd) (b0:0<=i0)
  (k:∀H',SameBut p H H'->H' p=some (.ins C dx (pD (.str n) (.str s) e (.int wd) (.int i0)))->Q .non H'):fF K [.ref p,.str n,.str s,e,.int wd,.int i0] H Q E:=⟨_,_,_,_,_,_,_,_,rfl,dc,hp,hn,hs,he,hw,b0,k⟩
theorem qD (m:M w K mg):FnOk P w K mg base CX0 4 m.iK m.iL ["self","name","start","end","wide","bits"] (fF K):=by
 refine m.rX.ok sc_Marked___init__ (fun vs H Q E h=> ?_) (fun cdv A outer s H vs Q E hr h=> ?_)
 ·walk_at"g1";obtain⟨p,C,dx,n,st,e,wd,i0,rfl,dc,hp,hn,hs,he,hw,b0,k⟩:=h;walk_at"g2";rfl
 ·walk_at"g1";obtain⟨p,C,dx,n,st,e,wd,i0,rfl,dc,hp,hn,hs,he,hw,b0,k⟩:=h;walk_at"g2";have nd:=sc_Marked___init__.nd;have hu0:=Room.units0 hr;have hu9:=Room.units9 hr;have D_Door___init__:= @eE P w K mg base m;have bH:= @dE P w K mg base m;refine⟨_,(aD (b3 (yS D_Door___init__ hr (aA (pv 0) (aA (pv 1) (aA (pv 2) (aA (pv 3) (aA (pv 4) aB)))))))
   (aD (b3 (bN bH hr (aA aI (aA (pv 5) (aA aC aB)))))
   (aF (eK (pv 0) (pv 5) rfl)))),?_⟩
  refine aN (σ:=[some (.ref p),some (.str n),some (.str st),some (e),some (.int wd),some (.int i0)]) rfl ?_;walk_at"cx";walk_at"go";exact k _ (by walk_at"sb") (by assumption)
theorem sD (m:M w K mg):Kc P w K mg base "Marked" m.dH 4 [] (fF K):=⟨_,_,_,_,m.K4,m.IQ,.nil,m.rW,qD m⟩
theorem E3 {H:Hp}{Q:VK}{E:XK}{C:Addr}{vs dvs:List V}{n s:Str}{e:V}{wd i0:Int} (ev:vs++dvs=[.str n,.str s,e,.int wd,.int i0]) (dc:DCls K C) (hn:aH n=true) (hs:aH s=true) (he:bF e) (hw:0<=wd) (b0:0<=i0)
  (k:∀p dx H',H p=none->Same H H'->H' p=some (.ins C dx (pD (.str n) (.str s) e (.int wd) (.int i0)))->Q (.ref p) H'):lU C (fF K) dvs E Q vs H :=
 iZ (fun p dx H0 Q' h k' s0=>by rw[ev];exact xX dc h hn hs he hw b0 k') k
local macro_rules| `(tactic| walk_at"rd1")=> `(tactic| ((with_reducible refine' E3 ?v ?d ?hn ?hs ?he ?hw ?b0 ?_);(case v=>rfl);(case d=>assumption);(case hn=>assumption);(case hs=>assumption);(case he=>first|assumption|exact .inl rfl|exact .inr ⟨_,rfl,by assumption⟩);(case hw=>walk_at"sd");(case b0=>walk_at"sd");intro p' dx' H' n' S' e'))
def oN (wd i0 t:Int):Int:=if i0/2^t.toNat%2=1 then wd else 0
inductive fD (K:PySem.W.Frag)(vs:List V)(H:Hp)(Q:VK)(E:XK):Prop
 | mk (p C dx:Addr) (fs:List (Str×V)) (t wd i0:Int) (_:vs=[.ref p,.int t]) (_:DCls K C) (_:H p=some (.ins C dx fs)) (_:fs.lookup ("wide" :Str)=some (.int wd)) (_:fs.lookup ("bits" :Str)=some (.int i0)) (_:0<=t) (_:0<=i0) (_:Q (.int (oN wd i0 t)) H):fD K vs H Q E
theorem pL {H:Hp}{Q:VK}{E:XK}{p C dx:Addr}{fs:List (Str×V)}{t wd i0:Int} (hp:H p=some (.ins C dx fs)) (dc:DCls K C) (l:fs.lookup ("wide" :Str)=some (.int wd)) (m0:fs.lookup ("bits" :Str)=some (.int i0)) (ht:0<=t) (b0:0<=i0) (k:Q (.int (oN wd i0 t)) H):fD K [.ref p,.int t] H Q E:=⟨_,_,_,_,_,_,_,rfl,dc,hp,l,m0,ht,b0,k⟩
theorem vS (m:M w K mg):FnOk P w K mg base CX0 1 m.lK m.lJ ["self","turn"] (fD K):=by
 refine m.yO.ok sc_Marked_lets (fun vs H Q E h=> ?_) (fun cdv A outer s H vs Q E hr h=> ?_)
 ·walk_at"g1";obtain⟨p,C,dx,fs,t,wd,i0,rfl,dc,hp,l,m0,ht,b0,k⟩:=h;walk_at"g2";rfl
 ·walk_at"g1";obtain⟨p,C,dx,fs,t,wd,i0,rfl,dc,hp,l,m0,ht,b0,k⟩:=h;walk_at"g2";have nd:=sc_Marked_lets.nd;have hu0:=Room.units0 hr;have hu9:=Room.units9 hr;refine⟨_,(aD (bL (aR tV (pv 1) (G0 PySem.F.plainAttrs_int PySem.F.slot_int_bit_length PySem.F.type_int_bit_length GA (aW (pv 0) rfl)) (aU _)) (aF (aK aC)) bA)
   (aF (aK (gS (aR cE (aG bT (aG OZ (aW (pv 0) rfl) (pv 1)) aC) aC (aU _)) (aW (pv 0) rfl) aC)))),?_⟩
  refine aN (σ:=[some (.ref p),some (.int t)]) rfl ?_;walk_at"cx";unfold oN at k;walk_at"go";refine bV (fun hw=> ?_) (fun hw=> ?_)
  ·walk_at"go";rw[if_neg (by rw[HN b0 hw];decide)]at k;exact k
  ·walk_at"go";refine bV (fun hv=> ?_) (fun hv=> ?_)
   ·walk_at"go";rw[if_pos hv]at k;exact k
   ·walk_at"go";rw[if_neg hv]at k;exact k
theorem vT (m:M w K mg):Mc P w K mg base m.dH "lets" 1 (fD K):=⟨_,_,_,m.fJ.ic.cl,m.wH,m.yG,vS m⟩
local macro_rules| `(tactic| walk_at"rd1")=> `(tactic| ((with_reducible refine' pL ?e ?d ?l ?m0 ?ht ?b0 ?_);(case e=>walk_at"hp");(case d=>assumption);(case l=>walk_at"lk");(case m0=>walk_at"lk");(case ht=>walk_at"sd");(case b0=>walk_at"sd")))
inductive eI (P:Program)(w:World)(K:PySem.W.Frag)(mg:Str->Option Value)(base:Heap)(vs:List V)(H:Hp)(Q:VK)(E:XK):Prop
 | mk (p C dx:Addr) (fs:List (Str×V)) (n s:Str) (e:V) (i0 i1:Int) (_:vs=[.ref p]) (_:DCls K C) (_:Mc P w K mg base C "is_exit" 1 (bS K)) (_:H p=some (.ins C dx fs)) (_:fs.lookup ("is_exit" :Str)=none) (_:fs.lookup ("name" :Str)=some (.str n)) (_:fs.lookup ("start" :Str)=some (.str s)) (_:fs.lookup ("end" :Str)=some e) (_:fs.lookup ("wide" :Str)=some (.int i0)) (_:fs.lookup ("bits" :Str)=some (.int i1)) (_:aH n=true) (_:aH s=true) (_:bF e) (_:bO i0) (_:bO i1) (_:∀H',Same H H'->Q (.str (bJ "marked" n s e [i0,i1])) H'):eI P w K mg base vs H Q E
theorem oF {H:Hp}{Q:VK}{E:XK}{p C dx:Addr}{fs:List (Str×V)}{n s:Str}{e:V}{i0 i1:Int} (hp:H p=some (.ins C dx fs)) (dc:DCls K C) (mc:Mc P w K mg base C "is_exit" 1 (bS K)) (l0:fs.lookup ("is_exit" :Str)=none)
  (l1:fs.lookup ("name" :Str)=some (.str n))(l2:fs.lookup ("start" :Str)=some (.str s))(l3:fs.lookup ("end" :Str)=some e)(m0:fs.lookup ("wide" :Str)=some (.int i0))(m1:fs.lookup ("bits" :Str)=some (.int i1))(hn:aH n=true)(hs:aH s=true)(he:bF e)(b0:bO i0)(b1:bO i1)
  (k:∀H',Same H H'->Q (.str (bJ "marked" n s e [i0,i1])) H'):eI P w K mg base [.ref p] H Q E:=⟨_,_,_,_,_,_,_,_,_,rfl,dc,mc,hp,l0,l1,l2,l3,m0,m1,hn,hs,he,b0,b1,k⟩
theorem uM (m:M w K mg):FnOk P w K mg base CX0 3 m.kR m.kP ["self"] (eI P w K mg base):=by
 refine m.wD.ok sc_Marked_words (fun vs H Q E h=> ?_) (fun cdv A outer s H vs Q E hr h=> ?_)
 ·walk_at"g1";obtain⟨p,C,dx,fs,n,st,e,i0,i1,rfl,dc,mc,hp,l0,l1,l2,l3,m0,m1,hn,hs,he,b0,b1,k⟩:=h;walk_at"g2";rfl
 ·walk_at"g1";obtain⟨p,C,dx,fs,n,st,e,i0,i1,rfl,dc,mc,hp,l0,l1,l2,l3,m0,m1,hn,hs,he,b0,b1,k⟩:=h;walk_at"g2";have nd:=sc_Marked_words.nd;have hu0:=Room.units0 hr;have hu9:=Room.units9 hr;have bR:= @eH P w K mg base m;refine⟨_,(aF (aK (bN bR hr (aA aI (aA (pv 0) (aA (b6 (aA (aW (pv 0) rfl) (aA (aW (pv 0) rfl) aB))) aB)))))),?_⟩;refine aN (σ:=[some (.ref p)]) rfl ?_;walk_at"cx";walk_at"go";exact uH (ns:=[i0,i1]) (by walk_at"hp") (SqL.of (by assumption)) dc mc l0 l1 l2 l3 (by rw[aJ];decide) hn hs he (by simp) (vN b0 b1) (fun H2 s2=>k H2 (by walk_at"sm"))
theorem uQ (m:M w K mg):Mc P w K mg base m.dH "words" 3 (eI P w K mg base):=⟨_,_,_,m.fJ.ic.cl,m.vA,m.wF,uM m⟩
local macro_rules| `(tactic| walk_at"rd1")=> `(tactic| ((with_reducible refine' oF ?e ?d ?m ?l0 ?l1 ?l2 ?l3 ?m0 ?m1 ?hn ?hs ?he ?b0 ?b1 ?_);(case e=>walk_at"hp");(case d=>assumption);(case m=>assumption);(case l0=>walk_at"lk");(case l1=>walk_at"lk");(case l2=>walk_at"lk");(case l3=>walk_at"lk");(case m0=>walk_at"lk");(case m1=>walk_at"lk");(case hn=>assumption);(case hs=>assumption);(case he=>assumption);(case b0=>exact⟨by omega,by omega⟩);(case b1=>exact⟨by omega,by omega⟩);intro H' S'))
local macro_rules| `(tactic| walk_at"rd1")=> `(tactic| ((with_reducible refine' nI ?d ?e ?hn ?hs ?he ?hw ?_);(case e=>walk_at"hp");(case d=>assumption);(case hn=>assumption);(case hs=>assumption);(case he=>assumption);(case hw=>walk_at"sd");intro H' B' e'))
abbrev uV (q n s e a:V):List (Str×V):=b9 "turn" a (b9 "inner" q (iQ n s e (.int 1)))
inductive hE (K:PySem.W.Frag)(vs:List V)(H:Hp)(Q:VK)(E:XK):Prop
 | mk (p q C dx D dxq:Addr) (fsq:List (Str×V)) (n s:Str) (e:V) (a:Int) (_:vs=[.ref p,.ref q,.int a]) (_:DCls K C) (_:DCls K D) (_:H p=some (.ins C dx [])) (_:H q=some (.ins D dxq fsq)) (_:fsq.lookup ("name" :Str)=some (.str n)) (_:fsq.lookup ("start" :Str)=some (.str s)) (_:fsq.lookup ("end" :Str)=some e) (_:aH n=true) (_:aH s=true) (_:bF e) (_:0<=a) (_:∀H',SameBut p H H'->H' p=some (.ins C dx (uV (.ref q) (.str n) (.str s) e (.int a)))->Q .non H'):hE K vs H Q E
theorem CI {H:Hp}{Q:VK}{E:XK}{p q C dx D dxq:Addr}{fsq:List (Str×V)}{n s:Str}{e:V}{a:Int} (dc:DCls K C) (dd:DCls K D) (hp:H p=some (.ins C dx [])) (hq:H q=some (.ins D dxq fsq)) (l1:fsq.lookup ("name" :Str)=some (.str n)) (l2:fsq.lookup ("start" :Str)=some (.str s)) (l3:fsq.lookup ("end" :Str)=some e) (hn:aH n=true) (hs:aH s=true) (he:bF e) (ha:0<=a)
  (k:∀H',SameBut p H H'->H' p=some (.ins C dx (uV (.ref q) (.str n) (.str s) e (.int a)))->Q .non H'):hE K [.ref p,.ref q,.int a] H Q E:=⟨_,_,_,_,_,_,_,_,_,_,_,rfl,dc,dd,hp,hq,l1,l2,l3,hn,hs,he,ha,k⟩
theorem sS (m:M w K mg):FnOk P w K mg base CX0 4 m.j8 m.j9 ["self","door","turn"] (hE K):=by
 refine m.u9.ok sc_Shut___init__ (fun vs H Q E h=> ?_) (fun cdv A outer s H vs Q E hr h=> ?_)
 ·walk_at"g1";obtain⟨p,q,C,dx,D,dxq,fsq,n,st,e,a,rfl,dc,dd,hp,hq,l1,l2,l3,hn,hs,he,ha,k⟩:=h;walk_at"g2";rfl
 ·walk_at"g1";obtain⟨p,q,C,dx,D,dxq,fsq,n,st,e,a,rfl,dc,dd,hp,hq,l1,l2,l3,hn,hs,he,ha,k⟩:=h;walk_at"g2";have nd:=sc_Shut___init__.nd;have hu0:=Room.units0 hr;have hu9:=Room.units9 hr;have bH:= @dE P w K mg base m;have DD_Door___init___1:=iS (P:=P) (w:=w) (base:=base) m;refine⟨_,(aD (b3 (GT DD_Door___init___1 hr (aA (pv 0) (aA (aW (pv 1) rfl) (aA (aW (pv 1) rfl) (aA (aW (pv 1) rfl) aB))))))
   (aD (b3 (bN bH hr (aA aI (aA (pv 2) (aA aC aB)))))
   (aD (eK (pv 0) (pv 1) rfl)
   (aF (eK (pv 0) (pv 2) rfl))))),?_⟩
  refine aN (σ:=[some (.ref p),some (.ref q),some (.int a)]) rfl ?_;walk_at"cx";walk_at"go";refine zD ?_;walk_at"go";show cP K [.ref p,.str n,.str st,e,.int 1] _ _ _;walk_at"go";exact k _ (by walk_at"sb") (by assumption)
theorem wX (m:M w K mg):Kc P w K mg base "Shut" m.fI 4 [] (hE K):=⟨_,_,_,_,m.SO,m.OT,.nil,m.vH,sS m⟩
theorem zO {H:Hp}{Q:VK}{E:XK}{C q D dxq:Addr}{fsq:List (Str×V)}{vs dvs:List V}{n s:Str}{e:V}{a:Int} (ev:vs++dvs=[.ref q,.int a]) (dc:DCls K C) (dd:DCls K D) (hq:H q=some (.ins D dxq fsq)) (l1:fsq.lookup ("name" :Str)=some (.str n)) (l2:fsq.lookup ("start" :Str)=some (.str s)) (l3:fsq.lookup ("end" :Str)=some e) (hn:aH n=true) (hs:aH s=true) (he:bF e) (ha:0<=a)
  (k:∀p dx H',H p=none->Same H H'->H' p=some (.ins C dx (uV (.ref q) (.str n) (.str s) e (.int a)))->Q (.ref p) H'):lU C (hE K) dvs E Q vs H :=
 iZ (fun p dx H0 Q' h k' s0=>by rw[ev];exact CI dc dd h (s0 _ _ hq) l1 l2 l3 hn hs he ha k') k
inductive gZ (P:Program)(w:World)(K:PySem.W.Frag)(mg:Str->Option Value)(base:Heap)(n:Nat)(vs:List V)(H:Hp)(Q:VK)(E:XK):Prop
 | mk (p C dx:Addr) (fs:List (Str×V)) (q D dxq:Addr) (fsq:List (Str×V)) (t a i:Int) (sp:Sp) (_:vs=[.ref p,.int t]) (_:DCls K C) (_:H p=some (.ins C dx fs)) (_:fs.lookup ("inner" :Str)=some (.ref q)) (_:fs.lookup ("turn" :Str)=some (.int a)) (_:H q=some (.ins D dxq fsq)) (_:fsq.lookup ("lets" :Str)=none) (_:Mc P w K mg base D "lets" n sp) (_:(∀Q':VK,Q' (.int i) H->sp [.ref q,.int t] H Q' E0)) (_:Q (.int (if t<a then i else 0)) H):gZ P w K mg base n vs H Q E
theorem CH {n:Nat}{H:Hp}{Q:VK}{E:XK}{p C dx:Addr}{fs:List (Str×V)}{q D dxq:Addr}{fsq:List (Str×V)}{t a i:Int}{sp:Sp} (dc:DCls K C) (hp:H p=some (.ins C dx fs)) (l1:fs.lookup ("inner" :Str)=some (.ref q)) (l2:fs.lookup ("turn" :Str)=some (.int a)) (hq:H q=some (.ins D dxq fsq)) (l3:fsq.lookup ("lets" :Str)=none)
  (mc:Mc P w K mg base D "lets" n sp)(hs:∀Q':VK,Q' (.int i) H->sp [.ref q,.int t] H Q' E0)(k:Q (.int (if t<a then i else 0)) H):gZ P w K mg base n [.ref p,.int t] H Q E:=⟨_,_,_,_,_,_,_,_,_,_,_,_,rfl,dc,hp,l1,l2,hq,l3,mc,hs,k⟩
theorem zN (m:M w K mg)(n:Nat):FnOk P w K mg base CX0 (n+1) m.nY m.nU ["self","turn"] (gZ P w K mg base n):=by
 refine m.CL.ok sc_Shut_lets (fun vs H Q E h=> ?_) (fun cdv A outer s H vs Q E hr h=> ?_)
 ·walk_at"g1";obtain⟨p,C,dx,fs,q,D,dxq,fsq,t,a,i,sp,rfl,dc,hp,l1,l2,hq,l3,mc,hs,k⟩:=h;walk_at"g2";rfl
 ·walk_at"g1";obtain⟨p,C,dx,fs,q,D,dxq,fsq,t,a,i,sp,rfl,dc,hp,l1,l2,hq,l3,mc,hs,k⟩:=h;walk_at"g2";have nd:=sc_Shut_lets.nd;have hu0:=Room.units0 hr;have hu9:=Room.units9 hr;refine⟨_,(aF (aK (gS (aR tT (pv 1) (aW (pv 0) rfl) (aU _)) (EM n hr (aW (pv 0) rfl) (aA (pv 1) aB) (Nat.le_refl _)) aC))),?_⟩;refine aN (σ:=[some (.ref p),some (.int t)]) rfl ?_;walk_at"cx";walk_at"go";refine bV (fun h1=> ?_) (fun h1=> ?_)
  ·walk_at"go";refine hs _ ?_;rw[if_pos h1]at k;exact k
  ·walk_at"go";rw[if_neg h1]at k;exact k
theorem zQ (m:M w K mg)(n:Nat):Mc P w K mg base m.fI "lets" (n+1) (gZ P w K mg base n):=⟨_,_,_,m.jQ.ic.cl,m.BT,m.CO,zN m n⟩
inductive iY (P:Program)(w:World)(base:Heap)(m:M w K mg)(n:Nat)(vs:List V)(H:Hp)(Q:VK)(E:XK):Prop
 | mk (p C dx:Addr) (fs:List (Str×V)) (q D dxq:Addr) (fsq:List (Str×V)) (a:Int) (W:Option Str) (sp:Sp) (_:vs=[.ref p]) (_:DCls K C) (_:H p=some (.ins C dx fs)) (_:fs.lookup ("inner" :Str)=some (.ref q)) (_:fs.lookup ("turn" :Str)=some (.int a)) (_:H q=some (.ins D dxq fsq)) (_:fsq.lookup ("words" :Str)=none) (_:McE P w K mg base D "words" n sp) (_:bO a) (_:(∀z,W=some z->z.length<=5000)) (_:(∀(Q':VK) (E':XK),(∀z H2,W=some z->Same H H2->Q' (.str z) H2)->(∀H2,W=none->Same H H2->E' (.ref m.aV) none H2)->sp [.ref q] H Q' E')) (_:(∀z H',W=some z->Same H H'->Q (.str (Txt.join " " ["shut",aY a,z])) H')) (_:(∀H',W=none->Same H H'->E (.ref m.aV) none H')):iY P w base m n vs H Q E
theorem x9 (m:M w K mg)(n:Nat):FnOk P w K mg base (CXE P w) (n+1) m.mU m.mF ["self"] (iY P w base m n):=by
 refine m.BZ.okE sc_Shut_words (fun vs H Q E h=> ?_) (fun cdv A outer s H vs Q E hr h=> ?_)
 ·walk_at"g1";obtain⟨p,C,dx,fs,q,D,dxq,fsq,a,W,sp,rfl,dc,hp,l1,l2,hq,l3,mc,b,hW,hs,k,k2⟩:=h;walk_at"g2";rfl
 ·walk_at"g1";obtain⟨p,C,dx,fs,q,D,dxq,fsq,a,W,sp,rfl,dc,hp,l1,l2,hq,l3,mc,b,hW,hs,k,k2⟩:=h;walk_at"g2";have nd:=sc_Shut_words.nd;have hu0:=Room.units0 hr;have hu9:=Room.units9 hr;refine⟨_,(aF (aK (j4 PySem.F.plainAttrs_str PySem.F.slot_str_join PySem.F.type_str_join kF aI (aA (b6 (aA aI (aA (bW lB rfl m.eM c8 (aA (aW (pv 0) rfl) aB)) (aA (rK n hr lX (aW (pv 0) rfl) (Nat.le_refl _)) aB)))) aB)))),?_⟩;refine aN (σ:=[some (.ref p)]) rfl ?_;walk_at"cx";obtain⟨b00,b01⟩:=b;walk_at"go";refine u8 ?_;walk_at"go";refine rA (by walk_at"hp") l3 mc ?_;walk_at"go";refine hs _ _ (fun z H2 hz s2=> ?_) (fun H2 hz s2=>k2 H2 hz s2);have hz':=hW z hz;walk_at"go";refine kG (ys:=["shut",aY a,z]) (SqL.of (by assumption)) ?_ ?_
  ·simp only[List.map_cons,List.map_nil,List.sum_cons,List.sum_nil,List.length_cons,List.length_nil];walk_at"sz"
  ·exact k z _ hz (by walk_at"sm")
theorem xW (m:M w K mg)(n:Nat):McE P w K mg base m.fI "words" (n+1) (iY P w base m n):=⟨_,_,_,m.jQ.ic.cl,m.yC,m.BC,x9 m n⟩
abbrev q9 (q n s e a i0:V):List (Str×V):=b9 "more" i0 (b9 "turn" a (b9 "inner" q (iQ n s e (.int 1))))
inductive fQ (K:PySem.W.Frag)(vs:List V)(H:Hp)(Q:VK)(E:XK):Prop
 | mk (p q C dx D dxq:Addr) (fsq:List (Str×V)) (n s:Str) (e:V) (a i0:Int) (_:vs=[.ref p,.ref q,.int a,.int i0]) (_:DCls K C) (_:DCls K D) (_:H p=some (.ins C dx [])) (_:H q=some (.ins D dxq fsq)) (_:fsq.lookup ("name" :Str)=some (.str n)) (_:fsq.lookup ("start" :Str)=some (.str s)) (_:fsq.lookup ("end" :Str)=some e) (_:aH n=true) (_:aH s=true) (_:bF e) (_:0<=a) (_:0<=i0) (_:∀H',SameBut p H H'->H' p=some (.ins C dx (q9 (.ref q) (.str n) (.str s) e (.int a) (.int i0)))->Q .non H'):fQ K vs H Q E
theorem y7 {H:Hp}{Q:VK}{E:XK}{p q C dx D dxq:Addr}{fsq:List (Str×V)}{n s:Str}{e:V}{a i0:Int} (dc:DCls K C) (dd:DCls K D) (hp:H p=some (.ins C dx [])) (hq:H q=some (.ins D dxq fsq)) (l1:fsq.lookup ("name" :Str)=some (.str n)) (l2:fsq.lookup ("start" :Str)=some (.str s)) (l3:fsq.lookup ("end" :Str)=some e) (hn:aH n=true) (hs:aH s=true) (he:bF e) (ha:0<=a) (b0:0<=i0)
  (k:∀H',SameBut p H H'->H' p=some (.ins C dx (q9 (.ref q) (.str n) (.str s) e (.int a) (.int i0)))->Q .non H'):fQ K [.ref p,.ref q,.int a,.int i0] H Q E:=⟨_,_,_,_,_,_,_,_,_,_,_,_,rfl,dc,dd,hp,hq,l1,l2,l3,hn,hs,he,ha,b0,k⟩
theorem rS (m:M w K mg):FnOk P w K mg base CX0 4 m.jE m.jC ["self","door","turn","more"] (fQ K):=by
 refine m.tN.ok sc_Wider___init__ (fun vs H Q E h=> ?_) (fun cdv A outer s H vs Q E hr h=> ?_)
 ·walk_at"g1";obtain⟨p,q,C,dx,D,dxq,fsq,n,st,e,a,i0,rfl,dc,dd,hp,hq,l1,l2,l3,hn,hs,he,ha,b0,k⟩:=h;walk_at"g2";rfl
 ·walk_at"g1";obtain⟨p,q,C,dx,D,dxq,fsq,n,st,e,a,i0,rfl,dc,dd,hp,hq,l1,l2,l3,hn,hs,he,ha,b0,k⟩:=h;walk_at"g2";have nd:=sc_Wider___init__.nd;have hu0:=Room.units0 hr;have hu9:=Room.units9 hr;have bH:= @dE P w K mg base m;have DD_Door___init___1:=iS (P:=P) (w:=w) (base:=base) m;refine⟨_,(aD (b3 (GT DD_Door___init___1 hr (aA (pv 0) (aA (aW (pv 1) rfl) (aA (aW (pv 1) rfl) (aA (aW (pv 1) rfl) aB))))))
   (aD (b3 (bN bH hr (aA aI (aA (pv 2) (aA aC aB)))))
   (aD (b3 (bN bH hr (aA aI (aA (pv 3) (aA aC aB)))))
   (aD (eK (pv 0) (pv 1) rfl)
   (aD (eK (pv 0) (pv 2) rfl)
   (aF (eK (pv 0) (pv 3) rfl))))))),?_⟩
  refine aN (σ:=[some (.ref p),some (.ref q),some (.int a),some (.int i0)]) rfl ?_;walk_at"cx";walk_at"go";refine zD ?_;walk_at"go";show cP K [.ref p,.str n,.str st,e,.int 1] _ _ _;walk_at"go";exact k _ (by walk_at"sb") (by assumption)
theorem tR (m:M w K mg):Kc P w K mg base "Wider" m.dR 4 [] (fQ K):=⟨_,_,_,_,m.OP,m.KZ,.nil,m.tL,rS m⟩
theorem w4 {H:Hp}{Q:VK}{E:XK}{C q D dxq:Addr}{fsq:List (Str×V)}{vs dvs:List V}{n s:Str}{e:V}{a i0:Int} (ev:vs++dvs=[.ref q,.int a,.int i0]) (dc:DCls K C) (dd:DCls K D) (hq:H q=some (.ins D dxq fsq)) (l1:fsq.lookup ("name" :Str)=some (.str n)) (l2:fsq.lookup ("start" :Str)=some (.str s)) (l3:fsq.lookup ("end" :Str)=some e) (hn:aH n=true) (hs:aH s=true) (he:bF e) (ha:0<=a) (b0:0<=i0)
  (k:∀p dx H',H p=none->Same H H'->H' p=some (.ins C dx (q9 (.ref q) (.str n) (.str s) e (.int a) (.int i0)))->Q (.ref p) H'):lU C (fQ K) dvs E Q vs H :=
 iZ (fun p dx H0 Q' h k' s0=>by rw[ev];exact y7 dc dd h (s0 _ _ hq) l1 l2 l3 hn hs he ha b0 k') k
inductive fX (P:Program)(w:World)(K:PySem.W.Frag)(mg:Str->Option Value)(base:Heap)(n:Nat)(vs:List V)(H:Hp)(Q:VK)(E:XK):Prop
 | mk (p C dx:Addr) (fs:List (Str×V)) (q D dxq:Addr) (fsq:List (Str×V)) (t a i i0:Int) (sp:Sp) (_:vs=[.ref p,.int t]) (_:DCls K C) (_:H p=some (.ins C dx fs)) (_:fs.lookup ("inner" :Str)=some (.ref q)) (_:fs.lookup ("turn" :Str)=some (.int a)) (_:fs.lookup ("more" :Str)=some (.int i0)) (_:H q=some (.ins D dxq fsq)) (_:fsq.lookup ("lets" :Str)=none) (_:Mc P w K mg base D "lets" n sp) (_:(∀Q':VK,Q' (.int i) H->sp [.ref q,.int t] H Q' E0)) (_:Q (.int (if a<=t/\0<i then i+i0 else i)) H):fX P w K mg base n vs H Q E
theorem zW {n:Nat}{H:Hp}{Q:VK}{E:XK}{p C dx:Addr}{fs:List (Str×V)}{q D dxq:Addr}{fsq:List (Str×V)}{t a i i0:Int}{sp:Sp} (dc:DCls K C) (hp:H p=some (.ins C dx fs)) (l1:fs.lookup ("inner" :Str)=some (.ref q)) (l2:fs.lookup ("turn" :Str)=some (.int a)) (m0:fs.lookup ("more" :Str)=some (.int i0)) (hq:H q=some (.ins D dxq fsq)) (l3:fsq.lookup ("lets" :Str)=none)
  (mc:Mc P w K mg base D "lets" n sp)(hs:∀Q':VK,Q' (.int i) H->sp [.ref q,.int t] H Q' E0)(k:Q (.int (if a<=t/\0<i then i+i0 else i)) H):fX P w K mg base n [.ref p,.int t] H Q E:=⟨_,_,_,_,_,_,_,_,_,_,_,_,_,rfl,dc,hp,l1,l2,m0,hq,l3,mc,hs,k⟩
theorem xO (m:M w K mg)(n:Nat):FnOk P w K mg base CX0 (n+1) m.mX m.mI ["self","turn"] (fX P w K mg base n):=by
 refine m.BO.ok sc_Wider_lets (fun vs H Q E h=> ?_) (fun cdv A outer s H vs Q E hr h=> ?_)
 ·walk_at"g1";obtain⟨p,C,dx,fs,q,D,dxq,fsq,t,a,i,i0,sp,rfl,dc,hp,l1,l2,m0,hq,l3,mc,hs,k⟩:=h;walk_at"g2";rfl
 ·walk_at"g1";obtain⟨p,C,dx,fs,q,D,dxq,fsq,t,a,i,i0,sp,rfl,dc,hp,l1,l2,m0,hq,l3,mc,hs,k⟩:=h;walk_at"g2";have nd:=sc_Wider_lets.nd;have hu0:=Room.units0 hr;have hu9:=Room.units9 hr;refine⟨_,(aD (bB (i:=2) nd rfl (by walk_at"oi") (EM n hr (aW (pv 0) rfl) (aA (pv 1) aB) (Nat.le_refl _)))
   (aF (aK (gS (PW.pt (AN (aR tV (pv 1) (aW (pv 0) rfl) (aU _)) (vR (aR SZ (pv 2) aC (aU _))))) (aG jU (pv 2) (aW (pv 0) rfl)) (pv 2))))),?_⟩
  refine aN (σ:=[some (.ref p),some (.int t),none]) rfl ?_;walk_at"cx";walk_at"go";refine hs _ ?_;walk_at"go";refine bV (fun h1=> ?_) (fun h1=> ?_)
  ·walk_at"go";refine bV (fun h2=> ?_) (fun h2=> ?_)
   ·walk_at"go";rw[if_pos ⟨h1,h2⟩]at k;exact k
   ·walk_at"go";rw[if_neg (fun z=>h2 z.2)]at k;exact k
  ·walk_at"go";rw[if_neg (fun z=>h1 z.1)]at k;exact k
theorem xI (m:M w K mg)(n:Nat):Mc P w K mg base m.dR "lets" (n+1) (fX P w K mg base n):=⟨_,_,_,m.hV.ic.cl,m.yE,m.BR,xO m n⟩
inductive iG (P:Program)(w:World)(base:Heap)(m:M w K mg)(n:Nat)(vs:List V)(H:Hp)(Q:VK)(E:XK):Prop
 | mk (p C dx:Addr) (fs:List (Str×V)) (q D dxq:Addr) (fsq:List (Str×V)) (a i0:Int) (W:Option Str) (sp:Sp) (_:vs=[.ref p]) (_:DCls K C) (_:H p=some (.ins C dx fs)) (_:fs.lookup ("inner" :Str)=some (.ref q)) (_:fs.lookup ("turn" :Str)=some (.int a)) (_:fs.lookup ("more" :Str)=some (.int i0)) (_:H q=some (.ins D dxq fsq)) (_:fsq.lookup ("words" :Str)=none) (_:McE P w K mg base D "words" n sp) (_:bO a) (_:bO i0) (_:(∀z,W=some z->z.length<=5000)) (_:(∀(Q':VK) (E':XK),(∀z H2,W=some z->Same H H2->Q' (.str z) H2)->(∀H2,W=none->Same H H2->E' (.ref m.aV) none H2)->sp [.ref q] H Q' E')) (_:(∀z H',W=some z->Same H H'->Q (.str (Txt.join " " ["wider",aY a,aY i0,z])) H')) (_:(∀H',W=none->Same H H'->E (.ref m.aV) none H')):iG P w base m n vs H Q E
theorem vV (m:M w K mg)(n:Nat):FnOk P w K mg base (CXE P w) (n+1) m.lM m.lQ ["self"] (iG P w base m n):=by
 refine m.yD.okE sc_Wider_words (fun vs H Q E h=> ?_) (fun cdv A outer s H vs Q E hr h=> ?_)
 ·walk_at"g1";obtain⟨p,C,dx,fs,q,D,dxq,fsq,a,i0,W,sp,rfl,dc,hp,l1,l2,m0,hq,l3,mc,b,b0,hW,hs,k,k2⟩:=h;walk_at"g2";rfl
 ·walk_at"g1";obtain⟨p,C,dx,fs,q,D,dxq,fsq,a,i0,W,sp,rfl,dc,hp,l1,l2,m0,hq,l3,mc,b,b0,hW,hs,k,k2⟩:=h;walk_at"g2";have nd:=sc_Wider_words.nd;have hu0:=Room.units0 hr;have hu9:=Room.units9 hr;refine⟨_,(aF (aK (j4 PySem.F.plainAttrs_str PySem.F.slot_str_join PySem.F.type_str_join kF aI (aA (b6 (aA aI (aA (bW lB rfl m.eM c8 (aA (aW (pv 0) rfl) aB)) (aA (bW lB rfl m.eM c8 (aA (aW (pv 0) rfl) aB)) (aA (rK n hr lX (aW (pv 0) rfl) (Nat.le_refl _)) aB))))) aB)))),?_⟩;refine aN (σ:=[some (.ref p)]) rfl ?_;walk_at"cx";obtain⟨b00,b01⟩:=b;obtain⟨b00,b01⟩:=b0;walk_at"go";refine u8 ?_;walk_at"go";refine rA (by walk_at"hp") l3 mc ?_;walk_at"go";refine hs _ _ (fun z H2 hz s2=> ?_) (fun H2 hz s2=>k2 H2 hz s2);have hz':=hW z hz;walk_at"go";refine kG (ys:=["wider",aY a,aY i0,z]) (SqL.of (by assumption)) ?_ ?_
  ·simp only[List.map_cons,List.map_nil,List.sum_cons,List.sum_nil,List.length_cons,List.length_nil];walk_at"sz"
  ·exact k z _ hz (by walk_at"sm")
theorem vL (m:M w K mg)(n:Nat):McE P w K mg base m.dR "words" (n+1) (iG P w base m n):=⟨_,_,_,m.hV.ic.cl,m.wM,m.yP,vV m n⟩
theorem Mc.mono {C:Addr}{nm:Str}{j k:Nat}{sp:Sp} (F:Mc P w K mg base C nm j sp) (h:j<=k):Mc P w K mg base C nm k sp:=by
 walk_at"g1";obtain⟨f,fd,ps,h1,h2,h3,h4⟩:=F.ex;walk_at"g2";exact⟨f,fd,ps,h1,h2,h3,h4.mono h⟩
theorem McE.mono {C:Addr}{nm:Str}{j k:Nat}{sp:Sp} (F:McE P w K mg base C nm j sp) (h:j<=k):McE P w K mg base C nm k sp:=by
 walk_at"g1";obtain⟨f,fd,ps,h1,h2,h3,h4⟩:=F.ex;walk_at"g2";exact⟨f,fd,ps,h1,h2,h3,h4.mono h⟩
theorem Mc.toE {C:Addr}{nm:Str}{k:Nat}{sp:Sp} (F:Mc P w K mg base C nm k sp):McE P w K mg base C nm k (fun vs H Q _=>sp vs H Q E0):=by
 walk_at"g1";obtain⟨f,fd,ps,h1,h2,h3,h4⟩:=F.ex;walk_at"g2";exact⟨f,fd,ps,h1,h2,h3,h4.toX⟩
structure DoorAt (P:Program)(w:World)(base:Heap)(m:M w K mg)(n:Nat)(H:Hp)(p:Addr)(nm st:Str)(e:V)(L:Int->Int)(W:Option Str):Prop where
 ex:∃(C dx:Addr) (fs:List (Str×V)) (spl spw:Sp),H p=some (.ins C dx fs)/\DCls K C/\fs.lookup ("name" :Str)=some (.str nm)/\fs.lookup ("start" :Str)=some (.str st)/\fs.lookup ("end" :Str)=some e ∧
  fs.lookup ("lets" :Str)=none/\fs.lookup ("words" :Str)=none/\fs.lookup ("is_exit" :Str)=none/\Mc P w K mg base C "lets" n spl/\McE P w K mg base C "words" n spw/\Mc P w K mg base C "is_exit" 1 (bS K) ∧
  (∀(H':Hp) (t:Int) (Q:VK),Same H H'->0<=t->t<1000000000000->Q (.int (L t)) H'->spl [.ref p,.int t] H' Q E0) ∧
  (∀(H':Hp) (Q:VK) (E:XK),Same H H'->(∀z H2,W=some z->Same H' H2->Q (.str z) H2)->(∀H2,W=none->Same H' H2->E (.ref m.aV) none H2)->spw [.ref p] H' Q E) ∧
  (∀z,W=some z->z.length<=200 * n)
theorem DoorAt.same {m:M w K mg}{n:Nat}{H H':Hp}{p:Addr}{nm st:Str}{e:V}{L:Int->Int}{W:Option Str} (x:DoorAt P w base m n H p nm st e L W) (s:Same H H'):DoorAt P w base m n H' p nm st e L W:=by
 walk_at"g1";obtain⟨C,dx,fs,spl,spw,h1,h2,h3,h4,h5,h6,h7,h8,h9,h10,h11,h16,h17,h18⟩:=x.ex;walk_at"g2";exact⟨C,dx,fs,spl,spw,s _ _ h1,h2,h3,h4,h5,h6,h7,h8,h9,h10,h11,(fun H2 t Q s2=>h16 H2 t Q (s.trans s2)),(fun H2 Q E s2=>h17 H2 Q E (s.trans s2)),h18⟩
theorem DoorAt.mono {m:M w K mg}{n k:Nat}{H:Hp}{p:Addr}{nm st:Str}{e:V}{L:Int->Int}{W:Option Str} (x:DoorAt P w base m n H p nm st e L W) (h:n<=k):DoorAt P w base m k H p nm st e L W:=by
 walk_at"g1";obtain⟨C,dx,fs,spl,spw,h1,h2,h3,h4,h5,h6,h7,h8,h9,h10,h11,h16,h17,h18⟩:=x.ex;walk_at"g2";exact⟨C,dx,fs,spl,spw,h1,h2,h3,h4,h5,h6,h7,h8,Mc.mono h9 h,McE.mono h10 h,h11,h16,h17,fun z e=>Nat.le_trans (h18 z e) (by lia)⟩
theorem pE (z:Str):∀(x:Str) (ys:List Str),(Txt.join z (x::ys)).length<=((x::ys).map (·.length)).sum+(x::ys).length * z.length
 | x,[]=>by rw[JN];simp
 | x,y::r=>by
  have h:=pE z y r;rw[HK,bI,bI];simp only[List.map_cons,List.sum_cons,List.length_cons,Nat.add_mul,Nat.one_mul]at *
  lia
theorem jT {kind n s:Str}{e:V}{ns:List Int} (h1:kind.length<=8) (h2:aH n=true) (h3:aH s=true) (he:bF e) (h5:ns.length<=3) (hb:∀i∈ns,bO i):(bJ kind n s e ns).length<=200 * 4:=by
 have h2':=c9 h2;have h3':=c9 h3;have h4:(fL e).length<=8:=by
  rcases he with rfl|⟨z,rfl,hz⟩
  ·show ("-" :Str).length<=8;rw[aJ];decide
  ·exact c9 hz
 have e1:=pE " " kind ([n,s,fL e]++ns.map aY);have e0:=jR 40 ([kind,n,s,fL e]++ns.map aY) fun y hy=>by
  rcases List.mem_append.mp hy with h|h
  ·simp only[List.mem_cons,List.not_mem_nil,or_false]at h;rcases h with rfl|rfl|rfl|rfl<;>lia
  ·obtain⟨i,hi,rfl⟩:=List.mem_map.mp h;exact kH (hb i hi).1 (hb i hi).2
 have e2:([kind,n,s,fL e]++ns.map aY).length<=7:=by simp;lia
 have e3:(" " :Str).length=1:=by rw[aJ];rfl
 rw[e3]at e1;have e4:kind::([n,s,fL e]++ns.map aY)=[kind,n,s,fL e]++ns.map aY:=rfl;rw[e4]at e1;unfold bJ
 lia
theorem xE (m:M w K mg){H:Hp}{p dx:Addr}{nm st:Str}{e:V}{wd:Int} (hp:H p=some (.ins m.eA dx (iQ (.str nm) (.str st) e (.int wd)))) (hn:aH nm=true) (hs:aH st=true) (he:bF e) (hw:0<=wd) (hw1:wd<1000000000000) :
  DoorAt P w base m 4 H p nm st e (fun _=>wd) (some (bJ "door" nm st e [wd])) :=
 ⟨m.eA,dx,_,gX K,fun vs H Q _=>fY P w K mg base vs H Q E0,hp,m.jO,by walk_at"lk",by walk_at"lk",by walk_at"lk",by walk_at"lk",by walk_at"lk",by walk_at"lk",Mc.mono (y9 m) (by decide),Mc.toE (Mc.mono (xY m) (by decide)),nB m,
  (fun H' t Q s h0 h1 k=>r6 (s _ _ hp) m.jO (by walk_at"lk") k),
  (fun H' Q E s k1 k2=>qT (s _ _ hp) m.jO (nB m) (by walk_at"lk") (by walk_at"lk") (by walk_at"lk") (by walk_at"lk") (by walk_at"lk") hn hs he ⟨by lia,by lia⟩ (fun H2 s2=>k1 _ H2 rfl s2)),
  fun z ez=>by cases ez;exact jT (by rw[aJ];decide) hn hs he (by simp) (QL ⟨by lia,by lia⟩)⟩
theorem tS (m:M w K mg){H:Hp}{p dx:Addr}{nm st:Str}{e:V}{wd i0:Int} (hp:H p=some (.ins m.eF dx (rJ (.str nm) (.str st) e (.int wd) (.int i0)))) (hn:aH nm=true) (hs:aH st=true) (he:bF e) (hw:0<=wd) (hw1:wd<1000000000000) (b0:0<=i0) (c0:i0<1000000000000) :
  DoorAt P w base m 4 H p nm st e (qC wd i0) (some (bJ "since" nm st e [wd,i0])) :=
 ⟨m.eF,dx,_,fW K,fun vs H Q _=>fB P w K mg base vs H Q E0,hp,m.hZ,by walk_at"lk",by walk_at"lk",by walk_at"lk",by walk_at"lk",by walk_at"lk",by walk_at"lk",Mc.mono (xJ m) (by decide),Mc.toE (Mc.mono (v3 m) (by decide)),l8 m,
  (fun H' t Q s h0 h1 k=>qG (s _ _ hp) m.hZ (by walk_at"lk") (by walk_at"lk") h0 b0 k),
  (fun H' Q E s k1 k2=>pM (s _ _ hp) m.hZ (l8 m) (by walk_at"lk") (by walk_at"lk") (by walk_at"lk") (by walk_at"lk") (by walk_at"lk") (by walk_at"lk") hn hs he ⟨by lia,by lia⟩ ⟨by lia,by lia⟩ (fun H2 s2=>k1 _ H2 rfl s2)),
  fun z ez=>by cases ez;exact jT (by rw[aJ];decide) hn hs he (by simp) (vN ⟨by lia,by lia⟩ ⟨by lia,by lia⟩)⟩
theorem uN (m:M w K mg){H:Hp}{p dx:Addr}{nm st:Str}{e:V}{wd i0:Int} (hp:H p=some (.ins m.eG dx (rB (.str nm) (.str st) e (.int wd) (.int i0)))) (hn:aH nm=true) (hs:aH st=true) (he:bF e) (hw:0<=wd) (hw1:wd<1000000000000) (b0:0<=i0) (c0:i0<1000000000000) :
  DoorAt P w base m 4 H p nm st e (pU wd i0) (some (bJ "until" nm st e [wd,i0])) :=
 ⟨m.eG,dx,_,fV K,fun vs H Q _=>fE P w K mg base vs H Q E0,hp,m.iB,by walk_at"lk",by walk_at"lk",by walk_at"lk",by walk_at"lk",by walk_at"lk",by walk_at"lk",Mc.mono (xV m) (by decide),Mc.toE (Mc.mono (vY m) (by decide)),l9 m,
  (fun H' t Q s h0 h1 k=>qE (s _ _ hp) m.iB (by walk_at"lk") (by walk_at"lk") h0 b0 k),
  (fun H' Q E s k1 k2=>pJ (s _ _ hp) m.iB (l9 m) (by walk_at"lk") (by walk_at"lk") (by walk_at"lk") (by walk_at"lk") (by walk_at"lk") (by walk_at"lk") hn hs he ⟨by lia,by lia⟩ ⟨by lia,by lia⟩ (fun H2 s2=>k1 _ H2 rfl s2)),
  fun z ez=>by cases ez;exact jT (by rw[aJ];decide) hn hs he (by simp) (vN ⟨by lia,by lia⟩ ⟨by lia,by lia⟩)⟩
theorem wS (m:M w K mg){H:Hp}{p dx:Addr}{nm st:Str}{e:V}{wd i0 i1:Int} (hp:H p=some (.ins m.fZ dx (uY (.str nm) (.str st) e (.int wd) (.int i0) (.int i1)))) (hn:aH nm=true) (hs:aH st=true) (he:bF e) (hw:0<=wd) (hw1:wd<1000000000000) (b0:1<=i0) (c0:i0<1000000000000) (b1:0<=i1) (c1:i1<1000000000000) :
  DoorAt P w base m 4 H p nm st e (t3 wd i0 i1) (some (bJ "beat" nm st e [wd,i0,i1])) :=
 ⟨m.fZ,dx,_,gY K,fun vs H Q _=>fP P w K mg base vs H Q E0,hp,m.jP,by walk_at"lk",by walk_at"lk",by walk_at"lk",by walk_at"lk",by walk_at"lk",by walk_at"lk",Mc.mono (AK m) (by decide),Mc.toE (Mc.mono (xR m) (by decide)),nA m,
  (fun H' t Q s h0 h1 k=>sG (s _ _ hp) m.jP (by walk_at"lk") (by walk_at"lk") (by walk_at"lk") h0 b0 b1 k),
  (fun H' Q E s k1 k2=>qL (s _ _ hp) m.jP (nA m) (by walk_at"lk") (by walk_at"lk") (by walk_at"lk") (by walk_at"lk") (by walk_at"lk") (by walk_at"lk") (by walk_at"lk") hn hs he ⟨by lia,by lia⟩ ⟨by lia,by lia⟩ ⟨by lia,by lia⟩ (fun H2 s2=>k1 _ H2 rfl s2)),
  fun z ez=>by cases ez;exact jT (by rw[aJ];decide) hn hs he (by simp) (QT ⟨by lia,by lia⟩ ⟨by lia,by lia⟩ ⟨by lia,by lia⟩)⟩
theorem sF (m:M w K mg){H:Hp}{p dx:Addr}{nm st:Str}{e:V}{wd i0:Int} (hp:H p=some (.ins m.dH dx (pD (.str nm) (.str st) e (.int wd) (.int i0)))) (hn:aH nm=true) (hs:aH st=true) (he:bF e) (hw:0<=wd) (hw1:wd<1000000000000) (b0:0<=i0) (c0:i0<1000000000000) :
  DoorAt P w base m 4 H p nm st e (oN wd i0) (some (bJ "marked" nm st e [wd,i0])) :=
 ⟨m.dH,dx,_,fD K,fun vs H Q _=>eI P w K mg base vs H Q E0,hp,m.fJ,by walk_at"lk",by walk_at"lk",by walk_at"lk",by walk_at"lk",by walk_at"lk",by walk_at"lk",Mc.mono (vT m) (by decide),Mc.toE (Mc.mono (uQ m) (by decide)),lR m,
  (fun H' t Q s h0 h1 k=>pL (s _ _ hp) m.fJ (by walk_at"lk") (by walk_at"lk") h0 b0 k),
  (fun H' Q E s k1 k2=>oF (s _ _ hp) m.fJ (lR m) (by walk_at"lk") (by walk_at"lk") (by walk_at"lk") (by walk_at"lk") (by walk_at"lk") (by walk_at"lk") hn hs he ⟨by lia,by lia⟩ ⟨by lia,by lia⟩ (fun H2 s2=>k1 _ H2 rfl s2)),
  fun z ez=>by cases ez;exact jT (by rw[aJ];decide) hn hs he (by simp) (vN ⟨by lia,by lia⟩ ⟨by lia,by lia⟩)⟩
theorem xF (m:M w K mg){n:Nat}{H:Hp}{p q dx:Addr}{nm st:Str}{e:V}{L:Int->Int}{W:Option Str}{a:Int} (d:DoorAt P w base m n H q nm st e L W) (hnn:n<=20) (hp:H p=some (.ins m.fI dx (uV (.ref q) (.str nm) (.str st) e (.int a)))) (ha:0<=a) (ha1:a<1000000000000) :
  DoorAt P w base m (n+1) H p nm st e (fun t=>if t<a then L t else 0) (W.map fun z=>Txt.join " " ["shut",aY a,z]):=by
 walk_at"g1";obtain⟨C,dxq,fs,spl,spw,h1,h2,h3,h4,h5,h6,h7,h8,h9,h10,h11,h16,h17,h18⟩:=d.ex;walk_at"g2";have la:=kH (i:=a) (by lia) (by lia);refine⟨m.fI,dx,_,gZ P w K mg base n,iY P w base m n,hp,m.jQ,by walk_at"lk",by walk_at"lk",by walk_at"lk",by walk_at"lk",by walk_at"lk",by walk_at"lk",zQ m n,xW m n,t5 m,
  (fun H' t Q s h0 h1' k=>CH m.jQ (s _ _ hp) (by walk_at"lk") (by walk_at"lk") (s _ _ h1) h6 h9 (fun Q' k'=>h16 H' t Q' s h0 h1' k') k),
  (fun H' Q E s k1 k2=>⟨p,m.fI,dx,_,q,C,dxq,fs,a,W,spw,rfl,m.jQ,s _ _ hp,by walk_at"lk",by walk_at"lk",s _ _ h1,h7,h10,⟨by lia,by lia⟩,(fun z ez=>Nat.le_trans (h18 z ez) (by lia)),(fun Q' E'=>h17 H' Q' E' s),(fun z H2 ez s2=>k1 _ H2 (by rw[ez];rfl) s2),(fun H2 ez s2=>k2 H2 (by rw[ez];rfl) s2)⟩),
  fun z ez=> ?_⟩
 cases W with
 | none=>cases ez
 | some z0 =>
  cases ez;have hz:=h18 z0 rfl;have e1:=pE " " "shut" [aY a,z0];have e3:(" " :Str).length=1:=by rw[aJ];rfl
  have e4:("shut" :Str).length=4:=by rw[aJ];rfl
  simp only[List.map_cons,List.map_nil,List.sum_cons,List.sum_nil,List.length_cons,List.length_nil]at e1;refine Nat.le_trans e1 ?_
  lia
theorem uI (m:M w K mg){n:Nat}{H:Hp}{p q dx:Addr}{nm st:Str}{e:V}{L:Int->Int}{W:Option Str}{a i0:Int} (d:DoorAt P w base m n H q nm st e L W) (hnn:n<=20) (hp:H p=some (.ins m.dR dx (q9 (.ref q) (.str nm) (.str st) e (.int a) (.int i0)))) (ha:0<=a) (ha1:a<1000000000000) (b0:0<=i0) (c0:i0<1000000000000) :
  DoorAt P w base m (n+1) H p nm st e (fun t=>if a<=t/\0<L t then L t+i0 else L t) (W.map fun z=>Txt.join " " ["wider",aY a,aY i0,z]):=by
 walk_at"g1";obtain⟨C,dxq,fs,spl,spw,h1,h2,h3,h4,h5,h6,h7,h8,h9,h10,h11,h16,h17,h18⟩:=d.ex;walk_at"g2";have la:=kH (i:=a) (by lia) (by lia);have l0:=kH (i:=i0) (by lia) (by lia);refine⟨m.dR,dx,_,fX P w K mg base n,iG P w base m n,hp,m.hV,by walk_at"lk",by walk_at"lk",by walk_at"lk",by walk_at"lk",by walk_at"lk",by walk_at"lk",xI m n,vL m n,sU m,
  (fun H' t Q s h0 h1' k=>zW m.hV (s _ _ hp) (by walk_at"lk") (by walk_at"lk") (by walk_at"lk") (s _ _ h1) h6 h9 (fun Q' k'=>h16 H' t Q' s h0 h1' k') k),
  (fun H' Q E s k1 k2=>⟨p,m.dR,dx,_,q,C,dxq,fs,a,_,W,spw,rfl,m.hV,s _ _ hp,by walk_at"lk",by walk_at"lk",by walk_at"lk",s _ _ h1,h7,h10,⟨by lia,by lia⟩,⟨by lia,by lia⟩,(fun z ez=>Nat.le_trans (h18 z ez) (by lia)),(fun Q' E'=>h17 H' Q' E' s),(fun z H2 ez s2=>k1 _ H2 (by rw[ez];rfl) s2),(fun H2 ez s2=>k2 H2 (by rw[ez];rfl) s2)⟩),
  fun z ez=> ?_⟩
 cases W with
 | none=>cases ez
 | some z0 =>
  cases ez;have hz:=h18 z0 rfl;have e1:=pE " " "wider" [aY a,aY i0,z0];have e3:(" " :Str).length=1:=by rw[aJ];rfl
  have e4:("wider" :Str).length=5:=by rw[aJ];rfl
  simp only[List.map_cons,List.map_nil,List.sum_cons,List.sum_nil,List.length_cons,List.length_nil]at e1;refine Nat.le_trans e1 ?_
  lia
def i4 (c:Nat):Bool:=decide (48<=c)&&decide (c<=57)
def wrB (x:Str):Bool:=decide (1<=x.length)&&decide (x.length<=60)&&x.cps.toList.all i4&&(decide (x= "0")|| !jN x "0")
theorem UB:("0" :Str).cps.toList=[48]:=by decide +kernel
theorem TQ:("9" :Str).cps.toList=[57]:=by decide +kernel
inductive yU (vs:List V)(H:Hp)(Q:VK)(E:XK):Prop
 | mk (x:Str) (_:vs=[.str x]) (_:x.length<=1000000) (_:∀H',Same H H'->Q (.bl (wrB x)) H'):yU vs H Q E
theorem US {H:Hp}{Q:VK}{E:XK}{x:Str} (hl:x.length<=1000000) (h:∀H',Same H H'->Q (.bl (wrB x)) H'):yU [.str x] H Q E:=⟨_,rfl,hl,h⟩
theorem pR (m:M w K mg):FnOk P w K mg base CX0 1 m.hJ m.iC ["text"] (yU):=by
 refine m.eO.ok sc_is_written_whole (fun vs H Q E h=> ?_) (fun cdv A outer s H vs Q E hr h=> ?_)
 ·walk_at"g1";obtain⟨x,rfl,hl,k⟩:=h;walk_at"g2";rfl
 ·walk_at"g1";obtain⟨x,rfl,hl,k⟩:=h;walk_at"g2";have nd:=sc_is_written_whole.nd;have hu0:=Room.units0 hr;have hu9:=Room.units9 hr;obtain⟨tok_MOST_FIGURES,kO⟩:=m.kO;refine⟨_,(aD (bL (PW.pt (oR (iR (KG yW yW aC (bU nE rfl m.lY jV (aA (pv 0) aB)) (DO rfl kO))) (pW (iR (g0 (bU (zH rfl) rfl m.LX IM (aA (rD (N:=["sign"]) (nl:=1) (ci:=[]) rfl (blk (s.heap.objs.size+1) rfl rfl rfl (by kernel_rfl)) (G9 (pv 0)) (fun _ _ _ _=>(dQ (i:=0) (show (["sign"]:List Str).Nodup by decide +kernel) rfl (by walk_at"oi"))) (fun _ _ _ _=>uL) (fun _ _ _ _=>(sQ uW uW aI (pv 0) aI))) aB))))))) (aF (aK jZ)) bA)
   (aF (aK (UN (v5 cE (pv 0) aI (aU _)) (pV (z8 (j4 PySem.F.plainAttrs_str PySem.F.slot_str_startswith PySem.F.type_str_startswith HE (pv 0) (aA aI aB)))))))),?_⟩
  refine aN (σ:=[some (.str x)]) rfl ?_;walk_at"cx";have hl':x.length<=sizeLine:=by rw[sizeLine_eq];lia
  walk_at"go"
  by_cases h2:1<=(x.length:Int)
  ·rw[if_pos (decide_eq_true h2)];walk_at"go"
   by_cases h3:(x.length:Int)<=60
   ·rw[decide_eq_true h3];walk_at"go";refine C5 x.cps.size (fun i=> .bl (i4 (x.cps.toList.getD i 0))) hl' (fun H'=>H'=H) rfl (fun _ _=>rfl) (fun i _ hi _=>hi) ?_ ?_ ?_ ?_ ?_
    ·rintro i _ y H' hi rfl hq_;walk_at"g1";obtain⟨rfl,c,hc,rfl⟩:=hq_;walk_at"g2";refine⟨⟨rfl,fun j v hv=> ?_⟩,rfl,?_⟩
     ·match j,hv with
      | 0,hv=>cases hv
      | j+1,hv=>cases hv
     ·have hc':x.cps.toList.getD i 0=c:=by
       rw[List.getD_eq_getElem?_getD,Array.getElem?_toList,hc];rfl
      refine⟨_,rfl,_,_,rfl,rfl,_,rfl,?_⟩;rw[UB,hc'];refine sR (fun h4=>⟨_,_,rfl,rfl,?_,rfl⟩) (fun h4=>⟨?_,rfl⟩)
      ·have h4':48<=c:=by rw[show (⟨#[c]⟩:Str).cps.toList=[c] from rfl,le1]at h4;exact of_decide_eq_true h4
       rw[TQ,show (⟨#[c]⟩:Str).cps.toList=[c] from rfl,le1];unfold i4;rw[decide_eq_true h4',Bool.true_and]
      ·have h4':¬48<=c:=by rw[show (⟨#[c]⟩:Str).cps.toList=[c] from rfl,le1]at h4;exact fun z=>h4 (decide_eq_true z)
       unfold i4;rw[decide_eq_false h4',Bool.false_and]
    ·exact fun _ _ _ _ f q=>f _ _ q
    ·rintro σ H Q Q' f hq_;walk_at"g1";obtain⟨v,e,i,j,e1,e2,k,e3,q⟩:=hq_;walk_at"g2";refine⟨v,e,i,j,e1,e2,k,e3,?_⟩;revert q
     split
     ·rintro hq_;walk_at"g1";obtain⟨i,j,e1,e2,q⟩:=hq_;walk_at"g2";exact⟨i,j,e1,e2,f _ _ q⟩
     ·exact fun q=>f _ _ q
    ·exact fun _ _ _ _ _ f q=>f _ _ q
    ·rintro _ rfl p hp;refine⟨p,(List.range x.cps.size).map (fun i=>i4 (x.cps.toList.getD i 0)),rfl,SqL.of ?_,?_⟩
     ·rw[bP,List.map_map];rfl
     ·have e:=qB i4 0 x.cps.toList;rw[Array.length_toList]at e;rw[e];have sm:=o4 (o:= .lst ((List.range x.cps.size).map fun i=>V.bl (i4 (x.cps.toList.getD i 0)))) hp;have e2:wrB x=(x.cps.toList.all i4&&(decide (x= "0")|| !jN x "0")):=by
       unfold wrB;rw[decide_eq_true (show 1<=x.length by lia),decide_eq_true (show x.length<=60 by lia)];rfl
      have kk:=k _ sm;rw[e2]at kk;cases hd:x.cps.toList.all i4 with
      | true =>
       rw[hd]at kk;walk_at"go"
       by_cases h0:x= "0"
       ·rw[if_pos (decide_eq_true h0)];rw[decide_eq_true h0]at kk;exact kk
       ·rw[if_neg (by simpa using h0)];rw[decide_eq_false h0]at kk;rw[Bool.true_and,Bool.false_or]at kk;walk_at"go";exact⟨_,_,rfl,rfl,_,rfl,kk⟩
      | false =>
       rw[hd]at kk;walk_at"go";exact kk
   ·rw[decide_eq_false h3];have kk:=k _ (Same.refl _);rw[show wrB x=false by unfold wrB;rw[decide_eq_false (show ¬x.length<=60 by lia),Bool.and_false];rfl]at kk;walk_at"go";exact kk
  ·rw[if_neg (by simpa using h2)];have kk:=k _ (Same.refl _);rw[show wrB x=false by unfold wrB;rw[decide_eq_false (show ¬1<=x.length by lia)];rfl]at kk;walk_at"go";exact kk
theorem pQ (m:M w K mg):Fc P w K mg base "is_written_whole" 1 ["text"] (yU):=⟨_,_,m.qW,m.eO.kp,m.qV,pR m⟩
inductive jS (K:PySem.W.Frag)(N:Addr)(vs:List V)(H:Hp)(Q:VK)(E:XK):Prop
 | mk (x:V) (n:String) (_:vs=[x]) (_:BTy K H x n) (_:(n= "str" ->Q .non H)) (_:(n≠ "str" ->E (.ref N) none H)):jS K N vs H Q E
theorem BA {N:Addr}{H:Hp}{Q:VK}{E:XK}{x:Str} (h:Q .non H):jS K N [.str x] H Q E:=⟨_,_,rfl,.str x,fun _=>h,fun z=>absurd rfl z⟩
theorem AO (m:M w K mg):FnOk P w K mg base (CXE P w) 1 m.nR m.nZ ["thing"] (jS K m.aV):=by
 refine m.gF.okE sc_need_text (fun vs H Q E h=> ?_) (fun cdv A outer s H vs Q E hr h=> ?_)
 ·walk_at"g1";obtain⟨x,n,rfl,b,k,k2⟩:=h;walk_at"g2";rfl
 ·walk_at"g1";obtain⟨x,n,rfl,b,k,k2⟩:=h;walk_at"g2";have nd:=sc_need_text.nd;have hu0:=Room.units0 hr;have hu9:=Room.units9 hr;refine⟨_,(aF (bL (iR (g0 (bU kJ rfl m.cR cG (aA (pv 0) (aA (oP rfl m.eM c8) aB))))) (aF (oV m.mD m.pG t9 (aA aI aB))) bA)),?_⟩;refine aN (σ:=[some (x)]) rfl ?_;walk_at"cx";refine⟨_,rfl,_,_,_,_,_,rfl,b.ty,rfl,t6 b "str" (.inr (.inr rfl)),_,rfl,?_⟩
  by_cases hn:n= "str"
  ·subst hn;walk_at"go";exact k rfl
  ·have k2:=k2 hn;have hb:isB n "str" =false:=by cases b<;>first|exact absurd rfl hn|rfl
   rw[hb];walk_at"go";refine sN ?_;walk_at"go";exact⟨(by show 1<=sizeLine;decide),k2⟩
theorem qR (m:M w K mg):FcE P w K mg base "need_text" 1 ["thing"] (jS K m.aV):=⟨_,_,m.CW,m.gF.kp,m.CV,AO m⟩
local macro_rules| `(tactic| walk_at"rd1")=> `(tactic| first|(with_reducible refine BA ?_))
def lD (x:Str):Int:=(NumText.digitsVal x.cps.toList:Nat)
theorem IL {x:Str}(h:wrB x=true):PySem.intText? x=some (lD x)/\x.length<=60:=by
 unfold wrB at h;simp only[Bool.and_eq_true,decide_eq_true_eq]at h;walk_at"g1";obtain⟨⟨⟨h1,h2⟩,h3⟩,_⟩:=h;walk_at"g2";refine⟨intText_digits (fun c hc=> ?_) (fun z=> ?_) (by lia),h2⟩
 ·have:=List.all_eq_true.mp h3 c hc;unfold i4 at this
  simpa using this
 ·have:x.length=0:=by
   have e:x.length=x.cps.toList.length:=by rw[Array.length_toList];rfl
   rw[e,z];rfl
  lia
inductive jM (K:PySem.W.Frag)(N:Addr)(vs:List V)(H:Hp)(Q:VK)(E:XK):Prop
 | mk (x:V) (n:String) (_:vs=[x]) (_:BTy K H x n) (_:(∀z,x= .str z->z.length<=1000000)) (_:(∀z,x= .str z->wrB z=true->∀H',Same H H'->Q (.int (lD z)) H')) (_:((∀z,x= .str z->wrB z=false)->∀H',Same H H'->E (.ref N) none H')):jM K N vs H Q E
theorem AZ {N:Addr}{H:Hp}{Q:VK}{E:XK}{x:Str} (hl:x.length<=1000000) (h:wrB x=true->∀H',Same H H'->Q (.int (lD x)) H') (h2:wrB x=false->∀H',Same H H'->E (.ref N) none H'):jM K N [.str x] H Q E :=
 ⟨_,_,rfl,.str x,fun z e=>by cases e;exact hl,fun z e=>by cases e;exact h,fun e=>h2 (e x rfl)⟩
theorem w5 {N:Addr}{H:Hp}{Q:VK}{E:XK}{x:Str} (hw:wrB x=true) (h:∀H',Same H H'->Q (.int (lD x)) H'):jM K N [.str x] H Q E :=
 AZ (Nat.le_trans (IL hw).2 (by decide)) (fun _=>h) fun e=>by rw[hw]at e;cases e
theorem xQ (m:M w K mg):FnOk P w K mg base (CXE P w) 2 m.iA m.mE ["text"] (jM K m.aV):=by
 refine m.bY.okE sc_read_whole (fun vs H Q E h=> ?_) (fun cdv A outer s H vs Q E hr h=> ?_)
 ·walk_at"g1";obtain⟨x,n,rfl,b,hl,k,k2⟩:=h;walk_at"g2";rfl
 ·walk_at"g1";obtain⟨x,n,rfl,b,hl,k,k2⟩:=h;walk_at"g2";have nd:=sc_read_whole.nd;have hu0:=Room.units0 hr;have hu9:=Room.units9 hr;have eO:= @pQ P w K mg base m;have gF:= @qR P w K mg base m;refine⟨_,(aD (b3 (k7 gF hr lX (aA (pv 0) aB)))
   (aD (bL (iR (g0 (bN eO hr (aA (pv 0) aB)))) (aF (oV m.mD m.pG t9 (aA aI aB))) bA)
   (aF (aK (bW HY rfl m.y1 tU (aA (pv 0) aB)))))),?_⟩
  refine aN (σ:=[some (x)]) rfl ?_;walk_at"cx";walk_at"gs";refine⟨x,n,rfl,b,fun hn=> ?_,fun hn=> ?_⟩
  ·obtain⟨z,rfl⟩:∃z,x= .str z:=by
    cases b<;>first|exact⟨_,rfl⟩|exact absurd hn (by decide)
   have hl:=hl z rfl;have k:=k z rfl;walk_at"go";refine US hl fun H1 S1=> ?_;cases e:wrB z with
   | true =>
    walk_at"go";obtain⟨hv,h60⟩:=IL e;exact⟨z,_,rfl,hv,by lia,k e _ S1⟩
   | false =>
    have k2:=k2 fun z' ez=>by cases ez;exact e
    walk_at"go";refine sN ?_;walk_at"go";exact⟨(by show 1<=sizeLine;decide),k2 _ S1⟩
  ·exact k2 (fun z ez=>by subst ez;cases b;exact absurd rfl hn) _ (Same.refl _)
theorem iW (m:M w K mg):FcE P w K mg base "read_whole" 2 ["text"] (jM K m.aV):=⟨_,_,m.mQ,m.bY.kp,m.BV,xQ m⟩
theorem c7 (x y z:Str):x++y++z=x++(y++z):=eJ (by rw[cA,cA,cA,cA,List.append_assoc])
theorem DC (x:Str):("" :Str)++x=x:=eJ (by rw[cA];rfl)
theorem A3 (x:Str):x++("" :Str)=x:=eJ (by rw[cA];exact List.append_nil _)
theorem MB {c:Nat}{x y:Str} (h:noC c x) (h':noC c y):noC c (x++y):=by
 unfold noC;rw[cA,List.mem_append];rintro (a|a)
 ·exact h a
 ·exact h' a
def dJ (x:Str):Prop:=noC 32 x/\x.length<=100
theorem cS {x:Str}(h:(decide (32∉x.cps.toList)&&decide (x.length<=100))=true):dJ x:=by
 simp only[Bool.and_eq_true,decide_eq_true_eq]at h;exact h
theorem P9 {t:Int}(h0:0<=t)(h1:t<10^60):dJ (toString t):=by
 have hl:=iD h0 h1 (by decide);obtain⟨n,rfl⟩:∃n:Nat,t=n:=⟨t.toNat,by lia⟩
 exact⟨fun h=>by have:=o5 n _ h;lia,by lia⟩
theorem v8 {x:Str}(h:aH x=true):dJ x:=by
 have hl:=c9 h;unfold aH at h;simp only[Bool.and_eq_true]at h;have h2:=List.all_eq_true.mp h.2;have:∀c∈x.cps.toList,97<=c:=fun c hc=>by
  have:=h2 c hc;unfold sgB at this;simp only[Bool.and_eq_true,decide_eq_true_eq]at this;exact this.1
 exact⟨fun h=>by have:=this _ h;lia,by lia⟩
theorem A8 {x y:Str}(h:dJ x)(h':dJ y)(hl:x.length+y.length<=100):dJ (x++y):=⟨MB h.1 h'.1,by rw[bI];exact hl⟩
theorem DA:("0" :Str)=⟨#[48]⟩:=by decide +kernel
theorem starts0 {x:Str}:jN x "0" =true↔x.cps.toList[0]? =some 48:=by
 rw[DA,←StrLaws.subAt_one x 48 0];unfold jN;rw[Bool.and_eq_true,decide_eq_true_eq]
theorem oJ (x:Str):x.length=x.cps.toList.length:=by rw[Array.length_toList];rfl
theorem GN {t:Int}(h0:0<=t)(h1:t<10^60):wrB (toString t)=true/\lD (toString t)=t:=by
 have hl:=iD h0 h1 (by decide);obtain⟨n,rfl⟩:∃n:Nat,t=n:=⟨t.toNat,by lia⟩
 have hne:=IJ n
 constructor
 ·have l1:1<=(toString (n:Int):Str).length:=by
   rcases Nat.eq_zero_or_pos (toString (n:Int):Str).length with e|e
   ·exact absurd (List.eq_nil_of_length_eq_zero (by rw[←oJ];exact e)) hne
   ·exact e
  have l3:((toString (n:Int):Str).cps.toList.all i4)=true:=List.all_eq_true.mpr fun c hc=>by
   have:=o5 n c hc;unfold i4;rw[decide_eq_true this.1,decide_eq_true this.2];rfl
  unfold wrB;rw[decide_eq_true l1,decide_eq_true hl,l3];simp only[Bool.true_and]
  by_cases hz:n=0
  ·subst hz;have e:(toString ((0:Nat):Int):Str)= "0" :=by decide +kernel
   rw[e];rfl
  ·have hh:=KO (n:=n) (by lia);have:jN (toString (n:Int)) "0" =false:=by
    cases e:jN (toString (n:Int)) "0" with
    | false=>rfl
    | true =>
     have:=starts0.mp e;cases e2:(toString (n:Int):Str).cps.toList with
     | nil=>exact absurd e2 hne
     | cons c r =>
      rw[e2]at this;exact absurd (Option.some.inj this) (hh c r e2)
   rw[this];simp
 ·unfold lD;have:=N8 n;rw[this]
theorem v4 {x:Str}{c:Nat} (hc:c∈x.cps.toList) (h:i4 c=false):wrB x=false:=by
 cases e:wrB x with
 | false=>rfl
 | true =>
  unfold wrB at e;simp only[Bool.and_eq_true]at e;have:=List.all_eq_true.mp e.1.2 c hc;rw[h]at this;cases this
theorem A4 (x:Str):wrB ("-" ++x)=false:=v4 (c:=45) (by rw[cA];exact List.mem_append_left _ (by decide +kernel)) (by decide)
theorem w6 {x:Str}(h:1<=x.length):wrB ("0" ++x)=false:=by
 cases e:wrB ("0" ++x) with
 | false=>rfl
 | true =>
  unfold wrB at e;simp only[Bool.and_eq_true,Bool.or_eq_true,decide_eq_true_eq,Bool.not_eq_true']at e;rcases e.2 with e2|e2
  ·have:=congrArg Str.length e2;rw[bI]at this;have h0:("0" :Str).length=1:=by decide
   lia
  ·have:jN ("0" ++x) "0" =true:=starts0.mpr (by rw[cA,DA];rfl);rw[this]at e2;cases e2
theorem zV {t:Int}(h0:0<=t):1<=(toString t:Str).length:=by
 obtain⟨n,rfl⟩:∃n:Nat,t=n:=⟨t.toNat,by lia⟩
 rcases Nat.eq_zero_or_pos (toString (n:Int):Str).length with e|e
 ·exact absurd (List.eq_nil_of_length_eq_zero (by rw[←oJ];exact e)) (IJ n)
 ·exact e
theorem d8 (z:Str)(ys:List Str):Txt.join z ys=Str.join z ys:=StrLaws.glued_eq_join z ys
theorem tY:(" " :Str)=⟨#[32]⟩:=by decide +kernel
theorem sV {H:Hp}{Q:VK}{z y:Str} (c:Nat) (hy:y=⟨#[c]⟩) (hz:z.length<=1000000) (h:∀p H',H p=none->Same H H'->H' p=some (.lst ((Txt.split z y).map V.str))->Q (.ref p) H'):HD (.str z) [.str y] H Q:=by
 subst hy;exact⟨z,c,rfl,rfl,hz,fun p hp=>h p _ hp (o4 hp) bP⟩
def WsG (ws:List Str):Prop:=ws≠[]/\ws.length<=100/\∀x∈ws,dJ x
theorem uJ {ws:List Str}(h:WsG ws):(Str.join " " ws).length<=20000:=by
 have j:=StrLaws.join_length_le " " ws;have h1:=jR 100 ws fun x hx=>(h.2.2 x hx).2;have c:(" " :Str).length=1:=by decide
 rw[c]at j;have:=h.2.1
 lia
theorem oZ {ws:List Str}(h:WsG ws):Txt.split (Str.join " " ws) " " =ws:=by
 rw[tY];exact D9 h.1 fun p hp=>(h.2.2 p hp).1
theorem uK {a:Int}(h0:0<=a)(h1:a<1000000000000):wrB (aY a)=true/\lD (aY a)=a:=GN h0 (Int.lt_trans h1 (by decide))
theorem ST {N:Addr}{H:Hp}{Q:VK}{E:XK}{a:Int} (h0:0<=a) (h1:a<1000000000000) (h:∀H',Same H H'->Q (.int a) H'):jM K N [.str (aY a)] H Q E :=
 w5 (uK h0 h1).1 fun H' s=>by rw[(uK h0 h1).2];exact h H' s
abbrev Rnd:=Int ⊕ (Int×Int)
def rdW:Rnd->List Str
 | .inl a=>["shut",aY a]
 | .inr (a,b)=>["wider",aY a,aY b]
def p9:Rnd->Prop
 | .inl a=>0<=a/\a<1000000000000
 | .inr (a,b)=>(0<=a/\a<1000000000000)/\0<=b/\b<1000000000000
def rdL (r:Rnd)(L:Int->Int):Int->Int:=match r with
 | .inl a=>fun t=>if t<a then L t else 0
 | .inr (a,b)=>fun t=>if a<=t/\0<L t then L t+b else L t
def rdT (r:Rnd)(z:Str):Str:=Txt.join " " (rdW r++[z])
inductive qK (P:Program)(w:World)(base:Heap)(m:M w K mg)(vs:List V)(H:Hp)(Q:VK)(E:XK):Prop
 | mk (n:Nat) (q l:Addr) (r:Rnd) (nm st:Str) (e:V) (L:Int->Int) (W:Option Str) (_:vs=[.ref q,.ref l]) (_:H l=some (.lst ((rdW r).map V.str))) (_:p9 r) (_:DoorAt P w base m n H q nm st e L W) (_:n<=20) (_:aH nm=true) (_:aH st=true) (_:bF e) (_:∀p H',H p=none->Same H H'->DoorAt P w base m (n+1) H' p nm st e (rdL r L) (W.map (rdT r))->Q (.ref p) H'):qK P w base m vs H Q E
theorem dP {H H':Hp}{p:Addr} (s:Same H H') (h:H' p=none):H p=none:=by
 cases e:H p with
 | none=>rfl
 | some u=>rw[s _ _ e]at h;cases h
local macro_rules| `(tactic| walk_at"rd1")=> `(tactic| ((with_reducible refine' ST ?a ?b ?_);(case a=>assumption);(case b=>assumption);intro H' S'))
theorem xU (m:M w K mg):FnOk P w K mg base (CXE P w) 6 m.mJ m.mZ ["inner","words"] (qK P w base m):=by
 refine m.kA.okE sc_door_round (fun vs H Q E h=> ?_) (fun cdv A outer s H vs Q E hr h=> ?_)
 ·walk_at"g1";obtain⟨n,q,l,r,nm,st,e,L,W,rfl,hl,ho,d,hnn,hn,hs,he,k⟩:=h;walk_at"g2";rfl
 ·walk_at"g1";obtain⟨n,q,l,r,nm,st,e,L,W,rfl,hl,ho,d,hnn,hn,hs,he,k⟩:=h;walk_at"g2";have nd:=sc_door_round.nd;have hu0:=Room.units0 hr;have hu9:=Room.units9 hr;have bY:= @iW P w K mg base m;have K_Shut_0:= @wX P w K mg base m;have K_Wider_0:= @tR P w K mg base m;refine⟨_,(aD (bL (aR cE (bK aZ (pv 1) aC (fun _ _=>rfl)) aI (aU _)) (aF (aK (gO K_Shut_0 hr (aA (pv 0) (aA (k7 bY hr lX (aA (bK aZ (pv 1) aC (fun _ _=>rfl)) aB)) aB))))) bA)
   (aF (aK (gO K_Wider_0 hr (aA (pv 0) (aA (k7 bY hr lX (aA (bK aZ (pv 1) aC (fun _ _=>rfl)) aB)) (aA (k7 bY hr lX (aA (bK aZ (pv 1) aC (fun _ _=>rfl)) aB)) aB))))))),?_⟩
  refine aN (σ:=[some (.ref q),some (.ref l)]) rfl ?_;walk_at"cx";walk_at"g1";obtain⟨C,dx,fs,spl,spw,h1,h2,h3,h4,h5,h6,h7,h8,h9,h10,h11,h16,h17,h18⟩:=d.ex;walk_at"g2";have dcs:=m.jQ;have dcw:=m.hV;cases r with
  | inl a =>
   obtain⟨a0,a1⟩:=ho;have hl':H l=some (.lst [.str "shut",.str (aY a)]):=hl;clear hl;walk_at"go";rename_i H1 S1;refine zO rfl dcs h2 (S1 _ _ h1) h3 h4 h5 hn hs he a0 fun p dx' H' hp s2 e2=>k p H' (dP S1 hp) (S1.trans s2) ?_;exact xF m (d.same (S1.trans s2)) hnn e2 a0 a1
  | inr ab =>
   obtain⟨a,b⟩:=ab;walk_at"g1";obtain⟨⟨a0,a1⟩,b0,b1⟩:=ho;walk_at"g2";have hl':H l=some (.lst [.str "wider",.str (aY a),.str (aY b)]):=hl;clear hl;walk_at"go";rename_i H1 S1 H2 S2;refine w4 rfl dcw h2 (S2 _ _ (S1 _ _ h1)) h3 h4 h5 hn hs he a0 b0 fun p dx' H' hp s2 e2=>k p H' (dP (S1.trans S2) hp) ((S1.trans S2).trans s2) ?_;exact uI m (d.same ((S1.trans S2).trans s2)) hnn e2 a0 a1 b0 b1
theorem xS (m:M w K mg):FcE P w K mg base "door_round" 6 ["inner","words"] (qK P w base m):=⟨_,_,m.B0,m.kA.kp,m.BW,xU m⟩
inductive Bk:Str->List Int->(Int->Int)->Prop where
 | door (wd:Int) (h0:0<=wd) (h1:wd<1000000000000):Bk "door" [wd] (fun _=>wd)
 | since (wd a:Int) (h0:0<=wd) (h1:wd<1000000000000) (h2:0<=a) (h3:a<1000000000000):Bk "since" [wd,a] (qC wd a)
 | til (wd a:Int) (h0:0<=wd) (h1:wd<1000000000000) (h2:0<=a) (h3:a<1000000000000):Bk "until" [wd,a] (pU wd a)
 | beat (wd a b:Int) (h0:0<=wd) (h1:wd<1000000000000) (h2:1<=a) (h3:a<1000000000000) (h4:0<=b) (h5:b<1000000000000):Bk "beat" [wd,a,b] (t3 wd a b)
 | marked (wd a:Int) (h0:0<=wd) (h1:wd<1000000000000) (h2:0<=a) (h3:a<1000000000000):Bk "marked" [wd,a] (oN wd a)
theorem Bk.num {kd:Str}{ns:List Int}{L:Int->Int} (h:Bk kd ns L):∀i∈ns,0<=i/\i<1000000000000:=by
 cases h<;>intro i hi<;>simp only[List.mem_cons,List.not_mem_nil,or_false]at hi
 ·subst hi;lia
 ·rcases hi with rfl|rfl<;>lia
 ·rcases hi with rfl|rfl<;>lia
 ·rcases hi with rfl|rfl|rfl<;>lia
 ·rcases hi with rfl|rfl<;>lia
def wiaK:List (Key×V):=[(.inr "door",.int 5),(.inr "since",.int 6),(.inr "until",.int 6),(.inr "beat",.int 7),(.inr "marked",.int 6)]
def qO (kd:Str)(r:List Str):Prop:=(c6 wiaK (.inr kd)).getD .non≠ .int ((r.length:Int)+1)∨∃x∈r.drop 3,wrB x=false
def yQ (kd:Str)(r:List Str)(nm st:Str)(e:V)(ns:List Int)(L:Int->Int):Prop:=r=[nm,st,fL e]++ns.map aY/\Bk kd ns L/\aH nm=true/\aH st=true/\bF e
inductive pA (P:Program)(w:World)(base:Heap)(m:M w K mg)(vs:List V)(H:Hp)(Q:VK)(E:XK):Prop
 | mk (q:Addr) (kd:Str) (r:List Str) (_:vs=[.ref q]) (_:H q=some (.lst (.str kd::r.map V.str))) (_:(∀x∈r,x.length<=1000)) (_:r.length<=1000) (_:((∃(nm st:Str) (e:V) (ns:List Int) (L:Int->Int),yQ kd r nm st e ns L/\∀p H',H p=none->Same H H'->DoorAt P w base m 4 H' p nm st e L (some (bJ kd nm st e ns))->Q (.ref p) H')∨(qO kd r/\∀H',Same H H'->E (.ref m.aV) none H'))):pA P w base m vs H Q E
theorem NQ {D:Addr}{kvs:List (Key×V)}{ty:TE}{σ:St}{H:Hp}{Q:VK} (h:ty σ H fun y H2=>∃k,y=kV k/\Q ((c6 kvs k).getD .non) H2):LW D kvs (tC (.ref D)) ty σ H Q:=⟨rfl,h⟩
section
variable {H:Hp}{Q:VK}{p:Addr}{x0 x1 x2 x3:V}{xs:List V}
theorem PH (e:SqL K H p (x0::xs))(h:Q x0 H):nH K (.ref p) (.int 0) H Q:=⟨p,_,_,_,rfl,rfl,e,f8 (j:=0) rfl,h⟩
theorem O1 (e:SqL K H p (x0::x1::xs))(h:Q x1 H):nH K (.ref p) (.int 1) H Q:=⟨p,_,_,_,rfl,rfl,e,f8 (j:=1) rfl,h⟩
theorem PK (e:SqL K H p (x0::x1::x2::xs))(h:Q x2 H):nH K (.ref p) (.int 2) H Q:=⟨p,_,_,_,rfl,rfl,e,f8 (j:=2) rfl,h⟩
theorem GE (e:SqL K H p (x0::x1::x2::x3::xs))(h:Q x3 H):nH K (.ref p) (.int 3) H Q:=⟨p,_,_,_,rfl,rfl,e,f8 (j:=3) rfl,h⟩
end
theorem HA (rs:List Str)(i:Nat):gJ (rs.map V.str) none (some (i:Int))=(rs.take i).map V.str:=by
 unfold gJ;rw[HT.sIx_none,HT.sIx_nat,List.drop_zero,List.length_map,Nat.sub_zero,←List.map_take]
 congr 1
 rcases Nat.le_total i rs.length with h|h
 ·rw[Nat.min_eq_left h]
 ·rw[Nat.min_eq_right h,List.take_length,List.take_of_length_le h]
theorem A5 (rs:List Str)(i:Nat):gJ (rs.map V.str) (some (i:Int)) none=(rs.drop i).map V.str:=by
 unfold gJ;rw[HT.sIx_none,HT.sIx_nat,List.length_map,←List.map_drop,←List.map_take]
 congr 1
 rcases Nat.le_total i rs.length with h|h
 ·rw[Nat.min_eq_left h,List.take_of_length_le (by rw[List.length_drop];lia)]
 ·rw[Nat.min_eq_right h,List.drop_of_length_le h,List.drop_of_length_le (Nat.le_refl _),List.take_nil]
theorem HU {x:Str}(h:aH x=true):x≠ "-" :=fun z=>by subst z;revert h;decide +kernel
theorem M4 {KK:PySem.W.Frag}{Kont:VK}{H:Hp}{q:Addr}{x0 x1 x2:V}{xs:List V}{c:Str}{σ:St} (e:SqL KK H q (x0::x1::x2:: .str c::xs)) (h:Kont (if c= "-" then .non else .str c) H):if decide (c= "-")=true then tC .non (some (.ref q)::σ) H Kont else tOp (nH KK) (iI 0) (tC (.int 3)) (some (.ref q)::σ) H Kont:=by
 by_cases hc:c= "-"
 ·rw[if_pos (decide_eq_true hc)];rw[if_pos hc]at h;exact h
 ·rw[if_neg (by simpa using hc)];rw[if_neg hc]at h;exact⟨_,rfl,GE e h⟩
theorem sI:∀l:List Str,Paired (fun v x=>v=V.str x) (l.map V.str) l
 | []=> .nil
 | _::l=> .cons rfl (sI l)
theorem N4 {xs:List Str}{ys:List V} (h:Paired (fun x y=>wrB x=true/\y=V.int (lD x)) xs ys):(∀x∈xs,wrB x=true)/\ys=xs.map fun x=>V.int (lD x):=by
 induction h with
 | nil=>exact⟨fun _ h=>(nomatch h),rfl⟩
 | cons r _ ih =>
  refine⟨fun x hx=> ?_,?_⟩
  ·rcases List.mem_cons.mp hx with rfl|hx
   ·exact r.1
   ·exact ih.1 x hx
  ·rw[r.2,ih.2];rfl
theorem JV {e:V}(h:bF e):(if fL e= "-" then V.non else V.str (fL e))=e:=by
 rcases h with rfl|⟨z,rfl,hz⟩
 ·rfl
 ·show (if z= "-" then V.non else V.str z)=V.str z;rw[if_neg (HU hz)]
theorem JW {ns:List Int}(h:∀i∈ns,0<=i/\i<1000000000000):(ns.map aY).map (fun x=>V.int (lD x))=ns.map V.int:=by
 rw[List.map_map];exact List.map_congr_left fun i hi=>by show V.int (lD (aY i))=_;rw[(uK (h i hi).1 (h i hi).2).2]
theorem UM {x:Str}{Q:Key->Prop} (h:Q (.inr x)):∃k,V.str x=kV k/\Q k:=⟨_,rfl,h⟩
theorem IB (kd:Str):(c6 wiaK (.inr kd)).getD .non= .non∨∃i:Int,5<=i/\(c6 wiaK (.inr kd)).getD .non= .int i:=by
 have h:∀e∈wiaK,∃i:Int,5<=i/\e.2= .int i:=fun e he=>by
  simp only[wiaK,List.mem_cons,List.not_mem_nil,or_false]at he;rcases he with rfl|rfl|rfl|rfl|rfl
  ·exact⟨5,by decide,rfl⟩
  ·exact⟨6,by decide,rfl⟩
  ·exact⟨6,by decide,rfl⟩
  ·exact⟨7,by decide,rfl⟩
  ·exact⟨6,by decide,rfl⟩
 unfold c6;cases e:wiaK.find? fun kv=>decide (kv.1= .inr kd) with
 | none=>exact .inl rfl
 | some x =>
  obtain⟨i,hi,ex⟩:=h x (List.mem_of_find?_eq_some e);exact .inr ⟨i,hi,ex⟩
theorem M6 {v:V}{j j':Int}{H:Hp}{Q:VK} (hv:v= .int j') (ej:j'=j) (h:Q (.bl false) H):rNe v (.int j) H Q:=by
 subst hv;subst ej;exact⟨rfl,by rw[decide_eq_true rfl];exact h⟩
theorem MG {v:V}{j j':Int}{H:Hp}{Q:VK} (hc:v= .non∨∃i:Int,5<=i/\v= .int i) (hv:v≠ .int j') (ej:j'=j) (h:Q (.bl true) H):rNe v (.int j) H Q:=by
 subst ej;rcases hc with rfl|⟨i,_,rfl⟩
 ·exact⟨rfl,by rw[decide_eq_false hv];exact h⟩
 ·exact⟨rfl,by rw[decide_eq_false hv];exact h⟩
theorem GI {kd:Str}{ns:List Int}{L:Int->Int} (h:Bk kd ns L):(c6 wiaK (.inr kd)).getD .non= .int ((ns.length:Int)+4):=by
 cases h<;>rfl
local macro_rules| `(tactic| walk_at"rd1")=> `(tactic| first|((with_reducible refine' PH ?e ?_);(case e=>walk_at"hp"))|((with_reducible refine' O1 ?e ?_);(case e=>walk_at"hp"))|((with_reducible refine' PK ?e ?_);(case e=>walk_at"hp"))|((with_reducible refine' GE ?e ?_);(case e=>walk_at"hp"))|(with_reducible refine NQ ?_)|(with_reducible refine UM ?_))
theorem rR (m:M w K mg):FnOk P w K mg base (CXE P w) 6 m.i8 m.jB ["words"] (pA P w base m):=by
 refine m.fO.okE sc_door_by_itself (fun vs H Q E h=> ?_) (fun cdv A outer s H vs Q E hr h=> ?_)
 ·walk_at"g1";obtain⟨q,kd,r,rfl,hq,hx,hl,hc⟩:=h;walk_at"g2";rfl
 ·walk_at"g1";obtain⟨q,kd,r,rfl,hq,hx,hl,hc⟩:=h;walk_at"g2";have nd:=sc_door_by_itself.nd;have hu0:=Room.units0 hr;have hu9:=Room.units9 hr;have bY:= @iW P w K mg base m;have K_Beat_0:= @xH P w K mg base m;have K_Door_0:= @wW P w K mg base m;have K_Marked_0:= @sD P w K mg base m;have K_Since_0:= @tQ P w K mg base m;have K_Until_0:= @u5 P w K mg base m;refine⟨_,(aD (bL (aR nC (OJ m.wK (l6 rfl m.wG) (bK aZ (pv 0) aC (fun _ _=>rfl)) ⟨rfl,rfl,rfl,rfl⟩) (bU lA rfl m.lY jV (aA (pv 0) aB)) (aU _)) (aF (oV m.mD m.pG t9 (aA aI aB))) bA)
   (aD (bB (i:=1) nd rfl (by walk_at"oi") (bK aZ (pv 0) aC (fun _ _=>rfl)))
   (aD (bB (i:=2) nd rfl (by walk_at"oi") (bK aZ (pv 0) aC (fun _ _=>rfl)))
   (aD (bB (i:=3) nd rfl (by walk_at"oi") (gS (aR cE (bK aZ (pv 0) aC (fun _ _=>rfl)) aI (aU _)) l5 (bK aZ (pv 0) aC (fun _ _=>rfl))))
   (aD (CD (i:=4) nd rfl (by walk_at"oi") (N:=["word"]) (nl:=1) (ci:=[]) K5 rfl (blk (s.heap.objs.size+1) rfl rfl rfl (by kernel_rfl)) (vW (fM jK (pv 0) (gE aC) jJ)) (fun _ _ _ _=>(dQ (i:=0) (show (["word"]:List Str).Nodup by decide +kernel) rfl (by walk_at"oi"))) (fun _ _ _ _=>uL) (fun _ _ _ _=>(k7 bY hr T7 (aA (pv 0) aB))))
   (aD (bL (aR cE (bK aZ (pv 0) aC (fun _ _=>rfl)) aI (aU _)) (aF (aK (gO K_Door_0 hr (aA (pv 1) (aA (pv 2) (aA (pv 3) (aA (bK aZ (pv 4) aC (fun _ _=>rfl)) aB))))))) bA)
   (aD (bL (aR cE (bK aZ (pv 0) aC (fun _ _=>rfl)) aI (aU _)) (aF (aK (gO K_Since_0 hr (aA (pv 1) (aA (pv 2) (aA (pv 3) (aA (bK aZ (pv 4) aC (fun _ _=>rfl)) (aA (bK aZ (pv 4) aC (fun _ _=>rfl)) aB)))))))) bA)
   (aD (bL (aR cE (bK aZ (pv 0) aC (fun _ _=>rfl)) aI (aU _)) (aF (aK (gO K_Until_0 hr (aA (pv 1) (aA (pv 2) (aA (pv 3) (aA (bK aZ (pv 4) aC (fun _ _=>rfl)) (aA (bK aZ (pv 4) aC (fun _ _=>rfl)) aB)))))))) bA)
   (aD (bL (aR cE (bK aZ (pv 0) aC (fun _ _=>rfl)) aI (aU _)) (aF (aK (gO K_Beat_0 hr (aA (pv 1) (aA (pv 2) (aA (pv 3) (aA (bK aZ (pv 4) aC (fun _ _=>rfl)) (aA (bK aZ (pv 4) aC (fun _ _=>rfl)) (aA (bK aZ (pv 4) aC (fun _ _=>rfl)) aB))))))))) bA)
   (aF (aK (gO K_Marked_0 hr (aA (pv 1) (aA (pv 2) (aA (pv 3) (aA (bK aZ (pv 4) aC (fun _ _=>rfl)) (aA (bK aZ (pv 4) aC (fun _ _=>rfl)) aB))))))))))))))))),?_⟩
  refine aN (σ:=[some (.ref q),none,none,none,none]) rfl ?_;walk_at"cx";have dc0:=m.jO;have dc1:=m.hZ;have dc2:=m.iB;have dc3:=m.jP;have dc4:=m.fJ;have hg:=IB kd;walk_at"go";have ej:(r.length:Int)+1=((V.str kd::r.map V.str).length:Nat):=by rw[List.length_cons,List.length_map];lia
  by_cases hv:(c6 wiaK (.inr kd)).getD .non= .int ((r.length:Int)+1)
  ·obtain⟨a,b,c,r',rfl⟩:∃a b c r',r=a::b::c::r':=by
    rcases hg with h|⟨i,hi,h⟩
    ·rw[h]at hv;cases hv
    ·rw[h]at hv;have:=V.int.inj hv
     match r,this with
     | a::b::c::r',_=>exact⟨a,b,c,r',rfl⟩
     | [_,_],h=>simp at h;lia
     | [_],h=>simp at h;lia
     | [],h=>simp at h;lia
   refine M6 hv ej ?_;walk_at"go";refine M4 (SqL.of hq) ?_;walk_at"go";rename_i p1 H1 n1 S1 e1;have e1':H1 p1=some (.lst (r'.map V.str)):=by rw[e1];exact congrArg (fun z=>some (HO.lst z)) (A5 (kd::a::b::c::r') 4)
   clear e1;refine NX (fun v x=>v= .str x) (fun _=>true) (fun x y _=>wrB x=true/\y=V.int (lD x)) (fun _ _ _ _ h _=>h) (by rw[sizeLine_eq];simp only[List.length_cons]at hl;lia) (rest:=[]) (by rfl) (SqL.of e1') (sI r') ?_ ?_ ?_
   ·intro v x H2 _ _ _ R hR;exact hR _ (Same.refl _)
   ·rintro v x H2 rfl hm - s2 R hR;walk_at"go";have hxl:=hx x (by simp[hm]);refine AZ (by lia) (fun hw H3 s3=>hR _ _ ⟨hw,rfl⟩ s3) fun hw H3 s3=> ?_;rcases hc with⟨nm,st,e,ns,L,⟨er,hb,_⟩,_⟩|⟨_,k⟩
    ·exfalso
     have er':r'=ns.map aY:=(List.cons.inj (List.cons.inj (List.cons.inj er).2).2).2;subst er';obtain⟨i,hi,rfl⟩:=List.mem_map.mp hm;have hin:=hb.num i hi;rw[(uK hin.1 hin.2).1]at hw;cases hw
    ·exact k _ ((S1.trans s2).trans s3)
   ·intro ys H2 s2 hys;rw[List.filter_eq_self.mpr (fun _ _=>rfl)]at hys;obtain⟨hw,rfl⟩:=N4 hys;rcases hc with⟨nm,st,e,ns,L,⟨er,hb,hn,hs,he⟩,k⟩|⟨hb,_⟩
    ·have q1:=(List.cons.inj er).1;have q2:=(List.cons.inj (List.cons.inj er).2).1;have q3:=(List.cons.inj (List.cons.inj (List.cons.inj er).2).2).1;have q4:r'=ns.map aY:=(List.cons.inj (List.cons.inj (List.cons.inj er).2).2).2;clear er hys hw hx ej hv hg;subst q1;subst q2;subst q3;subst q4;rw[JV he,JW hb.num];have s02:=S1.trans s2;cases hb with
     | door wd h0 h1 =>
      walk_at"go";rename_i p3 H3 n3 S3 e3 p4 dx4 H4 n4 S4 e4;exact k p4 H4 (dP (s02.trans S3) n4) ((s02.trans S3).trans S4) (xE m e4 hn hs he h0 h1)
     | since wd a1 h0 h1 h2 h3 =>
      walk_at"go";rename_i p3 H3 n3 S3 e3 p4 dx4 H4 n4 S4 e4;exact k p4 H4 (dP (s02.trans S3) n4) ((s02.trans S3).trans S4) (tS m e4 hn hs he h0 h1 h2 h3)
     | til wd a1 h0 h1 h2 h3 =>
      walk_at"go";rename_i p3 H3 n3 S3 e3 p4 dx4 H4 n4 S4 e4;exact k p4 H4 (dP (s02.trans S3) n4) ((s02.trans S3).trans S4) (uN m e4 hn hs he h0 h1 h2 h3)
     | beat wd a1 b1 h0 h1 h2 h3 h4 h5 =>
      walk_at"go";rename_i p3 H3 n3 S3 e3 p4 dx4 H4 n4 S4 e4;exact k p4 H4 (dP (s02.trans S3) n4) ((s02.trans S3).trans S4) (wS m e4 hn hs he h0 h1 h2 h3 h4 h5)
     | marked wd a1 h0 h1 h2 h3 =>
      walk_at"go";rename_i p3 H3 n3 S3 e3 p4 dx4 H4 n4 S4 e4;exact k p4 H4 (dP (s02.trans S3) n4) ((s02.trans S3).trans S4) (sF m e4 hn hs he h0 h1 h2 h3)
    ·exfalso
     rcases hb with h|⟨x,hx,h⟩
     ·exact h hv
     ·rw[hw x hx]at h;cases h
  ·have k:∀H',Same H H'->E (.ref m.aV) none H':=by
    rcases hc with⟨nm,st,e,ns,L,⟨rfl,hb,_⟩,_⟩|⟨_,k⟩
    ·refine absurd ?_ hv;rw[GI hb]
     congr 1
     simp only[List.length_append,List.length_cons,List.length_nil,List.length_map]
     lia
    ·exact k
   refine MG hg hv ej ?_;walk_at"go";refine sN ?_;walk_at"go";exact⟨(by show 1<=sizeLine;decide),k _ (Same.refl _)⟩
theorem rQ (m:M w K mg):FcE P w K mg base "door_by_itself" 6 ["words"] (pA P w base m):=⟨_,_,m.tP,m.fO.kp,m.tK,rR m⟩
def RdH (x:List Str):Prop:=(∃a:Str,x=[("shut" :Str),a])∨∃a b:Str,x=[("wider" :Str),a,b]
theorem yX (r:Rnd):RdH (rdW r):=by
 rcases r with a|⟨a,b⟩
 ·exact .inl ⟨_,rfl⟩
 ·exact .inr ⟨_,_,rfl⟩
def J6:List (Key×V):=[(.inr "shut",.int 2),(.inr "wider",.int 3)]
theorem IX {kd:Str}(h1:kd≠ "shut")(h2:kd≠ "wider"):c6 J6 (.inr kd)=none:=by
 unfold c6 J6;rw[List.find?_cons,decide_eq_false (fun z=>h1 (Sum.inr.inj z).symm),List.find?_cons,decide_eq_false (fun z=>h2 (Sum.inr.inj z).symm)];rfl
inductive uE (P:Program)(w:World)(base:Heap)(m:M w K mg)(vs:List V)(H:Hp)(Q:VK)(E:XK):Prop
 | mk (q:Addr) (pre:List (List Str)) (kd:Str) (r:List Str) (_:vs=[.ref q]) (_:H q=some (.lst ((pre.flatten++kd::r).map V.str))) (_:(∀x∈pre,RdH x)) (_:kd≠ "shut") (_:kd≠ "wider") (_:(∀x∈r,x.length<=1000)) (_:r.length<=1000) (_:pre.length<=16) (_:((∃(rs:List Rnd) (nm st:Str) (e:V) (ns:List Int) (L:Int->Int),pre=rs.map rdW/\(∀x∈rs,p9 x)/\yQ kd r nm st e ns L/\∀p H',H p=none->Same H H'->DoorAt P w base m (4+rs.length) H' p nm st e (rs.foldr rdL L) (some (rs.foldr rdT (bJ kd nm st e ns)))->Q (.ref p) H')∨(qO kd r/\∀H',Same H H'->E (.ref m.aV) none H'))):uE P w base m vs H Q E
def RAt (H:Hp)(p:Addr)(us:List V)(xs:List (List Str)):Prop:=Paired (fun v x=>∃a,v= .ref a/\a≠p/\H a=some (.lst (x.map V.str))) us xs
theorem RAt.but {H H':Hp}{p:Addr}{us:List V}{xs:List (List Str)} (h:RAt H p us xs) (s:SameBut p H H'):RAt H' p us xs:=Paired.imp' (fun _ _ ⟨a,e,n,g⟩=>⟨a,e,n,s _ _ g n⟩) h
theorem RAt.same {H H':Hp}{p:Addr}{us:List V}{xs:List (List Str)} (h:RAt H p us xs) (s:Same H H'):RAt H' p us xs:=Paired.imp' (fun _ _ ⟨a,e,n,g⟩=>⟨a,e,n,s _ _ g⟩) h
theorem uU {α β:Type}{F:α->β->Prop}:∀{l:List α}{m:List β},Paired F l m->Paired F l.reverse m.reverse
 | _,_,.nil=> .nil
 | _,_,.cons h t=>by rw[List.reverse_cons,List.reverse_cons];exact(uU t).snoc h
theorem oQ {α β:Type}{F:α->β->Prop}:∀{l:List α}{m:List β},Paired F l m->l.length=m.length
 | _,_,.nil=>rfl
 | _,_,.cons _ t=>congrArg (·+1) (oQ t)
section
variable {H:Hp}{Q:VK}{q D:Addr}{A C:List Str}{y:Str}{kvs:List (Key×V)}{v:V}
theorem vM (e:SqL K H q ((A++y::C).map V.str))(h:Q (.str y) H):nH K (.ref q) (.int (A.length:Int)) H Q :=
 ⟨q,_,_,_,rfl,rfl,e,f8 (by rw[List.getElem?_map,List.getElem?_append_right (Nat.le_refl _),Nat.sub_self];rfl),h⟩
theorem NH (h0:c6 kvs (.inr y)=none)(h:Q (.bl false) H):KQ D kvs (.str y) (.ref D) H Q:=⟨_,rfl,rfl,by rw[h0];exact h⟩
theorem NA (h0:c6 kvs (.inr y)=some v)(h:Q (.bl true) H):KQ D kvs (.str y) (.ref D) H Q:=⟨_,rfl,rfl,by rw[h0];exact h⟩
theorem SD (hv:c6 kvs (.inr y)=some v)(h:Q v H):O9 D kvs (.ref D) (.str y) H Q:=⟨_,_,rfl,rfl,hv,h⟩
theorem MA (A x C:List Str):gJ ((A++x++C).map V.str) (some (A.length:Int)) (some ((A.length+x.length:Nat):Int))=x.map V.str:=by
 unfold gJ;rw[HT.sIx_nat,HT.sIx_nat,List.length_map,←List.map_drop,←List.map_take]
 congr 1
 simp only[List.length_append];rw[Nat.min_eq_left (by lia),Nat.min_eq_left (by lia),show A.length+x.length - A.length=x.length by lia,List.append_assoc,List.drop_left,List.take_left]
theorem KC (A C:List Str):gJ ((A++C).map V.str) (some (A.length:Int)) none=C.map V.str:=by
 rw[A5,List.drop_left]
end
theorem HQ {H:Hp}{Q:VK}{l:Addr}{xs:List V}{y:V} (e:H l=some (.lst xs)) (hz:xs.length<sizeLine) (h:∀H',SameBut l H H'->H' l=some (.lst (xs++[y]))->Q .non H'):DD (.ref l) [y] H Q :=
 ⟨l,xs,y,rfl,rfl,e,hz,h _ SameBut.upd bP⟩
theorem M8 {m:M w K mg}{H:Hp}{Q:VK}{E:XK}{q:Addr}{kd:Str}{r:List Str} (hq:H q=some (.lst ((kd::r).map V.str))) (hx:∀x∈r,x.length<=1000) (hl:r.length<=1000) (h:(∃(nm st:Str) (e:V) (ns:List Int) (L:Int->Int),yQ kd r nm st e ns L/\∀p H',H p=none->Same H H'->DoorAt P w base m 4 H' p nm st e L (some (bJ kd nm st e ns))->Q (.ref p) H')∨(qO kd r/\∀H',Same H H'->E (.ref m.aV) none H')):pA P w base m [.ref q] H Q E:=⟨_,_,_,rfl,hq,hx,hl,h⟩
theorem sT (m:M w K mg):FnOk P w K mg base (CXE P w) 7 m.kB m.kC ["words"] (uE P w base m):=by
 refine m.gQ.okE sc_door_of_words (fun vs H Q E h=> ?_) (fun cdv A outer s H vs Q E hr h=> ?_)
 ·walk_at"g1";obtain⟨q,pre,kd,r,rfl,hq,hpre,hk1,hk2,hx,hl,hpl,hc⟩:=h;walk_at"g2";rfl
 ·walk_at"g1";obtain⟨q,pre,kd,r,rfl,hq,hpre,hk1,hk2,hx,hl,hpl,hc⟩:=h;walk_at"g2";have nd:=sc_door_of_words.nd;have hu0:=Room.units0 hr;have hu9:=Room.units9 hr;have fO:= @rQ P w K mg base m;have kA:= @xS P w K mg base m;refine⟨_,(aD (bB (i:=1) nd rfl (by walk_at"oi") (b6 aB))
   (aD (bB (i:=2) nd rfl (by walk_at"oi") aC)
   (aD (J2 y6 (PW.pt (AN (aR tT (pv 2) (bU lA rfl m.lY jV (aA (pv 0) aB)) (aU _)) (vR (aR (R7 m.pN) (bK aZ (pv 0) (pv 2) (fun _ _=>rfl)) (l6 rfl m.pO) (by with_unfolding_all rfl))))) (aD (bB (i:=3) nd rfl (by walk_at"oi") (aG jU (pv 2) (RE m.pN (l6 rfl m.pO) (bK aZ (pv 0) (pv 2) (fun _ _=>rfl)) (fun _ _=>rfl))))
   (aD (b3 (j4 PySem.F.plainAttrs_list PySem.F.slot_list_append PySem.F.type_list_append qJ (pv 1) (aA (fM jK (pv 0) (gE (pv 2)) (gE (pv 3))) aB)))
   (aF (bB (i:=2) nd rfl (by walk_at"oi") (pv 3))))))
   (aD (bL (aR tV (pv 2) (bU lA rfl m.lY jV (aA (pv 0) aB)) (aU _)) (aF (oV m.mD m.pG t9 (aA aI aB))) bA)
   (aD (bB (i:=4) nd rfl (by walk_at"oi") (k7 fO hr lX (aA (fM jK (pv 0) (gE (pv 2)) jJ) aB)))
   (aD (z7 y6 rfl (RK rfl m.F7 (aA (pv 1) aB)) (dQ (i:=5) nd rfl (by walk_at"oi")) (aF (bB (i:=4) nd rfl (by walk_at"oi") (k7 kA hr lX (aA (pv 4) (aA (pv 5) aB))))))
   (aF (aK (pv 4))))))))),?_⟩
  refine aN (σ:=[some (.ref q),none,none,none,none,none]) rfl ?_;walk_at"cx";walk_at"gs";rename_i p0 H0 n0 S0 e0;refine JH (W:=fun mm σ' H'=>∃(A B:List (List Str)) (us:List V) (x3:Option V),pre=A++B/\mm=B.length/\σ'=[some (.ref q),some (.ref p0),some (.int (A.flatten.length:Int)),x3,none,none]/\SameBut p0 H0 H'/\H' p0=some (.lst us)/\RAt H' p0 us A) pre.length ⟨[],pre,[],none,rfl,rfl,rfl,SameBut.refl,e0,.nil⟩ ?_;rintro mm _ H1 hq_;walk_at"g1";obtain⟨A1,B,us,x3,rfl,rfl,rfl,sb,eu,hR⟩:=hq_;walk_at"g2";have s1:Same H H1:=SameBut.same n0 S0 sb;have hq1:=s1 _ _ hq;walk_at"go";rw[if_pos (decide_eq_true (by rw[List.length_map,List.flatten_append];simp only[List.length_append,List.length_cons];lia))];cases B with
  | nil =>
   rw[List.append_nil]at hq1 hc hpre hpl ⊢;walk_at"go";refine vM (SqL.of hq1) ?_;walk_at"go";refine NH (IX hk1 hk2) ?_;walk_at"go";rw[if_neg (by simp only[decide_eq_true_eq];rw[List.length_map];simp only[List.length_append,List.length_cons];lia)];walk_at"go";rename_i p2 H2 n2 S2 e2;rw[KC]at e2;refine M8 e2 hx hl ?_;rcases hc with⟨rs,nm,st,e,ns,L,epre,hok,hgood,k⟩|⟨hb,k⟩
   ·refine .inl ⟨nm,st,e,ns,L,hgood,fun d H3 nd3 S3 hd=> ?_⟩;have hlen:us.length=rs.length:=by rw[oQ hR,epre,List.length_map]
    have eu3:=S3 _ _ (S2 _ _ eu);have s13:=S2.trans S3;walk_at"go";unfold RD;walk_at"go";refine⟨p0,us,rfl,SqL.of eu3,?_⟩;let Pv1:Nat->St->Hp->Prop:=fun i σ' H'=>∃(d:Addr) (x5:Option V),σ'=[some (.ref q),some (.ref p0),some (.int (A1.flatten.length:Int)),x3,some (.ref d),x5]/\Same H3 H'/\H d=none/\DoorAt P w base m (4+i) H' d nm st e ((rs.reverse.take i).foldl (fun L r=>rdL r L) L) (some ((rs.reverse.take i).foldl (fun z r=>rdT r z) (bJ kd nm st e ns)));refine NJ us Pv1 ⟨d,none,rfl,Same.refl _,dP (s1.trans S2) nd3,hd⟩ ?_ ?_ ?_
    ·rintro i σ' H' _ hq_;walk_at"g1";obtain⟨_,_,_,s',_⟩:=hq_;walk_at"g2";exact SqL.of (s' _ _ eu3)
    ·rintro i v _ H' hv hq_;walk_at"g1";obtain⟨d',x5,rfl,s',hd0,hd'⟩:=hq_;walk_at"g2";have hi:i<us.reverse.length:=(List.getElem?_eq_some_iff.mp hv).1;rw[List.length_reverse,hlen]at hi;obtain⟨r1,hr1⟩:∃r1,rs.reverse[i]? =some r1:=⟨_,List.getElem?_eq_getElem (by rw[List.length_reverse];exact hi)⟩
     walk_at"g1";obtain⟨a,rfl,_,ea⟩:=L2.Paired.at2 (uU hR) hv (b:=rdW r1) (by rw[epre,←List.map_reverse,List.getElem?_map,hr1];rfl);walk_at"g2";walk_at"g1";obtain⟨hgr,hgb,hgn,hgs,hge⟩:=hgood;walk_at"g2";walk_at"go";refine⟨4+i,d',a,r1,nm,st,e,_,_,rfl,s' _ _ (s13 _ _ ea),hok r1 (List.mem_reverse.mp (List.mem_of_getElem? hr1)),hd',?_,hgn,hgs,hge,fun p4 H4 n4 S4 hd4=> ?_⟩
     ·rw[epre,List.length_map]at hpl;lia
     walk_at"go";refine⟨p4,_,rfl,s'.trans S4,dP (s1.trans (s13.trans s')) n4,?_⟩;rw[List.take_succ,hr1];simp only[Option.toList_some,List.foldl_append,List.foldl_cons,List.foldl_nil];exact hd4
    ·rintro _ H' hq_;walk_at"g1";obtain⟨d',x5,rfl,s',hd0,hd'⟩:=hq_;walk_at"g2";walk_at"go";refine k d' H' hd0 (s1.trans (s13.trans s')) ?_;rw[hlen,←List.length_reverse,List.take_length,List.length_reverse,List.foldl_reverse,List.foldl_reverse]at hd';exact hd'
   ·exact .inr ⟨hb,fun H3 S3=>k _ ((s1.trans S2).trans S3)⟩
  | cons x B =>
   have hx0:=hpre x (by simp);obtain⟨y,x',n,ey,hv⟩:∃(y:Str) (x':List Str) (n:Nat),x=y::x'/\c6 J6 (.inr y)=some (.int (x.length:Int))/\n=0:=by
    rcases hx0 with⟨a,rfl⟩|⟨a,b,rfl⟩
    ·exact⟨_,_,0,rfl,rfl,rfl⟩
    ·exact⟨_,_,0,rfl,rfl,rfl⟩
   have ew:(A1++x::B).flatten++kd::r=A1.flatten++x++(B.flatten++kd::r):=by
    rw[List.flatten_append,List.flatten_cons];simp only[List.append_assoc]
   have hq2:H1 q=some (.lst ((A1.flatten++y::(x'++(B.flatten++kd::r))).map V.str)):=by
    rw[hq1,ew,ey];simp only[List.append_assoc,List.cons_append]
   walk_at"go";refine vM (SqL.of hq2) ?_;walk_at"go";refine NA hv.1 ?_;walk_at"go";refine QG ?_;walk_at"go";refine vM (SqL.of hq2) ?_;walk_at"go";refine SD hv.1 ?_;walk_at"go";rename_i p2 H2 n2 S2 e2;have ex:A1.flatten++y::(x'++(B.flatten++kd::r))=A1.flatten++x++(B.flatten++kd::r):=by rw[ey];simp
   rw[ex,show ((A1.flatten.length:Int)+(x.length:Int))=((A1.flatten.length+x.length:Nat):Int) by lia,MA]at e2;have np:p2≠p0:=fun z=>by rw[z,eu]at n2;cases n2
   have hus:=oQ hR;refine HQ (S2 _ _ eu) (by rw[sizeLine_eq];simp only[List.length_append,List.length_cons]at hpl;lia) fun H3 B3 e3=> ?_;walk_at"go";have el:(((A1++[x]).flatten.length:Nat):Int)=(A1.flatten.length:Int)+(x.length:Int):=by simp
   exact⟨B.length,by simp,A1++[x],B,us++[.ref p2],_,by simp,rfl,by rw[el],fun b o h hb=>B3 _ _ (S2 _ _ (sb _ _ h hb)) hb,e3,L2.Paired.snoc ((RAt.same hR S2).but B3) ⟨p2,rfl,np,B3 _ _ e2 np⟩⟩
theorem sM (m:M w K mg):FcE P w K mg base "door_of_words" 7 ["words"] (uE P w base m):=⟨_,_,m.vB,m.gQ.kp,m.vE,sT m⟩
theorem kK (z:Str):∀{xs ys:List Str},xs≠[]->ys≠[]->Str.join z (xs++ys)=Str.join z xs++z++Str.join z ys
 | [],_,h,_=>absurd rfl h
 | [x],[],_,h=>absurd rfl h
 | [x],y::ys,_,_=>rfl
 | x::x2::xs,ys,_,h=>by
  have ih:=kK z (xs:=x2::xs) (fun z=>nomatch z) h;show x++z++Str.join z (x2::xs++ys)=x++z++Str.join z (x2::xs)++z++Str.join z ys;rw[ih];simp only[c7]
theorem DQ (z:Str)(y:Str):∀(xs:List Str) (x:Str),Str.join z (xs++[x])++y=Str.join z (xs++[x++y])
 | [],x=>rfl
 | [a],x=>c7 (a++z) x y
 | a::b::xs,x=>by
  show a++z++Str.join z (b::xs++[x])++y=a++z++Str.join z (b::xs++[x++y]);rw[c7,DQ z y (b::xs) x]
theorem jL (z:Str)(x:Str){xs:List Str}(h:xs≠[]):Str.join z (x::xs)=x++(z++Str.join z xs):=by
 cases xs with
 | nil=>exact absurd rfl h
 | cons y ys=>exact c7 x z _
structure DG (rs:List Rnd)(kd nm st:Str)(e:V)(ns:List Int)(L:Int->Int):Prop where
 len:rs.length<=12
 rok:∀x∈rs,p9 x
 bk:Bk kd ns L
 hn:aH nm=true
 hs:aH st=true
 he:bF e
def eZ (rs:List Rnd)(kd nm st:Str)(e:V)(ns:List Int):Str:=rs.foldr rdT (bJ kd nm st e ns)
def dL (nm st:Str)(e:V)(ns:List Int):List Str:=[nm,st,fL e]++ns.map aY
theorem o8 (kd nm st:Str)(e:V)(ns:List Int):∀rs:List Rnd,eZ rs kd nm st e ns=Str.join " " ((rs.map rdW).flatten++kd::dL nm st e ns)
 | []=>d8 _ _
 | r::rs=>by
  show rdT r (eZ rs kd nm st e ns)=_;rw[o8 kd nm st e ns rs];unfold rdT;have h0:rdW r≠[]:=by rcases r with a|⟨a,b⟩<;>exact fun z=>(nomatch z)
  rw[d8,List.map_cons,List.flatten_cons,List.append_assoc,kK " " (ys:=[_]) h0 (by simp),kK " " (ys:=(rs.map rdW).flatten++kd::dL nm st e ns) h0 (by simp)];rfl
theorem n9 {a:Int}(h0:0<=a)(h1:a<1000000000000):dJ (aY a)/\(aY a).length<=60:=⟨P9 h0 (Int.lt_trans h1 (by decide)),iD h0 (Int.lt_trans h1 (by decide)) (by decide)⟩
theorem OY {r:Rnd}(h:p9 r):∀x∈rdW r,dJ x:=by
 rcases r with a|⟨a,b⟩
 ·intro x hx;simp only[rdW,List.mem_cons,List.not_mem_nil,or_false]at hx;rcases hx with rfl|rfl
  ·exact cS (by decide +kernel)
  ·exact(n9 h.1 h.2).1
 ·intro x hx;simp only[rdW,List.mem_cons,List.not_mem_nil,or_false]at hx;rcases hx with rfl|rfl|rfl
  ·exact cS (by decide +kernel)
  ·exact(n9 h.1.1 h.1.2).1
  ·exact(n9 h.2.1 h.2.2).1
theorem eB {kd:Str}{ns:List Int}{L:Int->Int} (h:Bk kd ns L):dJ kd/\kd≠ "shut" /\kd≠ "wider" /\1<=ns.length/\ns.length<=3:=by
 cases h<;>exact⟨cS (by decide +kernel),by decide +kernel,by decide +kernel,by simp,by simp⟩
theorem RS {e:V}(h:bF e):dJ (fL e):=by
 rcases h with rfl|⟨z,rfl,hz⟩
 ·exact cS (by decide +kernel)
 ·exact v8 hz
theorem zL {pre:List (List Str)}(h:∀x∈pre,RdH x):pre.flatten.length<=3 * pre.length:=by
 induction pre with
 | nil=>exact Nat.le_refl _
 | cons x pre ih =>
  have h1:x.length<=3:=by
   rcases h x (.head _) with⟨a,rfl⟩|⟨a,b,rfl⟩
   ·show 2<=3;decide
   ·exact Nat.le_refl _
  have h2:=ih fun y hy=>h y (.tail _ hy);rw[List.flatten_cons,List.length_append,List.length_cons]
  lia
theorem jI {kd nm st:Str}{e:V}{ns:List Int}{L:Int->Int}{rs:List Rnd} (g:DG rs kd nm st e ns L):∀x∈dL nm st e ns,dJ x:=fun x hx=>by
 rcases List.mem_append.mp hx with h|h
 ·simp only[List.mem_cons,List.not_mem_nil,or_false]at h;rcases h with rfl|rfl|rfl
  ·exact v8 g.hn
  ·exact v8 g.hs
  ·exact RS g.he
 ·obtain⟨i,hi,rfl⟩:=List.mem_map.mp h;have:=g.bk.num i hi;exact(n9 this.1 this.2).1
theorem O3 {rs:List Rnd}(h:∀x∈rs,p9 x):∀x∈(rs.map rdW).flatten,dJ x:=fun x hx=>by
 obtain⟨y,hy,hxy⟩:=List.mem_flatten.mp hx;obtain⟨r,hr,rfl⟩:=List.mem_map.mp hy;exact OY (h r hr) x hxy
theorem yV {rs:List Rnd}{kd:Str}{r:List Str} (hl:rs.length<=12) (hr:∀x∈rs,p9 x) (hk:dJ kd) (hrl:r.length<=15) (hx:∀x∈r,dJ x):WsG ((rs.map rdW).flatten++kd::r):=by
 refine⟨by simp,?_,fun x h=> ?_⟩
 ·have:=zL (pre:=rs.map rdW) fun x hx=>by
   obtain⟨r,_,rfl⟩:=List.mem_map.mp hx;exact yX r
  rw[List.length_map]at this;rw[List.length_append,List.length_cons]
  lia
 ·rcases List.mem_append.mp h with h|h
  ·exact O3 hr x h
  ·rcases List.mem_cons.mp h with rfl|h
   ·exact hk
   ·exact hx x h
def jY (x:Str):Prop:=∃(pre:List (List Str)) (kd:Str) (r:List Str),x=Str.join " " (pre.flatten++kd::r)/\WsG (pre.flatten++kd::r)/\(∀y∈pre,RdH y)/\kd≠ "shut" /\kd≠ "wider" /\pre.length<=16/\qO kd r
theorem uS {kd nm st:Str}{e:V}{ns:List Int}{L:Int->Int}{rs:List Rnd} (g:DG rs kd nm st e ns L) {r:List Str} (hrl:r.length<=15) (hx:∀x∈r,dJ x) (hb:qO kd r):jY (Str.join " " ((rs.map rdW).flatten++kd::r)) :=
 ⟨rs.map rdW,kd,r,rfl,yV g.len g.rok (eB g.bk).1 hrl hx,fun y hy=>by
  obtain⟨r,_,rfl⟩:=List.mem_map.mp hy;exact yX r,(eB g.bk).2.1,(eB g.bk).2.2.1,by rw[List.length_map];have:=g.len;lia,hb⟩
theorem v9 {kd:Str}{ns:List Int}{L:Int->Int} (h:Bk kd ns L) {r:List Str} (hr:r.length≠ns.length+3):qO kd r:= .inl (by
 rw[GI h];intro z;have:=V.int.inj z
 lia)
def iN (x:Str):Prop:=∀y∈([("shut" :Str),"wider","door","since","until","beat","marked"]:List Str),x≠y
theorem OU {x:Str}(h:iN x):c6 wiaK (.inr x)=none:=by
 unfold c6 wiaK;rw[List.find?_cons,decide_eq_false (fun z=>h "door" (by simp) (Sum.inr.inj z).symm),List.find?_cons,decide_eq_false (fun z=>h "since" (by simp) (Sum.inr.inj z).symm),List.find?_cons,decide_eq_false (fun z=>h "until" (by simp) (Sum.inr.inj z).symm),List.find?_cons,decide_eq_false (fun z=>h "beat" (by simp) (Sum.inr.inj z).symm),List.find?_cons,decide_eq_false (fun z=>h "marked" (by simp) (Sum.inr.inj z).symm)];rfl
theorem RF {x:Str}(h:iN x)(r:List Str):qO x r:= .inl (by rw[OU h];exact fun z=>nomatch z)
theorem rG {pre:List (List Str)}{kd:Str}{r:List Str} (hg:WsG (pre.flatten++kd::r)) (hp:∀y∈pre,RdH y) (hl:pre.length<=16) (h:iN kd):jY (Str.join " " (pre.flatten++kd::r)) :=
 ⟨pre,kd,r,rfl,hg,hp,h _ (by simp),h _ (by simp),hl,RF h r⟩
theorem A6:iN "" :=by unfold iN;decide +kernel
theorem AY {a:Int}(h0:0<=a):iN (aY a):=fun y hy z=>by
 obtain⟨n,rfl⟩:∃n:Nat,a=n:=⟨a.toNat,by lia⟩
 have h1:=o5 n;have e:(toString (n:Int):Str)=y:=z;rw[e]at h1;have key:∀y∈([("shut" :Str),"wider","door","since","until","beat","marked"]:List Str),∃c∈y.cps.toList,57<c:=by decide +kernel
 obtain⟨c,hc,h⟩:=key y hy;have:=h1 c hc
 lia
def NmK (x:Str):Prop:=x.length<=2∨x.cps.toList[1]? =some 107
theorem OA {x:Str}(h:NmK x):iN x:=fun y hy z=>by
 subst z;have key:∀y∈([("shut" :Str),"wider","door","since","until","beat","marked"]:List Str),¬(y.length<=2∨y.cps.toList[1]? =some 107):=by decide +kernel
 exact key x hy h
inductive o6 (P:Program)(w:World)(base:Heap)(m:M w K mg)(vs:List V)(H:Hp)(Q:VK)(E:XK):Prop
 | mk (x:V) (_:vs=[x]) (_:((∃n,BTy K H x n/\n≠ "str" /\E (.ref m.aV) none H)∨(∃z,x= .str z/\jY z/\∀H',Same H H'->E (.ref m.aV) none H')∨(∃rs kd nm st e ns L,x= .str (eZ rs kd nm st e ns)/\DG rs kd nm st e ns L/\∀p H',H p=none->Same H H'->DoorAt P w base m (4+rs.length) H' p nm st e (rs.foldr rdL L) (some (eZ rs kd nm st e ns))->Q (.ref p) H'))):o6 P w base m vs H Q E
theorem LF {m:M w K mg}{H:Hp}{Q:VK}{E:XK}{q:Addr}{pre:List (List Str)}{kd:Str}{r:List Str} (hq:H q=some (.lst ((pre.flatten++kd::r).map V.str))) (hg:WsG (pre.flatten++kd::r)) (hp:∀y∈pre,RdH y) (h1:kd≠ "shut") (h2:kd≠ "wider") (hl:pre.length<=16)
  (h:(∃(rs:List Rnd) (nm st:Str) (e:V) (ns:List Int) (L:Int->Int),pre=rs.map rdW/\(∀x∈rs,p9 x)/\yQ kd r nm st e ns L/\∀p H',H p=none->Same H H'->DoorAt P w base m (4+rs.length) H' p nm st e (rs.foldr rdL L) (some (rs.foldr rdT (bJ kd nm st e ns)))->Q (.ref p) H') ∨
  (qO kd r/\∀H',Same H H'->E (.ref m.aV) none H')):uE P w base m [.ref q] H Q E :=
 ⟨q,pre,kd,r,rfl,hq,hp,h1,h2,(fun x hx=>by
  have:=(hg.2.2 x (List.mem_append_right _ (.tail _ hx))).2
  lia),by have:=hg.2.1;rw[List.length_append,List.length_cons]at this;lia,hl,h⟩
theorem zY (m:M w K mg):FnOk P w K mg base (CXE P w) 8 m.iT m.nV ["text"] (o6 P w base m):=by
 refine m.gI.okE sc_read_door (fun vs H Q E h=> ?_) (fun cdv A outer s H vs Q E hr h=> ?_)
 ·obtain⟨x,rfl,h⟩:=h;rfl
 ·obtain⟨x,rfl,h⟩:=h;have nd:=sc_read_door.nd;have hu0:=Room.units0 hr;have hu9:=Room.units9 hr;have gQ:= @sM P w K mg base m;have gF:= @qR P w K mg base m;refine⟨_,(aD (b3 (k7 gF hr lX (aA (pv 0) aB)))
   (aF (N3 K5 rfl rfl rfl m.B2 (NB (TM gQ hr (aA (j4 PySem.F.plainAttrs_str PySem.F.slot_str_split PySem.F.type_str_split AR (pv 0) (aA aI aB)) aB)))))),?_⟩
  refine aN (σ:=[some (x)]) rfl ?_;walk_at"cx";rcases h with⟨n,b,hn,k⟩|⟨z,rfl,⟨pre,kd,r,rfl,hg,hp,h1,h2,hl,hb⟩,k⟩|⟨rs,kd,nm,st,e,ns,L,rfl,g,k⟩
  ·walk_at"gs";exact⟨x,n,rfl,b,fun z=>absurd z hn,fun _=>k⟩
  ·walk_at"go";unfold FT;walk_at"go";refine sV 32 tY (Nat.le_trans (uJ hg) (by decide)) fun p1 H1 n1 S1 e1=> ?_;rw[oZ hg]at e1;walk_at"go";refine LF e1 hg hp h1 h2 hl (.inr ⟨hb,fun H2 S2=>⟨m.aV,rfl,m.tE,k _ (S1.trans S2)⟩⟩)
  ·have hg:=yV (kd:=kd) (r:=dL nm st e ns) g.len g.rok (eB g.bk).1 (by have:=(eB g.bk).2.2.2.2;unfold dL;simp only[List.length_append,List.length_map,List.length_cons,List.length_nil];lia) (jI g);rw[o8];walk_at"go";unfold FT;walk_at"go";refine sV 32 tY (Nat.le_trans (uJ hg) (by decide)) fun p1 H1 n1 S1 e1=> ?_;rw[oZ hg]at e1;walk_at"go";refine LF e1 hg (fun y hy=>by
    obtain⟨r,_,rfl⟩:=List.mem_map.mp hy;exact yX r) (eB g.bk).2.1 (eB g.bk).2.2.1 (by rw[List.length_map];have:=g.len;lia) (.inl ⟨rs,nm,st,e,ns,L,rfl,g.rok,⟨rfl,g.bk,g.hn,g.hs,g.he⟩,fun p H2 n2 S2 hd=>k p H2 (dP S1 n2) (S1.trans S2) hd⟩)
theorem qP (m:M w K mg):FcE P w K mg base "read_door" 8 ["text"] (o6 P w base m):=⟨_,_,m.nO,m.gI.kp,m.CK,zY m⟩
def z4 (K:PySem.W.Frag)(H:Hp)(v:V):Prop:=∃n,BTy K H v n/\(∀z,v= .str z->z.length<=1000000)/\∀z,v= .str z->wrB z=false
def EC (K:PySem.W.Frag)(H:Hp)(v:V):Prop:=(∃n,BTy K H v n/\n≠ "str")∨∃z,v= .str z/\jY z
inductive oE (m:M w K mg)(vs:List V)(H:Hp)(Q:VK)(E:XK):Prop
 | mk (f:Addr) (v:V) (_:vs=[.ref f,v]) (_:((f=m.iA/\z4 K H v)∨(f=m.iT/\EC K H v))) (_:∀H',Same H H'->Q (.bl true) H'):oE m vs H Q E
theorem R1 {m:M w K mg}{H:Hp}{Q:VK}{E:XK}{v:V} (h:z4 K H v) (k:∀H',Same H H'->Q (.bl true) H'):oE m [.ref m.iA,v] H Q E:=⟨_,_,rfl,.inl ⟨rfl,h⟩,k⟩
theorem RA {m:M w K mg}{H:Hp}{Q:VK}{E:XK}{v:V} (h:EC K H v) (k:∀H',Same H H'->Q (.bl true) H'):oE m [.ref m.iT,v] H Q E:=⟨_,_,rfl,.inr ⟨rfl,h⟩,k⟩
local macro_rules| `(tactic| walk_at"rd1")=> `(tactic| first|((with_reducible refine' Q7 ?e ?k ?i ?_);(case e=>walk_at"hp");(case k=>assumption);(case i=>assumption))|((with_reducible refine' ND ?e ?k ?i ?_);(case e=>walk_at"hp");(case k=>assumption);(case i=>assumption)))
theorem u3 (m:M w K mg):FnOk P w K mg base CX0 9 m.kM m.kQ ["_law_read","_law_thing"] (oE m):=by
 refine m.dS.ok sc__law_refused (fun vs H Q E h=> ?_) (fun cdv A outer s H vs Q E hr h=> ?_)
 ·walk_at"g1";obtain⟨f,v,rfl,hv,k⟩:=h;walk_at"g2";rfl
 ·walk_at"g1";obtain⟨f,v,rfl,hv,k⟩:=h;walk_at"g2";have nd:=sc__law_refused.nd;have hu0:=Room.units0 hr;have hu9:=Room.units9 hr;have gI:= @qP P w K mg base m;have bY:= @iW P w K mg base m;refine⟨_,(aD (P8 (i:=2) nd rfl rfl rfl rfl m.F4 (QP (i:=0) bY gI m.mQ m.nO hr (aA (pv 1) aB)) (fun ea=>(aF (aK (pZ (bU (xD K rfl) rfl m.cR cG (aA (pv 2) (aA (l6 rfl m.mD) aB))) (pZ (bU (EW K rfl) rfl m.cR cG (aA (pv 2) (aA (oP rfl m.BN xL) aB))) (pV (z8 (bU (xD K rfl) rfl m.cR cG (aA (pv 2) (aA (l6 rfl m.B2) aB)))))))))))
   (aF (aK jZ))),?_⟩
  refine aN (σ:=[some (.ref f),some (v),none]) rfl ?_;walk_at"cx";have fin:∀H1,Same H H1->∀ea,H1 ea=none->Same H (upd H1 ea (.ext (iX ea m.aV))):=fun H1 S1 ea hne=>S1.trans (o4 hne);refine G8 ?_;rcases hv with⟨rfl,n,b,hl,hw⟩|⟨rfl,hv⟩
  ·refine⟨_,rfl,.inl ⟨rfl,_,rfl,v,n,rfl,b,hl,fun z ez hz=> ?_,fun _ H1 S1=>⟨m.aV,rfl,m.hU,fun ea hne=> ?_⟩⟩⟩
   ·rw[hw z ez]at hz;cases hz
   ·have e0:(upd H1 ea (.ext (iX ea m.aV))) ea=some (.ext (iX ea m.aV)):=bP;have sE:=fin H1 S1 ea hne;have ek:=m.q0;have i1:=m.jH;have i2:=m.fN;have i3:=m.jF
    dsimp only[List.set]
    walk_at"go";exact k _ sE
  ·refine⟨_,rfl,.inr ⟨rfl,_,rfl,v,rfl,?_⟩⟩;rcases hv with⟨n,b,hn⟩|⟨z,rfl,hz⟩
   ·have S1:=Same.refl H;refine .inl ⟨n,b,hn,m.aV,rfl,m.hU,fun ea hne=> ?_⟩;have e0:(upd H ea (.ext (iX ea m.aV))) ea=some (.ext (iX ea m.aV)):=bP;have sE:=fin H S1 ea hne;have ek:=m.q0;have i1:=m.jH;have i2:=m.fN;have i3:=m.jF
    dsimp only[List.set]
    walk_at"go";exact k _ sE
   ·refine .inr (.inl ⟨z,rfl,hz,fun H1 S1=>⟨m.aV,rfl,m.hU,fun ea hne=> ?_⟩⟩);have e0:(upd H1 ea (.ext (iX ea m.aV))) ea=some (.ext (iX ea m.aV)):=bP;have sE:=fin H1 S1 ea hne;have ek:=m.q0;have i1:=m.jH;have i2:=m.fN;have i3:=m.jF
    dsimp only[List.set]
    walk_at"go";exact k _ sE
theorem m7 (m:M w K mg):Fc P w K mg base "_law_refused" 9 ["_law_read","_law_thing"] (oE m):=⟨_,_,m.wI,m.dS.kp,m.wJ,u3 m⟩
def rM (ns:List Int)(k:Int):Int:=ns.getD k.toNat 0
inductive rH (K:PySem.W.Frag)(vs:List V)(H:Hp)(Q:VK)(E:XK):Prop
 | mk (a:Addr) (ns:List Int) (k:Int) (_:vs=[.ref a,.int k]) (_:SqL K H a (ns.map V.int)) (_:0<=k) (_:Q (.int (rM ns k)) H):rH K vs H Q E
theorem QU {H:Hp}{Q:VK}{E:XK}{a:Addr}{ns:List Int}{i:Int} (hS:SqL K H a (ns.map V.int)) (hi:0<=i) (h:Q (.int (rM ns i)) H):rH K [.ref a,.int i] H Q E:=⟨_,_,_,rfl,hS,hi,h⟩
theorem u7 (m:M w K mg):FnOk P w K mg base CX0 1 m.kY m.kX ["_law_script","_law_k"] (rH K):=by
 refine m.fH.ok sc__law_cell_at (fun vs H Q E h=> ?_) (fun cdv A outer s H vs Q E hr h=> ?_)
 ·walk_at"g1";obtain⟨a,ns,i,rfl,hS,hi,k⟩:=h;walk_at"g2";rfl
 ·walk_at"g1";obtain⟨a,ns,i,rfl,hS,hi,k⟩:=h;walk_at"g2";have nd:=sc__law_cell_at.nd;have hu0:=Room.units0 hr;have hu9:=Room.units9 hr;refine⟨_,(aD (bL (aR tT (pv 1) (bU lA rfl m.lY jV (aA (pv 0) aB)) (aU _)) (aF (aK (bK aZ (pv 0) (pv 1) (fun _ _=>rfl)))) bA)
   (aF (aK aC))),?_⟩
  refine aN (σ:=[some (.ref a),some (.int i)]) rfl ?_;walk_at"cx";walk_at"go";rw[List.length_map];refine bV (fun h1=> ?_) (fun h1=> ?_)
  ·have hlt:i.toNat<ns.length:=by lia
   have e:=f8 (xs:=ns.map V.int) (j:=i.toNat) (v:= .int (rM ns i)) (by
    rw[List.getElem?_map,List.getElem?_eq_getElem hlt];unfold rM;rw[List.getD_eq_getElem?_getD,List.getElem?_eq_getElem hlt];rfl)
   rw[show ((i.toNat:Nat):Int)=i by lia]at e;exact⟨_,rfl,_,rfl,a,_,i,_,rfl,rfl,hS,e,k⟩
  ·have e:rM ns i=0:=by
    unfold rM;rw[List.getD_eq_getElem?_getD,List.getElem?_eq_none (by lia)];rfl
   rw[e]at k;exact k
theorem tX (m:M w K mg):Fc P w K mg base "_law_cell_at" 1 ["_law_script","_law_k"] (rH K):=⟨_,_,m.wB,m.fH.kp,m.wR,u7 m⟩
def AD (c k:Int):Int:=(c+7867 * k+1) * 48271%2147483647
def zC (c k:Int):Int:=AD c k * (AD c k/1009+69621)%2147483647
theorem JC (c k:Int):0<=zC c k:=Int.emod_nonneg _ (by decide)
theorem KI (c k:Int):zC c k<2147483648:=Int.lt_trans (Int.emod_lt_of_pos _ (by decide)) (by decide)
inductive pF (vs:List V)(H:Hp)(Q:VK)(E:XK):Prop
 | mk (c k:Int) (_:vs=[.int c,.int k]) (_:0<=k) (_:k<=100) (_:∀n,0<=n->n<2147483648->Q (.int n) H):pF vs H Q E
theorem OB {H:Hp}{Q:VK}{E:XK}{c k:Int} (h0:0<=k) (h1:k<=100) (h:∀n,0<=n->n<2147483648->Q (.int n) H):pF [.int c,.int k] H Q E:=⟨_,_,rfl,h0,h1,h⟩
theorem xN (m:M w K mg):FnOk P w K mg base CX0 1 m.mG m.mL ["_law_cell","_law_k"] (pF):=by
 refine m.bD.ok sc__law_drawn (fun vs H Q E h=> ?_) (fun cdv A outer s H vs Q E hr h=> ?_)
 ·walk_at"g1";obtain⟨c,j,rfl,j0,j1,k⟩:=h;walk_at"g2";rfl
 ·walk_at"g1";obtain⟨c,j,rfl,j0,j1,k⟩:=h;walk_at"g2";have nd:=sc__law_drawn.nd;have hu0:=Room.units0 hr;have hu9:=Room.units9 hr;refine⟨_,(aD (bB (i:=2) nd rfl (by walk_at"oi") (aG bT (aG tW (aG jU (aG jU (pv 0) (aG tW aC (pv 1))) aC) aC) aC))
   (aF (aK (aG bT (aG tW (pv 2) (aG jU (aG fG (pv 2) aC) aC)) aC)))),?_⟩
  refine aN (σ:=[some (.int c),some (.int j),none]) rfl ?_;walk_at"cx";have k:=k _ (JC c j) (KI c j);unfold zC AD at k;walk_at"go";exact k
theorem lG (m:M w K mg):Fc P w K mg base "_law_drawn" 1 ["_law_cell","_law_k"] (pF):=⟨_,_,m.BH,m.bD.kp,m.BQ,xN m⟩
local macro_rules| `(tactic| walk_at"rd1")=> `(tactic| first|((with_reducible refine' QU ?e ?s ?_);(case e=>walk_at"hp");(case s=>walk_at"sd"))|((with_reducible refine' OB ?u ?v ?_);(case u=>walk_at"sd");(case v=>walk_at"sd");intro n' h0' h1'))
theorem NE:("abcdefghijklmnopqrstuvwxyz" :Str).length=26:=by rw[aJ];decide
theorem zR:("abcdefghijklmnopqrstuvwxyz" :Str).cps.toList=List.range' 97 26:=by decide +kernel
theorem L5:kI "abcdefghijklmnopqrstuvwxyz" =true:=by decide +kernel
theorem GP {i:Int}(h0:0<=i)(h1:i<26):atI ("abcdefghijklmnopqrstuvwxyz" :Str).cps.toList i=some (97+i.toNat):=by
 have e:=f8 (xs:=("abcdefghijklmnopqrstuvwxyz" :Str).cps.toList) (j:=i.toNat) (v:=97+i.toNat) (by rw[zR,List.getElem?_range' (by lia)];simp);rw[show ((i.toNat:Nat):Int)=i by lia]at e;exact e
theorem C3 {i:Nat}(h:i<26):kI ⟨#[97+i]⟩=true:=by
 refine KF L5 ?_;rw[zR,List.mem_range'_1]
 lia
theorem LQ:∀n:Nat,n<=6->kI (fC "k" n)=true/\(fC "k" n).length=n/\(n≠0->(fC "k" n).cps.toList[0]? =some 107):=by
 intro n hn;have:∀k:Fin 7,kI (fC "k" k.val)=true/\(fC "k" k.val).length=k.val/\(k.val≠0->(fC "k" k.val).cps.toList[0]? =some 107):=by decide +kernel
 exact this ⟨n,by lia⟩
theorem nmk {c n:Nat}(hn:n<=6)(y:Str)(hy:y.length<=1):NmK (⟨#[c]⟩++fC "k" n++y):=by
 obtain⟨h1,h2,h3⟩:=LQ n hn
 by_cases h0:n=0
 ·refine .inl ?_;rw[bI,bI,h2,show (⟨#[c]⟩:Str).length=1 from rfl]
  lia
 ·refine .inr ?_;have h3:=h3 h0;rw[cA,cA];show ([c]++(fC "k" n).cps.toList++y.cps.toList)[1]? =some 107;cases e:(fC "k" n).cps.toList with
  | nil=>rw[e]at h3;cases h3
  | cons a l=>rw[e]at h3;cases h3;rfl
theorem UY {c n:Nat}(hn:n<=6):NmK (⟨#[c]⟩++fC "k" n):=by
 have:=nmk (c:=c) hn "" (by decide);rw[A3]at this;exact this
inductive oT (vs:List V)(H:Hp)(Q:VK)(E:XK):Prop
 | mk (d:Int) (_:vs=[.int d]) (_:0<=d) (_:∀z,aH z=true->NmK z->Q (.str z) H):oT vs H Q E
theorem MY {H:Hp}{Q:VK}{E:XK}{d:Int} (h0:0<=d) (h:∀z,aH z=true->NmK z->Q (.str z) H):oT [.int d] H Q E:=⟨_,rfl,h0,h⟩
theorem A2 (m:M w K mg):FnOk P w K mg base CX0 1 m.nN m.nX ["_law_draw"] (oT):=by
 refine m.gH.ok sc__law_name (fun vs H Q E h=> ?_) (fun cdv A outer s H vs Q E hr h=> ?_)
 ·walk_at"g1";obtain⟨d,rfl,h0,k⟩:=h;walk_at"g2";rfl
 ·walk_at"g1";obtain⟨d,rfl,h0,k⟩:=h;walk_at"g2";have nd:=sc__law_name.nd;have hu0:=Room.units0 hr;have hu9:=Room.units9 hr;refine⟨_,(aD (bB (i:=1) nd rfl (by walk_at"oi") aI)
   (aD (bB (i:=2) nd rfl (by walk_at"oi") (aG aO (bK HB (pv 1) (aG bT (pv 0) aC) (fun _ _=>rfl)) (aG C9 aI (aG bT (aG fG (pv 0) aC) aC))))
   (aD (bL (aR cE (aG bT (aG fG (pv 0) aC) aC) aC (aU _)) (aF (aK (pv 2))) bA)
   (aF (aK (aG aO (pv 2) (bK HB (pv 1) (aG bT (aG fG (pv 0) aC) aC) (fun _ _=>rfl)))))))),?_⟩
  refine aN (σ:=[some (.int d),none,none]) rfl ?_;walk_at"cx";have hl:=NE;have hi:(d%26).toNat<26:=by lia
  have hi2:(d/182%26).toNat<26:=by lia
  have hn:(d/26%7).toNat<=6:=by lia
  have hp:=LQ (d/26%7).toNat hn;have hz:=C3 hi;have hz2:=C3 hi2;have h1:(⟨#[97+(d%26).toNat]⟩:Str).length=1:=rfl;have h2:(⟨#[97+(d/182%26).toNat]⟩:Str).length=1:=rfl;walk_at"gs";refine⟨_,_,_,rfl,rfl,(by walk_at"sz"),GP (by lia) (by lia),?_⟩;walk_at"gs";refine C6 (by lia) (by lia) (by decide) ?_;walk_at"go";refine bV (fun hc=> ?_) (fun hc=> ?_)
  ·walk_at"go";exact k _ (AT (by rw[bI];lia) (by rw[bI];lia) (sJ hz hp.1)) (UY hn)
  ·walk_at"go";refine⟨_,_,_,rfl,rfl,(by walk_at"sz"),GP (by lia) (by lia),?_⟩;walk_at"go";exact k _ (AT (by rw[bI,bI];lia) (by rw[bI,bI];lia) (sJ (sJ hz hp.1) hz2)) (nmk hn _ (by lia))
theorem zT (m:M w K mg):Fc P w K mg base "_law_name" 1 ["_law_draw"] (oT):=⟨_,_,m.CN,m.gH.kp,m.CT,A2 m⟩
local macro_rules| `(tactic| walk_at"rd1")=> `(tactic| ((with_reducible refine' MY ?s ?_);(case s=>walk_at"sd");intro z' hz' nk'))
inductive oY (vs:List V)(H:Hp)(Q:VK)(E:XK):Prop
 | mk (c:Int) (_:vs=[.int c]) (_:∀H',Same H H'->Q (.bl true) H'):oY vs H Q E
theorem kE {H:Hp}{Q:VK}{p:Addr}{xs:List V}{i:Int} (e:SqL K H p xs) (h0:0<=i) (h1:i<xs.length) (h:∀v∈xs,Q v H):nH K (.ref p) (.int i) H Q:=by
 have hj:i.toNat<xs.length:=by lia
 have e1:=f8 (xs:=xs) (j:=i.toNat) (v:=xs[i.toNat]) (List.getElem?_eq_getElem hj);rw[show ((i.toNat:Nat):Int)=i by lia]at e1;exact⟨p,xs,i,_,rfl,rfl,e,e1,h _ (List.getElem_mem hj)⟩
theorem TF:∀n:Nat,n<=60->(fC "9" n).length=n:=by
 intro n hn;have:∀k:Fin 61,(fC "9" k.val).length=k.val:=by decide +kernel
 exact this ⟨n,by lia⟩
theorem M5 {x:Str}(h:60<x.length):wrB x=false:=by
 unfold wrB;rw[decide_eq_false (show ¬x.length<=60 by lia),Bool.and_false];rfl
theorem fA {H:Hp}{x:Str} (hl:x.length<=1000000) (h:wrB x=false):z4 K H (.str x):=⟨_,.str x,fun z e=>by cases e;exact hl,fun z e=>by cases e;exact h⟩
theorem rN {H:Hp}{v:V}{n:String} (b:BTy K H v n) (h:∀z,v≠ .str z):z4 K H v:=⟨n,b,fun z e=>absurd e (h z),fun z e=>absurd e (h z)⟩
theorem uF {x y:Str}{c:Nat} (hy:c∈y.cps.toList) (h:i4 c=false):wrB (x++y)=false:=v4 (c:=c) (by rw[cA];exact List.mem_append_right _ hy) h
theorem y3 {x y:Str}{c:Nat} (hy:c∈x.cps.toList) (h:i4 c=false):wrB (x++y)=false:=v4 (c:=c) (by rw[cA];exact List.mem_append_left _ hy) h
theorem f9 {x y:Str}(hx:x.length<=60)(hy:y.length<=60):(x++y).length<=1000000:=by rw[bI];lia
theorem oS (m:M w K mg):FnOk P w K mg base CX0 10 m.gL m.gM ["_law_cell"] (oY):=by
 refine m.cT.ok sc__law_number_right (fun vs H Q E h=> ?_) (fun cdv A outer s H vs Q E hr h=> ?_)
 ·obtain⟨c,rfl,k⟩:=h;rfl
 ·obtain⟨c,rfl,k⟩:=h;have nd:=sc__law_number_right.nd;have hu0:=Room.units0 hr;have hu9:=Room.units9 hr;have dS:= @m7 P w K mg base m;have bY:= @iW P w K mg base m;refine⟨_,(aD (bB (i:=1) nd rfl (by walk_at"oi") (aG bT (aG fG (pv 0) aC) (bK aZ (b6 (aA aC (aA aC (aA (rO 1000000000000 (by decide) ⟨by decide,by decide,by decide⟩) (aA (rO 1000000000000000000000000000000000000000000000000000000000000 (by decide) ⟨by decide,by decide,by decide⟩) aB))))) (aG bT (pv 0) aC) (fun _ _=>rfl))))
   (aD (bB (i:=2) nd rfl (by walk_at"oi") (bW cO rfl m.eM c8 (aA (pv 1) aB)))
   (aD (bB (i:=3) nd rfl (by walk_at"oi") (k7 bY hr uB (aA (pv 2) aB)))
   (aD (bL (PW.pt (oR (g0 (bU kJ rfl m.cR cG (aA (pv 3) (aA (oP rfl m.IN DK) aB)))) (oR (iR (g0 (bU kJ rfl m.cR cG (aA (pv 3) (aA (oP rfl m.y1 tU) aB))))) (pW (aR nC (pv 3) (pv 1) (aU _)))))) (aF (aK jZ)) bA)
   (aD (bB (i:=4) nd rfl (by walk_at"oi") (b6 (aA (aG aO aI (pv 2)) (aA (aG aO aI (pv 2)) (aA (aG aO aI (pv 2)) (aA (aG aO (pv 2) (aG C9 aI (aG uX aC (bU nE rfl m.lY jV (aA (pv 2) aB))))) aB))))))
   (aD (bB (i:=4) nd rfl (by walk_at"oi") (aG oG (pv 4) (b6 (aA (aG aO (pv 2) aI) (aA (aG aO (pv 2) aI) (aA (aG aO aI (pv 2)) (aA aI (aA (aG aO (pv 2) aI) (aA (aG aO aI (pv 2)) aB)))))))))
   (aD (bB (i:=4) nd rfl (by walk_at"oi") (aG oG (pv 4) (b6 (aA (aG aO (pv 2) aI) (aA (pv 1) (aA (b6 (aA (pv 2) aB)) (aA l5 (aA jZ aB))))))))
   (aF (aK (bN dS hr (aA (l6 rfl m.mQ) (aA (bK aZ (pv 4) (aG bT (aG fG (pv 0) aC) aC) (fun _ _=>rfl)) aB)))))))))))),?_⟩
  refine aN (σ:=[some (.int c),none,none,none,none]) rfl ?_;walk_at"cx";walk_at"gs";rename_i p1 H1 n1 S1 e1;refine kE (SqL.of e1) (by lia) (by show _<(4:Int);lia) fun v hv=> ?_;obtain⟨B,rfl,hB0,hB1⟩:∃B:Int,v= .int B/\0<B/\B<=10^60:=by
   simp only[List.mem_cons,List.not_mem_nil,or_false]at hv;rcases hv with rfl|rfl|rfl|rfl<;>exact⟨_,rfl,by decide,by decide⟩
  have h0:0<=c/4%B:=Int.emod_nonneg _ (by lia);have h1:c/4%B<10^60:=Int.lt_of_lt_of_le (Int.emod_lt_of_pos _ hB0) hB1;walk_at"gs";generalize hn:c/4%B=n at h0 h1 ⊢;clear hv;refine gD h0 h1 ?_;have wn:=GN h0 h1;have l1:=zV h0;have l2:(toString n:Str).length<=60:=iD h0 h1 (by decide);walk_at"gs";refine w5 wn.1 fun H2 S2=> ?_;rw[wn.2];clear h1 hB1;walk_at"go";have r9:=TF (61 - ((toString n:Str).length:Int)).toNat (by lia);refine C6 (by lia) (by lia) (by decide) ?_;walk_at"go";rename_i a1 G1 m1 T1 f1 a2 G2 m2 T2 f2 a3 G3 m3 T3 f3 a4 G4 m4 T4 f4 a5 G5 m5 T5 f5 a6 G6 m6 T6 f6;refine kE (SqL.of f6) (by lia) (by show _<(15:Int);lia) fun v hv=> ?_;have bad:z4 K G6 v:=by
   simp only[List.mem_append,List.mem_cons,List.not_mem_nil,or_false]at hv;rcases hv with ((rfl|rfl|rfl|rfl)|(rfl|rfl|rfl|rfl|rfl|rfl))|(rfl|rfl|rfl|rfl|rfl)
   ·exact fA (f9 (by decide) l2) (A4 _)
   ·exact fA (f9 (by decide) l2) (y3 (c:=43) (by decide +kernel) rfl)
   ·exact fA (f9 (by decide) l2) (w6 l1)
   ·exact fA (f9 l2 (by lia)) (M5 (by rw[bI];lia))
   ·exact fA (f9 l2 (by decide)) (uF (c:=97) (by decide +kernel) rfl)
   ·exact fA (f9 l2 (by decide)) (uF (c:=32) (by decide +kernel) rfl)
   ·exact fA (f9 (by decide) l2) (y3 (c:=32) (by decide +kernel) rfl)
   ·exact fA (by decide) (by decide +kernel)
   ·exact fA (f9 l2 (by decide)) (uF (c:=46) (by decide +kernel) rfl)
   ·exact fA (f9 (by decide) l2) (y3 (c:=120) (by decide +kernel) rfl)
   ·exact fA (f9 l2 (by decide)) (uF (c:=95) (by decide +kernel) rfl)
   ·exact rN (.int _) fun z e=>(nomatch e)
   ·exact rN (.lst (T6 _ _ (T5 _ _ f4))) fun z e=>(nomatch e)
   ·exact rN .non fun z e=>(nomatch e)
   ·exact rN (.bl _) fun z e=>(nomatch e)
  walk_at"go";exact R1 bad fun H' S=>k _ ((((((((S1.trans S2).trans T1).trans T2).trans T3).trans T4).trans T5).trans T6).trans S)
theorem o9 (m:M w K mg):Fc P w K mg base "_law_number_right" 10 ["_law_cell"] (oY):=⟨_,_,m.pT,m.cT.kp,m.pS,oS m⟩
theorem t7 (kd nm st:Str)(e:V)(wd:Int):kd++ " " ++(nm++ " " ++st++ " " ++fL e++ " " ++toString wd)=bJ kd nm st e [wd]:=by
 unfold bJ;rw[d8];show _=kd++ " " ++(nm++ " " ++(st++ " " ++(fL e++ " " ++aY wd)));simp only[c7];rfl
theorem qN (kd nm st:Str)(e:V)(ns:List Int)(a:Int):bJ kd nm st e ns++ " " ++toString a=bJ kd nm st e (ns++[a]):=by
 unfold bJ;rw[d8,d8,List.map_append,←List.append_assoc,kK " " (xs:=[kd,nm,st,fL e]++ns.map aY) (ys:=[a].map aY) (by simp) (by simp)];rfl
inductive m9 (P:Program)(w:World)(base:Heap)(m:M w K mg)(vs:List V)(H:Hp)(Q:VK)(E:XK):Prop
 | mk (c:Int) (_:vs=[.int c]) (_:∀p d kd nm st e ns L H',Same H H'->H' p=some (.tup [.ref d,.str (bJ kd nm st e ns)])->DoorAt P w base m 4 H' d nm st e L (some (bJ kd nm st e ns))->DG [] kd nm st e ns L->NmK nm->Q (.ref p) H'):m9 P w base m vs H Q E
theorem QJ:("door " :Str)= "door" ++ " " :=by decide +kernel
theorem M7:("since " :Str)= "since" ++ " " :=by decide +kernel
theorem ON:("until " :Str)= "until" ++ " " :=by decide +kernel
theorem QD:("beat " :Str)= "beat" ++ " " :=by decide +kernel
theorem JU:("marked " :Str)= "marked" ++ " " :=by decide +kernel
theorem HM:("shut " :Str)= "shut" ++ " " :=by decide +kernel
theorem MV:("wider " :Str)= "wider" ++ " " :=by decide +kernel
theorem gN {i:Int}(h:i<1000000000000):i<10^60:=Int.lt_trans h (by decide)
theorem xK (m:M w K mg):FnOk P w K mg base CX0 6 m.mM m.mO ["_law_cell"] (m9 P w base m):=by
 refine m.j6.ok sc__law_plain (fun vs H Q E h=> ?_) (fun cdv A outer s H vs Q E hr h=> ?_)
 ·obtain⟨c,rfl,k⟩:=h;rfl
 ·obtain⟨c,rfl,k⟩:=h;have nd:=sc__law_plain.nd;have hu0:=Room.units0 hr;have hu9:=Room.units9 hr;have bD:= @lG P w K mg base m;have gH:= @zT P w K mg base m;have K_Beat_0:= @xH P w K mg base m;have K_Door_0:= @wW P w K mg base m;have K_Marked_0:= @sD P w K mg base m;have K_Since_0:= @tQ P w K mg base m;have K_Until_0:= @u5 P w K mg base m;refine⟨_,(aD (bB (i:=1) nd rfl (by walk_at"oi") (bN gH hr (aA (bN bD hr (aA (pv 0) (aA aC aB))) aB)))
   (aD (bB (i:=2) nd rfl (by walk_at"oi") (bN gH hr (aA (bN bD hr (aA (pv 0) (aA aC aB))) aB)))
   (aD (bB (i:=3) nd rfl (by walk_at"oi") (bK aZ (b6 (aA l5 (aA (bN gH hr (aA (bN bD hr (aA (pv 0) (aA aC aB))) aB)) aB))) (aG bT (bN bD hr (aA (pv 0) (aA aC aB))) aC) (fun _ _=>rfl)))
   (aD (bB (i:=4) nd rfl (by walk_at"oi") (aG bT (bN bD hr (aA (pv 0) (aA aC aB))) (bK aZ (b6 (aA aC (aA (rO 1000000000000 (by decide) ⟨by decide,by decide,by decide⟩) aB))) (aG bT (bN bD hr (aA (pv 0) (aA aC aB))) aC) (fun _ _=>rfl))))
   (aD (bB (i:=5) nd rfl (by walk_at"oi") (aG bT (bN bD hr (aA (pv 0) (aA aC aB))) aC))
   (aD (bB (i:=6) nd rfl (by walk_at"oi") (aG bT (bN bD hr (aA (pv 0) (aA aC aB))) aC))
   (aD (bL (aR cE (aG bT (bN bD hr (aA (pv 0) (aA aC aB))) aC) aC (aU _)) (aF (bB (i:=6) nd rfl (by walk_at"oi") (aG bT (aG tW (bN bD hr (aA (pv 0) (aA aC aB))) aC) (rO 1000000000000 (by decide) ⟨by decide,by decide,by decide⟩)))) bA)
   (aD (bB (i:=7) nd rfl (by walk_at"oi") (aG bT (bN bD hr (aA (pv 0) (aA aC aB))) aC))
   (aD (bB (i:=8) nd rfl (by walk_at"oi") (bK aZ (b6 (aA aI (aA (bW cO rfl m.eM c8 (aA (pv 3) aB)) aB))) (bW GF rfl m.y1 tU (aA (v5 DI (pv 3) l5 (aU _)) aB)) (fun _ _=>rfl)))
   (aD (bB (i:=9) nd rfl (by walk_at"oi") (aG aO (aG aO (aG aO (aG aO (aG aO (aG aO (pv 1) aI) (pv 2)) aI) (pv 8)) aI) (bW cO rfl m.eM c8 (aA (pv 4) aB))))
   (aD (bL (aR cE (pv 7) aC (aU _)) (aF (aK (oH (aA (gO K_Door_0 hr (aA (pv 1) (aA (pv 2) (aA (pv 3) (aA (pv 4) aB))))) (aA (aG aO aI (pv 9)) aB))))) bA)
   (aD (bL (aR cE (pv 7) aC (aU _)) (aF (aK (oH (aA (gO K_Since_0 hr (aA (pv 1) (aA (pv 2) (aA (pv 3) (aA (pv 4) (aA (pv 6) aB)))))) (aA (aG aO (aG aO (aG aO aI (pv 9)) aI) (bW cO rfl m.eM c8 (aA (pv 6) aB))) aB))))) bA)
   (aD (bL (aR cE (pv 7) aC (aU _)) (aF (aK (oH (aA (gO K_Until_0 hr (aA (pv 1) (aA (pv 2) (aA (pv 3) (aA (pv 4) (aA (pv 6) aB)))))) (aA (aG aO (aG aO (aG aO aI (pv 9)) aI) (bW cO rfl m.eM c8 (aA (pv 6) aB))) aB))))) bA)
   (aD (bL (aR cE (pv 7) aC (aU _)) (aD (bB (i:=10) nd rfl (by walk_at"oi") (aG aO (aG aO (aG aO (aG aO (aG aO aI (pv 9)) aI) (bW cO rfl m.eM c8 (aA (aG jU aC (pv 5)) aB))) aI) (bW cO rfl m.eM c8 (aA (pv 6) aB))))
   (aF (aK (oH (aA (gO K_Beat_0 hr (aA (pv 1) (aA (pv 2) (aA (pv 3) (aA (pv 4) (aA (aG jU aC (pv 5)) (aA (pv 6) aB))))))) (aA (pv 10) aB)))))) bA)
   (aF (aK (oH (aA (gO K_Marked_0 hr (aA (pv 1) (aA (pv 2) (aA (pv 3) (aA (pv 4) (aA (pv 6) aB)))))) (aA (aG aO (aG aO (aG aO aI (pv 9)) aI) (bW cO rfl m.eM c8 (aA (pv 6) aB))) aB))))))))))))))))))),?_⟩
  refine aN (σ:=[some (.int c),none,none,none,none,none,none,none,none,none,none]) rfl ?_;walk_at"cx";have dc0:=m.jO;have dc1:=m.hZ;have dc2:=m.iB;have dc3:=m.jP;have dc4:=m.fJ;walk_at"gs";rename_i n1 n10 n11 nm hn hk n2 n20 n21 st hs hk2 n3 n30 n31 ze hze hk3 p1 H1 e1n S1 e1 n4 n40 n41;clear hk2 hk3;refine kE (SqL.of e1) (by lia) (by show _<(2:Int);lia) fun e hv=> ?_;have he:bF e:=by
   simp only[List.mem_cons,List.not_mem_nil,or_false]at hv;rcases hv with rfl|rfl
   ·exact .inl rfl
   ·exact .inr ⟨_,rfl,hze⟩
  clear hv hze e1n e1 n10 n11 n20 n21 n30 n31 n40 n41;walk_at"gs";rename_i n5 n50 n51 p2 H2 e2n S2 e2 n6 n60 n61 B hv w0 w1' n7 n70 n71 n8 n80 n81;have w1:n5%B<1000000000000:=by lia
  clear w1';generalize n5%B=wd at w0 w1 ⊢;clear hv e2 e2n n50 n51 n60 n61;have s02:=S1.trans S2;have o0:0<=n7%9:=Int.emod_nonneg _ (by decide);have o1:n7%9<9:=Int.emod_lt_of_pos _ (by decide);have t0:0<=n8%7:=Int.emod_nonneg _ (by decide);have t1:n8%7<7:=Int.emod_lt_of_pos _ (by decide);generalize n7%9=o at o0 o1 ⊢;generalize n8%7=t at t0 t1 ⊢;clear n70 n71 n80 n81;refine vO (fun σ' H'=>∃t:Int,0<=t/\t<1000000000000/\H2=H'/\σ'=[some (.int c),some (.str nm),some (.str st),some e,some (.int wd),some (.int o),some (.int t),none,none,none,none]) ?_ ?_
  rotate_left
  ·intro nx' hnx;walk_at"go";refine bV (fun h1=> ?_) (fun h1=> ?_)
   ·walk_at"go";exact hnx _ _ ⟨_,Int.emod_nonneg _ (by decide),Int.emod_lt_of_pos _ (by decide),rfl,rfl⟩
   ·walk_at"go";exact hnx _ _ ⟨t,t0,by lia,rfl,rfl⟩
  rintro _ _ hq_;walk_at"g1";obtain⟨t,t0,t1,rfl,rfl⟩:=hq_;walk_at"g2";refine vO (fun σ' H'=>∃kk:Int,0<=kk/\kk<5/\H2=H'/\σ'=[some (.int c),some (.str nm),some (.str st),some e,some (.int wd),some (.int o),some (.int t),some (.int kk),none,none,none]) ?_ ?_
  rotate_left
  ·intro nx' hnx;walk_at"go";exact hnx _ _ ⟨_,Int.emod_nonneg _ (by decide),Int.emod_lt_of_pos _ (by decide),rfl,rfl⟩
  rintro _ _ hq_;walk_at"g1";obtain⟨kk,k0,k1,rfl,rfl⟩:=hq_;walk_at"g2";refine vO (fun σ' H'=>Same H2 H'/\σ'=[some (.int c),some (.str nm),some (.str st),some e,some (.int wd),some (.int o),some (.int t),some (.int kk),some (.str (fL e)),none,none]) ?_ ?_
  rotate_left
  ·intro nx' hnx;rcases he with rfl|⟨z,rfl,hz⟩
   ·walk_at"go";refine M0 ?_;walk_at"go";exact hnx _ _ ⟨by walk_at"sm",rfl⟩
   ·walk_at"go";refine L6 ?_;walk_at"go";exact hnx _ _ ⟨by walk_at"sm",rfl⟩
  rintro _ H3 ⟨S3,rfl⟩;have s03:=s02.trans S3;have lE:(fL e).length<=8:=by
   rcases he with rfl|⟨z,rfl,hz⟩
   ·show ("-" :Str).length<=8;rw[aJ];decide
   ·exact c9 hz
  have lN:=c9 hn;have lS:=c9 hs;have lW:(toString wd:Str).length<=60:=iD w0 (gN w1) (by decide);have lT:(toString t:Str).length<=60:=iD t0 (gN t1) (by decide);have lO:(toString (1+o):Str).length<=60:=iD (by lia) (gN (by lia)) (by decide);walk_at"gs";refine gD w0 (gN w1) ?_;walk_at"go";refine bV (fun hc=> ?_) (fun hc=> ?_)
  ·walk_at"go";rename_i d4 dx4 H4 n4 S4 e4 p5 H5 n5 S5 e5;rw[QJ,t7]at e5;exact k _ _ _ _ _ _ _ _ _ ((s03.trans S4).trans S5) e5 ((xE m e4 hn hs he w0 w1).same S5) ⟨by decide,fun _ h=>(nomatch h),.door wd w0 w1,hn,hs,he⟩ hk
  walk_at"go";refine bV (fun hc=> ?_) (fun hc=> ?_)
  ·walk_at"go";refine gD t0 (gN t1) ?_;walk_at"go";rename_i d4 dx4 H4 n4 S4 e4 p5 H5 n5 S5 e5;rw[M7,t7,qN]at e5;exact k _ _ _ _ _ _ _ _ _ ((s03.trans S4).trans S5) e5 ((tS m e4 hn hs he w0 w1 t0 t1).same S5) ⟨by decide,fun _ h=>(nomatch h),.since wd t w0 w1 t0 t1,hn,hs,he⟩ hk
  walk_at"go";refine bV (fun hc=> ?_) (fun hc=> ?_)
  ·walk_at"go";refine gD t0 (gN t1) ?_;walk_at"go";rename_i d4 dx4 H4 n4 S4 e4 p5 H5 n5 S5 e5;rw[ON,t7,qN]at e5;exact k _ _ _ _ _ _ _ _ _ ((s03.trans S4).trans S5) e5 ((uN m e4 hn hs he w0 w1 t0 t1).same S5) ⟨by decide,fun _ h=>(nomatch h),.til wd t w0 w1 t0 t1,hn,hs,he⟩ hk
  walk_at"go";refine bV (fun hc=> ?_) (fun hc=> ?_)
  ·walk_at"go";refine gD (by lia) (gN (by lia)) ?_;walk_at"go";refine gD t0 (gN t1) ?_;walk_at"go";rename_i d4 dx4 H4 n4 S4 e4 p5 H5 n5 S5 e5;rw[QD,t7,qN,qN]at e5;exact k _ _ _ _ _ _ _ _ _ ((s03.trans S4).trans S5) e5 ((wS m e4 hn hs he w0 w1 (by lia) (by lia) t0 t1).same S5) ⟨by decide,fun _ h=>(nomatch h),.beat wd (1+o) t w0 w1 (by lia) (by lia) t0 t1,hn,hs,he⟩ hk
  ·walk_at"go";refine gD t0 (gN t1) ?_;walk_at"go";rename_i d4 dx4 H4 n4 S4 e4 p5 H5 n5 S5 e5;rw[JU,t7,qN]at e5;exact k _ _ _ _ _ _ _ _ _ ((s03.trans S4).trans S5) e5 ((sF m e4 hn hs he w0 w1 t0 t1).same S5) ⟨by decide,fun _ h=>(nomatch h),.marked wd t w0 w1 t0 t1,hn,hs,he⟩ hk
theorem yA (m:M w K mg):Fc P w K mg base "_law_plain" 6 ["_law_cell"] (m9 P w base m):=⟨_,_,m.BX,m.j6.kp,m.BF,xK m⟩
inductive o7 (P:Program)(w:World)(base:Heap)(m:M w K mg)(vs:List V)(H:Hp)(Q:VK)(E:XK):Prop
 | mk (c:Int) (_:vs=[.int c]) (_:∀p d rs kd nm st e ns L H',Same H H'->H' p=some (.tup [.ref d,.str (eZ rs kd nm st e ns)])->DoorAt P w base m (4+rs.length) H' d nm st e (rs.foldr rdL L) (some (eZ rs kd nm st e ns))->DG rs kd nm st e ns L->NmK nm->Q (.ref p) H'):o7 P w base m vs H Q E
theorem J5 {m:M w K mg}{H:Hp}{Q:VK}{E:XK}{c:Int} (k:∀p d kd nm st e ns L H',Same H H'->H' p=some (.tup [.ref d,.str (bJ kd nm st e ns)])->DoorAt P w base m 4 H' d nm st e L (some (bJ kd nm st e ns))->DG [] kd nm st e ns L->NmK nm->Q (.ref p) H'):m9 P w base m [.int c] H Q E:=⟨_,rfl,k⟩
theorem GY {kd nm st:Str}{e:V}{ns:List Int}{L:Int->Int}{rs:List Rnd} (g:DG rs kd nm st e ns L):(eZ rs kd nm st e ns).length<=20000:=by
 rw[o8];exact uJ (yV g.len g.rok (eB g.bk).1 (by have:=(eB g.bk).2.2.2.2;unfold dL;simp only[List.length_append,List.length_map,List.length_cons,List.length_nil];lia) (jI g))
theorem O2 (a:Int)(z:Str): "shut " ++toString a++ " " ++z=rdT (.inl a) z:=by
 unfold rdT;rw[d8,HM];show _= "shut" ++ " " ++(aY a++ " " ++z);simp only[c7];rfl
theorem OF (a b:Int)(z:Str): "wider " ++toString a++ " " ++toString b++ " " ++z=rdT (.inr (a,b)) z:=by
 unfold rdT;rw[d8,MV];show _= "wider" ++ " " ++(aY a++ " " ++(aY b++ " " ++z));simp only[c7];rfl
theorem AS (m:M w K mg):FnOk P w K mg base CX0 7 m.nL m.nQ ["_law_cell"] (o7 P w base m):=by
 refine m.k8.ok sc__law_door (fun vs H Q E h=> ?_) (fun cdv A outer s H vs Q E hr h=> ?_)
 ·obtain⟨c,rfl,k⟩:=h;rfl
 ·obtain⟨c,rfl,k⟩:=h;have nd:=sc__law_door.nd;have hu0:=Room.units0 hr;have hu9:=Room.units9 hr;have bD:= @lG P w K mg base m;have j6:= @yA P w K mg base m;have K_Shut_0:= @wX P w K mg base m;have K_Wider_0:= @tR P w K mg base m;refine⟨_,(aD (IH (bN j6 hr (aA (pv 0) aB)) (GM (n:=2) rfl (oU (dQ (i:=1) nd rfl (by walk_at"oi")) (oU (dQ (i:=2) nd rfl (by walk_at"oi")) DM))))
   (aD (z7 PassesOwn.never rfl (wU rfl m.DS (aA (bK aZ (b6 (aA aC (aA aC (aA aC (aA aC (aA aC (aA aC aB))))))) (aG bT (bN bD hr (aA (pv 0) (aA aC aB))) aC) (fun _ _=>rfl)) aB)) (dQ (i:=3) nd rfl (by walk_at"oi")) (aD (bB (i:=4) nd rfl (by walk_at"oi") (bN bD hr (aA (pv 0) (aA (aG jU aC (pv 3)) aB))))
   (aD (bB (i:=5) nd rfl (by walk_at"oi") (aG bT (aG fG (pv 4) aC) aC))
   (aF (bL (aR cE (aG bT (pv 4) aC) aC (aU _)) (aD (bB (i:=1) nd rfl (by walk_at"oi") (gO K_Shut_0 hr (aA (pv 1) (aA (pv 5) aB))))
   (aF (bB (i:=2) nd rfl (by walk_at"oi") (aG aO (aG aO (aG aO aI (bW cO rfl m.eM c8 (aA (pv 5) aB))) aI) (pv 2))))) (aD (bB (i:=1) nd rfl (by walk_at"oi") (gO K_Wider_0 hr (aA (pv 1) (aA (pv 5) (aA (aG bT (aG fG (pv 4) aC) aC) aB)))))
   (aF (bB (i:=2) nd rfl (by walk_at"oi") (aG aO (aG aO (aG aO (aG aO (aG aO aI (bW cO rfl m.eM c8 (aA (pv 5) aB))) aI) (bW cO rfl m.eM c8 (aA (aG bT (aG fG (pv 4) aC) aC) aB))) aI) (pv 2))))))))))
   (aF (aK (oH (aA (pv 1) (aA (pv 2) aB))))))),?_⟩
  refine aN (σ:=[some (.int c),none,none,none,none,none]) rfl ?_;walk_at"cx";have dcs:=m.jQ;have dcw:=m.hV;walk_at"go";refine J5 fun p d kd nm st e ns L H1 S1 e1 hd g hk=> ?_;walk_at"go";rename_i p2 H2 n2 S2 e2 n6 n60 n61;refine kE (SqL.of e2) (by lia) (by show _<(6:Int);lia) fun v hv=> ?_;obtain⟨N,rfl,hN0,hN1⟩:∃N:Int,v= .int N/\0<=N/\N<=12:=by
   simp only[List.mem_cons,List.not_mem_nil,or_false]at hv;rcases hv with rfl|rfl|rfl|rfl|rfl|rfl<;>exact⟨_,rfl,by decide,by decide⟩
  clear hv n60 n61 e2 n2;walk_at"go";let Pv1:Nat->St->Hp->Prop:=fun i σ' H'=>∃(d:Addr) (rs:List Rnd) (x3 x4 x5:Option V),σ'=[some (.int c),some (.ref d),some (.str (eZ rs kd nm st e ns)),x3,x4,x5]/\rs.length=i/\Same H2 H'/\DoorAt P w base m (4+rs.length) H' d nm st e (rs.foldr rdL L) (some (eZ rs kd nm st e ns))/\∀x∈rs,p9 x;refine NI Pv1 ⟨d,[],none,none,none,rfl,rfl,Same.refl _,hd.same S2,fun _ h=>(nomatch h)⟩ ?_ ?_
  ·rintro i _ H3 hi hq_;walk_at"g1";obtain⟨d3,rs,x3,x4,x5,rfl,hl,S3,hd3,hok⟩:=hq_;walk_at"g2";have g3:DG rs kd nm st e ns L:=⟨by lia,hok,g.bk,g.hn,g.hs,g.he⟩
   have tl:=GY g3;walk_at"g1";obtain⟨C,dx,fs,spl,spw,h1,h2,h3,h4,h5,h6,h7,h8,h9,h10,h11,h16,h17,h18⟩:=hd3.ex;walk_at"g2";walk_at"gs";rename_i n7 n70 n71;have a0:0<=n7/2%9:=Int.emod_nonneg _ (by decide);have a1:n7/2%9<9:=Int.emod_lt_of_pos _ (by decide);have b0:0<=n7/18%7:=Int.emod_nonneg _ (by decide);have b1:n7/18%7<7:=Int.emod_lt_of_pos _ (by decide);have la:(toString (n7/2%9):Str).length<=60:=iD a0 (gN (by lia)) (by decide);have lb:(toString (n7/18%7):Str).length<=60:=iD b0 (gN (by lia)) (by decide);refine bV (fun hc=> ?_) (fun hc=> ?_)
   ·walk_at"go";refine zO rfl dcs h2 h1 h3 h4 h5 g.hn g.hs g.he a0 fun p4 dx4 H4 n4 S4 e4=> ?_;walk_at"go";refine gD a0 (gN (by lia)) ?_;walk_at"go";exact⟨p4,.inl (n7/2%9)::rs,_,_,_,by rw[O2];rfl,by rw[List.length_cons,hl],S3.trans S4,xF m (hd3.same S4) (by lia) e4 a0 (by lia),fun x hx=>by
     rcases List.mem_cons.mp hx with rfl|hx
     ·exact⟨a0,by lia⟩
     ·exact hok x hx⟩
   ·walk_at"go";refine w4 rfl dcw h2 h1 h3 h4 h5 g.hn g.hs g.he a0 b0 fun p4 dx4 H4 n4 S4 e4=> ?_;walk_at"go";refine gD a0 (gN (by lia)) ?_;walk_at"go";refine gD b0 (gN (by lia)) ?_;walk_at"go";exact⟨p4,.inr (n7/2%9,n7/18%7)::rs,_,_,_,by rw[OF];rfl,by rw[List.length_cons,hl],S3.trans S4,uI m (hd3.same S4) (by lia) e4 a0 (by lia) b0 (by lia),fun x hx=>by
     rcases List.mem_cons.mp hx with rfl|hx
     ·exact⟨⟨a0,by lia⟩,b0,by lia⟩
     ·exact hok x hx⟩
  ·rintro _ H3 hq_;walk_at"g1";obtain⟨d3,rs,x3,x4,x5,rfl,hl,S3,hd3,hok⟩:=hq_;walk_at"g2";walk_at"go";rename_i p4 H4 n4 S4 e4;exact k p4 d3 rs kd nm st e ns L H4 (((S1.trans S2).trans S3).trans S4) e4 (hd3.same S4) ⟨by lia,hok,g.bk,g.hn,g.hs,g.he⟩ hk
theorem zI (m:M w K mg):Fc P w K mg base "_law_door" 7 ["_law_cell"] (o7 P w base m):=⟨_,_,m.CU,m.k8.kp,m.CZ,AS m⟩
theorem NP {ns:List Int}(h:1<=ns.length):∃ns' i,ns=ns'++[i]:=by
 rcases List.eq_nil_or_concat ns with rfl|⟨l,i,rfl⟩
 ·simp at h
 ·exact⟨l,i,List.concat_eq_append ..⟩
theorem dO (nm st:Str)(e:V)(ns:List Int):(dL nm st e ns).length=ns.length+3:=by
 unfold dL;simp only[List.length_append,List.length_map,List.length_cons,List.length_nil];lia
theorem pC (nm st:Str)(e:V)(ns:List Int)(i:Int):dL nm st e (ns++[i])=dL nm st e ns++[aY i]:=by
 unfold dL;rw[List.map_append,List.append_assoc];rfl
section
variable {rs:List Rnd}{kd nm st:Str}{e:V}{ns:List Int}{L:Int->Int}
def wsD (rs:List Rnd)(kd nm st:Str)(e:V)(ns:List Int):List Str:=(rs.map rdW).flatten++kd::dL nm st e ns
theorem GK (rs:List Rnd)(kd nm st:Str)(e:V)(ns:List Int)(i:Int):wsD rs kd nm st e (ns++[i])=wsD rs kd nm st e ns++[aY i]:=by
 unfold wsD;rw[pC,List.append_assoc];rfl
theorem uP (g:DG rs kd nm st e ns L):WsG (wsD rs kd nm st e ns):=yV g.len g.rok (eB g.bk).1 (by rw[dO];have:=(eB g.bk).2.2.2.2;lia) (jI g)
theorem sZ {i:Int}(g:DG rs kd nm st e (ns++[i]) L){x:Str}(hx:dJ x)(hw:wrB x=false):jY (Str.join " " (wsD rs kd nm st e ns++[x])):=by
 have e1:wsD rs kd nm st e ns++[x]=(rs.map rdW).flatten++kd::(dL nm st e ns++[x]):=by unfold wsD;rw[List.append_assoc];rfl
 have h1:=(eB g.bk).2.2.2.2;have h2:=jI g;rw[pC]at h2;rw[List.length_append]at h1;rw[e1];refine uS g (by rw[List.length_append,dO,List.length_cons,List.length_nil];lia) (fun y hy=> ?_) (.inr ⟨x,?_,hw⟩)
 ·rcases List.mem_append.mp hy with h|h
  ·exact h2 y (List.mem_append_left _ h)
  ·rw[List.mem_singleton.mp h];exact hx
 ·show x∈List.drop 3 ([nm,st,fL e]++ns.map aY++[x]);exact List.mem_append_right _ (.head _)
theorem zJ (g:DG rs kd nm st e ns L){x:Str}(hx:dJ x):jY (Str.join " " (wsD rs kd nm st e ns++[x])):=by
 have e1:wsD rs kd nm st e ns++[x]=(rs.map rdW).flatten++kd::(dL nm st e ns++[x]):=by unfold wsD;rw[List.append_assoc];rfl
 have h1:=(eB g.bk).2.2.2.2;rw[e1];refine uS g (by rw[List.length_append,dO,List.length_cons,List.length_nil];lia) (fun y hy=> ?_) (v9 g.bk (by rw[List.length_append,dO,List.length_cons,List.length_nil];lia));rcases List.mem_append.mp hy with h|h
 ·exact jI g y h
 ·rw[List.mem_singleton.mp h];exact hx
theorem KW {i:Int}(g:DG rs kd nm st e (ns++[i]) L):jY (Str.join " " (wsD rs kd nm st e ns)):=by
 have h1:=(eB g.bk).2.2.2.2;have h2:=jI g;rw[pC]at h2;rw[List.length_append]at h1;exact uS g (by rw[dO];lia) (fun y hy=>h2 y (List.mem_append_left _ hy)) (v9 g.bk (by rw[dO,List.length_append,List.length_cons,List.length_nil];lia))
theorem MH {i:Int}(g:DG rs kd nm st e (ns++[i]) L):jY (Str.join " " ((wsD rs kd nm st e ns).dropLast++[("-" :Str),"-"])):=by
 have h1:=(eB g.bk).2.2.2.2;have h2:=jI g;rw[pC]at h2;rw[List.length_append]at h1;have hl:=dO nm st e ns;have e1:(wsD rs kd nm st e ns).dropLast++[("-" :Str),"-"]=(rs.map rdW).flatten++kd::((dL nm st e ns).dropLast++[("-" :Str),"-"]):=by
  unfold wsD;rw[List.dropLast_append_of_ne_nil (by simp),List.dropLast_cons_of_ne_nil (fun z=>by rw[z]at hl;simp at hl),List.append_assoc];rfl
 rw[e1];refine uS g (by rw[List.length_append,List.length_dropLast,hl];show _+2<=15;simp only[List.length_cons,List.length_nil]at h1;lia) (fun y hy=> ?_) (.inr ⟨"-",?_,by decide +kernel⟩)
 ·rcases List.mem_append.mp hy with h|h
  ·exact h2 y (List.mem_append_left _ (List.dropLast_subset _ h))
  ·simp only[List.mem_cons,List.not_mem_nil,or_false]at h;rcases h with rfl|rfl<;>exact cS (by decide +kernel)
 ·rw[show (dL nm st e ns).dropLast++[("-" :Str),"-"]=((dL nm st e ns).dropLast++[("-" :Str)])++[("-" :Str)] by rw[List.append_assoc];rfl,List.drop_append_of_le_length (by rw[List.length_append,List.length_dropLast,hl,List.length_cons,List.length_nil];lia)];exact List.mem_append_right _ (.head _)
def jX:List Str:=[("shut" :Str),"wider","door","since","until","beat","marked"]
theorem NC (g:DG rs kd nm st e ns L)(hk:NmK nm):∃w0 w1 tl,wsD rs kd nm st e ns=w0::w1::tl/\w0∈jX/\iN w1:=by
 rcases rs with _|⟨a|⟨a,b⟩,rs⟩
 ·refine⟨kd,nm,_,rfl,?_,OA hk⟩;have h:=g.bk;cases h<;>simp[jX]
 ·have h:=g.rok _ (.head _);exact⟨_,_,_,rfl,by simp[jX],AY h.1⟩
 ·have h:=g.rok _ (.head _);exact⟨_,_,_,rfl,by simp[jX],AY h.1.1⟩
theorem AL:∀y∈jX,(∀z∈jX,upS y≠z)/\(decide (32∉(upS y).cps.toList)&&decide ((upS y).length<=100))=true:=by decide +kernel
theorem yY {ws:List Str}{x:Str} (h:WsG ws) (hl:ws.length<=60) (hx:dJ x):WsG (x::ws):=⟨(fun z=>nomatch z),by rw[List.length_cons];lia,fun y hy=>by
 rcases List.mem_cons.mp hy with rfl|hy
 ·exact hx
 ·exact h.2.2 y hy⟩
theorem zX (g:DG rs kd nm st e ns L):(wsD rs kd nm st e ns).length<=50:=by
 have:=zL (pre:=rs.map rdW) fun x hx=>by
   obtain⟨r,_,rfl⟩:=List.mem_map.mp hx;exact yX r
 have h1:=(eB g.bk).2.2.2.2;have h2:=g.len;unfold wsD;rw[List.length_append,List.length_cons,dO];rw[List.length_map]at this
 lia
theorem GZ (g:DG rs kd nm st e ns L):jY (" " ++Str.join " " (wsD rs kd nm st e ns)):=by
 have h:=rG (pre:=[]) (kd:= "") (r:=wsD rs kd nm st e ns) (yY (uP g) (Nat.le_trans (zX g) (by decide)) (cS (by decide +kernel))) (fun _ h=>(nomatch h)) (by decide) A6;rw[show ([]:List (List Str)).flatten++("" :Str)::wsD rs kd nm st e ns=("" :Str)::wsD rs kd nm st e ns from rfl,jL " " "" (uP g).1,DC]at h;exact h
theorem R8 {w0:Str}{tl:List Str} (hg:WsG (w0::tl)) (hl:tl.length<=60) (ht:tl≠[]) (hw:w0∈jX):jY (upS w0++(" " ++Str.join " " tl)):=by
 obtain⟨h1,h2⟩:=AL w0 hw;have hg':WsG (upS w0::tl):=⟨(fun z=>nomatch z),by rw[List.length_cons];lia,fun y hy=>by
  rcases List.mem_cons.mp hy with rfl|hy
  ·exact cS h2
  ·exact hg.2.2 y (.tail _ hy)⟩
 have h:=rG (pre:=[]) (kd:=upS w0) (r:=tl) hg' (fun _ h=>(nomatch h)) (by decide) h1;rw[show ([]:List (List Str)).flatten++upS w0::tl=upS w0::tl from rfl,jL " " _ ht]at h;exact h
theorem UT:("wider 3 " :Str)= "wider" ++(" " ++("3" ++ " ")):=by decide +kernel
theorem JJ {w0 w1:Str}{tl:List Str} (hg:WsG (w0::w1::tl)) (hl:tl.length<=50) (h:iN w1):jY ("shut " ++Str.join " " (w0::w1::tl)):=by
 have hg1:WsG (("shut" :Str)::w0::w1::tl):=yY hg (by simp only[List.length_cons];lia) (cS (by decide +kernel));have hb:=rG (pre:=[[("shut" :Str),w0]]) (kd:=w1) (r:=tl) hg1 (fun y hy=>by rw[List.mem_singleton.mp hy];exact .inl ⟨_,rfl⟩) (by show 1<=16;decide) h;rw[show [[("shut" :Str),w0]].flatten++w1::tl=("shut" :Str)::(w0::w1::tl) from rfl,jL " " "shut" (List.cons_ne_nil _ _)]at hb;rw[HM,c7];exact hb
theorem GO {w0 w1:Str}{tl:List Str} (hg:WsG (w0::w1::tl)) (hl:tl.length<=50) (h:iN w1):jY ("wider 3 " ++Str.join " " (w0::w1::tl)):=by
 have hg1:WsG (("3" :Str)::w0::w1::tl):=yY hg (by simp only[List.length_cons];lia) (cS (by decide +kernel));have hg2:WsG (("wider" :Str)::("3" :Str)::w0::w1::tl):=yY hg1 (by simp only[List.length_cons];lia) (cS (by decide +kernel));have hb:=rG (pre:=[[("wider" :Str),"3",w0]]) (kd:=w1) (r:=tl) hg2 (fun y hy=>by rw[List.mem_singleton.mp hy];exact .inr ⟨_,_,rfl⟩) (by show 1<=16;decide) h;rw[show [[("wider" :Str),"3",w0]].flatten++w1::tl=("wider" :Str)::("3" :Str)::(w0::w1::tl) from rfl,jL " " "wider" (List.cons_ne_nil _ _),jL " " "3" (List.cons_ne_nil _ _)]at hb;rw[UT];simp only[c7];exact hb
def spr:List Str->List Str
 | []=>[]
 | [a]=>[a]
 | a::b::l=>a:: "" ::spr (b::l)
theorem P3:("  " :Str)= " " ++ " " :=by decide +kernel
theorem GJ:∀{l:List Str},l≠[]->spr l≠[]
 | [],h=>absurd rfl h
 | [_],_=>fun z=>nomatch z
 | _::_::_,_=>fun z=>nomatch z
theorem AU:∀l:List Str,Str.join "  " l=Str.join " " (spr l)
 | []=>rfl
 | [a]=>rfl
 | a::b::l=>by
  show a++ "  " ++Str.join "  " (b::l)=Str.join " " (a:: "" ::spr (b::l));rw[AU (b::l),jL " " a (List.cons_ne_nil _ _),jL " " "" (GJ (List.cons_ne_nil b l)),P3];simp only[c7,DC]
theorem vZ:∀l:List Str,l≠[]->(spr l).length+1=2 * l.length
 | [],h=>absurd rfl h
 | [a],_=>rfl
 | a::b::l,_=>by
  have:=vZ (b::l) (fun z=>nomatch z);show (a:: "" ::spr (b::l)).length+1=_;simp only[List.length_cons]at *
  lia
theorem BB:∀{l:List Str},(∀x∈l,dJ x)->∀x∈spr l,dJ x
 | [],_=>fun x h=>(nomatch h)
 | [a],h=>h
 | a::b::l,h=>fun x hx=>by
  have hx':x∈a:: "" ::spr (b::l):=hx;rcases List.mem_cons.mp hx' with rfl|hx
  ·exact h _ (.head _)
  ·rcases List.mem_cons.mp hx with rfl|hx
   ·exact cS (by decide +kernel)
   ·exact BB (l:=b::l) (fun y hy=>h y (.tail _ hy)) x hx
theorem QC {l:List Str}(h:WsG l)(hl:l.length<=50):WsG (spr l):=⟨GJ h.1,by have:=vZ l h.1;lia,BB h.2.2⟩
theorem KA (g:DG rs kd nm st e ns L):jY (Txt.replace (Str.join " " (wsD rs kd nm st e ns)) " " "  "):=by
 have hw:=uP g;have h5:=QC hw (zX g);have er:=StrLaws.replace_one (Str.join " " (wsD rs kd nm st e ns)) "  " 32;rw[←tY]at er;rw[er,oZ hw,AU];rcases rs with _|⟨a|⟨a,b⟩,rs⟩
 ·have hne:dL nm st e ns≠[]:=fun z=>(nomatch z)
  have e1:spr (wsD [] kd nm st e ns)=(([]:List Rnd).map rdW).flatten++kd::("" ::spr (dL nm st e ns)):=rfl;have hl:=vZ _ hne;rw[dO]at hl;have h1:=(eB g.bk).2.2.2.2;rw[e1];refine uS g (by rw[List.length_cons];lia) (fun y hy=> ?_) (v9 g.bk (by rw[List.length_cons];lia));rcases List.mem_cons.mp hy with rfl|hy
  ·exact cS (by decide +kernel)
  ·exact BB (jI g) y hy
 ·have h:=g.rok _ (.head _);have hne:wsD rs kd nm st e ns≠[]:=by unfold wsD;simp
  obtain⟨x,l,ex⟩:=List.exists_cons_of_ne_nil hne;have e1:spr (wsD (.inl a::rs) kd nm st e ns)=[[("shut" :Str),""]].flatten++aY a::("" ::spr (wsD rs kd nm st e ns)):=by
   show spr ("shut" ::aY a::wsD rs kd nm st e ns)=_;rw[ex];rfl
  rw[e1]at h5 ⊢;exact rG h5 (fun y hy=>by rw[List.mem_singleton.mp hy];exact .inl ⟨_,rfl⟩) (by show 1<=16;decide) (AY h.1)
 ·have h:=g.rok _ (.head _);have e1:spr (wsD (.inr (a,b)::rs) kd nm st e ns)=[[("wider" :Str),"",aY a]].flatten++("" :Str)::spr (aY b::wsD rs kd nm st e ns):=rfl;rw[e1]at h5 ⊢;exact rG h5 (fun y hy=>by rw[List.mem_singleton.mp hy];exact .inr ⟨_,_,rfl⟩) (by show 1<=16;decide) A6
end
open PySem.Builtin.Str in
theorem EO (x y:Str)(h:1<=x.length):Txt.slice (x++y) (some (x.length:Int)) none=y:=by
 have hl:(x++y).length=x.length+y.length:=bI _ _;have e:strSliceIndices (some (x.length:Int)) none 1 (x++y).length=strSliceIndices (some (x.length:Int)) (some (((x++y).length:Nat):Int)) 1 (x++y).length:=by
  unfold strSliceIndices;simp only[show ((1:Int)>0)=True from by simp,if_true]
  congr 1
  rw[if_neg (by lia)]
  lia
 unfold Txt.slice;rw[e,if_neg]
 ·rw[StrLaws.sliced_plain (x++y) (by lia) (Nat.le_refl _),cA];have h1:x.length=x.cps.toList.length:=oJ x;refine eJ ?_;show (List.take _ _).toArray.toList=_;rw[h1,List.drop_left];exact List.take_of_length_le (by rw[hl,←oJ,←oJ];lia)
 ·rw[StrLaws.strSliceIndices_plain (by lia) (Nat.le_refl _),List.length_map,List.length_range];intro z;simp only[Bool.and_eq_true,beq_iff_eq]at z;have:=z.2
  lia
inductive sX (K:PySem.W.Frag)(vs:List V)(H:Hp)(Q:VK)(E:XK):Prop
 | mk (rs:List Rnd) (kd nm st:Str) (e:V) (ns:List Int) (L:Int->Int) (c:Int) (_:vs=[.str (eZ rs kd nm st e ns),.int c]) (_:DG rs kd nm st e ns L) (_:NmK nm) (_:0<=c) (_:∀v H',Same H H'->EC K H' v->Q v H'):sX K vs H Q E
theorem l_1:(" 1" :Str)= " " ++ "1" :=by decide +kernel
theorem lF {H:Hp}{x:Str} (h:jY x):EC K H (.str x):= .inr ⟨x,rfl,h⟩
theorem NN (A:List Str)(x:Str):gJ ((A++[x]).map V.str) none (some (-1))=A.map V.str:=by
 have h:HT.sIx ((A++[x]).map V.str).length ((A++[x]).map V.str).length (some (-1))=A.length:=by
  rw[List.length_map,List.length_append];show (if (-1:Int)<0 then ((-1:Int)+((A.length+1:Nat):Int)).toNat else min (-1:Int).toNat (A.length+1))=A.length;rw[if_pos (by decide)]
  lia
 unfold gJ;rw[HT.sIx_none,h,List.drop_zero,Nat.sub_zero,List.map_append,←List.length_map (f:=V.str),List.take_left]
theorem u0 {ws:List Str}(h:WsG ws):(ws.map (·.length)).sum+ws.length * (" " :Str).length<=16777216:=by
 have h1:=jR 100 ws fun x hx=>(h.2.2 x hx).2;have c:(" " :Str).length=1:=by decide
 rw[c];have:=h.2.1
 lia
theorem RX {A:List Str}{y:Str} (h:WsG (A++[y])) (hA:2<=A.length):WsG A:=⟨fun z=>by rw[z]at hA;simp at hA,by have:=h.2.1;rw[List.length_append]at this;lia,fun x hx=>h.2.2 x (List.mem_append_left _ hx)⟩
theorem LI {A:List Str}{y:Str} (h:WsG A) (hl:A.length<=90) (hy:dJ y):WsG (A++[y]):=⟨by simp,by rw[List.length_append,List.length_cons,List.length_nil];lia,fun x hx=>by
 rcases List.mem_append.mp hx with h'|h'
 ·exact h.2.2 x h'
 ·rw[List.mem_singleton.mp h'];exact hy⟩
theorem Q2:∀y∈jX,PySem.Builtin.Str.tooLong (upS y).cps.size=false:=by decide +kernel
theorem C8 (A:List Str)(x:Str):gJ ((A++[x]).map V.str) none (some (A.length:Int))=A.map V.str:=by
 rw[HA,List.take_left]
theorem NF (A:List Str)(x:Str)(h:1<=A.length):gJ ((A++[x]).map V.str) none (some ((A.length:Int) - 1))=A.dropLast.map V.str:=by
 rw[show ((A.length:Int) - 1)=((A.length - 1:Nat):Int) by lia,HA,List.take_append_of_le_length (by lia),List.dropLast_eq_take]
theorem tZ (m:M w K mg):FnOk P w K mg base CX0 2 m.kW m.kS ["_law_text","_law_cell"] (sX K):=by
 refine m.iH.ok sc__law_spoiled (fun vs H Q E h=> ?_) (fun cdv A outer s H vs Q E hr h=> ?_)
 ·walk_at"g1";obtain⟨rs,kd,nm,st,e,ns,L,c,rfl,g,hk,h0,k⟩:=h;walk_at"g2";rfl
 ·walk_at"g1";obtain⟨rs,kd,nm,st,e,ns,L,c,rfl,g,hk,h0,k⟩:=h;walk_at"g2";have nd:=sc__law_spoiled.nd;have hu0:=Room.units0 hr;have hu9:=Room.units9 hr;refine⟨_,(aD (bB (i:=2) nd rfl (by walk_at"oi") (j4 PySem.F.plainAttrs_str PySem.F.slot_str_split PySem.F.type_str_split AR (pv 0) (aA aI aB)))
   (aD (bB (i:=3) nd rfl (by walk_at"oi") (aG bT (pv 1) aC))
   (aD (bB (i:=4) nd rfl (by walk_at"oi") (aG uX (bU lA rfl m.lY jV (aA (pv 2) aB)) aC))
   (aD (bL (aR cE (pv 3) aC (aU _)) (aF (aK (aG aO (pv 0) aI))) bA)
   (aD (bL (aR cE (pv 3) aC (aU _)) (aF (aK (j4 PySem.F.plainAttrs_str PySem.F.slot_str_join PySem.F.type_str_join kF aI (aA (fM jK (pv 2) jJ (gE (TX PR aC))) aB)))) bA)
   (aD (bL (aR cE (pv 3) aC (aU _)) (aF (aK (bK aZ (b6 (aA (aG aO aI (pv 0)) (N1 (pv 0) (SI 0) (by decide) (by decide)))) (aG bT (aG fG (pv 1) aC) aC) (fun _ _=>rfl)))) bA)
   (aD (bL (aR cE (pv 3) aC (aU _)) (aF (aK (aG aO (G0 PySem.F.plainAttrs_str PySem.F.slot_str_upper PySem.F.type_str_upper IZ (bK aZ (pv 2) aC (fun _ _=>rfl))) (fM SB (pv 0) (gE (bU nE rfl m.lY jV (aA (bK aZ (pv 2) aC (fun _ _=>rfl)) aB))) jJ)))) bA)
   (aD (bL (aR cE (pv 3) aC (aU _)) (aF (aK (aG aO aI (pv 0)))) bA)
   (aD (bL (aR cE (pv 3) aC (aU _)) (aF (aK (aG aO aI (pv 0)))) bA)
   (aD (bL (aR cE (pv 3) aC (aU _)) (aF (aK (j4 PySem.F.plainAttrs_str PySem.F.slot_str_join PySem.F.type_str_join kF aI (aA (aG oG (fM jK (pv 2) jJ (gE (pv 4))) (b6 (aA (aG aO aI (bK aZ (pv 2) (pv 4) (fun _ _=>rfl))) aB))) aB)))) bA)
   (aD (bL (aR cE (pv 3) aC (aU _)) (aF (aK (j4 PySem.F.plainAttrs_str PySem.F.slot_str_join PySem.F.type_str_join kF aI (aA (aG oG (fM jK (pv 2) jJ (gE (pv 4))) (b6 (aA (aG aO aI (bK aZ (pv 2) (pv 4) (fun _ _=>rfl))) aB))) aB)))) bA)
   (aD (bL (aR cE (pv 3) aC (aU _)) (aF (aK (j4 PySem.F.plainAttrs_str PySem.F.slot_str_join PySem.F.type_str_join kF aI (aA (aG oG (fM jK (pv 2) jJ (gE (aG uX (pv 4) aC))) (b6 (aA aI (aA aI aB)))) aB)))) bA)
   (aD (bL (aR cE (pv 3) aC (aU _)) (aF (aK (bK aZ (b6 (aA l5 (aA aC (aA (pv 2) (aA jZ aB))))) (aG bT (aG fG (pv 1) aC) aC) (fun _ _=>rfl)))) bA)
   (aF (aK (aG aO (pv 0) aI)))))))))))))))),?_⟩
  refine aN (σ:=[some (.str (eZ rs kd nm st e ns)),some (.int c),none,none,none]) rfl ?_;walk_at"cx";have hw:=uP g;have h60:=zX g;have hlen:=uJ hw;rw[show eZ rs kd nm st e ns=Str.join " " (wsD rs kd nm st e ns) from o8 ..];walk_at"gs";refine sV 32 tY (by lia) fun p1 H1 n1 S1 e1=> ?_;rw[oZ hw]at e1;obtain⟨ns',i,rfl⟩:=NP (eB g.bk).2.2.2.1;have hi:=g.bk.num i (by simp);have li:=(n9 hi.1 hi.2)
  have l1:1<=(aY i).length:=zV hi.1;rw[GK]at e1 h60;have eT:=GK rs kd nm st e ns' i;rw[List.length_append,List.length_cons,List.length_nil]at h60;have hW0:2<=(wsD rs kd nm st e ns').length:=by unfold wsD;rw[List.length_append,List.length_cons,dO];lia
  walk_at"gs";rw[show (((((wsD rs kd nm st e ns'++[aY i]).map V.str).length:Nat):Int) - 1)=((wsD rs kd nm st e ns').length:Int) by rw[List.length_map,List.length_append];simp];have gW:=RX (eT▸hw) hW0;have lsp:(" " :Str).length=1:=by decide
  walk_at"go";refine bV (fun hc=> ?_) (fun hc=> ?_)
  ·walk_at"go";refine k _ _ S1 (lF ?_);have h:=zJ g (x:= "1") (cS (by decide +kernel));rw[kK " " hw.1 (List.cons_ne_nil _ _)]at h;rw[l_1,←c7];exact h
  walk_at"go";refine bV (fun hc=> ?_) (fun hc=> ?_)
  ·walk_at"go";rename_i p2 H2 n2 S2 e2;rw[NN]at e2;refine kG (SqL.of e2) (u0 gW) ?_;rw[d8];exact k _ _ (S1.trans S2) (lF (KW g))
  walk_at"go";refine bV (fun hc=> ?_) (fun hc=> ?_)
  ·walk_at"go";refine⟨_,rfl,_,rfl,by rw[sizeLine_eq];lia,_,rfl,_,rfl,by lia,?_⟩;walk_at"go";rename_i p2 H2 n2 S2 e2;refine kE (SqL.of e2) (by lia) (by show _<(3:Int);lia) fun v hv=>k _ _ (S1.trans S2) ?_;simp only[List.mem_cons,List.not_mem_nil,or_false]at hv;rcases hv with rfl|rfl|rfl
   ·exact lF (GZ g)
   ·have h:=zJ g (x:= "") (cS (by decide +kernel));rw[kK " " hw.1 (List.cons_ne_nil _ _)]at h;rw[show Str.join " " [("" :Str)]= "" from rfl,A3]at h;exact lF h
   ·exact lF (KA g)
  walk_at"go";walk_at"g1";obtain⟨w0,w1,tl,ew,hk0,hk1⟩:=NC g hk;walk_at"g2";have e1':H1 p1=some (.lst (.str w0:: .str w1::tl.map V.str)):=by rw[e1,←eT,ew];rfl
  have htl:tl.length<=50:=by
   have:=congrArg List.length (eT.symm.trans ew);simp only[List.length_append,List.length_cons,List.length_nil]at this
   lia
  have hw':WsG (w0::w1::tl):=ew▸hw;refine bV (fun hc=> ?_) (fun hc=> ?_)
  ·walk_at"go";have hw0:1<=w0.length/\w0.length<=10:=(show ∀y∈jX,1<=y.length/\y.length<=10 by decide +kernel) w0 hk0;have h100:=((AL w0 hk0).2)
   simp only[Bool.and_eq_true,decide_eq_true_eq]at h100;obtain⟨_,h100⟩:=h100;obtain⟨hw0,hw1⟩:=hw0;refine⟨rfl,_,rfl,rfl,Q2 w0 hk0,?_⟩;walk_at"go"
   trace_state
   refine k _ _ S1 (lF ?_);rw[ew,jL " " w0 (List.cons_ne_nil w1 tl),EO _ _ hw0];exact R8 hw' (by rw[List.length_cons];lia) (List.cons_ne_nil _ _) hk0
  walk_at"go";refine bV (fun hc=> ?_) (fun hc=> ?_)
  ·walk_at"go";refine k _ _ S1 (lF ?_);rw[ew];exact JJ hw' htl hk1
  walk_at"go";refine bV (fun hc=> ?_) (fun hc=> ?_)
  ·walk_at"go";refine k _ _ S1 (lF ?_);rw[ew];exact GO hw' htl hk1
  clear e1';have hat:((wsD rs kd nm st e ns'++[aY i]).map V.str)[(wsD rs kd nm st e ns').length]? =some (.str (aY i)):=by
   rw[List.getElem?_map,List.getElem?_append_right (Nat.le_refl _),Nat.sub_self];rfl
  walk_at"go";refine bV (fun hc=> ?_) (fun hc=> ?_)
  ·walk_at"go";rename_i p2 H2 n2 S2 e2;rw[C8]at e2;refine⟨p1,_,_,_,rfl,rfl,SqL.of (S2 _ _ e1),f8 hat,?_⟩;walk_at"go";rename_i p3 H3 n3 S3 e3 p4 H4 n4 S4 e4;have hX:dJ ("0" ++aY i):=A8 (cS (by decide +kernel)) li.1 (by have:=li.2;rw[show ("0" :Str).length=1 by decide];lia);refine kG (ys:=wsD rs kd nm st e ns'++["0" ++aY i]) (SqL.of (by rw[e4,List.map_append];rfl)) (u0 (LI gW (by lia) hX)) ?_;rw[d8];exact k _ _ (((S1.trans S2).trans S3).trans S4) (lF (sZ g hX (w6 l1)))
  walk_at"go";refine bV (fun hc=> ?_) (fun hc=> ?_)
  ·walk_at"go";rename_i p2 H2 n2 S2 e2;rw[C8]at e2;refine⟨p1,_,_,_,rfl,rfl,SqL.of (S2 _ _ e1),f8 hat,?_⟩;walk_at"go";rename_i p3 H3 n3 S3 e3 p4 H4 n4 S4 e4;have hX:dJ ("-" ++aY i):=A8 (cS (by decide +kernel)) li.1 (by have:=li.2;rw[show ("-" :Str).length=1 by decide];lia);refine kG (ys:=wsD rs kd nm st e ns'++["-" ++aY i]) (SqL.of (by rw[e4,List.map_append];rfl)) (u0 (LI gW (by lia) hX)) ?_;rw[d8];exact k _ _ (((S1.trans S2).trans S3).trans S4) (lF (sZ g hX (A4 _)))
  walk_at"go";refine bV (fun hc=> ?_) (fun hc=> ?_)
  ·walk_at"go";rename_i p2 H2 n2 S2 e2 p3 H3 n3 S3 e3;rw[NF _ _ (by lia)]at e2;refine DN (S3 _ _ e2) e3 (by rw[sizeLine_eq];simp only[List.length_map,List.length_cons,List.length_nil,List.length_dropLast];lia) fun p4 H4 n4 S4 e4=> ?_;walk_at"go";have hb:=MH g;refine kG (ys:=(wsD rs kd nm st e ns').dropLast++[("-" :Str),"-"]) (SqL.of (by rw[e4,List.map_append];rfl)) (u0 ⟨by simp,by rw[List.length_append,List.length_dropLast];show _+2<=100;lia,fun x hx=> ?_⟩) ?_
   ·rcases List.mem_append.mp hx with h|h
    ·exact gW.2.2 x (List.dropLast_subset _ h)
    ·simp only[List.mem_cons,List.not_mem_nil,or_false]at h;rcases h with rfl|rfl<;>exact cS (by decide +kernel)
   rw[d8];exact k _ _ (((S1.trans S2).trans S3).trans S4) (lF hb)
  walk_at"go";refine bV (fun hc=> ?_) (fun hc=> ?_)
  ·walk_at"go";rename_i p2 H2 n2 S2 e2;refine kE (SqL.of e2) (by lia) (by show _<(4:Int);lia) fun v hv=>k _ _ (S1.trans S2) (.inl ?_);simp only[List.mem_cons,List.not_mem_nil,or_false]at hv;rcases hv with rfl|rfl|rfl|rfl
   ·exact⟨_,.non,by decide⟩
   ·exact⟨_,.int _,by decide⟩
   ·exact⟨_,.lst (S2 _ _ e1),by decide⟩
   ·exact⟨_,.bl _,by decide⟩
  walk_at"go";refine k _ _ S1 (lF ?_);rw[eT,DQ];exact sZ g (A8 li.1 (cS (by decide +kernel)) (by have:=li.2;rw[show ("\nx" :Str).length=2 by decide];lia)) (uF (c:=10) (by decide +kernel) rfl)
theorem uO (m:M w K mg):Fc P w K mg base "_law_spoiled" 2 ["_law_text","_law_cell"] (sX K):=⟨_,_,m.wL,m.iH.kp,m.wC,tZ m⟩
inductive nD (K:PySem.W.Frag)(vs:List V)(H:Hp)(Q:VK)(E:XK):Prop
 | mk (c:Int) (_:vs=[.int c]) (_:∀H',Same H H'->Q (.bl true) H'):nD K vs H Q E
theorem L7 {m:M w K mg}{H:Hp}{Q:VK}{E:XK}{c:Int} (k:∀p d rs kd nm st e ns L H',Same H H'->H' p=some (.tup [.ref d,.str (eZ rs kd nm st e ns)])->DoorAt P w base m (4+rs.length) H' d nm st e (rs.foldr rdL L) (some (eZ rs kd nm st e ns))->DG rs kd nm st e ns L->NmK nm->Q (.ref p) H'):o7 P w base m [.int c] H Q E:=⟨_,rfl,k⟩
theorem NS {m:M w K mg}{H:Hp}{Q:VK}{E:XK}{rs:List Rnd}{kd nm st:Str}{e:V}{ns:List Int}{L:Int->Int} (g:DG rs kd nm st e ns L) (k:∀p H',H p=none->Same H H'->DoorAt P w base m (4+rs.length) H' p nm st e (rs.foldr rdL L) (some (eZ rs kd nm st e ns))->Q (.ref p) H'):o6 P w base m [.str (eZ rs kd nm st e ns)] H Q E:=⟨_,rfl,.inr (.inr ⟨_,_,_,_,_,_,_,rfl,g,k⟩)⟩
theorem MM {ti:TT}{te:TE}{σ:St}{ci:List Nat}{rest:St}{fin:List V->Hp->Prop}{H:Hp}{lo:Int}{n:Nat} (hn:n<=sizeLine) (hr:ci.map (fun i=>(σ[i]?).join)=rest)
  (ht:∀(i:Nat) H1,i<n->Same H H1->∀R:Bool->Hp->Prop,(∀H2,Same H1 H2->R false H2)->ti (some (.int (lo+i))::rest) H1 R)
  (hf:∀H1,Same H H1->fin [] H1):fS (Itr lo n) (dM 0) ti te (bZ 1 ci σ) fin H:=by
 rw[AC hr];refine AF (List.range n) (fun _=>false) (fun _ _ _=>True) (fun _ _ _ _ h _=>h) (by rw[List.length_range];exact hn) (fun i H1 s hi=>by rw[List.length_range]at hi;exact hi) (fun H1 s=>by rw[List.length_range];exact Nat.le_refl _) (fun i x H1 hx s1 v H' y=> ?_) (fun ys H1 s1 h=>by
  rw[show (List.range n).filter (fun _=>false)=[] from List.filter_eq_nil_iff.mpr fun _ _=>Bool.false_ne_true]at h;cases h;exact hf H1 s1)
 obtain⟨rfl,rfl⟩:=y;obtain⟨hi,e⟩:=List.getElem?_eq_some_iff.mp hx;rw[List.length_range]at hi;rw[List.getElem_range]at e;subst e;refine⟨Same.refl _,some (.int (lo+(i:Int)))::rest,rfl,fun j v hv=> ?_,fun R hR=>hR,fun R hR=>ht i _ hi s1 R hR,fun z=>nomatch z⟩;cases j with
 | zero=>cases hv
 | succ j=>exact hv
theorem KU {e:V}{H:Hp}{Q:VK} (he:bF e) (h:Q (.bl false) H):rNe e e H Q:=by
 rcases he with rfl|⟨z,rfl,_⟩
 ·exact⟨rfl,h⟩
 ·exact zA (by rw[decide_eq_true rfl];exact h)
theorem MR {x:Str}{H:Hp}{Q:VK} (h:Q (.bl false) H):rNe (.str x) (.str x) H Q:=zA (by rw[decide_eq_true rfl];exact h)
local macro_rules| `(tactic| walk_at"rd1")=> `(tactic| (with_reducible refine MR ?_))
theorem qF (m:M w K mg):FnOk P w K mg base CX0 22 m.iJ m.iM ["_law_cell"] (nD K):=by
 refine m.dI.ok sc__law_door_right (fun vs H Q E h=> ?_) (fun cdv A outer s H vs Q E hr h=> ?_)
 ·obtain⟨c,rfl,k⟩:=h;rfl
 ·obtain⟨c,rfl,k⟩:=h;have nd:=sc__law_door_right.nd;have hu0:=Room.units0 hr;have hu9:=Room.units9 hr;have k8:= @zI P w K mg base m;have bD:= @lG P w K mg base m;have dS:= @m7 P w K mg base m;have iH:= @uO P w K mg base m;have gI:= @qP P w K mg base m;refine⟨_,(aD (IH (bN k8 hr (aA (pv 0) aB)) (GM (n:=2) rfl (oU (dQ (i:=1) nd rfl (by walk_at"oi")) (oU (dQ (i:=2) nd rfl (by walk_at"oi")) DM))))
   (aD (bL (aR nC (rK 20 hr uB (pv 1)) (pv 2) (aU _)) (aF (aK jZ)) bA)
   (aD (bB (i:=3) nd rfl (by walk_at"oi") (k7 gI hr uB (aA (pv 2) aB)))
   (aD (bL (PW.pt (oR (aR nC (aW (pv 3) rfl) (aW (pv 1) rfl) (aU _)) (oR (aR nC (aW (pv 3) rfl) (aW (pv 1) rfl) (aU _)) (pW (aR nC (aW (pv 3) rfl) (aW (pv 1) rfl) (aU _)))))) (aF (aK jZ)) bA)
   (aD (bL (aR nC (rK 20 hr uB (pv 3)) (pv 2) (aU _)) (aF (aK jZ)) bA)
   (aD (bL (aR (RB hu0) (rD (N:=["_law_turn","_law_found","_law_door_here"]) (nl:=1) (ci:=[3,1]) rfl (blk (s.heap.objs.size+1) rfl rfl rfl (by kernel_rfl)) (wU rfl m.DS (aA aC aB)) (fun _ _ _ _=>(dQ (i:=0) (show (["_law_turn","_law_found","_law_door_here"]:List Str).Nodup by decide +kernel) rfl (by walk_at"oi"))) (fun _ _ _ _=>(PX (aR nC (GQ (P:=P) (w:=w) (K:=K) (mg:=mg) (base:=base) 20 hr (pv 1) (aA (pv 0) aB)) (GQ (P:=P) (w:=w) (K:=K) (mg:=mg) (base:=base) 20 hr (pv 2) (aA (pv 0) aB)) (aU _)))) (fun _ _ _ _=>(pv 0))) (b6 aB) (aU _)) (aF (aK jZ)) bA)
   (aF (aK (bN dS hr (aA (l6 rfl m.nO) (aA (bN iH hr (aA (pv 2) (aA (bN bD hr (aA (pv 0) (aA aC aB))) aB))) aB))))))))))),?_⟩
  refine aN (σ:=[some (.int c),none,none,none]) rfl ?_;walk_at"cx";walk_at"go";refine L7 fun p d rs kd nm st e ns L H1 S1 e1 hd g hk=> ?_;have hd20:=hd.mono (k:=20) (by have:=g.len;lia);walk_at"g1";obtain⟨C,dx,fs,spl,spw,h1,h2,h3,h4,h5,h6,h7,h8,h9,h10,h11,h16,h17,h18⟩:=hd20.ex;walk_at"g2";walk_at"go";refine u8 ?_;walk_at"go";refine rA (by walk_at"hp") h7 h10 ?_;walk_at"go";refine h17 _ _ _ (Same.refl _) (fun z H2 ez S2=> ?_) (fun H2 ez _=>by cases ez);obtain rfl:=Option.some.inj ez;walk_at"go";refine NS g fun p3 H3 n3 S3 hd3=> ?_;have hf20:=hd3.mono (k:=20) (by have:=g.len;lia);walk_at"g1";obtain⟨C',dx',fs',spl',spw',g1,g2,g3,g4,g5,g6,g7,g8,g9,g10,g11,g16,g17,g18⟩:=hf20.ex;walk_at"g2";have h1':=S3 _ _ (S2 _ _ h1);walk_at"go";refine KU g.he ?_;walk_at"go";refine u8 ?_;walk_at"go";refine rA (by walk_at"hp") g7 g10 ?_;walk_at"go";refine g17 _ _ _ (Same.refl _) (fun z H4 ez S4=> ?_) (fun H4 ez _=>by cases ez);obtain rfl:=Option.some.inj ez;have h1'':=S4 _ _ h1';have g1':=S4 _ _ g1;walk_at"go";refine MM (by decide) (rest:=[some (.ref p3),some (.ref d)]) (by rfl) ?_ ?_
  ·intro i H5 hi S5 R hR;have a1:=S5 _ _ g1';have a2:=S5 _ _ h1'';have hi':(0:Int)<=0+(i:Int)/\(0:Int)+(i:Int)<1000000000000:=by lia
   walk_at"go";refine g16 _ _ _ (S4.trans S5) hi'.1 hi'.2 ?_;walk_at"go";refine h16 _ _ _ ((S2.trans S3).trans (S4.trans S5)) hi'.1 hi'.2 ?_;walk_at"go";rw[decide_eq_true rfl];exact hR _ (Same.refl _)
  ·intro H5 S5;walk_at"go";rename_i p6 H6 n6 S6 e6 p7 H7 n7 S7 e7;refine RJ (SqL.of (S7 _ _ e6)) (SqL.of e7) ?_;rw[show (!([]:List V).isEmpty)=false from rfl];walk_at"go";rename_i n8 n80 n81;refine⟨rs,kd,nm,st,e,ns,L,n8,rfl,g,hk,n80,fun v H8 S8 hb=> ?_⟩;walk_at"go";exact RA hb fun H9 S9=>k _ (((((((S1.trans S2).trans S3).trans S4).trans S5).trans S6).trans S7).trans (S8.trans S9))
theorem pX (m:M w K mg):Fc P w K mg base "_law_door_right" 22 ["_law_cell"] (nD K):=⟨_,_,m.rY,m.dI.kp,m.r0,qF m⟩
theorem OG {H:Hp}{Q:VK}{E:XK}{c:Int} (k:∀H',Same H H'->Q (.bl true) H'):oY [.int c] H Q E:=⟨_,rfl,k⟩
theorem JS {H:Hp}{Q:VK}{E:XK}{c:Int} (k:∀H',Same H H'->Q (.bl true) H'):nD K [.int c] H Q E:=⟨_,rfl,k⟩
local macro_rules| `(tactic| walk_at"rd1")=> `(tactic| first|((with_reducible refine OG ?_);intro H' S')|((with_reducible refine JS ?_);intro H' S'))
inductive qI (K:PySem.W.Frag)(vs:List V)(H:Hp)(Q:VK)(E:XK):Prop
 | mk (a:Addr) (ns:List Int) (_:vs=[.ref a]) (_:SqL K H a (ns.map V.int)) (_:ns.length<=63) (_:∀H',Q (.bl true) H'):qI K vs H Q E
theorem Q1 (m:M w K mg):FnOk P w K mg base CX0 30 m.F3 m.F6 ["_law_script"] (qI K):=by
 refine m.UP.ok sc_law (fun vs H Q E h=> ?_) (fun cdv A outer s H vs Q E hr h=> ?_)
 ·walk_at"g1";obtain⟨a,ns,rfl,hS,hlen,k⟩:=h;walk_at"g2";rfl
 ·walk_at"g1";obtain⟨a,ns,rfl,hS,hlen,k⟩:=h;walk_at"g2";have nd:=sc_law.nd;have hu0:=Room.units0 hr;have hu9:=Room.units9 hr;have fH:= @tX P w K mg base m;have dI:= @pX P w K mg base m;have cT:= @o9 P w K mg base m;refine⟨_,(aD (z7 PassesOwn.never rfl (vW (fM jK (pv 0) jJ (gE aC))) (dQ (i:=1) nd rfl (by walk_at"oi")) (aF (bL (PW.pt (oR (iR (g0 (bN cT hr (aA (pv 1) aB)))) (pW (iR (g0 (bN dI hr (aA (pv 1) aB))))))) (aF (aK jZ)) bA)))
   (aF (aK (pZ (bN cT hr (aA (bN fH hr (aA (pv 0) (aA aC aB))) aB)) (pV (bN dI hr (aA (aG jU (bN fH hr (aA (pv 0) (aA aC aB))) aC) aB))))))),?_⟩
  refine aN (σ:=[some (.ref a),none]) rfl ?_;walk_at"cx";walk_at"go";rename_i p1 H1 n1 S1 e1;let Pv1:Nat->St->Hp->Prop:=fun _ σ' H'=>∃x1:Option V,σ'=[some (.ref a),x1]/\Same H1 H';refine NY (FU ns none (some 12)) Pv1 ⟨none,rfl,Same.refl _⟩ (fun i σ' H' ⟨_,_,s'⟩=>SqL.of (s' _ _ e1)) ?_ ?_
  ·rintro i c _ H2 hc ⟨x1,rfl,s2⟩;walk_at"go";rename_i H3 S3 H4 S4;exact⟨_,rfl,(s2.trans S3).trans S4⟩
  ·rintro _ H2 ⟨x1,rfl,s2⟩;have hS2:=(S1.trans s2).seq hS;walk_at"go";exact k _
end
theorem all_mk {l:PySem.W.OpenLaw}{w:World}{K:PySem.W.Frag}{h:Heap}{mg:Str->Option Value}{fa:Addr} (X:K.In h) (G:h.Ns mainGlobals mg) (hfa:mg "law" =some (.ref fa))
  {zaa zab zac zad zae zaf zag zah zai zaj zak zal zam zan zao zap zaq zar zas zat zau zav zaw zax zay zaz zba zbb zbc zbd zbe zbf zbg zbh zbi zbj zbk zbl zbm zbn zbo zbp zbq zbr zbs zbt zbu zbv zbw zbx zby zbz zca zcb:Addr}
  {zcc zcd:Option Addr}{zce:Array (Option Value)}{zcf zcg zch zci zcj zck:Value}
  {zcl zcm:Option Addr}{zcn:Array (Option Value)}{zco zcp zcq zcr zcs zct:Value}
  {zcu zcv:Option Addr}{zcw:Array (Option Value)}{zcx zcy zcz zda zdb zdc:Value}
  {zdd zde:Option Addr}{zdf:Array (Option Value)}{zdg zdh zdi zdj zdk zdl:Value}
  {zdm zdn:Option Addr}{zdo:Array (Option Value)}{zdp zdq zdr zds zdt zdu:Value}
  {zdv zdw:Option Addr}{zdx:Array (Option Value)}{zdy zdz zea zeb zec zed:Value}
  {zee zef:Option Addr}{zeg:Array (Option Value)}{zeh zei zej zek zel zem:Value}
  {zen zeo:Option Addr}{zep:Array (Option Value)}{zeq zer zes zet zeu zev:Value}
  {zew zex:Option Addr}{zey:Array (Option Value)}{zez zfa zfb zfc zfd zfe:Value}
  {zff zfg:Option Addr}{zfh:Array (Option Value)}{zfi zfj zfk zfl zfm zfn:Value}
  {zfo zfp:Option Addr}{zfq:Array (Option Value)}{zfr zfs zft zfu zfv zfw:Value}
  {zfx zfy:Option Addr}{zfz:Array (Option Value)}{zga zgb zgc zgd zge zgf:Value}
  {zgg zgh:Option Addr}{zgi:Array (Option Value)}{zgj zgk zgl zgm zgn zgo:Value}
  {zgp zgq:Option Addr}{zgr:Array (Option Value)}{zgs zgt zgu zgv zgw zgx:Value}
  {zgy zgz:Option Addr}{zha:Array (Option Value)}{zhb zhc zhd zhe zhf zhg:Value}
  {zhh zhi:Option Addr}{zhj:Array (Option Value)}{zhk zhl zhm zhn zho zhp:Value}
  {zhq zhr:Option Addr}{zhs:Array (Option Value)}{zht zhu zhv zhw zhx zhy:Value}
  {zhz zia:Option Addr}{zib:Array (Option Value)}{zic zid zie zif zig zih:Value}
  {zii zij:Option Addr}{zik:Array (Option Value)}{zil zim zin zio ziq zir:Value}
  {zis zit:Option Addr}{ziu:Array (Option Value)}{ziv ziw zix ziy ziz zja:Value}
  {zjb zjc:Option Addr}{zjd:Array (Option Value)}{zje zjf zjg zjh zji zjj:Value}
  {zjk zjl:Option Addr}{zjm:Array (Option Value)}{zjn zjo zjp zjq zjr zjs:Value}
  {zjt zju:Option Addr}{zjv:Array (Option Value)}{zjw zjx zjy zjz zka zkb:Value}
  {zkc:Addr}
  {zkd:Tok}
  {zke:Value}{zkf:Option Addr}{zkg:Nat}{zkh:Array (Option Value)}
  {zki zkj:Option Addr}{zkk:Array (Option Value)}{zkl zkm zkn zko zkp zkq:Value}
  {zkr zks:Option Addr}{zkt:Array (Option Value)}{zku zkv zkw zkx zky zkz:Value}
  {zla zlb:Option Addr}{zlc:Array (Option Value)}{zld zle zlf zlg zlh zli:Value}
  {zlj zlk:Option Addr}{zll:Array (Option Value)}{zlm zln zlo zlp zlq zlr:Value}
  {zls zlt:Option Addr}{zlu:Array (Option Value)}{zlv zlw zlx zly zlz zma:Value}
  {zmb zmc:Option Addr}{zmd:Array (Option Value)}{zme zmf zmg zmh zmi zmj:Value}
  {zmk zml:Option Addr}{zmm:Array (Option Value)}{zmn zmo zmp zmq zmr zms:Value}
  {zmt zmu:Option Addr}{zmv:Array (Option Value)}{zmw zmx zmy zmz zna znb:Value}
  {znc znd:Option Addr}{zne:Array (Option Value)}{znf zng znh zni znj znk:Value}
  {znl znm:Option Addr}{znn:Array (Option Value)}{zno znp znq znr zns znt:Value}
  {znu:Addr}
  {znv:Tok}
  {znw:Value}{znx:Option Addr}{zny:Nat}{znz:Array (Option Value)}
  {zoa zob:Option Addr}{zoc:Array (Option Value)}{zod zoe zof zog zoh zoi:Value}
  {zoj zok:Option Addr}{zol:Array (Option Value)}{zom zon zoo zop zoq zor:Value}
  {zos zot:Option Addr}{zou:Array (Option Value)}{zov zow zox zoy zoz zpa:Value}
  {zpb zpc:Option Addr}{zpd:Array (Option Value)}{zpe zpf zpg zph zpi zpj:Value}
  {zpk zpl:Option Addr}{zpm:Array (Option Value)}{zpn zpo zpp zpq zpr zps:Value}
  {zpt zpu:Option Addr}{zpv:Array (Option Value)}{zpw zpx zpy zpz zqa zqb:Value}
  {zqc zqd:Option Addr}{zqe:Array (Option Value)}{zqf zqg zqh zqi zqj zqk:Value}
  {zql zqm:Option Addr}{zqn:Array (Option Value)}{zqo zqp zqq zqr zqs zqt:Value}
  {zqu zqv:Option Addr}{zqw:Array (Option Value)}{zqx zqy zqz zra zrb zrc:Value}
  {zrd zre:Option Addr}{zrf:Array (Option Value)}{zrg zrh zri zrj zrk zrl:Value}
  {zrm zrn:Option Addr}{zro:Array (Option Value)}{zrp zrq zrr zrs zrt zru:Value}
  {zrv:ClassData}
  {zrw:ClassData}
  {zrx:ClassData}
  {zry:ClassData}
  {zrz:Tok}
  {zsa:Tok}
  {zsb:Addr}{zsc:Nat}{zsd:Int}{zse zsf:Tok}{zsg:Int}{zsh zsi:Tok}
  {zsj:Addr}{zsk:Nat}{zsl:Int}{zsm zsn:Tok}{zso:Int}{zsp zsq:Tok}{zsr:Int}{zss zst:Tok}{zsu:Int}{zsv zsw:Tok}{zsx:Int}{zsy zsz:Tok}
  (zta:PySem.W.nsIn K mainGlobals "is_whole" =some (some (.ref zaa)))
  (ztb:PySem.W.nsIn K mainGlobals "is_name" =some (some (.ref zab)))
  (ztc:PySem.W.nsIn K mainGlobals "need_name" =some (some (.ref zac)))
  (ztd:PySem.W.nsIn K mainGlobals "need_whole" =some (some (.ref zad)))
  (zte:PySem.W.nsIn K mainGlobals "row_of_words" =some (some (.ref zae)))
  (ztf:PySem.W.nsIn K mainGlobals "need_text" =some (some (.ref zaf)))
  (ztg:PySem.W.nsIn K mainGlobals "is_written_whole" =some (some (.ref zag)))
  (zth:PySem.W.nsIn K mainGlobals "read_whole" =some (some (.ref zah)))
  (zti:PySem.W.nsIn K mainGlobals "door_round" =some (some (.ref zai)))
  (ztj:PySem.W.nsIn K mainGlobals "door_by_itself" =some (some (.ref zaj)))
  (ztk:PySem.W.nsIn K mainGlobals "door_of_words" =some (some (.ref zak)))
  (ztl:PySem.W.nsIn K mainGlobals "read_door" =some (some (.ref zal)))
  (ztm:PySem.W.nsIn K mainGlobals "_law_cell_at" =some (some (.ref zam)))
  (ztn:PySem.W.nsIn K mainGlobals "_law_drawn" =some (some (.ref zan)))
  (zto:PySem.W.nsIn K mainGlobals "_law_refused" =some (some (.ref zao)))
  (ztp:PySem.W.nsIn K mainGlobals "_law_number_right" =some (some (.ref zap)))
  (ztq:PySem.W.nsIn K mainGlobals "_law_name" =some (some (.ref zaq)))
  (ztr:PySem.W.nsIn K mainGlobals "_law_plain" =some (some (.ref zar)))
  (zts:PySem.W.nsIn K mainGlobals "_law_door" =some (some (.ref zas)))
  (ztt:PySem.W.nsIn K mainGlobals "_law_spoiled" =some (some (.ref zat)))
  (ztu:PySem.W.nsIn K mainGlobals "_law_door_right" =some (some (.ref zau)))
  (ztv:PySem.W.nsIn K mainGlobals "law" =some (some (.ref zav)))
  (ztw:PySem.W.nsIn K mainGlobals "Door" =some (some (.ref zaw)))
  (ztx:PySem.W.nsIn K mainGlobals "Since" =some (some (.ref zax)))
  (zty:PySem.W.nsIn K mainGlobals "Until" =some (some (.ref zay)))
  (ztz:PySem.W.nsIn K mainGlobals "Beat" =some (some (.ref zaz)))
  (zua:PySem.W.nsIn K mainGlobals "Marked" =some (some (.ref zba)))
  (zub:PySem.W.nsIn K mainGlobals "Shut" =some (some (.ref zbb)))
  (zuc:PySem.W.nsIn K mainGlobals "Wider" =some (some (.ref zbc)))
  (zud:PySem.W.nsIn K mainGlobals "OutError" =some (some (.ref zbd)))
  (zue:PySem.W.nsIn K mainGlobals "NoDoor" =some (some (.ref zbe)))
  (zuf:PySem.W.nsIn K mainGlobals "NoText" =some (some (.ref zbf)))
  (zug:PySem.W.findIn K (.ref zaw) "__init__" =some (some (.ref zbg)))
  (zuh:PySem.W.findIn K (.ref zaw) "lets" =some (some (.ref zbh)))
  (zui:PySem.W.findIn K (.ref zaw) "is_exit" =some (some (.ref zbi)))
  (zuj:PySem.W.findIn K (.ref zaw) "words" =some (some (.ref zbj)))
  (zuk:PySem.W.findIn K (.ref zax) "__init__" =some (some (.ref zbk)))
  (zul:PySem.W.findIn K (.ref zax) "lets" =some (some (.ref zbl)))
  (zum:PySem.W.findIn K (.ref zax) "words" =some (some (.ref zbm)))
  (zun:PySem.W.findIn K (.ref zay) "__init__" =some (some (.ref zbn)))
  (zuo:PySem.W.findIn K (.ref zay) "lets" =some (some (.ref zbo)))
  (zup:PySem.W.findIn K (.ref zay) "words" =some (some (.ref zbp)))
  (zuq:PySem.W.findIn K (.ref zaz) "__init__" =some (some (.ref zbq)))
  (zur:PySem.W.findIn K (.ref zaz) "lets" =some (some (.ref zbr)))
  (zus:PySem.W.findIn K (.ref zaz) "words" =some (some (.ref zbs)))
  (zut:PySem.W.findIn K (.ref zba) "__init__" =some (some (.ref zbt)))
  (zuu:PySem.W.findIn K (.ref zba) "lets" =some (some (.ref zbu)))
  (zuv:PySem.W.findIn K (.ref zba) "words" =some (some (.ref zbv)))
  (zuw:PySem.W.findIn K (.ref zbb) "__init__" =some (some (.ref zbw)))
  (zux:PySem.W.findIn K (.ref zbb) "lets" =some (some (.ref zbx)))
  (zuy:PySem.W.findIn K (.ref zbb) "words" =some (some (.ref zby)))
  (zuz:PySem.W.findIn K (.ref zbc) "__init__" =some (some (.ref zbz)))
  (zva:PySem.W.findIn K (.ref zbc) "lets" =some (some (.ref zca)))
  (zvb:PySem.W.findIn K (.ref zbc) "words" =some (some (.ref zcb)))
  (zvc:K.lookup zaa=some ⟨zcf,zcc,.func (PySem.W.fnOf "is_whole" "is_whole" (aM fK) (aL fK) (aE fK) .none zcg zch zci zcd zcj zck),zce⟩)
  (zvd:PySem.W.codeIn K zcj "is_whole" =true)
  (zve:PySem.W.keepIn K (.ref zaa)=true)
  (zvf:K.lookup zab=some ⟨zco,zcl,.func (PySem.W.fnOf "is_name" "is_name" (aM gU) (aL gU) (aE gU) .none zcp zcq zcr zcm zcs zct),zcn⟩)
  (zvg:PySem.W.codeIn K zcs "is_name" =true)
  (zvh:PySem.W.keepIn K (.ref zab)=true)
  (zvi:K.lookup zac=some ⟨zcx,zcu,.func (PySem.W.fnOf "need_name" "need_name" (aM eR) (aL eR) (aE eR) .none zcy zcz zda zcv zdb zdc),zcw⟩)
  (zvj:PySem.W.codeIn K zdb "need_name" =true)
  (zvk:PySem.W.keepIn K (.ref zac)=true)
  (zvl:K.lookup zad=some ⟨zdg,zdd,.func (PySem.W.fnOf "need_whole" "need_whole" (aM d7) (aL d7) (aE d7) .none zdh zdi zdj zde zdk zdl),zdf⟩)
  (zvm:PySem.W.codeIn K zdk "need_whole" =true)
  (zvn:PySem.W.keepIn K (.ref zad)=true)
  (zvo:K.lookup zae=some ⟨zdp,zdm,.func (PySem.W.fnOf "row_of_words" "row_of_words" (aM cZ) (aL cZ) (aE cZ) .none zdq zdr zds zdn zdt zdu),zdo⟩)
  (zvp:PySem.W.codeIn K zdt "row_of_words" =true)
  (zvq:PySem.W.keepIn K (.ref zae)=true)
  (zvr:K.lookup zaf=some ⟨zdy,zdv,.func (PySem.W.fnOf "need_text" "need_text" (aM eP) (aL eP) (aE eP) .none zdz zea zeb zdw zec zed),zdx⟩)
  (zvs:PySem.W.codeIn K zec "need_text" =true)
  (zvt:PySem.W.keepIn K (.ref zaf)=true)
  (zvu:K.lookup zag=some ⟨zeh,zee,.func (PySem.W.fnOf "is_written_whole" "is_written_whole" (aM b7) (aL b7) (aE b7) .none zei zej zek zef zel zem),zeg⟩)
  (zvv:PySem.W.codeIn K zel "is_written_whole" =true)
  (zvw:PySem.W.keepIn K (.ref zag)=true)
  (zvx:K.lookup zah=some ⟨zeq,zen,.func (PySem.W.fnOf "read_whole" "read_whole" (aM dY) (aL dY) (aE dY) .none zer zes zet zeo zeu zev),zep⟩)
  (zvy:PySem.W.codeIn K zeu "read_whole" =true)
  (zvz:PySem.W.keepIn K (.ref zah)=true)
  (zwa:K.lookup zai=some ⟨zez,zew,.func (PySem.W.fnOf "door_round" "door_round" (aM dZ) (aL dZ) (aE dZ) .none zfa zfb zfc zex zfd zfe),zey⟩)
  (zwb:PySem.W.codeIn K zfd "door_round" =true)
  (zwc:PySem.W.keepIn K (.ref zai)=true)
  (zwd:K.lookup zaj=some ⟨zfi,zff,.func (PySem.W.fnOf "door_by_itself" "door_by_itself" (aM cH) (aL cH) (aE cH) .none zfj zfk zfl zfg zfm zfn),zfh⟩)
  (zwe:PySem.W.codeIn K zfm "door_by_itself" =true)
  (zwf:PySem.W.keepIn K (.ref zaj)=true)
  (zwg:K.lookup zak=some ⟨zfr,zfo,.func (PySem.W.fnOf "door_of_words" "door_of_words" (aM cQ) (aL cQ) (aE cQ) .none zfs zft zfu zfp zfv zfw),zfq⟩)
  (zwh:PySem.W.codeIn K zfv "door_of_words" =true)
  (zwi:PySem.W.keepIn K (.ref zak)=true)
  (zwj:K.lookup zal=some ⟨zga,zfx,.func (PySem.W.fnOf "read_door" "read_door" (aM eU) (aL eU) (aE eU) .none zgb zgc zgd zfy zge zgf),zfz⟩)
  (zwk:PySem.W.codeIn K zge "read_door" =true)
  (zwl:PySem.W.keepIn K (.ref zal)=true)
  (zwm:K.lookup zam=some ⟨zgj,zgg,.func (PySem.W.fnOf "_law_cell_at" "_law_cell_at" (aM cU) (aL cU) (aE cU) .none zgk zgl zgm zgh zgn zgo),zgi⟩)
  (zwn:PySem.W.codeIn K zgn "_law_cell_at" =true)
  (zwo:PySem.W.keepIn K (.ref zam)=true)
  (zwp:K.lookup zan=some ⟨zgs,zgp,.func (PySem.W.fnOf "_law_drawn" "_law_drawn" (aM d6) (aL d6) (aE d6) .none zgt zgu zgv zgq zgw zgx),zgr⟩)
  (zwq:PySem.W.codeIn K zgw "_law_drawn" =true)
  (zwr:PySem.W.keepIn K (.ref zan)=true)
  (zws:K.lookup zao=some ⟨zhb,zgy,.func (PySem.W.fnOf "_law_refused" "_law_refused" (aM cV) (aL cV) (aE cV) .none zhc zhd zhe zgz zhf zhg),zha⟩)
  (zwt:PySem.W.codeIn K zhf "_law_refused" =true)
  (zwu:PySem.W.keepIn K (.ref zao)=true)
  (zwv:K.lookup zap=some ⟨zhk,zhh,.func (PySem.W.fnOf "_law_number_right" "_law_number_right" (aM b4) (aL b4) (aE b4) .none zhl zhm zhn zhi zho zhp),zhj⟩)
  (zww:PySem.W.codeIn K zho "_law_number_right" =true)
  (zwx:PySem.W.keepIn K (.ref zap)=true)
  (zwy:K.lookup zaq=some ⟨zht,zhq,.func (PySem.W.fnOf "_law_name" "_law_name" (aM eS) (aL eS) (aE eS) .none zhu zhv zhw zhr zhx zhy),zhs⟩)
  (zwz:PySem.W.codeIn K zhx "_law_name" =true)
  (zxa:PySem.W.keepIn K (.ref zaq)=true)
  (zxb:K.lookup zar=some ⟨zic,zhz,.func (PySem.W.fnOf "_law_plain" "_law_plain" (aM dU) (aL dU) (aE dU) .none zid zie zif zia zig zih),zib⟩)
  (zxc:PySem.W.codeIn K zig "_law_plain" =true)
  (zxd:PySem.W.keepIn K (.ref zar)=true)
  (zxe:K.lookup zas=some ⟨zil,zii,.func (PySem.W.fnOf "_law_door" "_law_door" (aM eY) (aL eY) (aE eY) .none zim zin zio zij ziq zir),zik⟩)
  (zxf:PySem.W.codeIn K ziq "_law_door" =true)
  (zxg:PySem.W.keepIn K (.ref zas)=true)
  (zxh:K.lookup zat=some ⟨ziv,zis,.func (PySem.W.fnOf "_law_spoiled" "_law_spoiled" (aM cY) (aL cY) (aE cY) .none ziw zix ziy zit ziz zja),ziu⟩)
  (zxi:PySem.W.codeIn K ziz "_law_spoiled" =true)
  (zxj:PySem.W.keepIn K (.ref zat)=true)
  (zxk:K.lookup zau=some ⟨zje,zjb,.func (PySem.W.fnOf "_law_door_right" "_law_door_right" (aM cD) (aL cD) (aE cD) .none zjf zjg zjh zjc zji zjj),zjd⟩)
  (zxl:PySem.W.codeIn K zji "_law_door_right" =true)
  (zxm:PySem.W.keepIn K (.ref zau)=true)
  (zxn:K.lookup zav=some ⟨zjn,zjk,.func (PySem.W.fnOf "law" "law" (aM k6) (aL k6) (aE k6) .none zjo zjp zjq zjl zjr zjs),zjm⟩)
  (zxo:PySem.W.codeIn K zjr "law" =true)
  (zxp:PySem.W.keepIn K (.ref zav)=true)
  (zxq:K.lookup zbg=some ⟨zjw,zjt,.func (PySem.W.fnOf "__init__" "Door.__init__" (aM b5) (aL b5) (aE b5) (.ref zkc) zjx zjy zjz zju zka zkb),zjv⟩)
  (zxr:PySem.W.codeIn K zka "Door.__init__" =true)
  (zxs:PySem.W.keepIn K (.ref zbg)=true)
  (zxt:K.lookup zkc=some ⟨zke,zkf,.seq #[.none,.int 1 zkd] zkg,zkh⟩)
  (zxu:K.lookup zbh=some ⟨zkl,zki,.func (PySem.W.fnOf "lets" "Door.lets" (aM eW) (aL eW) (aE eW) .none zkm zkn zko zkj zkp zkq),zkk⟩)
  (zxv:PySem.W.codeIn K zkp "Door.lets" =true)
  (zxw:PySem.W.keepIn K (.ref zbh)=true)
  (zxx:K.lookup zbi=some ⟨zku,zkr,.func (PySem.W.fnOf "is_exit" "Door.is_exit" (aM cW) (aL cW) (aE cW) .none zkv zkw zkx zks zky zkz),zkt⟩)
  (zxy:PySem.W.codeIn K zky "Door.is_exit" =true)
  (zxz:PySem.W.keepIn K (.ref zbi)=true)
  (zya:K.lookup zbj=some ⟨zld,zla,.func (PySem.W.fnOf "words" "Door.words" (aM d9) (aL d9) (aE d9) .none zle zlf zlg zlb zlh zli),zlc⟩)
  (zyb:PySem.W.codeIn K zlh "Door.words" =true)
  (zyc:PySem.W.keepIn K (.ref zbj)=true)
  (zyd:K.lookup zbk=some ⟨zlm,zlj,.func (PySem.W.fnOf "__init__" "Since.__init__" (aM cI) (aL cI) (aE cI) .none zln zlo zlp zlk zlq zlr),zll⟩)
  (zye:PySem.W.codeIn K zlq "Since.__init__" =true)
  (zyf:PySem.W.keepIn K (.ref zbk)=true)
  (zyg:K.lookup zbl=some ⟨zlv,zls,.func (PySem.W.fnOf "lets" "Since.lets" (aM d5) (aL d5) (aE d5) .none zlw zlx zly zlt zlz zma),zlu⟩)
  (zyh:PySem.W.codeIn K zlz "Since.lets" =true)
  (zyi:PySem.W.keepIn K (.ref zbl)=true)
  (zyj:K.lookup zbm=some ⟨zme,zmb,.func (PySem.W.fnOf "words" "Since.words" (aM dD) (aL dD) (aE dD) .none zmf zmg zmh zmc zmi zmj),zmd⟩)
  (zyk:PySem.W.codeIn K zmi "Since.words" =true)
  (zyl:PySem.W.keepIn K (.ref zbm)=true)
  (zym:K.lookup zbn=some ⟨zmn,zmk,.func (PySem.W.fnOf "__init__" "Until.__init__" (aM cK) (aL cK) (aE cK) .none zmo zmp zmq zml zmr zms),zmm⟩)
  (zyn:PySem.W.codeIn K zmr "Until.__init__" =true)
  (zyo:PySem.W.keepIn K (.ref zbn)=true)
  (zyp:K.lookup zbo=some ⟨zmw,zmt,.func (PySem.W.fnOf "lets" "Until.lets" (aM dX) (aL dX) (aE dX) .none zmx zmy zmz zmu zna znb),zmv⟩)
  (zyq:PySem.W.codeIn K zna "Until.lets" =true)
  (zyr:PySem.W.keepIn K (.ref zbo)=true)
  (zys:K.lookup zbp=some ⟨znf,znc,.func (PySem.W.fnOf "words" "Until.words" (aM dB) (aL dB) (aE dB) .none zng znh zni znd znj znk),zne⟩)
  (zyt:PySem.W.codeIn K znj "Until.words" =true)
  (zyu:PySem.W.keepIn K (.ref zbp)=true)
  (zyv:K.lookup zbq=some ⟨zno,znl,.func (PySem.W.fnOf "__init__" "Beat.__init__" (aM cF) (aL cF) (aE cF) (.ref znu) znp znq znr znm zns znt),znn⟩)
  (zyw:PySem.W.codeIn K zns "Beat.__init__" =true)
  (zyx:PySem.W.keepIn K (.ref zbq)=true)
  (zyy:K.lookup znu=some ⟨znw,znx,.seq #[.int 0 znv] zny,znz⟩)
  (zyz:K.lookup zbr=some ⟨zod,zoa,.func (PySem.W.fnOf "lets" "Beat.lets" (aM eV) (aL eV) (aE eV) .none zoe zof zog zob zoh zoi),zoc⟩)
  (zza:PySem.W.codeIn K zoh "Beat.lets" =true)
  (zzb:PySem.W.keepIn K (.ref zbr)=true)
  (zzc:K.lookup zbs=some ⟨zom,zoj,.func (PySem.W.fnOf "words" "Beat.words" (aM d0) (aL d0) (aE d0) .none zon zoo zop zok zoq zor),zol⟩)
  (zzd:PySem.W.codeIn K zoq "Beat.words" =true)
  (zze:PySem.W.keepIn K (.ref zbs)=true)
  (zzf:K.lookup zbt=some ⟨zov,zos,.func (PySem.W.fnOf "__init__" "Marked.__init__" (aM cC) (aL cC) (aE cC) .none zow zox zoy zot zoz zpa),zou⟩)
  (zzg:PySem.W.codeIn K zoz "Marked.__init__" =true)
  (zzh:PySem.W.keepIn K (.ref zbt)=true)
  (zzi:K.lookup zbu=some ⟨zpe,zpb,.func (PySem.W.fnOf "lets" "Marked.lets" (aM dF) (aL dF) (aE dF) .none zpf zpg zph zpc zpi zpj),zpd⟩)
  (zzj:PySem.W.codeIn K zpi "Marked.lets" =true)
  (zzk:PySem.W.keepIn K (.ref zbu)=true)
  (zzl:K.lookup zbv=some ⟨zpn,zpk,.func (PySem.W.fnOf "words" "Marked.words" (aM cX) (aL cX) (aE cX) .none zpo zpp zpq zpl zpr zps),zpm⟩)
  (zzm:PySem.W.codeIn K zpr "Marked.words" =true)
  (zzn:PySem.W.keepIn K (.ref zbv)=true)
  (zzo:K.lookup zbw=some ⟨zpw,zpt,.func (PySem.W.fnOf "__init__" "Shut.__init__" (aM cN) (aL cN) (aE cN) .none zpx zpy zpz zpu zqa zqb),zpv⟩)
  (zzp:PySem.W.codeIn K zqa "Shut.__init__" =true)
  (zzq:PySem.W.keepIn K (.ref zbw)=true)
  (zzr:K.lookup zbx=some ⟨zqf,zqc,.func (PySem.W.fnOf "lets" "Shut.lets" (aM eQ) (aL eQ) (aE eQ) .none zqg zqh zqi zqd zqj zqk),zqe⟩)
  (zzs:PySem.W.codeIn K zqj "Shut.lets" =true)
  (zzt:PySem.W.keepIn K (.ref zbx)=true)
  (zzu:K.lookup zby=some ⟨zqo,zql,.func (PySem.W.fnOf "words" "Shut.words" (aM d2) (aL d2) (aE d2) .none zqp zqq zqr zqm zqs zqt),zqn⟩)
  (zzv:PySem.W.codeIn K zqs "Shut.words" =true)
  (zzw:PySem.W.keepIn K (.ref zby)=true)
  (zzx:K.lookup zbz=some ⟨zqx,zqu,.func (PySem.W.fnOf "__init__" "Wider.__init__" (aM cJ) (aL cJ) (aE cJ) .none zqy zqz zra zqv zrb zrc),zqw⟩)
  (zzy:PySem.W.codeIn K zrb "Wider.__init__" =true)
  (zzz:PySem.W.keepIn K (.ref zbz)=true)
  (zbaa:K.lookup zca=some ⟨zrg,zrd,.func (PySem.W.fnOf "lets" "Wider.lets" (aM dW) (aL dW) (aE dW) .none zrh zri zrj zre zrk zrl),zrf⟩)
  (zbab:PySem.W.codeIn K zrk "Wider.lets" =true)
  (zbac:PySem.W.keepIn K (.ref zca)=true)
  (zbad:K.lookup zcb=some ⟨zrp,zrm,.func (PySem.W.fnOf "words" "Wider.words" (aM dG) (aL dG) (aE dG) .none zrq zrr zrs zrn zrt zru),zro⟩)
  (zbae:PySem.W.codeIn K zrt "Wider.words" =true)
  (zbaf:PySem.W.keepIn K (.ref zcb)=true)
  (zbag:PySem.W.plainGet K zaw Str.empty=true)
  (zbah:PySem.W.hasDictIn K zaw=true)
  (zbai:PySem.W.plainOver K zaw=true)
  (zbaj:PySem.W.findIn K (.ref zaw) "__setattr__" =some (some (.builtin "object.__setattr__")))
  (zbak:PySem.W.makesIn K zaw=true)
  (zbal:PySem.W.keepIn K (.ref zaw)=true)
  (zbam:PySem.W.findIn K (.ref zaw) "__class__" =some (some (.builtin "object.__class__")))
  (zban:PySem.W.mroIn K zaw (.type "object")=some true)
  (zbao:PySem.W.findIn K (.ref zaw) "name" =some none)
  (zbap:PySem.W.findIn K (.ref zaw) "start" =some none)
  (zbaq:PySem.W.findIn K (.ref zaw) "end" =some none)
  (zbar:PySem.W.findIn K (.ref zaw) "wide" =some none)
  (zbas:PySem.W.findIn K (.ref zaw) "since" =some none)
  (zbat:PySem.W.findIn K (.ref zaw) "until" =some none)
  (zbau:PySem.W.findIn K (.ref zaw) "every" =some none)
  (zbav:PySem.W.findIn K (.ref zaw) "bits" =some none)
  (zbaw:PySem.W.findIn K (.ref zaw) "inner" =some none)
  (zbax:PySem.W.findIn K (.ref zaw) "turn" =some none)
  (zbay:PySem.W.findIn K (.ref zaw) "more" =some none)
  (zbaz:PySem.W.findIn K (.ref zaw) "__init__" =some (some (.ref zbg)))
  (zbba:PySem.W.isFn K (.ref zbg)=true)
  (zbbb:PySem.W.findIn K (.ref zaw) "lets" =some (some (.ref zbh)))
  (zbbc:PySem.W.isFn K (.ref zbh)=true)
  (zbbd:PySem.W.findIn K (.ref zaw) "is_exit" =some (some (.ref zbi)))
  (zbbe:PySem.W.isFn K (.ref zbi)=true)
  (zbbf:PySem.W.findIn K (.ref zaw) "words" =some (some (.ref zbj)))
  (zbbg:PySem.W.isFn K (.ref zbj)=true)
  (zbbh:PySem.W.plainGet K zax Str.empty=true)
  (zbbi:PySem.W.hasDictIn K zax=true)
  (zbbj:PySem.W.plainOver K zax=true)
  (zbbk:PySem.W.findIn K (.ref zax) "__setattr__" =some (some (.builtin "object.__setattr__")))
  (zbbl:PySem.W.makesIn K zax=true)
  (zbbm:PySem.W.keepIn K (.ref zax)=true)
  (zbbn:PySem.W.findIn K (.ref zax) "__class__" =some (some (.builtin "object.__class__")))
  (zbbo:PySem.W.mroIn K zax (.type "object")=some true)
  (zbbp:PySem.W.findIn K (.ref zax) "name" =some none)
  (zbbq:PySem.W.findIn K (.ref zax) "start" =some none)
  (zbbr:PySem.W.findIn K (.ref zax) "end" =some none)
  (zbbs:PySem.W.findIn K (.ref zax) "wide" =some none)
  (zbbt:PySem.W.findIn K (.ref zax) "since" =some none)
  (zbbu:PySem.W.findIn K (.ref zax) "until" =some none)
  (zbbv:PySem.W.findIn K (.ref zax) "every" =some none)
  (zbbw:PySem.W.findIn K (.ref zax) "bits" =some none)
  (zbbx:PySem.W.findIn K (.ref zax) "inner" =some none)
  (zbby:PySem.W.findIn K (.ref zax) "turn" =some none)
  (zbbz:PySem.W.findIn K (.ref zax) "more" =some none)
  (zbca:PySem.W.findIn K (.ref zax) "__init__" =some (some (.ref zbk)))
  (zbcb:PySem.W.isFn K (.ref zbk)=true)
  (zbcc:PySem.W.findIn K (.ref zax) "lets" =some (some (.ref zbl)))
  (zbcd:PySem.W.isFn K (.ref zbl)=true)
  (zbce:PySem.W.findIn K (.ref zax) "words" =some (some (.ref zbm)))
  (zbcf:PySem.W.isFn K (.ref zbm)=true)
  (zbcg:PySem.W.findIn K (.ref zax) "is_exit" =some (some (.ref zbi)))
  (zbch:PySem.W.isFn K (.ref zbi)=true)
  (zbci:PySem.W.plainGet K zay Str.empty=true)
  (zbcj:PySem.W.hasDictIn K zay=true)
  (zbck:PySem.W.plainOver K zay=true)
  (zbcl:PySem.W.findIn K (.ref zay) "__setattr__" =some (some (.builtin "object.__setattr__")))
  (zbcm:PySem.W.makesIn K zay=true)
  (zbcn:PySem.W.keepIn K (.ref zay)=true)
  (zbco:PySem.W.findIn K (.ref zay) "__class__" =some (some (.builtin "object.__class__")))
  (zbcp:PySem.W.mroIn K zay (.type "object")=some true)
  (zbcq:PySem.W.findIn K (.ref zay) "name" =some none)
  (zbcr:PySem.W.findIn K (.ref zay) "start" =some none)
  (zbcs:PySem.W.findIn K (.ref zay) "end" =some none)
  (zbct:PySem.W.findIn K (.ref zay) "wide" =some none)
  (zbcu:PySem.W.findIn K (.ref zay) "since" =some none)
  (zbcv:PySem.W.findIn K (.ref zay) "until" =some none)
  (zbcw:PySem.W.findIn K (.ref zay) "every" =some none)
  (zbcx:PySem.W.findIn K (.ref zay) "bits" =some none)
  (zbcy:PySem.W.findIn K (.ref zay) "inner" =some none)
  (zbcz:PySem.W.findIn K (.ref zay) "turn" =some none)
  (zbda:PySem.W.findIn K (.ref zay) "more" =some none)
  (zbdb:PySem.W.findIn K (.ref zay) "__init__" =some (some (.ref zbn)))
  (zbdc:PySem.W.isFn K (.ref zbn)=true)
  (zbdd:PySem.W.findIn K (.ref zay) "lets" =some (some (.ref zbo)))
  (zbde:PySem.W.isFn K (.ref zbo)=true)
  (zbdf:PySem.W.findIn K (.ref zay) "words" =some (some (.ref zbp)))
  (zbdg:PySem.W.isFn K (.ref zbp)=true)
  (zbdh:PySem.W.findIn K (.ref zay) "is_exit" =some (some (.ref zbi)))
  (zbdi:PySem.W.isFn K (.ref zbi)=true)
  (zbdj:PySem.W.plainGet K zaz Str.empty=true)
  (zbdk:PySem.W.hasDictIn K zaz=true)
  (zbdl:PySem.W.plainOver K zaz=true)
  (zbdm:PySem.W.findIn K (.ref zaz) "__setattr__" =some (some (.builtin "object.__setattr__")))
  (zbdn:PySem.W.makesIn K zaz=true)
  (zbdo:PySem.W.keepIn K (.ref zaz)=true)
  (zbdp:PySem.W.findIn K (.ref zaz) "__class__" =some (some (.builtin "object.__class__")))
  (zbdq:PySem.W.mroIn K zaz (.type "object")=some true)
  (zbdr:PySem.W.findIn K (.ref zaz) "name" =some none)
  (zbds:PySem.W.findIn K (.ref zaz) "start" =some none)
  (zbdt:PySem.W.findIn K (.ref zaz) "end" =some none)
  (zbdu:PySem.W.findIn K (.ref zaz) "wide" =some none)
  (zbdv:PySem.W.findIn K (.ref zaz) "since" =some none)
  (zbdw:PySem.W.findIn K (.ref zaz) "until" =some none)
  (zbdx:PySem.W.findIn K (.ref zaz) "every" =some none)
  (zbdy:PySem.W.findIn K (.ref zaz) "bits" =some none)
  (zbdz:PySem.W.findIn K (.ref zaz) "inner" =some none)
  (zbea:PySem.W.findIn K (.ref zaz) "turn" =some none)
  (zbeb:PySem.W.findIn K (.ref zaz) "more" =some none)
  (zbec:PySem.W.findIn K (.ref zaz) "__init__" =some (some (.ref zbq)))
  (zbed:PySem.W.isFn K (.ref zbq)=true)
  (zbee:PySem.W.findIn K (.ref zaz) "lets" =some (some (.ref zbr)))
  (zbef:PySem.W.isFn K (.ref zbr)=true)
  (zbeg:PySem.W.findIn K (.ref zaz) "words" =some (some (.ref zbs)))
  (zbeh:PySem.W.isFn K (.ref zbs)=true)
  (zbei:PySem.W.findIn K (.ref zaz) "is_exit" =some (some (.ref zbi)))
  (zbej:PySem.W.isFn K (.ref zbi)=true)
  (zbek:PySem.W.plainGet K zba Str.empty=true)
  (zbel:PySem.W.hasDictIn K zba=true)
  (zbem:PySem.W.plainOver K zba=true)
  (zben:PySem.W.findIn K (.ref zba) "__setattr__" =some (some (.builtin "object.__setattr__")))
  (zbeo:PySem.W.makesIn K zba=true)
  (zbep:PySem.W.keepIn K (.ref zba)=true)
  (zbeq:PySem.W.findIn K (.ref zba) "__class__" =some (some (.builtin "object.__class__")))
  (zber:PySem.W.mroIn K zba (.type "object")=some true)
  (zbes:PySem.W.findIn K (.ref zba) "name" =some none)
  (zbet:PySem.W.findIn K (.ref zba) "start" =some none)
  (zbeu:PySem.W.findIn K (.ref zba) "end" =some none)
  (zbev:PySem.W.findIn K (.ref zba) "wide" =some none)
  (zbew:PySem.W.findIn K (.ref zba) "since" =some none)
  (zbex:PySem.W.findIn K (.ref zba) "until" =some none)
  (zbey:PySem.W.findIn K (.ref zba) "every" =some none)
  (zbez:PySem.W.findIn K (.ref zba) "bits" =some none)
  (zbfa:PySem.W.findIn K (.ref zba) "inner" =some none)
  (zbfb:PySem.W.findIn K (.ref zba) "turn" =some none)
  (zbfc:PySem.W.findIn K (.ref zba) "more" =some none)
  (zbfd:PySem.W.findIn K (.ref zba) "__init__" =some (some (.ref zbt)))
  (zbfe:PySem.W.isFn K (.ref zbt)=true)
  (zbff:PySem.W.findIn K (.ref zba) "lets" =some (some (.ref zbu)))
  (zbfg:PySem.W.isFn K (.ref zbu)=true)
  (zbfh:PySem.W.findIn K (.ref zba) "words" =some (some (.ref zbv)))
  (zbfi:PySem.W.isFn K (.ref zbv)=true)
  (zbfj:PySem.W.findIn K (.ref zba) "is_exit" =some (some (.ref zbi)))
  (zbfk:PySem.W.isFn K (.ref zbi)=true)
  (zbfl:PySem.W.plainGet K zbb Str.empty=true)
  (zbfm:PySem.W.hasDictIn K zbb=true)
  (zbfn:PySem.W.plainOver K zbb=true)
  (zbfo:PySem.W.findIn K (.ref zbb) "__setattr__" =some (some (.builtin "object.__setattr__")))
  (zbfp:PySem.W.makesIn K zbb=true)
  (zbfq:PySem.W.keepIn K (.ref zbb)=true)
  (zbfr:PySem.W.findIn K (.ref zbb) "__class__" =some (some (.builtin "object.__class__")))
  (zbfs:PySem.W.mroIn K zbb (.type "object")=some true)
  (zbft:PySem.W.findIn K (.ref zbb) "name" =some none)
  (zbfu:PySem.W.findIn K (.ref zbb) "start" =some none)
  (zbfv:PySem.W.findIn K (.ref zbb) "end" =some none)
  (zbfw:PySem.W.findIn K (.ref zbb) "wide" =some none)
  (zbfx:PySem.W.findIn K (.ref zbb) "since" =some none)
  (zbfy:PySem.W.findIn K (.ref zbb) "until" =some none)
  (zbfz:PySem.W.findIn K (.ref zbb) "every" =some none)
  (zbga:PySem.W.findIn K (.ref zbb) "bits" =some none)
  (zbgb:PySem.W.findIn K (.ref zbb) "inner" =some none)
  (zbgc:PySem.W.findIn K (.ref zbb) "turn" =some none)
  (zbgd:PySem.W.findIn K (.ref zbb) "more" =some none)
  (zbge:PySem.W.findIn K (.ref zbb) "__init__" =some (some (.ref zbw)))
  (zbgf:PySem.W.isFn K (.ref zbw)=true)
  (zbgg:PySem.W.findIn K (.ref zbb) "lets" =some (some (.ref zbx)))
  (zbgh:PySem.W.isFn K (.ref zbx)=true)
  (zbgi:PySem.W.findIn K (.ref zbb) "words" =some (some (.ref zby)))
  (zbgj:PySem.W.isFn K (.ref zby)=true)
  (zbgk:PySem.W.findIn K (.ref zbb) "is_exit" =some (some (.ref zbi)))
  (zbgl:PySem.W.isFn K (.ref zbi)=true)
  (zbgm:PySem.W.plainGet K zbc Str.empty=true)
  (zbgn:PySem.W.hasDictIn K zbc=true)
  (zbgo:PySem.W.plainOver K zbc=true)
  (zbgp:PySem.W.findIn K (.ref zbc) "__setattr__" =some (some (.builtin "object.__setattr__")))
  (zbgq:PySem.W.makesIn K zbc=true)
  (zbgr:PySem.W.keepIn K (.ref zbc)=true)
  (zbgs:PySem.W.findIn K (.ref zbc) "__class__" =some (some (.builtin "object.__class__")))
  (zbgt:PySem.W.mroIn K zbc (.type "object")=some true)
  (zbgu:PySem.W.findIn K (.ref zbc) "name" =some none)
  (zbgv:PySem.W.findIn K (.ref zbc) "start" =some none)
  (zbgw:PySem.W.findIn K (.ref zbc) "end" =some none)
  (zbgx:PySem.W.findIn K (.ref zbc) "wide" =some none)
  (zbgy:PySem.W.findIn K (.ref zbc) "since" =some none)
  (zbgz:PySem.W.findIn K (.ref zbc) "until" =some none)
  (zbha:PySem.W.findIn K (.ref zbc) "every" =some none)
  (zbhb:PySem.W.findIn K (.ref zbc) "bits" =some none)
  (zbhc:PySem.W.findIn K (.ref zbc) "inner" =some none)
  (zbhd:PySem.W.findIn K (.ref zbc) "turn" =some none)
  (zbhe:PySem.W.findIn K (.ref zbc) "more" =some none)
  (zbhf:PySem.W.findIn K (.ref zbc) "__init__" =some (some (.ref zbz)))
  (zbhg:PySem.W.isFn K (.ref zbz)=true)
  (zbhh:PySem.W.findIn K (.ref zbc) "lets" =some (some (.ref zca)))
  (zbhi:PySem.W.isFn K (.ref zca)=true)
  (zbhj:PySem.W.findIn K (.ref zbc) "words" =some (some (.ref zcb)))
  (zbhk:PySem.W.isFn K (.ref zcb)=true)
  (zbhl:PySem.W.findIn K (.ref zbc) "is_exit" =some (some (.ref zbi)))
  (zbhm:PySem.W.isFn K (.ref zbi)=true)
  (zbhn:PySem.W.specialIn K (.builtin "object.__class__") "__get__" =some (some (.builtin "getset_descriptor.__get__")))
  (zbho:PySem.W.takesIn K (.builtin "object.__class__")=some true)
  (zbhp:PySem.W.specialIn K (.ref zaw) "__getattribute__" =some (some (.builtin "type.__getattribute__")))
  (zbhq:PySem.W.readsIn K zaw (.type "type")=true)
  (zbhr:PySem.W.findCls K (.ref zaw) (.type "type") "__init__" =some (.val (.ref zbg)))
  (zbhs:PySem.W.excIn K zbf bmV "ValueError.__new__" =true)
  (zbht:PySem.W.findIn K (.ref zbf) "__getattribute__" =some (some (.builtin "BaseException.__getattribute__")))
  (zbhu:PySem.W.findIn K (.ref zbf) "__getattr__" =some none)
  (zbhv:PySem.W.findIn K (.ref zbf) "__class__" =some (some (.builtin "object.__class__")))
  (zbhw:PySem.W.subIn K (.ref zbf) (.type "object")=some true)
  (zbhx:PySem.W.subIn K (.ref zbf) (.type "BaseException")=some true)
  (zbhy:PySem.W.clsIn K zbf=some zrv)
  (zbhz:PySem.W.clsIn K zbd=some zrw)
  (zbia:PySem.W.typeIn K (.ref zbd)=some (.type "type"))
  (zbib:PySem.W.subIn K (.ref zbd) (.type "BaseException")=some true)
  (zbic:PySem.W.subIn K (.ref zbf) (.ref zbd)=some true)
  (zbid:PySem.W.clsIn K zbe=some zrx)
  (zbie:PySem.W.typeIn K (.ref zbe)=some (.type "type"))
  (zbif:PySem.W.subIn K (.ref zbe) (.type "BaseException")=some true)
  (zbig:PySem.W.subIn K (.ref zbf) (.ref zbe)=some false)
  (zbih:PySem.W.clsIn K zbe=some zry)
  (zbii:PySem.W.typeIn K (.ref zbe)=some (.type "type"))
  (zbij:PySem.W.subIn K (.ref zbf) (.ref zbe)=some false)
  (zbik:(Value.ref zbf==Value.ref zbe)=false)
  (zbil:PySem.W.subIn K (.ref zbf) (.type "ValueError")=some true)
  (zbim:PySem.W.nsIn K mainGlobals "ValueError" =some none)
  (zbin:PySem.W.nsIn K mainGlobals "int" =some none)
  (zbio:PySem.W.nsIn K mainGlobals "reversed" =some none)
  (zbip:PySem.W.nsIn K mainGlobals "str" =some none)
  (zbiq:PySem.W.nsIn K mainGlobals "range" =some none)
  (zbir:PySem.W.nsIn K mainGlobals "isinstance" =some none)
  (zbis:PySem.W.nsIn K mainGlobals "all" =some none)
  (zbit:PySem.W.nsIn K mainGlobals "len" =some none)
  (zbiu:PySem.W.nsIn K mainGlobals "bool" =some none)
  (zbiv:PySem.W.nsIn K mainGlobals "LONGEST_NAME" =some (some (.int 8 zrz)))
  (zbiw:PySem.W.nsIn K mainGlobals "MOST_FIGURES" =some (some (.int 60 zsa)))
  (zbix:PySem.W.nsIn K mainGlobals "WORDS_ROUND" =some (some (.ref zsb)))
  (zbiy:K.lookup zsb=some ⟨.type "dict",none,.dict #[⟨zsd,.str "shut" zse,.int 2 zsf⟩,⟨zsg,.str "wider" zsh,.int 3 zsi⟩] zsc,#[]⟩)
  (zbiz:(zsb==sysModules)=false)
  (zbja:zsd=hashStr w "shut")
  (zbjb:zsg=hashStr w "wider")
  (zbjc:PySem.W.nsIn K mainGlobals "WORDS_IN_ALL" =some (some (.ref zsj)))
  (zbjd:K.lookup zsj=some ⟨.type "dict",none,.dict #[⟨zsl,.str "door" zsm,.int 5 zsn⟩,⟨zso,.str "since" zsp,.int 6 zsq⟩,⟨zsr,.str "until" zss,.int 6 zst⟩,⟨zsu,.str "beat" zsv,.int 7 zsw⟩,⟨zsx,.str "marked" zsy,.int 6 zsz⟩] zsk,#[]⟩)
  (zbje:(zsj==sysModules)=false)
  (zbjf:zsl=hashStr w "door")
  (zbjg:zso=hashStr w "since")
  (zbjh:zsr=hashStr w "until")
  (zbji:zsu=hashStr w "beat")
  (zbjj:zsx=hashStr w "marked") :
  ∃fd:FuncData,(∀(s:Shared) (v:Value),BindsTo s fd ⟨[v],[]⟩ [("_law_script",v)])/\∀base:Heap,K.In base->base.Ns mainGlobals mg->FnOk l.prog w K mg base CX0 30 fa fd ["_law_script"] (qI K):=by
 have e:=hfa.symm.trans (PySem.W.mg_of X G ztv);cases e;have zbjk:=aS (st:=fK) zvc zvd zve;have zbjl:=aT (K:=K) (x:= "is_whole") (qual:= "is_whole") (st:=fK) (kV:=zcg) (doc:=zch) (pm:=zci) (an:=zcd) (cdv:=zcj) (ct:=zck) (ps:=["thing"])<|aP 1 _ fun _=>rfl
 have zbjm:=aS (st:=gU) zvf zvg zvh;have zbjn:=aT (K:=K) (x:= "is_name") (qual:= "is_name") (st:=gU) (kV:=zcp) (doc:=zcq) (pm:=zcr) (an:=zcm) (cdv:=zcs) (ct:=zct) (ps:=["thing"])<|aP 1 _ fun _=>rfl
 have zbjo:=aS (st:=eR) zvi zvj zvk;have zbjp:=aT (K:=K) (x:= "need_name") (qual:= "need_name") (st:=eR) (kV:=zcy) (doc:=zcz) (pm:=zda) (an:=zcv) (cdv:=zdb) (ct:=zdc) (ps:=["part","thing"])<|aP 2 _ fun _ _=>rfl
 have zbjq:=aS (st:=d7) zvl zvm zvn;have zbjr:=aT (K:=K) (x:= "need_whole") (qual:= "need_whole") (st:=d7) (kV:=zdh) (doc:=zdi) (pm:=zdj) (an:=zde) (cdv:=zdk) (ct:=zdl) (ps:=["part","thing","least"])<|aP 3 _ fun _ _ _=>rfl
 have zbjs:=aS (st:=cZ) zvo zvp zvq;have zbjt:=aT (K:=K) (x:= "row_of_words") (qual:= "row_of_words") (st:=cZ) (kV:=zdq) (doc:=zdr) (pm:=zds) (an:=zdn) (cdv:=zdt) (ct:=zdu) (ps:=["kind","door","numbers"])<|aP 3 _ fun _ _ _=>rfl
 have zbju:=aS (st:=eP) zvr zvs zvt;have zbjv:=aT (K:=K) (x:= "need_text") (qual:= "need_text") (st:=eP) (kV:=zdz) (doc:=zea) (pm:=zeb) (an:=zdw) (cdv:=zec) (ct:=zed) (ps:=["thing"])<|aP 1 _ fun _=>rfl
 have zbjw:=aS (st:=b7) zvu zvv zvw;have zbjx:=aT (K:=K) (x:= "is_written_whole") (qual:= "is_written_whole") (st:=b7) (kV:=zei) (doc:=zej) (pm:=zek) (an:=zef) (cdv:=zel) (ct:=zem) (ps:=["text"])<|aP 1 _ fun _=>rfl
 have zbjy:=aS (st:=dY) zvx zvy zvz;have zbjz:=aT (K:=K) (x:= "read_whole") (qual:= "read_whole") (st:=dY) (kV:=zer) (doc:=zes) (pm:=zet) (an:=zeo) (cdv:=zeu) (ct:=zev) (ps:=["text"])<|aP 1 _ fun _=>rfl
 have zbka:=aS (st:=dZ) zwa zwb zwc;have zbkb:=aT (K:=K) (x:= "door_round") (qual:= "door_round") (st:=dZ) (kV:=zfa) (doc:=zfb) (pm:=zfc) (an:=zex) (cdv:=zfd) (ct:=zfe) (ps:=["inner","words"])<|aP 2 _ fun _ _=>rfl
 have zbkc:=aS (st:=cH) zwd zwe zwf;have zbkd:=aT (K:=K) (x:= "door_by_itself") (qual:= "door_by_itself") (st:=cH) (kV:=zfj) (doc:=zfk) (pm:=zfl) (an:=zfg) (cdv:=zfm) (ct:=zfn) (ps:=["words"])<|aP 1 _ fun _=>rfl
 have zbke:=aS (st:=cQ) zwg zwh zwi;have zbkf:=aT (K:=K) (x:= "door_of_words") (qual:= "door_of_words") (st:=cQ) (kV:=zfs) (doc:=zft) (pm:=zfu) (an:=zfp) (cdv:=zfv) (ct:=zfw) (ps:=["words"])<|aP 1 _ fun _=>rfl
 have zbkg:=aS (st:=eU) zwj zwk zwl;have zbkh:=aT (K:=K) (x:= "read_door") (qual:= "read_door") (st:=eU) (kV:=zgb) (doc:=zgc) (pm:=zgd) (an:=zfy) (cdv:=zge) (ct:=zgf) (ps:=["text"])<|aP 1 _ fun _=>rfl
 have zbki:=aS (st:=cU) zwm zwn zwo;have zbkj:=aT (K:=K) (x:= "_law_cell_at") (qual:= "_law_cell_at") (st:=cU) (kV:=zgk) (doc:=zgl) (pm:=zgm) (an:=zgh) (cdv:=zgn) (ct:=zgo) (ps:=["_law_script","_law_k"])<|aP 2 _ fun _ _=>rfl
 have zbkk:=aS (st:=d6) zwp zwq zwr;have zbkl:=aT (K:=K) (x:= "_law_drawn") (qual:= "_law_drawn") (st:=d6) (kV:=zgt) (doc:=zgu) (pm:=zgv) (an:=zgq) (cdv:=zgw) (ct:=zgx) (ps:=["_law_cell","_law_k"])<|aP 2 _ fun _ _=>rfl
 have zbkm:=aS (st:=cV) zws zwt zwu;have zbkn:=aT (K:=K) (x:= "_law_refused") (qual:= "_law_refused") (st:=cV) (kV:=zhc) (doc:=zhd) (pm:=zhe) (an:=zgz) (cdv:=zhf) (ct:=zhg) (ps:=["_law_read","_law_thing"])<|aP 2 _ fun _ _=>rfl
 have zbko:=aS (st:=b4) zwv zww zwx;have zbkp:=aT (K:=K) (x:= "_law_number_right") (qual:= "_law_number_right") (st:=b4) (kV:=zhl) (doc:=zhm) (pm:=zhn) (an:=zhi) (cdv:=zho) (ct:=zhp) (ps:=["_law_cell"])<|aP 1 _ fun _=>rfl
 have zbkq:=aS (st:=eS) zwy zwz zxa;have zbkr:=aT (K:=K) (x:= "_law_name") (qual:= "_law_name") (st:=eS) (kV:=zhu) (doc:=zhv) (pm:=zhw) (an:=zhr) (cdv:=zhx) (ct:=zhy) (ps:=["_law_draw"])<|aP 1 _ fun _=>rfl
 have zbks:=aS (st:=dU) zxb zxc zxd;have zbkt:=aT (K:=K) (x:= "_law_plain") (qual:= "_law_plain") (st:=dU) (kV:=zid) (doc:=zie) (pm:=zif) (an:=zia) (cdv:=zig) (ct:=zih) (ps:=["_law_cell"])<|aP 1 _ fun _=>rfl
 have zbku:=aS (st:=eY) zxe zxf zxg;have zbkv:=aT (K:=K) (x:= "_law_door") (qual:= "_law_door") (st:=eY) (kV:=zim) (doc:=zin) (pm:=zio) (an:=zij) (cdv:=ziq) (ct:=zir) (ps:=["_law_cell"])<|aP 1 _ fun _=>rfl
 have zbkw:=aS (st:=cY) zxh zxi zxj;have zbkx:=aT (K:=K) (x:= "_law_spoiled") (qual:= "_law_spoiled") (st:=cY) (kV:=ziw) (doc:=zix) (pm:=ziy) (an:=zit) (cdv:=ziz) (ct:=zja) (ps:=["_law_text","_law_cell"])<|aP 2 _ fun _ _=>rfl
 have zbky:=aS (st:=cD) zxk zxl zxm;have zbkz:=aT (K:=K) (x:= "_law_door_right") (qual:= "_law_door_right") (st:=cD) (kV:=zjf) (doc:=zjg) (pm:=zjh) (an:=zjc) (cdv:=zji) (ct:=zjj) (ps:=["_law_cell"])<|aP 1 _ fun _=>rfl
 have zbla:=aS (st:=k6) zxn zxo zxp;have zblb:=aT (K:=K) (x:= "law") (qual:= "law") (st:=k6) (kV:=zjo) (doc:=zjp) (pm:=zjq) (an:=zjl) (cdv:=zjr) (ct:=zjs) (ps:=["_law_script"])<|aP 1 _ fun _=>rfl
 have zblc:=aS (st:=b5) zxq zxr zxs;have zbld:=oA 5 (K:=K) (x:= "__init__") (qual:= "Door.__init__") (st:=b5) (kV:=zjx) (doc:=zjy) (pm:=zjz) (an:=zju) (cdv:=zka) (ct:=zkb) (ps:=["self","name","start","end","wide"]) (ds:=[]) zxt<|aP 5 _ fun _ _ _ _ _=>⟨_,rfl,rfl⟩
 have zble:=oA 4 (K:=K) (x:= "__init__") (qual:= "Door.__init__") (st:=b5) (kV:=zjx) (doc:=zjy) (pm:=zjz) (an:=zju) (cdv:=zka) (ct:=zkb) (ps:=["self","name","start","end","wide"]) (ds:=[.int 1 zkd]) zxt<|aP 4 _ fun _ _ _ _=>⟨_,rfl,rfl⟩
 have zblf:=oA 3 (K:=K) (x:= "__init__") (qual:= "Door.__init__") (st:=b5) (kV:=zjx) (doc:=zjy) (pm:=zjz) (an:=zju) (cdv:=zka) (ct:=zkb) (ps:=["self","name","start","end","wide"]) (ds:=[.none,.int 1 zkd]) zxt<|aP 3 _ fun _ _ _=>⟨_,rfl,rfl⟩
 have zblg:=aS (st:=eW) zxu zxv zxw;have zblh:=aT (K:=K) (x:= "lets") (qual:= "Door.lets") (st:=eW) (kV:=zkm) (doc:=zkn) (pm:=zko) (an:=zkj) (cdv:=zkp) (ct:=zkq) (ps:=["self","turn"])<|aP 2 _ fun _ _=>rfl
 have zbli:=aS (st:=cW) zxx zxy zxz;have zblj:=aT (K:=K) (x:= "is_exit") (qual:= "Door.is_exit") (st:=cW) (kV:=zkv) (doc:=zkw) (pm:=zkx) (an:=zks) (cdv:=zky) (ct:=zkz) (ps:=["self"])<|aP 1 _ fun _=>rfl
 have zblk:=aS (st:=d9) zya zyb zyc;have zbll:=aT (K:=K) (x:= "words") (qual:= "Door.words") (st:=d9) (kV:=zle) (doc:=zlf) (pm:=zlg) (an:=zlb) (cdv:=zlh) (ct:=zli) (ps:=["self"])<|aP 1 _ fun _=>rfl
 have zblm:=aS (st:=cI) zyd zye zyf;have zbln:=aT (K:=K) (x:= "__init__") (qual:= "Since.__init__") (st:=cI) (kV:=zln) (doc:=zlo) (pm:=zlp) (an:=zlk) (cdv:=zlq) (ct:=zlr) (ps:=["self","name","start","end","wide","since"])<|aP 6 _ fun _ _ _ _ _ _=>rfl
 have zblo:=aS (st:=d5) zyg zyh zyi;have zblp:=aT (K:=K) (x:= "lets") (qual:= "Since.lets") (st:=d5) (kV:=zlw) (doc:=zlx) (pm:=zly) (an:=zlt) (cdv:=zlz) (ct:=zma) (ps:=["self","turn"])<|aP 2 _ fun _ _=>rfl
 have zblq:=aS (st:=dD) zyj zyk zyl;have zblr:=aT (K:=K) (x:= "words") (qual:= "Since.words") (st:=dD) (kV:=zmf) (doc:=zmg) (pm:=zmh) (an:=zmc) (cdv:=zmi) (ct:=zmj) (ps:=["self"])<|aP 1 _ fun _=>rfl
 have zbls:=aS (st:=cK) zym zyn zyo;have zblt:=aT (K:=K) (x:= "__init__") (qual:= "Until.__init__") (st:=cK) (kV:=zmo) (doc:=zmp) (pm:=zmq) (an:=zml) (cdv:=zmr) (ct:=zms) (ps:=["self","name","start","end","wide","until"])<|aP 6 _ fun _ _ _ _ _ _=>rfl
 have zblu:=aS (st:=dX) zyp zyq zyr;have zblv:=aT (K:=K) (x:= "lets") (qual:= "Until.lets") (st:=dX) (kV:=zmx) (doc:=zmy) (pm:=zmz) (an:=zmu) (cdv:=zna) (ct:=znb) (ps:=["self","turn"])<|aP 2 _ fun _ _=>rfl
 have zblw:=aS (st:=dB) zys zyt zyu;have zblx:=aT (K:=K) (x:= "words") (qual:= "Until.words") (st:=dB) (kV:=zng) (doc:=znh) (pm:=zni) (an:=znd) (cdv:=znj) (ct:=znk) (ps:=["self"])<|aP 1 _ fun _=>rfl
 have zbly:=aS (st:=cF) zyv zyw zyx;have zblz:=oA 7 (K:=K) (x:= "__init__") (qual:= "Beat.__init__") (st:=cF) (kV:=znp) (doc:=znq) (pm:=znr) (an:=znm) (cdv:=zns) (ct:=znt) (ps:=["self","name","start","end","wide","every","since"]) (ds:=[]) zyy<|aP 7 _ fun _ _ _ _ _ _ _=>⟨_,rfl,rfl⟩
 have zbma:=oA 6 (K:=K) (x:= "__init__") (qual:= "Beat.__init__") (st:=cF) (kV:=znp) (doc:=znq) (pm:=znr) (an:=znm) (cdv:=zns) (ct:=znt) (ps:=["self","name","start","end","wide","every","since"]) (ds:=[.int 0 znv]) zyy<|aP 6 _ fun _ _ _ _ _ _=>⟨_,rfl,rfl⟩
 have zbmb:=aS (st:=eV) zyz zza zzb;have zbmc:=aT (K:=K) (x:= "lets") (qual:= "Beat.lets") (st:=eV) (kV:=zoe) (doc:=zof) (pm:=zog) (an:=zob) (cdv:=zoh) (ct:=zoi) (ps:=["self","turn"])<|aP 2 _ fun _ _=>rfl
 have zbmd:=aS (st:=d0) zzc zzd zze;have zbme:=aT (K:=K) (x:= "words") (qual:= "Beat.words") (st:=d0) (kV:=zon) (doc:=zoo) (pm:=zop) (an:=zok) (cdv:=zoq) (ct:=zor) (ps:=["self"])<|aP 1 _ fun _=>rfl
 have zbmf:=aS (st:=cC) zzf zzg zzh;have zbmg:=aT (K:=K) (x:= "__init__") (qual:= "Marked.__init__") (st:=cC) (kV:=zow) (doc:=zox) (pm:=zoy) (an:=zot) (cdv:=zoz) (ct:=zpa) (ps:=["self","name","start","end","wide","bits"])<|aP 6 _ fun _ _ _ _ _ _=>rfl
 have zbmh:=aS (st:=dF) zzi zzj zzk;have zbmi:=aT (K:=K) (x:= "lets") (qual:= "Marked.lets") (st:=dF) (kV:=zpf) (doc:=zpg) (pm:=zph) (an:=zpc) (cdv:=zpi) (ct:=zpj) (ps:=["self","turn"])<|aP 2 _ fun _ _=>rfl
 have zbmj:=aS (st:=cX) zzl zzm zzn;have zbmk:=aT (K:=K) (x:= "words") (qual:= "Marked.words") (st:=cX) (kV:=zpo) (doc:=zpp) (pm:=zpq) (an:=zpl) (cdv:=zpr) (ct:=zps) (ps:=["self"])<|aP 1 _ fun _=>rfl
 have zbml:=aS (st:=cN) zzo zzp zzq;have zbmm:=aT (K:=K) (x:= "__init__") (qual:= "Shut.__init__") (st:=cN) (kV:=zpx) (doc:=zpy) (pm:=zpz) (an:=zpu) (cdv:=zqa) (ct:=zqb) (ps:=["self","door","turn"])<|aP 3 _ fun _ _ _=>rfl
 have zbmn:=aS (st:=eQ) zzr zzs zzt;have zbmo:=aT (K:=K) (x:= "lets") (qual:= "Shut.lets") (st:=eQ) (kV:=zqg) (doc:=zqh) (pm:=zqi) (an:=zqd) (cdv:=zqj) (ct:=zqk) (ps:=["self","turn"])<|aP 2 _ fun _ _=>rfl
 have zbmp:=aS (st:=d2) zzu zzv zzw;have zbmq:=aT (K:=K) (x:= "words") (qual:= "Shut.words") (st:=d2) (kV:=zqp) (doc:=zqq) (pm:=zqr) (an:=zqm) (cdv:=zqs) (ct:=zqt) (ps:=["self"])<|aP 1 _ fun _=>rfl
 have zbmr:=aS (st:=cJ) zzx zzy zzz;have zbms:=aT (K:=K) (x:= "__init__") (qual:= "Wider.__init__") (st:=cJ) (kV:=zqy) (doc:=zqz) (pm:=zra) (an:=zqv) (cdv:=zrb) (ct:=zrc) (ps:=["self","door","turn","more"])<|aP 4 _ fun _ _ _ _=>rfl
 have zbmt:=aS (st:=dW) zbaa zbab zbac;have zbmu:=aT (K:=K) (x:= "lets") (qual:= "Wider.lets") (st:=dW) (kV:=zrh) (doc:=zri) (pm:=zrj) (an:=zre) (cdv:=zrk) (ct:=zrl) (ps:=["self","turn"])<|aP 2 _ fun _ _=>rfl
 have zbmv:=aS (st:=dG) zbad zbae zbaf;have zbmw:=aT (K:=K) (x:= "words") (qual:= "Wider.words") (st:=dG) (kV:=zrq) (doc:=zrr) (pm:=zrs) (an:=zrn) (cdv:=zrt) (ct:=zru) (ps:=["self"])<|aP 1 _ fun _=>rfl
 have zbmx:ICls K zaw:=⟨⟨zbag,zbah,zbai,zbaj⟩,zbam,zbhn,zbho,zban⟩
 have zbmy:ICls K zax:=⟨⟨zbbh,zbbi,zbbj,zbbk⟩,zbbn,zbhn,zbho,zbbo⟩
 have zbmz:ICls K zay:=⟨⟨zbci,zbcj,zbck,zbcl⟩,zbco,zbhn,zbho,zbcp⟩
 have zbna:ICls K zaz:=⟨⟨zbdj,zbdk,zbdl,zbdm⟩,zbdp,zbhn,zbho,zbdq⟩
 have zbnb:ICls K zba:=⟨⟨zbek,zbel,zbem,zben⟩,zbeq,zbhn,zbho,zber⟩
 have zbnc:ICls K zbb:=⟨⟨zbfl,zbfm,zbfn,zbfo⟩,zbfr,zbhn,zbho,zbfs⟩
 have zbnd:ICls K zbc:=⟨⟨zbgm,zbgn,zbgo,zbgp⟩,zbgs,zbhn,zbho,zbgt⟩
 exact⟨PySem.W.fnOf "law" "law" (aM k6) (aL k6) (aE k6) .none zjo zjp zjq zjl zjr zjs,fun s v=> .of_eq rfl,fun base _ _=>Q1 ⟨zaa,_,zbjk,zbjl,
  zab,_,zbjm,zbjn,
  zac,_,zbjo,zbjp,
  zad,_,zbjq,zbjr,
  zae,_,zbjs,zbjt,
  zaf,_,zbju,zbjv,
  zag,_,zbjw,zbjx,
  zah,_,zbjy,zbjz,
  zai,_,zbka,zbkb,
  zaj,_,zbkc,zbkd,
  zak,_,zbke,zbkf,
  zal,_,zbkg,zbkh,
  zam,_,zbki,zbkj,
  zan,_,zbkk,zbkl,
  zao,_,zbkm,zbkn,
  zap,_,zbko,zbkp,
  zaq,_,zbkq,zbkr,
  zar,_,zbks,zbkt,
  zas,_,zbku,zbkv,
  zat,_,zbkw,zbkx,
  zau,_,zbky,zbkz,
  fa,_,zbla,zblb,
  zbg,_,zblc,zbld,
  zbh,_,zblg,zblh,
  zbi,_,zbli,zblj,
  zbj,_,zblk,zbll,
  zbk,_,zblm,zbln,
  zbl,_,zblo,zblp,
  zbm,_,zblq,zblr,
  zbn,_,zbls,zblt,
  zbo,_,zblu,zblv,
  zbp,_,zblw,zblx,
  zbq,_,zbly,zblz,
  zbr,_,zbmb,zbmc,
  zbs,_,zbmd,zbme,
  zbt,_,zbmf,zbmg,
  zbu,_,zbmh,zbmi,
  zbv,_,zbmj,zbmk,
  zbw,_,zbml,zbmm,
  zbx,_,zbmn,zbmo,
  zby,_,zbmp,zbmq,
  zbz,_,zbmr,zbms,
  zca,_,zbmt,zbmu,
  zcb,_,zbmv,zbmw,
  PySem.W.mg_of X G zta,
  PySem.W.mg_of X G ztb,
  PySem.W.mg_of X G ztc,
  PySem.W.mg_of X G ztd,
  PySem.W.mg_of X G zte,
  PySem.W.mg_of X G ztf,
  PySem.W.mg_of X G ztg,
  PySem.W.mg_of X G zth,
  PySem.W.mg_of X G zti,
  PySem.W.mg_of X G ztj,
  PySem.W.mg_of X G ztk,
  PySem.W.mg_of X G ztl,
  PySem.W.mg_of X G ztm,
  PySem.W.mg_of X G ztn,
  PySem.W.mg_of X G zto,
  PySem.W.mg_of X G ztp,
  PySem.W.mg_of X G ztq,
  PySem.W.mg_of X G ztr,
  PySem.W.mg_of X G zts,
  PySem.W.mg_of X G ztt,
  PySem.W.mg_of X G ztu,
  PySem.W.mg_of X G ztv,
  ⟨_,.cons ⟨_,rfl⟩ (.nil),zble⟩,
  ⟨_,.cons rfl (.cons ⟨_,rfl⟩ (.nil)),zblf⟩,
  ⟨_,.cons ⟨_,rfl⟩ (.nil),zbma⟩,
  zaw,PySem.W.mg_of X G ztw,
  zax,PySem.W.mg_of X G ztx,
  zay,PySem.W.mg_of X G zty,
  zaz,PySem.W.mg_of X G ztz,
  zba,PySem.W.mg_of X G zua,
  zbb,PySem.W.mg_of X G zub,
  zbc,PySem.W.mg_of X G zuc,
  zbd,PySem.W.mg_of X G zud,
  zbe,PySem.W.mg_of X G zue,
  zbf,PySem.W.mg_of X G zuf,
  ⟨zbmx,zbao,zbap,zbaq,zbar,zbas,zbat,zbau,zbav,zbaw,zbax,zbay⟩,
  ⟨zbak,zbaz,zbba,zbal⟩,
  ⟨zbbb,zbbc,zxw⟩,
  ⟨zbbd,zbbe,zxz⟩,
  ⟨zbbf,zbbg,zyc⟩,
  ⟨zbmy,zbbp,zbbq,zbbr,zbbs,zbbt,zbbu,zbbv,zbbw,zbbx,zbby,zbbz⟩,
  ⟨zbbl,zbca,zbcb,zbbm⟩,
  ⟨zbcc,zbcd,zyi⟩,
  ⟨zbce,zbcf,zyl⟩,
  ⟨zbcg,zbch,zxz⟩,
  ⟨zbmz,zbcq,zbcr,zbcs,zbct,zbcu,zbcv,zbcw,zbcx,zbcy,zbcz,zbda⟩,
  ⟨zbcm,zbdb,zbdc,zbcn⟩,
  ⟨zbdd,zbde,zyr⟩,
  ⟨zbdf,zbdg,zyu⟩,
  ⟨zbdh,zbdi,zxz⟩,
  ⟨zbna,zbdr,zbds,zbdt,zbdu,zbdv,zbdw,zbdx,zbdy,zbdz,zbea,zbeb⟩,
  ⟨zbdn,zbec,zbed,zbdo⟩,
  ⟨zbee,zbef,zzb⟩,
  ⟨zbeg,zbeh,zze⟩,
  ⟨zbei,zbej,zxz⟩,
  ⟨zbnb,zbes,zbet,zbeu,zbev,zbew,zbex,zbey,zbez,zbfa,zbfb,zbfc⟩,
  ⟨zbeo,zbfd,zbfe,zbep⟩,
  ⟨zbff,zbfg,zzk⟩,
  ⟨zbfh,zbfi,zzn⟩,
  ⟨zbfj,zbfk,zxz⟩,
  ⟨zbnc,zbft,zbfu,zbfv,zbfw,zbfx,zbfy,zbfz,zbga,zbgb,zbgc,zbgd⟩,
  ⟨zbfp,zbge,zbgf,zbfq⟩,
  ⟨zbgg,zbgh,zzt⟩,
  ⟨zbgi,zbgj,zzw⟩,
  ⟨zbgk,zbgl,zxz⟩,
  ⟨zbnd,zbgu,zbgv,zbgw,zbgx,zbgy,zbgz,zbha,zbhb,zbhc,zbhd,zbhe⟩,
  ⟨zbgq,zbhf,zbhg,zbgr⟩,
  ⟨zbhh,zbhi,zbac⟩,
  ⟨zbhj,zbhk,zbaf⟩,
  ⟨zbhl,zbhm,zxz⟩,
  ⟨zbhp,zbhq,zbhr⟩,
  zbhs,⟨zbht,zbhu,zbhv,zbhw,zbhx,_,zbhy⟩,
  IF zbhz zbia zbib zbic,
  IF zbid zbie zbif zbig,
  R9 zbik zbih zbii zbij,
  JQ,
  Q3 qU zbil,
  PySem.W.mg_none_of X G zbim,
  PySem.W.mg_none_of X G zbin,
  PySem.W.mg_none_of X G zbio,
  PySem.W.mg_none_of X G zbip,
  PySem.W.mg_none_of X G zbiq,
  PySem.W.mg_none_of X G zbir,
  PySem.W.mg_none_of X G zbis,
  PySem.W.mg_none_of X G zbit,
  PySem.W.mg_none_of X G zbiu,
  ⟨zrz,PySem.W.mg_of X G zbiv⟩,
  ⟨zsa,PySem.W.mg_of X G zbiw⟩,
  zsb,PySem.W.mg_of X G zbix,⟨zbiz,_,_,_,[(.inr "shut",.int 2 zsf),(.inr "wider",.int 3 zsi)],zbiy,⟨rfl,rfl,rfl⟩,rfl,fun P=>⟨fun e he=>(by
   simp only[List.mem_toArray,List.mem_cons,List.not_mem_nil,or_false]at he;rcases he with rfl|rfl
   ·exact⟨.inr "shut",b8 _ zse,zbja⟩
   ·exact⟨.inr "wider",b8 _ zsh,zbjb⟩),(.cons (b8 _ zse) rfl (.cons (b8 _ zsh) rfl .nil))⟩,(by simp only[List.map_cons,List.map_nil];decide +kernel),(.cons ⟨rfl,⟨_,rfl⟩⟩ (.cons ⟨rfl,⟨_,rfl⟩⟩ .nil))⟩,
  zsj,PySem.W.mg_of X G zbjc,⟨zbje,_,_,_,[(.inr "door",.int 5 zsn),(.inr "since",.int 6 zsq),(.inr "until",.int 6 zst),(.inr "beat",.int 7 zsw),(.inr "marked",.int 6 zsz)],zbjd,⟨rfl,rfl,rfl⟩,rfl,fun P=>⟨fun e he=>(by
   simp only[List.mem_toArray,List.mem_cons,List.not_mem_nil,or_false]at he;rcases he with rfl|rfl|rfl|rfl|rfl
   ·exact⟨.inr "door",b8 _ zsm,zbjf⟩
   ·exact⟨.inr "since",b8 _ zsp,zbjg⟩
   ·exact⟨.inr "until",b8 _ zss,zbjh⟩
   ·exact⟨.inr "beat",b8 _ zsv,zbji⟩
   ·exact⟨.inr "marked",b8 _ zsy,zbjj⟩),(.cons (b8 _ zsm) rfl (.cons (b8 _ zsp) rfl (.cons (b8 _ zss) rfl (.cons (b8 _ zsv) rfl (.cons (b8 _ zsy) rfl .nil)))))⟩,(by simp only[List.map_cons,List.map_nil];decide +kernel),(.cons ⟨rfl,⟨_,rfl⟩⟩ (.cons ⟨rfl,⟨_,rfl⟩⟩ (.cons ⟨rfl,⟨_,rfl⟩⟩ (.cons ⟨rfl,⟨_,rfl⟩⟩ (.cons ⟨rfl,⟨_,rfl⟩⟩ .nil)))))⟩⟩⟩
theorem walk {l:PySem.W.OpenLaw}{q:Program}{loose:List Str}{XP:(Str->Option Value)->Heap->Prop}{YP:World->Heap->Prop}{d:DefRec}{K:Params->PySem.W.Frag} (hn:l.most=some 63) (hdf:d.params.defaults=[])
  (hY:∀(w:World) (h:Heap),YP w h->(K w.params).In h)
  (F:∀(w:World) (mg:Str->Option Value) (fa:Addr) (h:Heap),(K w.params).In h->h.Ns mainGlobals mg->mg d.name=some (.ref fa) →
   ∃fd:FuncData,(∀(s:Shared) (u:Value),BindsTo s fd ⟨[u],[]⟩ [("_law_script",u)])/\∀base:Heap,(K w.params).In base->base.Ns mainGlobals mg->FnOk l.prog w (K w.params) mg base CX0 30 fa fd ["_law_script"] (qI (K w.params))) :
  PySem.W.WalkO q loose XP YP l.row.toRowW d [] (fun f vs=>PySem.call f vs) :=
 L2.walk_of (n:=63) (k:=30) (x:= "_law_script") (CX:=fun _=>CX0) (sp:=fun w=>qI (K w.params)) hn (by decide) hdf ⟨rfl,by decide,by decide⟩ hY F (fun _ _ a ns hl _ hS=>⟨a,ns,rfl,hS,hl,fun _=>rfl⟩) fun _ _ _ _ _ z=>z
end Prf
open PySem PySem.W PyProof.Rows
set_option maxRecDepth 100000 in
set_option maxHeartbeats 0 in
theorem PySem.Challenge.cw_firstout_k71_numbers_and_doors_read_holds : PySem.Challenge.rw_firstout_k71_numbers_and_doors_read.Holds := by
 w_on;o_law;k_head;(case hw=>w_witness2)
 k_fill
 refine Prf.walk (l:=PySem.Challenge.rw_firstout_k71_numbers_and_doors_read) rfl rfl (fun w h Y=>PySem.W.kIn_of Y) ?F
 case F =>
  intro w mg fa h KX G hmg;refine' Prf.all_mk KX G hmg ?zta ?ztb ?ztc ?ztd ?zte ?ztf ?ztg ?zth ?zti ?ztj ?ztk ?ztl ?ztm ?ztn ?zto ?ztp ?ztq ?ztr ?zts ?ztt ?ztu ?ztv ?ztw ?ztx ?zty ?ztz ?zua ?zub ?zuc ?zud ?zue ?zuf ?zug ?zuh ?zui ?zuj ?zuk ?zul ?zum ?zun ?zuo ?zup ?zuq ?zur ?zus ?zut ?zuu ?zuv ?zuw ?zux ?zuy ?zuz ?zva ?zvb ?zvc ?zvd ?zve ?zvf ?zvg ?zvh ?zvi ?zvj ?zvk ?zvl ?zvm ?zvn ?zvo ?zvp ?zvq ?zvr ?zvs ?zvt ?zvu ?zvv ?zvw ?zvx ?zvy ?zvz ?zwa ?zwb ?zwc ?zwd ?zwe ?zwf ?zwg ?zwh ?zwi ?zwj ?zwk ?zwl ?zwm ?zwn ?zwo ?zwp ?zwq ?zwr ?zws ?zwt ?zwu ?zwv ?zww ?zwx ?zwy ?zwz ?zxa ?zxb ?zxc ?zxd ?zxe ?zxf ?zxg ?zxh ?zxi ?zxj ?zxk ?zxl ?zxm ?zxn ?zxo ?zxp ?zxq ?zxr ?zxs ?zxt ?zxu ?zxv ?zxw ?zxx ?zxy ?zxz ?zya ?zyb ?zyc ?zyd ?zye ?zyf ?zyg ?zyh ?zyi ?zyj ?zyk ?zyl ?zym ?zyn ?zyo ?zyp ?zyq ?zyr ?zys ?zyt ?zyu ?zyv ?zyw ?zyx ?zyy ?zyz ?zza ?zzb ?zzc ?zzd ?zze ?zzf ?zzg ?zzh ?zzi ?zzj ?zzk ?zzl ?zzm ?zzn ?zzo ?zzp ?zzq ?zzr ?zzs ?zzt ?zzu ?zzv ?zzw ?zzx ?zzy ?zzz ?zbaa ?zbab ?zbac ?zbad ?zbae ?zbaf ?zbag ?zbah ?zbai ?zbaj ?zbak ?zbal ?zbam ?zban ?zbao ?zbap ?zbaq ?zbar ?zbas ?zbat ?zbau ?zbav ?zbaw ?zbax ?zbay ?zbaz ?zbba ?zbbb ?zbbc ?zbbd ?zbbe ?zbbf ?zbbg ?zbbh ?zbbi ?zbbj ?zbbk ?zbbl ?zbbm ?zbbn ?zbbo ?zbbp ?zbbq ?zbbr ?zbbs ?zbbt ?zbbu ?zbbv ?zbbw ?zbbx ?zbby ?zbbz ?zbca ?zbcb ?zbcc ?zbcd ?zbce ?zbcf ?zbcg ?zbch ?zbci ?zbcj ?zbck ?zbcl ?zbcm ?zbcn ?zbco ?zbcp ?zbcq ?zbcr ?zbcs ?zbct ?zbcu ?zbcv ?zbcw ?zbcx ?zbcy ?zbcz ?zbda ?zbdb ?zbdc ?zbdd ?zbde ?zbdf ?zbdg ?zbdh ?zbdi ?zbdj ?zbdk ?zbdl ?zbdm ?zbdn ?zbdo ?zbdp ?zbdq ?zbdr ?zbds ?zbdt ?zbdu ?zbdv ?zbdw ?zbdx ?zbdy ?zbdz ?zbea ?zbeb ?zbec ?zbed ?zbee ?zbef ?zbeg ?zbeh ?zbei ?zbej ?zbek ?zbel ?zbem ?zben ?zbeo ?zbep ?zbeq ?zber ?zbes ?zbet ?zbeu ?zbev ?zbew ?zbex ?zbey ?zbez ?zbfa ?zbfb ?zbfc ?zbfd ?zbfe ?zbff ?zbfg ?zbfh ?zbfi ?zbfj ?zbfk ?zbfl ?zbfm ?zbfn ?zbfo ?zbfp ?zbfq ?zbfr ?zbfs ?zbft ?zbfu ?zbfv ?zbfw ?zbfx ?zbfy ?zbfz ?zbga ?zbgb ?zbgc ?zbgd ?zbge ?zbgf ?zbgg ?zbgh ?zbgi ?zbgj ?zbgk ?zbgl ?zbgm ?zbgn ?zbgo ?zbgp ?zbgq ?zbgr ?zbgs ?zbgt ?zbgu ?zbgv ?zbgw ?zbgx ?zbgy ?zbgz ?zbha ?zbhb ?zbhc ?zbhd ?zbhe ?zbhf ?zbhg ?zbhh ?zbhi ?zbhj ?zbhk ?zbhl ?zbhm ?zbhn ?zbho ?zbhp ?zbhq ?zbhr ?zbhs ?zbht ?zbhu ?zbhv ?zbhw ?zbhx ?zbhy ?zbhz ?zbia ?zbib ?zbic ?zbid ?zbie ?zbif ?zbig ?zbih ?zbii ?zbij ?zbik ?zbil ?zbim ?zbin ?zbio ?zbip ?zbiq ?zbir ?zbis ?zbit ?zbiu ?zbiv ?zbiw ?zbix ?zbiy ?zbiz ?zbja ?zbjb ?zbjc ?zbjd ?zbje ?zbjf ?zbjg ?zbjh ?zbji ?zbjj
  (case zta|ztb|ztc|ztd|zte|ztf|ztg|zth|zti|ztj|ztk|ztl|ztm|ztn|zto|ztp|ztq|ztr|zts|ztt|ztu|ztv|ztw|ztx|zty|ztz|zua|zub|zuc|zud|zue|zuf|zug|zuh|zui|zuj|zuk|zul|zum|zun|zuo|zup|zuq|zur|zus|zut|zuu|zuv|zuw|zux|zuy|zuz|zva|zvb|zvc|zvd|zve|zvf|zvg|zvh|zvi|zvj|zvk|zvl|zvm|zvn|zvo|zvp|zvq|zvr|zvs|zvt|zvu|zvv|zvw|zvx|zvy|zvz|zwa|zwb|zwc|zwd|zwe|zwf|zwg|zwh|zwi|zwj|zwk|zwl|zwm|zwn|zwo|zwp|zwq|zwr|zws|zwt|zwu|zwv|zww|zwx|zwy|zwz|zxa|zxb|zxc|zxd|zxe|zxf|zxg|zxh|zxi|zxj|zxk|zxl|zxm|zxn|zxo|zxp|zxq|zxr|zxs|zxt|zxu|zxv|zxw|zxx|zxy|zxz|zya|zyb|zyc|zyd|zye|zyf|zyg|zyh|zyi|zyj|zyk|zyl|zym|zyn|zyo|zyp|zyq|zyr|zys|zyt|zyu|zyv|zyw|zyx|zyy|zyz|zza|zzb|zzc|zzd|zze|zzf|zzg|zzh|zzi|zzj|zzk|zzl|zzm|zzn|zzo|zzp|zzq|zzr|zzs|zzt|zzu|zzv|zzw|zzx|zzy|zzz|zbaa|zbab|zbac|zbad|zbae|zbaf|zbag|zbah|zbai|zbaj|zbak|zbal|zbam|zban|zbao|zbap|zbaq|zbar|zbas|zbat|zbau|zbav|zbaw|zbax|zbay|zbaz|zbba|zbbb|zbbc|zbbd|zbbe|zbbf|zbbg|zbbh|zbbi|zbbj|zbbk|zbbl|zbbm|zbbn|zbbo|zbbp|zbbq|zbbr|zbbs|zbbt|zbbu|zbbv|zbbw|zbbx|zbby|zbbz|zbca|zbcb|zbcc|zbcd|zbce|zbcf|zbcg|zbch|zbci|zbcj|zbck|zbcl|zbcm|zbcn|zbco|zbcp|zbcq|zbcr|zbcs|zbct|zbcu|zbcv|zbcw|zbcx|zbcy|zbcz|zbda|zbdb|zbdc|zbdd|zbde|zbdf|zbdg|zbdh|zbdi|zbdj|zbdk|zbdl|zbdm|zbdn|zbdo|zbdp|zbdq|zbdr|zbds|zbdt|zbdu|zbdv|zbdw|zbdx|zbdy|zbdz|zbea|zbeb|zbec|zbed|zbee|zbef|zbeg|zbeh|zbei|zbej|zbek|zbel|zbem|zben|zbeo|zbep|zbeq|zber|zbes|zbet|zbeu|zbev|zbew|zbex|zbey|zbez|zbfa|zbfb|zbfc|zbfd|zbfe|zbff|zbfg|zbfh|zbfi|zbfj|zbfk|zbfl|zbfm|zbfn|zbfo|zbfp|zbfq|zbfr|zbfs|zbft|zbfu|zbfv|zbfw|zbfx|zbfy|zbfz|zbga|zbgb|zbgc|zbgd|zbge|zbgf|zbgg|zbgh|zbgi|zbgj|zbgk|zbgl|zbgm|zbgn|zbgo|zbgp|zbgq|zbgr|zbgs|zbgt|zbgu|zbgv|zbgw|zbgx|zbgy|zbgz|zbha|zbhb|zbhc|zbhd|zbhe|zbhf|zbhg|zbhh|zbhi|zbhj|zbhk|zbhl|zbhm|zbhn|zbho|zbhp|zbhq|zbhr=>k_is)
  (case zbhs=>k_exc)
  (case zbht|zbhu|zbhv|zbhw|zbhx|zbhy|zbhz|zbia|zbib|zbic|zbid|zbie|zbif|zbig|zbih|zbii|zbij=>k_is)
  (case zbik=>rfl)
  (case zbil|zbim|zbin|zbio|zbip|zbiq|zbir|zbis|zbit|zbiu|zbiv|zbiw|zbix|zbiy=>k_is)
  (case zbiz=>rfl)
  (case zbja=>rfl)
  (case zbjb=>rfl)
  (case zbjc|zbjd=>k_is)
  (case zbje=>rfl)
  (case zbjf=>rfl)
  (case zbjg=>rfl)
  (case zbjh=>rfl)
  (case zbji=>rfl)
  (case zbjj=>rfl)
