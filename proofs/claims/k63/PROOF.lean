import PyProof.Rows.All
import Wide.All
import OpenK.AllK
import Wide.FinOn
import Lean
import PyProof.EqAt
import PyProof.EqKinds
import PyProof.TupleCall
import KE.KSortTup
import PyProof.Rows.DictUnroll
import PyProof.DictItems
import KE.LcSums
import PyProof.IsiH_list
import KE.KDictOf
import PyProof.DictWalks
import PyProof.ListRange
import PyProof.EnumStmt
import PyProof.EnumMake
import KE.KDictSum
import PyProof.StrOps2
import PyProof.Rows.CallKwBuiltin
import KE.KRevSl
import PyProof.Rows.MatchSeqLen
import PySem.Challenge.RW_firstout_k63_anew_refused
namespace PySem.W.Fast
def tw1096180557777112258:=()
def tw10656503681459644451:=()
def tw8926843837901947268:=()
def tw16677191717201695524:=()
def tw12810840291080158277:=()
def tw5296935727833779173:=()
def tw5666489123830709288:=()
def tw17743566132532283528:=()
def tw2879730134991036680:=()
def tw16242997670887186121:=()
def tw16655955009117146762:=()
def tw3092428587525773323:=()
def tw4760918634226375980:=()
def tw4284196691793159216:=()
def tw6420895582393443408:=()
def tw12231951410784117361:=()
def tw9060874282976162035:=()
def tw5620629186088006617:=()
def tw16779986560059312828:=()
def tw9391823291529135966:=()
def tw1466357016989909412:=()
def tw9914391969943751333:=()
def tw6383995001601944185:=()
def tw504248924023257760:=()
def tw3515239283467137648:=()
def tw5518833764669070980:=()
def tw17400664301454874784:=()
def tw16187965188366144325:=()
def tw10304315138987903628:=()
def tw18104823103609436730:=()
def tw11221051962767211257:=()
def tw10305142605550269968:=()
def tw1026236103696157349:=()
def tw870856010577467539:=()
def tw4119034513879813788:=()
def tw18442592391174583539:=()
def tw3632905951043754601:=()
def tw3468472979813007165:=()
def tw8095533941846280115:=()
def tw3866849349310277787:=()
def tw8442151434055594754:=()
def tw2328851756626420299:=()
def tw18256474466096422974:=()
def tw15346549659660386968:=()
def tw12465271626265152191:=()
def tw9328152404326346502:=()
def tw6298004164758438952:=()
def tw17466378646101374694:=()
def tw13683256288295838591:=()
def tw4183499652491895624:=()
def tw13518388711004952639:=()
def tw14604253493351615931:=()
def tw887849109923598532:=()
def tw10208366642466370389:=()
def tw11528264458082572529:=()
def tw8459542791785129858:=()
def tw18054117325076315622:=()
def tw10017237411910004450:=()
def tw15275409248455088372:=()
def tw14091377925609702:=()
def tw1066475980891634247:=()
def tw4893037653156152547:=()
def tw17001119809509092503:=()
def tw16290751868485568947:=()
def tw9013693721503633138:=()
def tw16850467810095225328:=()
def tw2937038575867489956:=()
def tw11433909778605842527:=()
def tw14689003795782972348:=()
def tw15133076311135701219:=()
def tw16088753812673446552:=()
def tw1005061898433567099:=()
def tw9773699061974502595:=()
def tw13445809977927785612:=()
def tw17252317005724832342:=()
def tw3717276909425277722:=()
def tw16401858157281672744:=()
def tw5938015031896467527:=()
def tw1536730982544158362:=()
def tw14696733590416232736:=()
def tw9526257755346946237:=()
def tw16812095241420887523:=()
def tw1175917255225273754:=()
def tw11915285701850106062:=()
def tw315382971083570964:=()
def tw14804588734902811655:=()
def tw12596055150699851404:=()
def tw16034716382893806256:=()
def tw6152509778264219662:=()
def tw11923489763758763343:=()
def tw2440111245527649415:=()
def tw17639958937505408851:=()
def tw11426279663722004741:=()
def tw7782554200591487434:=()
def tw5977438619556264279:=()
def tw10417637388809166245:=()
def tw13295802143085042212:=()
def tw17463766728039973319:=()
def tw16515069530700933839:=()
def tw5501070870466075105:=()
def tw14496177183408572428:=()
def tw2312844733766819807:=()
def tw13522508922661646922:=()
def tw17165507637548823364:=()
def tw8057949736031996975:=()
def tw5408806061246874550:=()
def tw2878555111246308274:=()
def tw13210004123284956622:=()
def tw7503904668223693753:=()
def tw9146785598649929049:=()
def tw12875534034399020166:=()
def tw4030639682683640890:=()
def tw9148906893679439388:=()
def tw3562713970256702417:=()
def tw17468562415425663367:=()
def tw16291636622885662256:=()
def tw1058657062684298676:=()
def tw10344785411156096180:=()
def tw9092384084534252001:=()
def tw12441884344709842913:=()
def tw14357904895160494087:=()
def tw13865217382388353988:=()
def tw11797331161184958374:=()
def tw3434824729063587588:=()
def tw6064391451255897720:=()
def tw1188692502697452926:=()
def tw3605185271729267705:=()
def tw2279404686377145788:=()
def tw1070322870866235703:=()
def tw4246578692009416629:=()
def tw6364521256834263394:=()
def tw17467672417164259521:=()
def tw15377593675608496681:=()
def tw15025369462436435477:=()
def tw5935266770938524420:=()
def tw1197506766924510352:=()
def tw5738629487573832069:=()
def tw16124400573082176852:=()
def tw14223152865225761633:=()
def tw6193047083365236440:=()
def tw11401060191828454602:=()
def tw14681921190103302577:=()
def tw10084991492786758887:=()
def tw18186907074128723346:=()
def tw17365390983082044298:=()
def tw9226225657870390088:=()
def tw12809916300383588489:=()
def tw6955515878573655406:=()
def tw8952048486232057433:=()
def tw12267425564330519576:=()
def tw15152368918762688053:=()
def tw2203201860931572166:=()
def tw13119767900664050004:=()
def tw4839665644623403349:=()
def tw13906692537790659507:=()
def tw6329335946194354252:=()
def tw11115797877739484148:=()
def tw5029432296901275080:=()
end PySem.W.Fast
set_option compiler.extract_closed false
local macro_rules| `(tactic| walk_at"oi")=> `(tactic| first|exact Or.inl rfl|exact Or.inr rfl)
set_option Elab.async false
set_option linter.all false
set_option maxRecDepth 100000
namespace L2
open PySem PySem.Spec PyProof.Rows
abbrev Key:=Sum Int Str
def wV:Key->Value->Bool
 | .inl k,v=>Value.isInt k v
 | .inr x,v=>Value.isStrOf x v
def aDp (w:World):Key->Int
 | .inl k=>hashInt k
 | .inr x=>hashStr w x
theorem cT:∀{k:Key}{v:Value},wV k v=true->(∃i t,k=Sum.inl i/\v=Value.int i t)∨(∃x t,k=Sum.inr x/\v=Value.str x t)
 | .inl i,v,h=>by
  obtain⟨t,e⟩:=Value.isInt_shape (k:=i) (v:=v) h;exact .inl ⟨i,t,rfl,e⟩
 | .inr x,v,h=>by
  obtain⟨t,e⟩:=Value.isStrOf_shape (x:=x) (v:=v) h;exact .inr ⟨x,t,rfl,e⟩
theorem PZ (i:Int)(t:Tok):wV (.inl i) (.int i t)=true:=by simp[wV,Value.isInt]
theorem SW (x:Str)(t:Tok):wV (.inr x) (.str x t)=true:=by simp[wV,Value.isStrOf]
theorem aBD (a b:Int):decide ((Sum.inl a:Key)=Sum.inl b)=(a==b):=by
 by_cases e:a=b
 ·subst e;simp
 ·have h:¬(Sum.inl a:Key)=Sum.inl b:=fun q=>e (Sum.inl.inj q);rw[decide_eq_false h];exact(beq_eq_false_iff_ne.mpr e).symm
theorem aAE (a b:Str):decide ((Sum.inr a:Key)=Sum.inr b)=decide (a=b):=by
 by_cases e:a=b
 ·subst e;simp
 ·have h:¬(Sum.inr a:Key)=Sum.inr b:=fun q=>e (Sum.inr.inj q);rw[decide_eq_false h,decide_eq_false e]
theorem aAL (a:Int)(b:Str):decide ((Sum.inl a:Key)=Sum.inr b)=false:=decide_eq_false (fun q=>nomatch q)
theorem aBr (a:Str)(b:Int):decide ((Sum.inr a:Key)=Sum.inl b)=false:=decide_eq_false (fun q=>nomatch q)
def cB (prog:Program)(w:World):PySem.KeyKind prog w Key where
 is:=wV
 hash:=aDp w
 inj:=fun v a b ha hb=>by
  rcases cT ha with⟨i,t,rfl,rfl⟩|⟨x,t,rfl,rfl⟩
  ·rcases cT hb with⟨j,u,rfl,e⟩|⟨y,u,rfl,e⟩
   ·injection e with e1 _;rw[e1]
   ·exact nomatch e
  ·rcases cT hb with⟨j,u,rfl,e⟩|⟨y,u,rfl,e⟩
   ·exact nomatch e
   ·injection e with e1 _;rw[e1]
 byValue:=fun k v h=>by
  rcases cT h with⟨i,t,rfl,rfl⟩|⟨x,t,rfl,rfl⟩<;>rfl
 pyHash:=fun hv h=>by
  rcases cT hv with⟨i,t,rfl,rfl⟩|⟨x,t,rfl,rfl⟩
  ·exact wpAny_pyHash_int h
  ·exact wpAny_pyHash_str h
 eqBool:=fun hu hv h=>by
  rcases cT hu with⟨i,t,rfl,rfl⟩|⟨x,t,rfl,rfl⟩
  ·rcases cT hv with⟨j,u,rfl,rfl⟩|⟨y,u,rfl,rfl⟩
   ·rw[aBD]at h;exact wpAny_eqBool_int h
   ·rw[aAL]at h;exact SeqAt.EqAt.int_str i t y u _ _ _ _ h
  ·rcases cT hv with⟨j,u,rfl,rfl⟩|⟨y,u,rfl,rfl⟩
   ·rw[aBr]at h;exact SeqAt.EqAt.str_int x t j u _ _ _ _ h
   ·rw[aAE]at h;exact wpAny_eqBool_str h
 «strs»:=fun k x t v h=>by
  rcases cT h with⟨i,u,rfl,e⟩|⟨y,u,rfl,e⟩
  ·exact nomatch e
  ·injection e with e1 _;subst e1;cases v<;>rfl
theorem J5 (prog:Program)(w:World)(i:Int)(t:Tok):(cB prog w).is (.inl i) (.int i t)=true:=PZ i t
theorem J9 (prog:Program)(w:World)(x:Str)(t:Tok):(cB prog w).is (.inr x) (.str x t)=true:=SW x t
inductive V where
 | non|bl (b:Bool)|int (i:Int)|str (x:Str)|byt (b:Array UInt8)|flt (b:UInt64)|ref (a:Addr)|ty (n:String)
 deriving DecidableEq
def RelV:V->Value->Prop
 | .non,u=>u=Value.none
 | .bl b,u=>u=Value.bool b
 | .int i,u=>∃t,u=Value.int i t
 | .str x,u=>∃t,u=Value.str x t
 | .byt b,u=>∃t,u=Value.bytes b t
 | .flt b,u=>∃t,u=Value.float b t
 | .ref a,u=>u=Value.ref a
 | .ty n,u=>u=Value.type n
abbrev Vals:List V->List Value->Prop:=Paired RelV
theorem Vals.length {xs:List V}{us:List Value} (r:Vals xs us):xs.length=us.length:=Paired.length r
theorem Vals.get:∀{xs:List V}{us:List Value}{i:Nat}{x:V},Vals xs us->xs[i]? =some x->∃u,us[i]? =some u/\RelV x u
 | _,_,_,_,.nil,e=>by simp at e
 | _,_,0,_,.cons r _,e=>by simp at e;subst e;exact⟨_,rfl,r⟩
 | _,_,i+1,x,.cons _ t,e=>by
  obtain⟨u,h1,h2⟩:=Vals.get (i:=i) (x:=x) t (by simpa using e);exact⟨u,by simpa using h1,h2⟩
theorem Vals.append:∀{xs ys:List V}{us ws:List Value},Vals xs us->Vals ys ws->Vals (xs++ys) (us++ws)
 | _,_,_,_,.nil,s=>s
 | _,_,_,_,.cons r t,s=> .cons r (Vals.append t s)
theorem Vals.take:∀{xs:List V}{us:List Value} (n:Nat),Vals xs us->Vals (xs.take n) (us.take n)
 | _,_,0,_=> .nil
 | _,_,_+1,.nil=> .nil
 | _,_,n+1,.cons r t=> .cons r (Vals.take n t)
theorem Vals.drop:∀{xs:List V}{us:List Value} (n:Nat),Vals xs us->Vals (xs.drop n) (us.drop n)
 | _,_,0,r=>r
 | _,_,_+1,.nil=> .nil
 | _,_,n+1,.cons _ t=>Vals.drop n t
def RelO:Option V->Option Value->Prop
 | some v,some u=>RelV v u
 | none,none=>True
 | _,_=>False
def KV {κ:Type}:List (κ×V)->List (κ×Value)->Prop:=Paired fun (p:κ×V) (q:κ×Value)=>p.1=q.1/\RelV p.2 q.2
def kV:Key->V
 | .inl i=> .int i
 | .inr x=> .str x
inductive HO where
  | lst (xs:List V)
  | tup (xs:List V)
  | dK (kvs:List (Key×V))|dT (kvs:List (List Key×V))
  | set (S:Int->Bool) (n:Nat)
  | ins (C dx:Addr) (fs:List (Str×V))
  | own (x:Addr)
  | xd (fs:List (Str×V))
  | met (f x:Addr)
  | rng (lo hi:Int)
  | frz (o:Obj) (u:HO)
  | tbl (ps:Array Value)
  | ext (φ:Heap->Prop)
abbrev Hp:=Addr->Option HO
def upd (H:Hp)(a:Addr)(o:HO):Hp:=fun b=>if b=a then some o else H b
theorem aY {H:Hp}{a:Addr}{o:HO}:upd H a o a=some o:=by unfold upd;rw[if_pos rfl]
theorem aK {H:Hp}{a b:Addr}{o:HO} (h:b≠a):upd H a o b=H b:=by unfold upd;rw[if_neg h]
theorem L8 {H:Hp}{a:Addr}{o u:HO}:upd (upd H a o) a u=upd H a u:=by
 funext b;unfold upd;split<;>rfl
theorem aCW {H:Hp}{a b:Addr}{o u:HO} (h:H a=some o) (h':H b=some u) (d:o≠u):a≠b:=by
 intro e;subst e;rw[h]at h';exact d (Option.some.inj h')
theorem aN {H:Hp}{a b:Addr}{o:HO} (h:H a=some o) (h':H b=none):a≠b:=by
 intro e;subst e;rw[h]at h';cases h'
section
variable (P:Program)(w:World)
def ObjOk (H:Hp)(h:Heap)(a:Addr):HO->Prop
 | .lst xs=>xs.length<=sizeLine/\∃(its:List Value) (n:Nat),Vals xs its/\h.get? a=some { cls:= .type "list",data:= .seq its.toArray n }
 | .tup xs=>xs.length<=sizeLine/\∃its:List Value,Vals xs its/\IsTup h a its.toArray
 | .dK kvs=>kvs.length<=sizeLine/\(a==sysModules)=false/\∃vs,KV kvs vs/\h.DictOf (cB P w) a vs
 | .dT kvs=>kvs.length<=sizeLine/\(a==sysModules)=false/\∃xs:List (List Key×Addr×Value),
   Paired (fun (p:List Key×V) (q:List Key×Addr×Value)=>p.1=q.1/\H q.2.1=some (.tup (p.1.map kV))/\RelV p.2 q.2.2) kvs xs ∧
   ∃o es ep,h.get? a=some o/\o.ExactDict/\o.data= .dict es ep/\es.toList=xs.map (entryOfKey (tupleKind (cB P w)))/\(xs.map (·.1)).Nodup
 | .set S n=>h.SetOf (intKind P w) a S n
 | .ins C dx fs=>H dx=some (.own a)/\fs.length<=1000/\dx≠a/\h.get? a=some (W.instObj C dx) ∧
   ∃mA,h.Ns1 dx mA/\(∀f,RelO (fs.lookup f) (mA f))/\PySem.Within mA (fs.map (·.1))
 | .own _=>∃o,h.get? a=some o
 | .xd fs=>∃mA,h.Ns1 a mA/\∀f,RelO (fs.lookup f) (mA f)
 | .rng lo hi=>∃t u v,h.get? a=some { cls:= .type "range",data:= .fields #[.int lo t,.int hi u,.int 1 v] }
 | .frz o u=>h.get? a=some o/\ObjOk H h a u
 | .tbl ps=>h.get? a=some { cls:= .none,data:= .fields ps }
 | .met f x=>h.get? a=some (W.methodObj (.ref f) (.ref x))
 | .ext φ=>φ h/\(∃o,h.get? a=some o)/\∀h1 h2:Heap,φ h1->(∀o,h1.get? a=some o->h2.get? a=some o)->φ h2
def HOk (H:Hp)(h:Heap):Prop:=∀a o,H a=some o->ObjOk P w H h a o
end
section
variable {P:Program}{w:World}{H H':Hp}{h h':Heap}{a:Addr}{o:HO}
theorem ObjOk.lt (x:ObjOk P w H h a o):a<h.objs.size:=by
 cases o with
 | lst xs=>obtain⟨_,_,_,_,e⟩:=x;exact Heap.lt_size e
 | tup xs=>obtain⟨_,_,_,p⟩:=x;exact p.lt
 | dK kvs=>obtain⟨_,_,_,_,o,_,_,e,_⟩:=x;exact Heap.lt_size e
 | dT kvs=>obtain⟨_,_,_,_,o,_,_,e,_⟩:=x;exact Heap.lt_size e
 | set S n=>obtain⟨o,_,_,_,e,_⟩:=x;exact Heap.lt_size e
 | ins C dx fs=>obtain⟨_,_,_,e,_⟩:=x;exact Heap.lt_size e
 | own y=>obtain⟨_,e⟩:=x;exact Heap.lt_size e
 | xd fs=>obtain⟨_,⟨_,_,_,e,_⟩,_⟩:=x;exact Heap.lt_size e
 | rng lo hi=>obtain⟨_,_,_,e⟩:=x;exact Heap.lt_size e
 | frz ob u=>obtain⟨e,_⟩:=x;exact Heap.lt_size e
 | tbl ps=>exact Heap.lt_size (show h.get? a=some _ from x)
 | met f y=>exact Heap.lt_size (show h.get? a=some _ from x)
 | ext φ=>obtain⟨_,⟨_,e⟩,_⟩:=x;exact Heap.lt_size e
theorem Paired.mapP {α β:Type}{F G:α->β->Prop}:∀{l₁:List α}{l₂:List β},Paired F l₁ l₂->(∀a b,F a b->G a b)->Paired G l₁ l₂
 | _,_,.nil,_=> .nil
 | _,_,.cons r t,f=> .cons (f _ _ r) (Paired.mapP t f)
theorem Paired.imp' {α β:Type}{F G:α->β->Prop} (f:∀a b,F a b->G a b) {l₁:List α}{l₂:List β} (r:Paired F l₁ l₂):Paired G l₁ l₂:=Paired.mapP r f
theorem ObjOk.stay (x:ObjOk P w H h a o)(k:∀b u,(b=a∨H b=some (.own a))->h.get? b=some u->h'.get? b=some u)
  (ho:∀b,H b=some (.own a)->H' b=some (.own a))(ht:∀b xs,H b=some (.tup xs)->H' b=some (.tup xs)):ObjOk P w H' h' a o:=by
 induction o with
 | lst xs=>obtain⟨z,its,n,r,e⟩:=x;exact⟨z,its,n,r,k _ _ (.inl rfl) e⟩
 | tup xs=>obtain⟨z,its,r,ob,e,c⟩:=x;exact⟨z,its,r,ob,k _ _ (.inl rfl) e,c⟩
 | dK kvs=>obtain⟨z,y,vs,r,ob,es,ep,e,c⟩:=x;exact⟨z,y,vs,r,ob,es,ep,k _ _ (.inl rfl) e,c⟩
 | dT kvs =>
  obtain⟨z,y,xs,r,ob,es,ep,e,c⟩:=x;exact⟨z,y,xs,Paired.mapP r fun p q z=>⟨z.1,ht _ _ z.2.1,z.2.2⟩,ob,es,ep,k _ _ (.inl rfl) e,c⟩
 | set S n=>obtain⟨ob,es,ep,t,e,c⟩:=x;exact⟨ob,es,ep,t,k _ _ (.inl rfl) e,c⟩
 | ins C dx fs =>
  obtain⟨d,z,ne,e,mA,⟨od,es,ep,e2,c⟩,r⟩:=x;exact⟨ho _ d,z,ne,k _ _ (.inl rfl) e,mA,⟨od,es,ep,k _ _ (.inr d) e2,c⟩,r⟩
 | own y=>obtain⟨ob,e⟩:=x;exact⟨ob,k _ _ (.inl rfl) e⟩
 | xd fs=>obtain⟨mA,⟨od,es,ep,e,c⟩,r⟩:=x;exact⟨mA,⟨od,es,ep,k _ _ (.inl rfl) e,c⟩,r⟩
 | rng lo hi=>obtain⟨t,u,v,e⟩:=x;exact⟨t,u,v,k _ _ (.inl rfl) e⟩
 | frz ob u ih=>obtain⟨e,q⟩:=x;exact⟨k _ _ (.inl rfl) e,ih q⟩
 | tbl ps =>
  have e:h.get? a=some { cls:= .none,data:= .fields ps }:=x;show h'.get? a=some { cls:= .none,data:= .fields ps };exact k a _ (.inl rfl) e
 | met f y =>
  have e:h.get? a=some (W.methodObj (.ref f) (.ref y)):=x;show h'.get? a=some (W.methodObj (.ref f) (.ref y));exact k a _ (.inl rfl) e
 | ext φ=>obtain⟨p,⟨o,e⟩,st⟩:=x;exact⟨st _ _ p fun o q=>k _ _ (.inl rfl) q,⟨o,k _ _ (.inl rfl) e⟩,st⟩
theorem HOk.lt (x:HOk P w H h)(e:H a=some o):a<h.objs.size:=(x a o e).lt
theorem HOk.fresh (x:HOk P w H h)(e:h.objs.size<=a):H a=none:=by
 cases q:H a with
 | none=>rfl
 | some u=>exact absurd (Nat.lt_of_lt_of_le (x.lt q) e) (Nat.lt_irrefl _)
theorem HOk.kept (x:HOk P w H h)(k:∀b u,h.get? b=some u->h'.get? b=some u):HOk P w H h':=fun a o e =>
 (x a o e).stay (fun b u _ q=>k b u q) (fun _ q=>q) fun _ _ q=>q
theorem HOk.laid (x:HOk P w H h)(k:∀b u,h.get? b=some u->h'.get? b=some u)(hp:h.objs.size<=a)(new:ObjOk P w (upd H a o) h' a o):HOk P w (upd H a o) h':=fun b u e=>by
 have hn:=x.fresh hp
 by_cases hb:b=a
 ·subst hb;rw[aY]at e;cases e;exact new
 ·rw[aK hb]at e;exact(x b u e).stay (fun c v _ q=>k c v q) (fun c q=>by rw[aK (aN q hn)];exact q) fun c xs q=>by rw[aK (aN q hn)];exact q
end
def Rd (H:Hp)(a:Addr)(u:HO):Prop:=H a=some u∨∃o,H a=some (.frz o u)
theorem Rd.ok {P:Program}{w:World}{H:Hp}{h:Heap}{a:Addr}{u:HO} (r:Rd H a u) (x:HOk P w H h):ObjOk P w H h a u:=by
 rcases r with r|⟨o,r⟩
 ·exact x a u r
 ·obtain⟨_,q⟩:=x a _ r;exact q
def Mut:Option HO->Prop
 | some (.lst _)=>True
 | some (.dK _)=>True
 | some (.dT _)=>True
 | some (.set _ _)=>True
 | some (.ins _ _ _)=>True
 | some (.ext _)=>True
 | _=>False
section
variable {P:Program}{w:World}{H:Hp}{h h':Heap}{x e:Addr}{o':HO}
theorem HOk.write (ok:HOk P w H h)(mu:Mut (H x))(he:e=x∨H e=some (.own x))(k:∀b u,b≠e->h.get? b=some u->h'.get? b=some u)(heo:∃u,h'.get? e=some u)
  (new:ObjOk P w (upd H x o') h' x o'):HOk P w (upd H x o') h':=fun b u q=>by
 have nown:∀c y,H c=some (.own y)->c≠x:=fun c y r z=>by subst z;rw[r]at mu;exact mu
 have ntup:∀c xs,H c=some (.tup xs)->c≠x:=fun c xs r z=>by subst z;rw[r]at mu;exact mu
 by_cases hb:b=x
 ·subst hb;rw[aY]at q;cases q;exact new
 ·rw[aK hb]at q
  by_cases hbe:b=e
  ·have q':H b=some (.own x):=by
    rcases he with z|z
    ·exact absurd (hbe.trans z) hb
    ·rw[hbe];exact z
   rw[q]at q';cases q';obtain⟨v,hv⟩:=heo;exact⟨v,by rw[hbe];exact hv⟩
  ·refine(ok b u q).stay (fun c v hc r=>k c v ?_ r) (fun c r=>by rw[aK (nown c b r)];exact r) fun c xs r=>by rw[aK (ntup c xs r)];exact r
   rcases hc with rfl|hc
   ·exact hbe
   ·rintro rfl;rcases he with z|z
    ·exact nown c b hc z
    ·rw[hc]at z;cases z;exact hb rfl
end
structure Un (fs ex:List Addr)(H H':Hp)(h h':Heap):Prop where
 keep:∀b o,h.get? b=some o->H b=none->b∉fs->b∉ex->h'.get? b=some o
 slot:∀b o,h.get? b=some o->H b=none->b∈fs->b∉ex->∃sl,h'.get? b=some { o with slots:=sl }
 free:∀b o,h.get? b=some o->H b=none->b∉ex->H' b=none
 there:∀b o,h.get? b=some o->b∉ex->∃o',h'.get? b=some o'
 tups:∀b xs,H b=some (.tup xs)->H' b=some (.tup xs)
 frzs:∀b o u,H b=some (.frz o u)->H' b=some (.frz o u)
 tbls:∀b ps,H b=some (.tbl ps)->∃more,H' b=some (.tbl (ps++more))
section
variable {fs fs' ex ex':List Addr}{H H1 H2:Hp}{h h1 h2 h':Heap}{a x e:Addr}{o:HO}
theorem Un.any (u:Un fs ex H H1 h h1){b:Addr}{ob:Obj} (q:h.get? b=some ob) (n:H b=none) (hx:b∉ex):∃sl,h1.get? b=some { ob with slots:=sl }:=by
 by_cases hb:b∈fs
 ·exact u.slot b ob q n hb hx
 ·exact⟨ob.slots,u.keep b ob q n hb hx⟩
theorem Un.kept (k:∀b u,h.get? b=some u->h'.get? b=some u):Un fs ex H H h h' :=
 ⟨fun b ob q _ _ _=>k b ob q,fun b ob q _ _ _=>⟨ob.slots,k b ob q⟩,fun _ _ _ n _=>n,fun b ob q _=>⟨ob,k b ob q⟩,fun _ _ q=>q,fun _ _ _ q=>q,fun _ ps q=>⟨#[],by rw[q];simp⟩⟩
theorem Un.refl:Un fs ex H H h h:=Un.kept fun _ _ q=>q
theorem Un.laid (k:∀b u,h.get? b=some u->h'.get? b=some u)(hp:h.objs.size<=a)(hn:H a=none):Un fs ex H (upd H a o) h h' where
 keep:=fun b u q _ _ _=>k b u q
 slot:=fun b u q _ _ _=>⟨u.slots,k b u q⟩
 free:=fun b u q n _=>by rw[aK (Nat.ne_of_lt (Nat.lt_of_lt_of_le (Heap.lt_size q) hp))];exact n
 there:=fun b u q _=>⟨u,k b u q⟩
 tups:=fun b xs q=>by rw[aK (aN q hn)];exact q
 frzs:=fun b u xs q=>by rw[aK (aN q hn)];exact q
 tbls:=fun b ps q=>⟨#[],by rw[aK (aN q hn),q];simp⟩
theorem Un.write (mu:Mut (H x))(he:e=x∨H e=some (.own x))(k:∀b u,b≠e->h.get? b=some u->h'.get? b=some u)(heo:∃u,h'.get? e=some u):Un fs ex H (upd H x o) h h':=by
 have hx:∀b,H b=none->b≠x:=fun b n z=>by subst z;rw[n]at mu;exact mu
 have hb:∀b,H b=none->b≠e:=fun b n z=>by
  subst z;rcases he with r|r
  ·exact hx b n r
  ·rw[n]at r;cases r
 have hm:∀b u,H b=some u->¬Mut (some u)->b≠x:=fun b u q nm z=>by subst z;rw[q]at mu;exact nm mu
 refine⟨fun b u q n _ _=>k b u (hb b n) q,fun b u q n _ _=>⟨u.slots,k b u (hb b n) q⟩,fun b u q n _=>by rw[aK (hx b n)];exact n,fun b u q _=> ?_,
  fun b xs q=>by rw[aK (hm b _ q fun z=>z)];exact q,fun b u xs q=>by rw[aK (hm b _ q fun z=>z)];exact q,fun b ps q=>⟨#[],by rw[aK (hm b _ q fun z=>z),q];simp⟩⟩
 by_cases hbe:b=e
 ·subst hbe;exact heo
 ·exact⟨u,k b u hbe q⟩
end
def trk (h:Heap)(H:Hp):List Addr:=(List.range h.objs.size).filter fun a=>(H a).isSome
def tF (h:Heap)(H:Hp):Heap:=W.hideAll h (trk h H)
theorem RV (h:Heap)(H:Hp):(tF h H).objs.size=h.objs.size:=W.hideAll_size _ _
theorem UC {h:Heap}{H:Hp}{b:Addr}{o:Obj} (e:h.get? b=some o) (n:H b=none):(tF h H).get? b=some o :=
 W.hideAll_get _ e fun hm=>by
  have q:(H b).isSome=true:=(List.mem_filter.mp hm).2;rw[n]at q;simp at q
theorem X9 {h:Heap}{H:Hp}{b:Addr}{o:Obj} (e:(tF h H).get? b=some o):h.get? b=some o/\H b=none:=by
 have e':h.get? b=some o:=W.of_hideAll (trk h H) e;refine⟨e',?_⟩;cases q:H b with
 | none=>rfl
 | some x =>
  have hm:b∈trk h H:=List.mem_filter.mpr ⟨List.mem_range.mpr (Heap.lt_size e'),by simp[q]⟩;have z:(tF h H).get? b=none:=W.hideAll_none (trk h H) hm;rw[z]at e;cases e
structure Mod (K:W.Frag)(mg:Str->Option Value)(base:Heap):Prop where
 kin:K.In base
 glob:base.Ns mainGlobals mg
 blt:∃mb,base.Ns builtinsNs mb/\∀x:Str,x≠ "__name__" ->mb x=bootBuiltins x
 nolimit:base.NoLimit
structure Cx where
 prog:Program
 w:World
 K:W.Frag
 mg:Str->Option Value
 base:Heap
 A:Around
 N:List Str
 s₀:Shared
 H₀:Hp
 env:Env
 outer:List Env
 stack:List Env
 ex:List Addr
 fn:Str->Bool
 calm:Bool
 pn:List (Addr×Obj)
 xe:Value->Shared->Prop
def frs (l:List Env):List Addr:=l.filterMap (·.frame)
abbrev Cx.fs (X:Cx):List Addr:=frs X.outer
def Vis (sc:Scope)(x:Str):Prop:=sc.names.lookup x=some .local∨sc.names.lookup x=some .cell∨sc.names.lookup x=some .free
def Loc (sc:Scope)(x:Str):Prop:=sc.names.lookup x=some .local∨sc.names.lookup x=some .cell
def aDt (env:Env)(h:Heap)(m:Str->Option Value)(x:Str)(u:Value):Prop :=
 (env.kindOf x=some .local/\m x=some u)∨((env.kindOf x=some .cell∨env.kindOf x=some .free)/\∃c,env.cells.lookup x=some c/\h.IsCell c (some u))
structure Cx.Ok (X:Cx):Prop where
 mod:Mod X.K X.mg X.base
 kind:X.env.scope.kind= .function
 glob:X.env.globals=mainGlobals
 blt:X.env.builtins=builtinsNs
 above:X.s₀.heap.objs.size<=X.env.locals
 inj:∀x y c,X.env.cells.lookup x=some c->X.env.cells.lookup y=some c->x=y
 has:∀x,(X.env.kindOf x=some .cell∨X.env.kindOf x=some .free)->∃c,X.env.cells.lookup x=some c
 cab:∀x c,X.fn x=true->X.env.cells.lookup x=some c->X.s₀.heap.objs.size<=c
 hd:X.calm=true->X.A.handled=none
 frames:X.A.frames=some X.stack
 stk:X.stack=X.outer∨(X.stack=X.env::X.outer/\X.env.frame=some X.env.locals)
 exf:∀b∈X.ex,b≠X.env.locals/\∀x c,X.env.cells.lookup x=some c->c≠b
 bs:∀b o,X.base.get? b=some o->X.s₀.heap.get? b=some o/\X.H₀ b=none
 bsz:X.base.objs.size<=X.s₀.heap.objs.size
 noex:∀b o,X.base.get? b=some o->b∉X.ex
 exfs:∀b∈X.ex,b∉X.fs
 funs:X.s₀.heap.FunFrames X.base X.outer
 frf:∀b∈X.fs,X.H₀ b=none
structure Inv (X:Cx)(pins:List (Addr×Obj))(σ:List (Option V))(H:Hp)(s:Shared):Prop where
 ok:X.Ok
 os:s.os=X.s₀.os
 bare:AllBare s.gens
 base:Un X.fs X.ex X.H₀ H X.s₀.heap s.heap
 loc:∃m,s.heap.Ns X.env.locals m/\∀(i:Nat) (x:Str) (v:V),X.N[i]? =some x->σ[i]? =some (some v)->Vis X.env.scope x->∃u,RelV v u/\aDt X.env s.heap m x u
 cell:∀x c,X.env.cells.lookup x=some c->∃v,s.heap.IsCell c v
 free:H X.env.locals=none
 freeC:∀x c,X.env.cells.lookup x=some c->H c=none
 pin:∀p∈X.pn++pins,s.heap.get? p.1=some p.2/\H p.1=none/\p.1≠X.env.locals/\p.1∉X.fs/\∀v,p.2.data≠ .cell v
 hok:HOk X.prog X.w H s.heap
 len:σ.length=X.N.length
section
variable {X:Cx}{pins:List (Addr×Obj)}{σ:List (Option V)}{H H':Hp}{s:Shared}{h':Heap}
theorem Cx.Ok.nofr (ok:X.Ok){b:Addr}{o:Obj} (e:X.base.get? b=some o):b∉X.fs:=fun hb=>by
 have:=(ok.funs.mem hb).1;rw[e]at this;cases this
theorem Inv.bs (I:Inv X pins σ H s):∀b o,X.base.get? b=some o->s.heap.get? b=some o/\H b=none:=fun b o e =>
 ⟨I.base.keep b o (I.ok.bs b o e).1 (I.ok.bs b o e).2 (I.ok.nofr e) (I.ok.noex b o e),I.base.free b o (I.ok.bs b o e).1 (I.ok.bs b o e).2 (I.ok.noex b o e)⟩
theorem Inv.bk (I:Inv X pins σ H s):∀b o,X.base.get? b=some o->s.heap.get? b=some o:=fun b o e=>(I.bs b o e).1
theorem Inv.mod (I:Inv X pins σ H s):Mod X.K X.mg X.base:=I.ok.mod
theorem Inv.kIn (I:Inv X pins σ H s):X.K.In s.heap:=I.ok.mod.kin.keeps I.bk
theorem Inv.lt (I:Inv X pins σ H s):X.env.locals<s.heap.objs.size:=let ⟨_,hn,_⟩:=I.loc;hn.lt
theorem Inv.sz (I:Inv X pins σ H s):X.s₀.heap.objs.size<=s.heap.objs.size:=Nat.le_trans I.ok.above (Nat.le_of_lt I.lt)
theorem Inv.nofs (I:Inv X pins σ H s){a:Addr}(h:s.heap.objs.size<=a):a∉X.fs:=fun hb=>by
 obtain⟨_,o,ho,_⟩:=I.ok.funs.mem hb;exact absurd (Nat.lt_of_lt_of_le (Heap.lt_size ho) (Nat.le_trans I.sz h)) (Nat.lt_irrefl _)
theorem Inv.cne (I:Inv X pins σ H s):∀x c,X.env.cells.lookup x=some c->c≠X.env.locals:=fun x c e z=>by
 obtain⟨v,o,ho,hd⟩:=I.cell x c e;obtain⟨m,⟨o',es,ep,ho',hd',_⟩,_⟩:=I.loc;rw[z,ho']at ho;cases ho;rw[hd']at hd;cases hd
theorem Inv.funs (I:Inv X pins σ H s):s.heap.FunFrames X.base X.outer:=by
 have all:∀(l:List Env),(∀b∈frs l,b∈X.fs)->X.s₀.heap.FunFrames X.base l->s.heap.FunFrames X.base l:=by
  intro l
  induction l with
  | nil=>intro _ _;trivial
  | cons env r ih =>
   intro hs hl;obtain⟨hk,⟨L,o,hf,hn,ho,hd⟩,hr⟩:=hl;have hL:L∈X.fs:=hs L (by unfold frs;rw[List.filterMap_cons,hf];exact List.mem_cons_self);obtain⟨sl,e⟩:=I.base.slot L o ho (I.ok.frf L hL) hL fun z=>I.ok.exfs L z hL;exact⟨hk,⟨L,_,hf,hn,e,hd⟩,ih (fun b hb=>hs b (by unfold frs;rw[List.filterMap_cons,hf];exact List.mem_cons_of_mem _ hb)) hr⟩
 exact all X.outer (fun _ hb=>hb) I.ok.funs
theorem Inv.stack (I:Inv X pins σ H s):s.heap.FunFrames X.base X.stack:=by
 rcases I.ok.stk with e|⟨e,hf⟩
 ·rw[e];exact I.funs
 ·rw[e];obtain⟨m,hn,_⟩:=I.loc;refine .cons (by rw[I.ok.kind];decide) hf hn ?_ I.funs;exact Heap.get?_none_of_le (Nat.le_trans I.ok.bsz I.ok.above)
theorem Inv.stkSub (I:Inv X pins σ H s):∀b∈frs X.stack,b∈X.env.locals::X.fs:=fun b hb=>by
 rcases I.ok.stk with e|⟨e,hf⟩
 ·rw[e]at hb;exact List.mem_cons_of_mem _ hb
 ·rw[e]at hb;unfold frs at hb;rw[List.filterMap_cons,hf]at hb;exact hb
theorem Inv.stkFree (I:Inv X pins σ H s):∀b∈frs X.stack,H b=none:=fun b hb=>by
 rcases List.mem_cons.mp (I.stkSub b hb) with e|hb
 ·rw[e];exact I.free
 ·obtain⟨_,o,ho,_⟩:=I.ok.funs.mem hb;exact I.base.free b o ho (I.ok.frf b hb) fun z=>I.ok.exfs b z hb
theorem Inv.step {g':Array GenState}{t':Nat}{d':Drawn}{ch:List Addr} (I:Inv X pins σ H s)
  (hch:∀b∈ch,(b∈X.ex∨X.s₀.heap.objs.size<=b)/\b≠X.env.locals/\(∀x c,X.env.cells.lookup x=some c->c≠b)/\∀p∈X.pn++pins,p.1≠b)
  (keep:∀b o,b≠X.env.locals->b∉X.fs->b∉ch->s.heap.get? b=some o->H b=none->h'.get? b=some o)
  (slot:∀b o,b≠X.env.locals->b∈X.fs->b∉ch->s.heap.get? b=some o->H b=none->∃sl,h'.get? b=some { o with slots:=sl })(free:∀b o,b∉ch->s.heap.get? b=some o->H b=none->H' b=none)
  (there:∀b o,b∉ch->s.heap.get? b=some o->∃o',h'.get? b=some o')
  (tups:∀b xs,H b=some (.tup xs)->H' b=some (.tup xs))(frzs:∀b o u,H b=some (.frz o u)->H' b=some (.frz o u))(tbls:∀b ps,H b=some (.tbl ps)->∃more,H' b=some (.tbl (ps++more)))
  (ns:∀m,s.heap.Ns X.env.locals m->h'.Ns X.env.locals m)(hok:HOk X.prog X.w H' h')(hg:AllBare g') :
  Inv X pins σ H' { s with heap:=h',gens:=g',drawn:=d',toks:=t' }:=by
 have neL:∀b o,X.s₀.heap.get? b=some o->b≠X.env.locals:=fun b o e=>Nat.ne_of_lt (Nat.lt_of_lt_of_le (Heap.lt_size e) I.ok.above);have neC:∀b o,X.s₀.heap.get? b=some o->b∉X.ex->b∉ch:=fun b o e hx hb=>by
  rcases (hch b hb).1 with z|z
  ·exact hx z
  ·exact absurd (Nat.lt_of_lt_of_le (Heap.lt_size e) z) (Nat.lt_irrefl _)
 have cellK:∀x c,X.env.cells.lookup x=some c->∀v,s.heap.IsCell c v->h'.IsCell c v:=fun x c e v ⟨o,ho,hd⟩=>by
  have nch:c∉ch:=fun z=>(hch c z).2.2.1 x c e rfl
  by_cases hc:c∈X.fs
  ·obtain⟨sl,q⟩:=slot c o (I.cne x c e) hc nch ho (I.freeC x c e);exact⟨_,q,hd⟩
  ·exact⟨o,keep c o (I.cne x c e) hc nch ho (I.freeC x c e),hd⟩
 refine⟨I.ok,I.os,hg,⟨fun b o e n hb hx=> ?_,fun b o e n hb hx=> ?_,fun b o e n hx=> ?_,fun b o e hx=> ?_,fun b xs e=>tups b xs (I.base.tups b xs e),fun b o xs e=>frzs b o xs (I.base.frzs b o xs e),fun b ps e=> ?_⟩,?_,fun x c e=> ?_,?_,fun x c e=> ?_,fun p hp=> ?_,hok,I.len⟩
 ·exact keep b o (neL b o e) hb (neC b o e hx) (I.base.keep b o e n hb hx) (I.base.free b o e n hx)
 ·obtain⟨sl,e1⟩:=I.base.slot b o e n hb hx;obtain⟨sl',e2⟩:=slot b _ (neL b o e) hb (neC b o e hx) e1 (I.base.free b o e n hx);exact⟨sl',e2⟩
 ·obtain⟨o',e1⟩:=I.base.there b o e hx;exact free b o' (neC b o e hx) e1 (I.base.free b o e n hx)
 ·obtain⟨o',e1⟩:=I.base.there b o e hx;exact there b o' (neC b o e hx) e1
 ·obtain⟨m1,e1⟩:=I.base.tbls b ps e;obtain⟨m2,e2⟩:=tbls b _ e1;exact⟨m1++m2,by rw[e2,Array.append_assoc]⟩
 ·obtain⟨m,hn,hl⟩:=I.loc;refine⟨m,ns m hn,fun i x v e1 e2 e3=> ?_⟩;obtain⟨u,r,l⟩:=hl i x v e1 e2 e3;refine⟨u,r,?_⟩;rcases l with l|⟨k,c,e,z⟩
  ·exact .inl l
  ·exact .inr ⟨k,c,e,cellK x c e _ z⟩
 ·obtain⟨v,z⟩:=I.cell x c e;exact⟨v,cellK x c e v z⟩
 ·obtain⟨m,⟨o,_,_,ho,_⟩,_⟩:=I.loc;exact free _ o (fun z=>(hch _ z).2.1 rfl) ho I.free
 ·obtain⟨v,o,ho,hd⟩:=I.cell x c e;exact free c o (fun z=>(hch c z).2.2.1 x c e rfl) ho (I.freeC x c e)
 ·obtain⟨e,n,ne,nf,d⟩:=I.pin p hp;have nch:p.1∉ch:=fun z=>(hch p.1 z).2.2.2 p hp rfl;exact⟨keep p.1 p.2 ne nf nch e n,free p.1 p.2 nch e n,ne,nf,d⟩
theorem Inv.un {t':Nat}(I:Inv X pins σ H s)(u:Un X.fs [] H H' s.heap h')(hok:HOk X.prog X.w H' h'):Inv X pins σ H' { s with heap:=h',toks:=t' }:=by
 obtain⟨m,⟨o,es,ep,ho,r⟩,_⟩:=id I.loc;obtain⟨sl,hL⟩:=u.any ho I.free (by simp);exact I.step (g':=s.gens) (d':=s.drawn) (ch:=[]) (fun _ z=>nomatch z) (fun b o _ hb _ e n=>u.keep b o e n hb (by simp)) (fun b o _ hb _ e n=>u.slot b o e n hb (by simp)) (fun b o _ e n=>u.free b o e n (by simp)) (fun b o _ e=>u.there b o e (by simp)) u.tups u.frzs u.tbls (fun m' hm=>by
  obtain⟨o',es',ep',ho',r'⟩:=hm;rw[ho]at ho';cases ho';exact⟨_,es',ep',hL,r'⟩) hok I.bare
theorem Inv.call {g':Array GenState}{t':Nat}{d':Drawn}{ch:List Addr} (I:Inv X pins σ H s) (u:Un (frs X.stack) ch H H' s.heap h') (hok:HOk X.prog X.w H' h') (hg:AllBare g')
  (hch:∀b∈ch,(b∈X.ex∨X.s₀.heap.objs.size<=b)/\b≠X.env.locals/\(∀x c,X.env.cells.lookup x=some c->c≠b)/\∀p∈X.pn++pins,p.1≠b) :
  Inv X pins σ H' { s with heap:=h',gens:=g',drawn:=d',toks:=t' }:=by
 obtain⟨m,⟨o,es,ep,ho,r⟩,_⟩:=id I.loc;obtain⟨sl,hL⟩:=u.any ho I.free fun z=>(hch _ z).2.1 rfl;exact I.step (ch:=ch) hch (fun b o hL hb hc e n=>u.keep b o e n (fun z=>(List.mem_cons.mp (I.stkSub b z)).elim hL hb) hc) (fun b o _ _ hc e n=>u.any e n hc) (fun b o hc e n=>u.free b o e n hc) (fun b o hc e=>u.there b o e hc) u.tups u.frzs u.tbls (fun m' hm=>by
  obtain⟨o',es',ep',ho',r'⟩:=hm;rw[ho]at ho';cases ho';exact⟨_,es',ep',hL,r'⟩) hok hg
theorem Inv.turned {t':Nat}{it:Addr} (I:Inv X pins σ H s) (k:∀b o,b≠it->s.heap.get? b=some o->h'.get? b=some o) (hn:H it=none) (hL:it≠X.env.locals)
  (h1:it∈X.ex∨X.s₀.heap.objs.size<=it)(h2:∀x c,X.env.cells.lookup x=some c->c≠it)(h3:∀p∈X.pn++pins,p.1≠it):Inv X pins σ H { s with heap:=h',toks:=t' }:=by
 have nit:∀b u,H b=some u->b≠it:=fun b u e z=>by rw[z,hn]at e;cases e
 refine I.step (g':=s.gens) (d':=s.drawn) (ch:=[it]) (fun b hb=> ?_) (fun b o _ _ hc e _=>k b o (fun z=>hc (by simp[z])) e) (fun b o _ _ hc e _=>⟨o.slots,k b o (fun z=>hc (by simp[z])) e⟩) (fun _ _ _ _ n=>n)
  (fun b o hc e=>⟨o,k b o (fun z=>hc (by simp[z])) e⟩) (fun _ _ e=>e) (fun _ _ _ e=>e) (fun b ps e=>⟨#[],by rw[e];simp⟩) (fun m hm=> ?_) (fun b u e=> ?_) I.bare
 ·have e:b=it:=by simpa using hb
  subst e;exact⟨h1,hL,h2,h3⟩
 ·obtain⟨o,es,ep,ho,r⟩:=hm;exact⟨o,es,ep,k _ o (Ne.symm hL) ho,r⟩
 ·refine(I.hok b u e).stay (fun c v hc q=>k c v ?_ q) (fun _ q=>q) fun _ _ q=>q;rcases hc with z|z
  ·rw[z];exact nit b u e
  ·exact nit c _ z
theorem Inv.tok (I:Inv X pins σ H s)(t:Nat):Inv X pins σ H { s with toks:=t }:=I.un (h':=s.heap) (t':=t) Un.refl I.hok
theorem Inv.kept {t':Nat}(I:Inv X pins σ H s)(k:∀b u,s.heap.get? b=some u->h'.get? b=some u):Inv X pins σ H { s with heap:=h',toks:=t' }:=I.un (Un.kept k) (I.hok.kept k)
theorem Inv.laid {a:Addr}{o:HO}{t':Nat} (I:Inv X pins σ H s) (k:∀b u,s.heap.get? b=some u->h'.get? b=some u) (hp:s.heap.objs.size<=a) (new:ObjOk X.prog X.w (upd H a o) h' a o) :
  Inv X pins σ (upd H a o) { s with heap:=h',toks:=t' }:=I.un (Un.laid k hp (I.hok.fresh hp)) (I.hok.laid k hp new)
theorem Inv.write {x e:Addr}{o:HO}{t':Nat} (I:Inv X pins σ H s) (mu:Mut (H x)) (he:e=x∨H e=some (.own x)) (k:∀b u,b≠e->s.heap.get? b=some u->h'.get? b=some u) (heo:∃u,h'.get? e=some u)
  (new:ObjOk X.prog X.w (upd H x o) h' x o):Inv X pins σ (upd H x o) { s with heap:=h',toks:=t' }:=I.un (Un.write mu he k heo) (I.hok.write mu he k heo new)
theorem Inv.weak {σ':List (Option V)}(I:Inv X pins σ H s)(hl:σ'.length=σ.length)(w:∀(i:Nat) v,σ'[i]? =some (some v)->σ[i]? =some (some v)):Inv X pins σ' H s :=
 ⟨I.ok,I.os,I.bare,I.base,let ⟨m,hn,hl'⟩:=I.loc;⟨m,hn,fun i x v e1 e2 e3=>hl' i x v e1 (w i v e2) e3⟩,I.cell,I.free,I.freeC,I.pin,I.hok,hl.trans I.len⟩
theorem Inv.pins_of {pins':List (Addr×Obj)}(I:Inv X pins σ H s)(h:∀p∈pins',s.heap.get? p.1=some p.2/\H p.1=none/\p.1≠X.env.locals/\p.1∉X.fs/\∀v,p.2.data≠ .cell v):Inv X pins' σ H s :=
 ⟨I.ok,I.os,I.bare,I.base,I.loc,I.cell,I.free,I.freeC,fun p hp=>(List.mem_append.mp hp).elim (fun z=>I.pin p (List.mem_append_left _ z)) (h p),I.hok,I.len⟩
theorem yP {N:List Str}(hN:N.Nodup){i j:Nat}{x:Str} (a:N[i]? =some x) (b:N[j]? =some x):i=j:=by
 obtain⟨h1,e1⟩:=List.getElem?_eq_some_iff.mp a;obtain⟨h2,e2⟩:=List.getElem?_eq_some_iff.mp b;exact(List.getElem_inj hN).mp (e1.trans e2.symm)
theorem SO {M:Model}{A:Around}{E:Value->Shared->Prop}{i:Nat}{x:Str}{v:V}{u:Value}{Q:Unit->Shared->Prop} (I:Inv X pins σ H s) (hN:X.N.Nodup) (hi:X.N[i]? =some x) (hx:Loc X.env.scope x) (r:RelV v u)
  (h:∀s',Inv X pins (σ.set i (some v)) H s'->(∃a,Heap.SameBut a s.heap s'.heap/\(a=X.env.locals∨X.env.cells.lookup x=some a))->Q () s')(hf:X.fn x=true∨X.env.scope.names.lookup x=some .local:=by first|exact .inl rfl|exact .inr rfl|assumption):wpAny M A (storeName X.env x u) Q E s:=by
 obtain⟨m,hn,hl⟩:=id I.loc;have hcls:(X.env.scope.kind== .class||(X.env.scope.kind== .module&&X.env.locals !=X.env.globals))=false:=by rw[I.ok.kind];rfl
 have hiσ:i<σ.length:=by rw[I.len];exact(List.getElem?_eq_some_iff.mp hi).1
 have cne:=I.cne;have tracked:∀{a:Addr}{h':Heap},(∃o,s.heap.get? a=some o/\H a=none)->Heap.SameBut a s.heap h'->HOk X.prog X.w H h':=fun {a h'} ha hs b ob e=>by
  obtain⟨_,_,hfree⟩:=ha;refine(I.hok b ob e).stay (fun c w' hc q=>(hs.2 c ?_).trans q) (fun _ q=>q) fun _ _ q=>q;rintro rfl;rcases hc with rfl|hc
  ·rw[hfree]at e;cases e
  ·rw[hfree]at hc;cases hc
 rcases hx with hk|hk
 ·refine wpAny_storeName_local hk hn (fun h' hn' hs=> ?_) hcls;obtain⟨oL,_,_,hoL,_⟩:=id hn;refine h _ ⟨I.ok,I.os,I.bare,⟨fun b o e n hb hx=> ?_,fun b o e n hb hx=> ?_,I.base.free,fun b o e hx=> ?_,I.base.tups,I.base.frzs,I.base.tbls⟩,⟨_,hn',fun j y v' e1 e2 e3=> ?_⟩,fun y c e=> ?_,I.free,I.freeC,fun p hp=> ?_,tracked ⟨oL,hoL,I.free⟩ hs,by simpa using I.len⟩ ⟨_,hs,.inl rfl⟩
  ·exact(hs.2 b (Nat.ne_of_lt (Nat.lt_of_lt_of_le (Heap.lt_size e) I.ok.above))).trans (I.base.keep b o e n hb hx)
  ·obtain⟨sl,e1⟩:=I.base.slot b o e n hb hx;exact⟨sl,(hs.2 b (Nat.ne_of_lt (Nat.lt_of_lt_of_le (Heap.lt_size e) I.ok.above))).trans e1⟩
  ·obtain⟨o',e1⟩:=I.base.there b o e hx;exact⟨o',(hs.2 b (Nat.ne_of_lt (Nat.lt_of_lt_of_le (Heap.lt_size e) I.ok.above))).trans e1⟩
  ·by_cases hj:j=i
   ·subst hj;rw[hi]at e1;cases e1;rw[List.getElem?_set_self hiσ]at e2;cases e2;exact⟨u,r,.inl ⟨hk,by simp⟩⟩
   ·rw[List.getElem?_set_ne (Ne.symm hj)]at e2;obtain⟨u',r',q⟩:=hl j y v' e1 e2 e3;refine⟨u',r',?_⟩;rcases q with⟨k,e⟩|⟨k,c,e,z⟩
    ·refine .inl ⟨k,?_⟩;have:y≠x:=fun e=>hj (yP hN e1 (e▸hi));simp[this,e]
    ·exact .inr ⟨k,c,e,z.sameBut hs (cne y c e)⟩
  ·obtain⟨w',z⟩:=I.cell y c e;exact⟨w',z.sameBut hs (cne y c e)⟩
  ·obtain⟨e,n,ne,nf,d⟩:=I.pin p hp;exact⟨(hs.2 p.1 ne).trans e,n,ne,nf,d⟩
 ·have hfn:X.fn x=true:=by
   rcases hf with z|z
   ·exact z
   ·rw[z]at hk;cases hk
  obtain⟨c,hc⟩:=I.ok.has x (.inl hk);obtain⟨w',z⟩:=I.cell x c hc;refine wpAny_storeName_cell I.ok.kind hk hc z (fun h' hc' hs=> ?_);obtain⟨oc,hoc,hocd⟩:=id z;refine h { s with heap:=h' } ⟨I.ok,I.os,I.bare,⟨fun b o e n hb hx=> ?_,fun b o e n hb hx=> ?_,I.base.free,fun b o e hx=> ?_,I.base.tups,I.base.frzs,I.base.tbls⟩,⟨m,hn.sameBut hs (Ne.symm (cne x c hc)),fun j y v' e1 e2 e3=> ?_⟩,fun y c' e=> ?_,I.free,I.freeC,fun p hp=> ?_,tracked ⟨oc,hoc,I.freeC x c hc⟩ hs,by simpa using I.len⟩ ⟨c,hs,.inr hc⟩
  ·exact(hs.2 b (Nat.ne_of_lt (Nat.lt_of_lt_of_le (Heap.lt_size e) (I.ok.cab x c hfn hc)))).trans (I.base.keep b o e n hb hx)
  ·obtain⟨sl,e1⟩:=I.base.slot b o e n hb hx;exact⟨sl,(hs.2 b (Nat.ne_of_lt (Nat.lt_of_lt_of_le (Heap.lt_size e) (I.ok.cab x c hfn hc)))).trans e1⟩
  ·obtain⟨o',e1⟩:=I.base.there b o e hx;exact⟨o',(hs.2 b (Nat.ne_of_lt (Nat.lt_of_lt_of_le (Heap.lt_size e) (I.ok.cab x c hfn hc)))).trans e1⟩
  ·by_cases hj:j=i
   ·subst hj;rw[hi]at e1;cases e1;rw[List.getElem?_set_self hiσ]at e2;cases e2;exact⟨u,r,.inr ⟨.inl hk,c,hc,hc'⟩⟩
   ·rw[List.getElem?_set_ne (Ne.symm hj)]at e2;obtain⟨u',r',q⟩:=hl j y v' e1 e2 e3;refine⟨u',r',?_⟩;rcases q with q|⟨k,c',e,z'⟩
    ·exact .inl q
    ·refine .inr ⟨k,c',e,z'.sameBut hs ?_⟩;rintro rfl;exact hj (yP hN e1 (I.ok.inj _ _ _ e hc▸hi))
  ·by_cases hcc:c'=c
   ·subst hcc;exact⟨_,hc'⟩
   ·obtain⟨w2,z2⟩:=I.cell y c' e;exact⟨w2,z2.sameBut hs hcc⟩
  ·obtain⟨e,n,ne,nf,d⟩:=I.pin p hp;refine⟨(hs.2 p.1 ?_).trans e,n,ne,nf,d⟩;intro q;rw[q,hoc]at e;have q':oc=p.2:=Option.some.inj e;exact d w' (by rw[←q'];exact hocd)
theorem yK {M:Model}{A:Around}{E:Value->Shared->Prop}{i:Nat}{x:Str}{v:V}{u:Value}{Q:Unit->Shared->Prop} (I:Inv X pins σ H s) (hN:X.N.Nodup) (hi:X.N[i]? =some x) (hx:Loc X.env.scope x) (r:RelV v u)
  (h:∀s',Inv X pins (σ.set i (some v)) H s'->Q () s')(hf:X.fn x=true∨X.env.scope.names.lookup x=some .local:=by first|exact .inl rfl|exact .inr rfl|assumption):wpAny M A (storeName X.env x u) Q E s :=
 SO I hN hi hx r (fun s' I' _=>h s' I') hf
theorem Inv.call' {s':Shared}{ch:List Addr} (I:Inv X pins σ H s) (ho:s'.os=s.os) (u:Un (frs X.stack) ch H H' s.heap s'.heap) (hok:HOk X.prog X.w H' s'.heap) (hg:AllBare s'.gens)
  (hch:∀b∈ch,(b∈X.ex∨X.s₀.heap.objs.size<=b)/\b≠X.env.locals/\(∀x c,X.env.cells.lookup x=some c->c≠b)/\∀p∈X.pn++pins,p.1≠b):Inv X pins σ H' s':=by
 obtain⟨h',g',d',t',o'⟩:=s';have e:o'=s.os:=ho;subst e;exact I.call (g':=g') (t':=t') (d':=d') u hok hg hch
end
abbrev XK:=Value->Option Addr->Hp->Prop
abbrev St:=List (Option V)
abbrev VK:=V->Hp->Prop
abbrev TE:=St->Hp->VK->Prop
abbrev TT:=St->Hp->(Bool->Hp->Prop)->Prop
abbrev TA:=St->Hp->(List V->Hp->Prop)->Prop
structure fM where
 nx:St->Hp->Prop
 rt:VK
 bk:St->Hp->Prop:=fun _ _=>False
 ct:St->Hp->Prop:=fun _ _=>False
abbrev TS:=fM->St->Hp->Prop
def EP (X:Cx)(pins:List (Addr×Obj))(σ:St)(Q:VK)(u:Value)(s':Shared):Prop:=∃v H',Inv X pins σ H' s'/\RelV v u/\Q v H'
def TP (X:Cx)(pins:List (Addr×Obj))(σ:St)(Q:Bool->Hp->Prop)(b:Bool)(s':Shared):Prop:=∃H',Inv X pins σ H' s'/\Q b H'
def AP (X:Cx)(pins:List (Addr×Obj))(σ:St)(Q:List V->Hp->Prop)(us:List Value)(s':Shared):Prop:=∃vs H',Inv X pins σ H' s'/\Vals vs us/\Q vs H'
def SP (X:Cx)(pins:List (Addr×Obj))(D:fM)(f:Flow)(s':Shared):Prop :=
 match f with
 | .next=>∃σ' H',Inv X pins σ' H' s'/\D.nx σ' H'
 | .brk=>∃σ' H',Inv X pins σ' H' s'/\D.bk σ' H'
 | .cont=>∃σ' H',Inv X pins σ' H' s'/\D.ct σ' H'
 | .ret u=>∃v σ' H',Inv X pins σ' H' s'/\RelV v u/\D.rt v H'
def PE (X:Cx)(e:Expr)(t:TE):Prop :=
 ∀(pins:List (Addr×Obj)) (s:Shared) (σ:St) (H:Hp) (Q:VK),Inv X pins σ H s->t σ H Q->wpAny (model X.prog X.w) X.A (eval e X.env) (EP X pins σ Q) X.xe s
def PT (X:Cx)(e:Expr)(t:TT):Prop :=
 ∀(pins:List (Addr×Obj)) (s:Shared) (σ:St) (H:Hp) (Q:Bool->Hp->Prop),Inv X pins σ H s->t σ H Q->wpAny (model X.prog X.w) X.A (isTrue e X.env (eval e X.env)) (TP X pins σ Q) X.xe s
def PW (X:Cx)(e:Expr)(t:TT):Prop :=
 ∀(whole:Sem Value) (pins:List (Addr×Obj)) (s:Shared) (σ:St) (H:Hp) (Q:Bool->Hp->Prop),Inv X pins σ H s->t σ H Q->wpAny (model X.prog X.w) X.A (isTrue e X.env whole) (TP X pins σ Q) X.xe s
theorem PW.pt {X:Cx}{e:Expr}{t:TT} (h:PW X e t):PT X e t:=h _
def PA (X:Cx)(es:List Expr)(t:TA):Prop :=
 ∀(pos:Pos) (pins:List (Addr×Obj)) (s:Shared) (σ:St) (H:Hp) (Q:List V->Hp->Prop),Inv X pins σ H s->t σ H Q->wpAny (model X.prog X.w) X.A (spliced (backTo pos (starEach es X.env))) (AP X pins σ Q) X.xe s
def PS (X:Cx)(st:Stmt)(t:TS):Prop :=
 ∀(pins:List (Addr×Obj)) (s:Shared) (σ:St) (H:Hp) (D:fM),Inv X pins σ H s->t D σ H->wpAny (model X.prog X.w) X.A (exec st X.env) (SP X pins D) X.xe s
def PSs (X:Cx)(st:List Stmt)(t:TS):Prop :=
 ∀(pins:List (Addr×Obj)) (s:Shared) (σ:St) (H:Hp) (D:fM),Inv X pins σ H s->t D σ H->wpAny (model X.prog X.w) X.A (execs st X.env) (SP X pins D) X.xe s
theorem thn {α:Type}{t:Sem α}{Q Q':α->Shared->Prop}{M:Model}{A:Around}{E:Value->Shared->Prop}{s:Shared} (h:wpAny M A t Q E s) (hQ:∀a s,Q a s->Q' a s):wpAny M A t Q' E s:=wpAny_mono h hQ fun _ _ x=>x
section
variable {X:Cx}
def c5 (i:Nat):TE:=fun σ H Q=>∃v,σ[i]? =some (some v)/\Q v H
def tC (v:V):TE:=fun _ H Q=>Q v H
theorem aCq {i:Nat}{x:Str}{pos:Pos} (hN:X.N[i]? =some x) (hv:Vis X.env.scope x) (hd:(x==("__debug__" :Str))=false:=by decide) (hcd:(x==("__classdict__" :Str))=false:=by decide):PE X (.Name x pos) (c5 i):=by
 intro pins s σ H Q I h;obtain⟨v,e,h⟩:=h;obtain⟨m,hn,hl⟩:=I.loc;obtain⟨u,r,l⟩:=hl i x v hN e hv;have fin:EP X pins σ Q u s:=⟨v,H,I,r,h⟩
 rcases l with⟨hk,hm⟩|⟨hk,c,hc,hcell⟩
 ·exact wpAny_Name (wpAny_loadName_local I.ok.kind hk hn hm fin) hd
 ·rcases hk with hk|hk
  ·exact wpAny_Name (wpAny_loadName_cell I.ok.kind hk hc hcell fin) hd
  ·exact wpAny_Name (wpAny_loadName_free I.ok.kind hk hc hcell fin hcd) hd
theorem aE {i j pos}:PE X (.Constant (.int i) j pos) (tC (.int i)):=fun _ _ _ H _ I h=>wpAny_Constant_int ⟨.int i,H,I.tok _,⟨_,rfl⟩,h⟩
theorem F5 {b j pos}:PE X (.Constant (.bool b) j pos) (tC (.bl b)):=fun _ _ _ H _ I h=>Constant_bool ⟨.bl b,H,I,rfl,h⟩
theorem dG {j pos}:PE X (.Constant .none j pos) (tC .non):=fun _ _ _ H _ I h=>Constant_none ⟨.non,H,I,rfl,h⟩
theorem aJ {x j pos}:PE X (.Constant (.str x) j pos) (tC (.str x)):=fun _ _ _ H _ I h=>Calls.Constant_str ⟨.str x,H,I.tok _,⟨_,rfl⟩,h⟩
def Gl (X:Cx)(x:Str):Prop:=X.env.kindOf x=some .globalImplicit
theorem gI {E:Value->Shared->Prop}{pins:List (Addr×Obj)}{s:Shared}{σ:St}{H:Hp}{x:Str}{u:Value}{pos:Pos}{Q:Value->Shared->Prop} (I:Inv X pins σ H s) (hg:Gl X x) (hm:X.mg x=some u) (h:Q u s)
  (hd:(x==("__debug__" :Str))=false:=by decide):wpAny (model X.prog X.w) X.A (eval (.Name x pos) X.env) Q E s :=
 Calls.Name_function_global I.ok.kind hg (Calls.loadGlobal_global (by rw[I.ok.glob];exact I.mod.glob.keeps I.bk) hm h) hd
theorem rZ {E:Value->Shared->Prop}{pins:List (Addr×Obj)}{s:Shared}{σ:St}{H:Hp}{x:Str}{u:Value}{pos:Pos}{Q:Value->Shared->Prop} (I:Inv X pins σ H s) (hg:Gl X x) (hm:X.mg x=none) (hv:bootBuiltins x=some u) (h:Q u s)
  (hn:x≠ "__name__" :=by decide)(hd:(x==("__debug__" :Str))=false:=by decide):wpAny (model X.prog X.w) X.A (eval (.Name x pos) X.env) Q E s:=by
 obtain⟨mb,h1,h2⟩:=I.mod.blt;exact Calls.Name_function_global I.ok.kind hg (Calls.loadGlobal_builtin (by rw[I.ok.glob];exact I.mod.glob.keeps I.bk) hm (by rw[I.ok.blt];exact h1.keeps I.bk) ((h2 x hn).trans hv) h) hd
theorem LE {x:Str}{v:V}{u:Value}{pos:Pos} (hg:Gl X x) (hm:X.mg x=some u) (r:RelV v u) (hd:(x==("__debug__" :Str))=false:=by decide):PE X (.Name x pos) (tC v) :=
 fun _ _ _ H _ I h=>gI I hg hm ⟨v,H,I,r,h⟩ hd
theorem Z4 {x:Str}{v:V}{u:Value}{pos:Pos} (hg:Gl X x) (hm:X.mg x=none) (hv:bootBuiltins x=some u) (r:RelV v u) (hn:x≠ "__name__" :=by decide) (hd:(x==("__debug__" :Str))=false:=by decide):PE X (.Name x pos) (tC v) :=
 fun _ _ _ H _ I h=>rZ I hg hm hv ⟨v,H,I,r,h⟩ hn hd
variable {a b:Expr}{ta tb:TE}{pos:Pos}
def PC (X:Cx)(op:CmpOp)(a b:Expr)(t:TE):Prop :=
 ∀(pins:List (Addr×Obj)) (s:Shared) (σ:St) (H:Hp) (Q:VK),Inv X pins σ H s->t σ H Q →
  wpAny (model X.prog X.w) X.A (eval a X.env) (fun v s₁=>wpAny (model X.prog X.w) X.A (eval b X.env) (fun u s₂=>wpAny (model X.prog X.w) X.A (compareOp op v u) (EP X pins σ Q) X.xe s₂) X.xe s₁) X.xe s
def tB (t:TE):TT:=fun σ H Q=>t σ H fun x H1=>∃c,x= .bl c/\Q c H1
theorem BI {op:CmpOp}{t:TE} (h:PC X op a b t) (h1:behindInMarks op b=false:=by first|exact nobehind _ (by decide) (by decide)|rfl):PT X (.Compare a [op] [b] pos) (tB t):=by
 intro pins s σ H Q I hw;refine wpAny_isTrue_Compare1 (thn (h pins s σ H _ I hw) fun v s1 h1=>thn h1 fun u s2 h2=>thn h2 fun c s3 ⟨x,H1,I1,r1,q1⟩=> ?_) h1;obtain⟨d,rfl,q⟩:=q1;cases r1;exact wpAny_truthy_bool ⟨H1,I1,q⟩
theorem fV {e:Expr}{t:TE} (h:PE X e t) (he:∀whole,isTrue e X.env whole=(do let v ←whole;standAt e.pos;holding [v] (truthy v)):=by intro _;rfl):PT X e (tB t):=by
 intro pins s σ H Q I hw;refine isTrue_plain (thn (h pins s σ H _ I hw) fun v s1 ⟨x,H1,I1,r1,q1⟩=> ?_) (he _);obtain⟨d,rfl,q⟩:=q1;cases r1;exact wpAny_truthy_bool ⟨H1,I1,q⟩
variable {tA tB':TT}{rest:List Expr}
def aCm (t u:TT):TT:=fun σ H Q=>t σ H fun c H1=>if c=true then u σ H1 Q else Q false H1
def tOr (t u:TT):TT:=fun σ H Q=>t σ H fun c H1=>if c=true then Q true H1 else u σ H1 Q
def aAO (t:TT):TT:=fun σ H Q=>t σ H fun c H1=>Q (!c) H1
theorem KU (ha:PT X a tA):PW X (.BoolOp .And [a] pos) tA:=by
 intro wh pins s σ H Q I h;refine isTrue_and (thn (ha pins s σ H Q I h) fun c s1 e=> ?_);cases c with
 | true=>exact isTrue_and_nil e
 | false=>exact e
theorem oP (ha:PT X a tA):PW X (.BoolOp .Or [a] pos) tA:=by
 intro wh pins s σ H Q I h;refine isTrue_or (thn (ha pins s σ H Q I h) fun c s1 e=> ?_);cases c with
 | false=>exact isTrue_or_nil e
 | true=>exact e
theorem SH (ha:PT X a tA)(hb:PW X (.BoolOp .And (b::rest) pos) tB'):PW X (.BoolOp .And (a::b::rest) pos) (aCm tA tB'):=by
 intro wh pins s σ H Q I h;refine isTrue_and (thn (ha pins s σ H _ I h) fun c s1 ⟨H1,I1,q1⟩=> ?_);cases c with
 | true=>exact hb wh pins s1 σ H1 Q I1 q1
 | false=>exact⟨H1,I1,q1⟩
theorem tT (ha:PT X a tA)(hb:PW X (.BoolOp .Or (b::rest) pos) tB'):PW X (.BoolOp .Or (a::b::rest) pos) (tOr tA tB'):=by
 intro wh pins s σ H Q I h;refine isTrue_or (thn (ha pins s σ H _ I h) fun c s1 ⟨H1,I1,q1⟩=> ?_);cases c with
 | true=>exact⟨H1,I1,q1⟩
 | false=>exact hb wh pins s1 σ H1 Q I1 q1
theorem mD (ha:PT X a tA):PT X (.UnaryOp .Not a pos) (aAO tA):=by
 intro pins s σ H Q I h;exact isTrue_not (ha pins s σ H (fun c H1=>Q (!c) H1) I h)
def W7 (ta tb:TE):TE:=fun σ H Q=>ta σ H fun x H1=>∃c,x= .bl c/\if c=true then tb σ H1 Q else Q (.bl false) H1
def XE (ta:TE):TE:=fun σ H Q=>ta σ H fun x H1=>∃c,x= .bl c/\Q (.bl (!c)) H1
theorem IZ {op}{t:TE} (h:PE X a t):PE X (.BoolOp op [a] pos) t:=fun pins s σ H Q I hw=>BoolOp_one (h pins s σ H Q I hw)
theorem BQ (ha:PE X a ta)(hb:PE X (.BoolOp .And (b::rest) pos) tb):PE X (.BoolOp .And (a::b::rest) pos) (W7 ta tb):=by
 intro pins s σ H Q I h;refine BoolOp_and (thn (ha pins s σ H _ I h) fun v s1 ⟨x,H1,I1,r1,q1⟩=> ?_);obtain⟨c,rfl,q1⟩:=q1;cases r1;refine wpAny_truthy_bool ?_;cases c with
 | true=>exact hb pins s1 σ H1 Q I1 q1
 | false=>exact⟨.bl false,H1,I1,rfl,q1⟩
theorem PX (ha:PE X a ta):PE X (.UnaryOp .Not a pos) (XE ta):=by
 intro pins s σ H Q I h;refine UnaryOp_ (thn (ha pins s σ H _ I h) fun v s1 ⟨x,H1,I1,r1,q1⟩=> ?_);obtain⟨c,rfl,q1⟩:=q1;cases r1;exact not_of (wpAny_truthy_bool ⟨.bl (!c),H1,I1,rfl,q1⟩)
def tIf (t:TT)(ta tb:TE):TE:=fun σ H Q=>t σ H fun c H1=>if c=true then ta σ H1 Q else tb σ H1 Q
theorem VC {c:Expr}(hc:PT X c tA)(ha:PE X a ta)(hb:PE X b tb):PE X (.IfExp c a b pos) (tIf tA ta tb):=by
 intro pins s σ H Q I h;refine wpAny_IfExp (thn (hc pins s σ H _ I h) fun d s1 ⟨H1,I1,q1⟩=> ?_);cases d with
 | true=>exact ha pins s1 σ H1 Q I1 q1
 | false=>exact hb pins s1 σ H1 Q I1 q1
end
def SqL (K:W.Frag)(H:Hp)(a:Addr)(xs:List V):Prop :=
 Rd H a (.lst xs) ∨
  ∃(o:Obj) (its:Array Value) (n:Nat),K.lookup a=some o/\o.cls= .type "list" /\o.dict=none/\o.data= .seq its n/\its.size<=sizeLine/\Vals xs its.toList
def SqT (K:W.Frag)(H:Hp)(a:Addr)(xs:List V):Prop :=
 Rd H a (.tup xs) ∨
  ∃(o:Obj) (its:Array Value) (n:Nat),K.lookup a=some o/\o.cls= .type "tuple" /\o.data= .seq its n/\its.size<=sizeLine/\Vals xs its.toList
def aDl:Value->Option V
 | .none=>some .non
 | .bool b=>some (.bl b)
 | .int i _=>some (.int i)
 | .str x _=>some (.str x)
 | .bytes b _=>some (.byt b)
 | .float b _=>some (.flt b)
 | .ref a=>some (.ref a)
 | .type n=>some (.ty n)
 | _=>none
theorem RelV.abs {x:V}{u:Value} (r:RelV x u):aDl u=some x:=by
 cases x with
 | non=>cases r;rfl
 | bl _=>cases r;rfl
 | int _=>obtain⟨t,rfl⟩:=r;rfl
 | str _=>obtain⟨t,rfl⟩:=r;rfl
 | byt _=>obtain⟨t,rfl⟩:=r;rfl
 | flt _=>obtain⟨t,rfl⟩:=r;rfl
 | ref _=>cases r;rfl
 | ty _=>cases r;rfl
theorem RelV.inj {x y:V}{u:Value} (r:RelV x u) (q:RelV y u):x=y:=Option.some.inj (r.abs.symm.trans q.abs)
theorem Vals.inj:∀{xs ys:List V}{us:List Value},Vals xs us->Vals ys us->xs=ys
 | _,_,_,.nil,.nil=>rfl
 | _,_,_,.cons r t,.cons r' t'=>by rw[r.inj r',Vals.inj t t']
section
variable {X:Cx}{pins:List (Addr×Obj)}{σ:St}{H:Hp}{s:Shared}{a:Addr}{xs ys:List V}
theorem SqL.of {K:W.Frag}(h:H a=some (.lst xs)):SqL K H a xs:= .inl (.inl h)
theorem SqT.of {K:W.Frag}(h:H a=some (.tup xs)):SqT K H a xs:= .inl (.inl h)
theorem Inv.list (I:Inv X pins σ H s)(h:SqL X.K H a xs):∃its:List Value,Vals xs its/\PlainL s.heap a its.toArray/\xs.length<=sizeLine:=by
 rcases h with h|⟨o,its,n,hk,hc,hd,hs,hz,r⟩
 ·obtain⟨z,its,n,r,e⟩:=h.ok I.hok;exact⟨its,r,⟨_,n,e,rfl,rfl,rfl⟩,z⟩
 ·refine⟨its.toList,r,⟨o,n,I.kIn a o hk,hc,hd,by simpa using hs⟩,?_⟩;have e:=r.length;simp only[Array.length_toList]at e
  lia
theorem Inv.tuple (I:Inv X pins σ H s)(h:SqT X.K H a xs):∃its:List Value,Vals xs its/\IsTup s.heap a its.toArray/\xs.length<=sizeLine:=by
 rcases h with h|⟨o,its,n,hk,hc,hs,hz,r⟩
 ·obtain⟨z,its,r,p⟩:=h.ok I.hok;exact⟨its,r,p,z⟩
 ·refine⟨its.toList,r,⟨o,I.kIn a o hk,hc,n,by simpa using hs⟩,?_⟩;have e:=r.length;simp only[Array.length_toList]at e
  lia
theorem Inv.list_inj (I:Inv X pins σ H s)(h:SqL X.K H a xs)(h':SqL X.K H a ys):xs=ys:=by
 obtain⟨its,r,⟨o,n,e,_,_,d⟩,_⟩:=I.list h;obtain⟨its',r',⟨o',n',e',_,_,d'⟩,_⟩:=I.list h';rw[e]at e';cases e';rw[d]at d';injection d' with d1 _;have:its=its':=by simpa using congrArg Array.toList d1
 subst this;exact r.inj r'
theorem Inv.tuple_inj (I:Inv X pins σ H s)(h:SqT X.K H a xs)(h':SqT X.K H a ys):xs=ys:=by
 obtain⟨its,r,⟨o,e,_,n,d⟩,_⟩:=I.tuple h;obtain⟨its',r',⟨o',e',_,n',d'⟩,_⟩:=I.tuple h';rw[e]at e';cases e';rw[d]at d';injection d' with d1 _;have:its=its':=by simpa using congrArg Array.toList d1
 subst this;exact r.inj r'
end
abbrev Cx.wish (X:Cx)(E:Value->Shared->Prop):Cx:={ X with xe:=E }
abbrev Cx.nox (X:Cx):Cx:=X.wish fun _ _=>False
theorem Cx.Ok.wish {X:Cx}(ok:X.Ok)(E:Value->Shared->Prop):(X.wish E).Ok :=
 ⟨ok.mod,ok.kind,ok.glob,ok.blt,ok.above,ok.inj,ok.has,ok.cab,ok.hd,ok.frames,ok.stk,ok.exf,ok.bs,ok.bsz,ok.noex,ok.exfs,ok.funs,ok.frf⟩
theorem Cx.Ok.unwish {X:Cx}{E:Value->Shared->Prop} (ok:(X.wish E).Ok):X.Ok :=
 ⟨ok.mod,ok.kind,ok.glob,ok.blt,ok.above,ok.inj,ok.has,ok.cab,ok.hd,ok.frames,ok.stk,ok.exf,ok.bs,ok.bsz,ok.noex,ok.exfs,ok.funs,ok.frf⟩
section
variable {X:Cx}{pins:List (Addr×Obj)}{σ:St}{H:Hp}{s:Shared}{E:Value->Shared->Prop}
theorem Inv.wish (I:Inv X pins σ H s)(E:Value->Shared->Prop):Inv (X.wish E) pins σ H s:=⟨I.ok.wish E,I.os,I.bare,I.base,I.loc,I.cell,I.free,I.freeC,I.pin,I.hok,I.len⟩
theorem Inv.unwish (I:Inv (X.wish E) pins σ H s):Inv X pins σ H s:=⟨I.ok.unwish,I.os,I.bare,I.base,I.loc,I.cell,I.free,I.freeC,I.pin,I.hok,I.len⟩
theorem SP.unwish {D:fM}{f:Flow}{s':Shared} (h:SP (X.wish E) pins D f s'):SP X pins D f s':=by
 cases f with
 | next=>obtain⟨σ',H',I,q⟩:=h;exact⟨σ',H',I.unwish,q⟩
 | brk=>obtain⟨σ',H',I,q⟩:=h;exact⟨σ',H',I.unwish,q⟩
 | cont=>obtain⟨σ',H',I,q⟩:=h;exact⟨σ',H',I.unwish,q⟩
 | ret u=>obtain⟨v,σ',H',I,r,q⟩:=h;exact⟨v,σ',H',I.unwish,r,q⟩
theorem PSs.nox {st:List Stmt}{t:TS} (h:PSs X.nox st t):PSs X st t:=fun pins s σ H D I hw =>
 wpAny_mono (h pins s σ H D (I.wish _) hw) (fun _ _ q=>q.unwish) fun _ _ z=>False.elim z
end
section
variable {X:Cx}{st:Stmt}{rest:List Stmt}{t u:TS}{e:Expr}{te:TE}{pos:Pos}
def XA:TS:=fun D σ H=>D.nx σ H
def JD (t u:TS):TS:=fun D σ H=>t { D with nx:=u D } σ H
theorem bJ:PSs X [] XA:=fun _ _ σ H _ I h=>wpAny_execs_nil ⟨σ,H,I,h⟩
theorem aC (h1:PS X st t)(h2:PSs X rest u):PSs X (st::rest) (JD t u):=by
 intro pins s σ H D I h;refine wpAny_execs_cons (thn (h1 pins s σ H { D with nx:=u D } I h) fun f s1 q=> ?_);cases f with
 | next =>
  obtain⟨σ',H',I',q⟩:=q;exact h2 pins s1 σ' H' D I' q
 | ret v=>exact q
 | brk=>exact q
 | cont=>exact q
theorem aD (h1:PS X st t):PSs X [st] t:=by
 intro pins s σ H D I h;refine wpAny_execs_cons (thn (h1 pins s σ H D I h) fun f s1 q=> ?_);cases f with
 | next=>exact wpAny_execs_nil q
 | ret v=>exact q
 | brk=>exact q
 | cont=>exact q
theorem Inv.quiet {pins:List (Addr×Obj)}{σ:St}{H:Hp}{s:Shared} (I:Inv X pins σ H s):interactive X.env=false:=by simp[interactive,I.ok.kind]
def XY (te:TE):TS:=fun D σ H=>te σ H fun _ H1=>D.nx σ H1
theorem cC (he:PE X e te)(hs:swapsWith e none pos.line X.env=pure false:=by rfl):PS X (.Expr e pos) (XY te):=by
 intro pins s σ H D I h;exact wpAny_Expr_any (thn (he pins s σ H _ I h) fun v s1 ⟨x,H1,I1,r1,q1⟩=>⟨σ,H1,I1,q1⟩) I.quiet hs
def aBG (te:TE):TS:=fun D σ H=>te σ H D.rt
theorem aW (he:PE X e te):PS X (.Return (some e) pos) (aBG te):=by
 intro pins s σ H D I h;exact wpAny_Return_some (thn (he pins s σ H _ I h) fun v s1 ⟨x,H1,I1,r1,q1⟩=>⟨x,σ,H1,I1,r1,q1⟩)
def NS (c:TT)(t u:TS):TS:=fun D σ H=>c σ H fun b H1=>if b=true then t D σ H1 else u D σ H1
theorem bV {c:Expr}{a b:List Stmt}{tc:TT} (hc:PT X c tc) (ha:PSs X a t) (hb:PSs X b u):PS X (.If c a b pos) (NS tc t u):=by
 intro pins s σ H D I h;refine wpAny_If (thn (hc pins s σ H _ I h) fun d s1 ⟨H1,I1,q1⟩=> ?_);cases d with
 | true=>exact ha pins s1 σ H1 D I1 q1
 | false=>exact hb pins s1 σ H1 D I1 q1
def aA9:TS:=fun _ _ _=>False
theorem tU:PS X st aA9:=fun _ _ _ _ _ _ h=>h.elim
end
abbrev TG:=V->St->Hp->(St->Hp->Prop)->Prop
abbrev TGs:=List V->St->Hp->(St->Hp->Prop)->Prop
def PG (X:Cx)(target:Expr)(t:TG):Prop :=
 ∀(pins:List (Addr×Obj)) (s:Shared) (σ:St) (H:Hp) (v:V) (u:Value) (Q:St->Hp->Prop),Inv X pins σ H s->RelV v u->t v σ H Q →
  wpAny (model X.prog X.w) X.A (assign target X.env u) (fun _ s'=>∃σ' H',Inv X pins σ' H' s'/\Q σ' H') X.xe s
def PGs (X:Cx)(ts:List Expr)(t:TGs):Prop :=
 ∀(pins:List (Addr×Obj)) (s:Shared) (σ:St) (H:Hp) (vs:List V) (us:List Value) (Q:St->Hp->Prop),Inv X pins σ H s->Vals vs us->t vs σ H Q →
  wpAny (model X.prog X.w) X.A (assignInOrder ((assignEach ts X.env).map (·.2)) us) (fun _ s'=>∃σ' H',Inv X pins σ' H' s'/\Q σ' H') X.xe s
section
variable {X:Cx}{pos:Pos}
def cJ (i:Nat):TG:=fun v σ H Q=>Q (σ.set i (some v)) H
theorem aL {i:Nat}{x:Str} (hN:X.N.Nodup) (hi:X.N[i]? =some x) (hx:Loc X.env.scope x) (hf:X.fn x=true∨X.env.scope.names.lookup x=some .local:=by first|exact .inl rfl|exact .inr rfl|assumption):PG X (.Name x pos) (cJ i):=by
 intro pins s σ H v u Q I r h;exact wpAny_assign_Name (yK I hN hi hx r (fun s' I'=>⟨_,H,I',h⟩) hf)
def M0:TGs:=fun vs σ H Q=>vs=[]/\Q σ H
def wR (t:TG)(u:TGs):TGs:=fun vs σ H Q=>∃v r,vs=v::r/\t v σ H fun σ' H'=>u r σ' H' Q
theorem eK:PGs X [] M0:=by
 intro pins s σ H vs us Q I r h;obtain⟨e,h⟩:=h;subst e;cases r;exact assignInOrder_nil ⟨σ,H,I,h⟩
theorem bU {e:Expr}{es:List Expr}{t:TG}{u:TGs} (h1:PG X e t) (h2:PGs X es u)
  (hs:(assignEach (e::es) X.env).map (·.2)=assign e X.env::(assignEach es X.env).map (·.2):=by rfl):PGs X (e::es) (wR t u):=by
 intro pins s σ H vs us Q I r h;obtain⟨v,vr,e1,h⟩:=h;subst e1;cases r with
 | cons r rr =>
  rw[hs];refine assignInOrder_cons (thn (h1 pins s σ H _ _ _ I r h) fun _ s1 ⟨σ1,H1,I1,q1⟩=> ?_);exact h2 pins s1 σ1 H1 _ _ Q I1 rr q1
def HY (K:W.Frag)(n:Nat)(t:TGs):TG:=fun v σ H Q=>∃a xs,v= .ref a/\SqT K H a xs/\xs.length=n/\t xs σ H Q
theorem rJ {es:List Expr}{k:Nat}{t:TGs}{n:Nat} (hc:X.calm=true) (h:PGs X es t)
  (hn:(assignEach es X.env).length=n:=by rfl)(hst:(assignEach es X.env).findIdx? (·.1)=none:=by rfl):PG X (.Tuple es k pos) (HY X.K n t):=by
 intro pins s σ H v u Q I r hw;obtain⟨a,xs,e1,hq,hl,hw⟩:=hw;subst e1;cases r;obtain⟨its,rv,ht,hz⟩:=I.tuple hq;refine assign_Tuple_tuple (I.ok.hd hc) ht (by simp[hn,←hl,rv.length]) hst fun h' hx=> ?_;have I1:Inv X pins σ H { s with heap:=h' }:=I.kept (t':=s.toks) fun b o e=>hx b o (Nat.ne_of_lt (Heap.lt_size e)) e;exact h pins _ σ H xs _ Q I1 (by simpa using rv) hw
def NC (te:TE)(g:TG):TS:=fun D σ H=>te σ H fun x H1=>g x σ H1 D.nx
theorem aP {i:Nat}{x:Str}{e:Expr}{te:TE}{pos':Pos} (hN:X.N.Nodup) (hi:X.N[i]? =some x) (hx:Loc X.env.scope x) (he:PE X e te) (hs:swapsWith e (some (.Name x pos')) pos.line X.env=pure false:=by rfl) (hf:X.fn x=true∨X.env.scope.names.lookup x=some .local:=by first|exact .inl rfl|exact .inr rfl|assumption) :
  PS X (.Assign [.Name x pos'] e pos) (NC te (cJ i)):=by
 intro pins s σ H D I h;refine wpAny_Assign_Name (thn (he pins s σ H _ I h) fun v s1 ⟨y,H1,I1,r1,q1⟩=> ?_) hs;exact yK I1 hN hi hx r1 (fun s2 I2=>⟨_,H1,I2,q1⟩) hf
end
section
variable {X:Cx}{pos:Pos}
end
structure It where
 go:Nat->Hp->Prop
 yld:Nat->Hp->V->Hp->Prop
 stop:Nat->Hp->Prop
def gF (X:Cx)(pins:List (Addr×Obj))(H:Hp)(b:Addr):Prop :=
 H b=none/\b≠X.env.locals/\b∉X.fs/\(b∈X.ex∨X.s₀.heap.objs.size<=b)/\(∀x c,X.env.cells.lookup x=some c->c≠b)/\∀p∈X.pn++pins,p.1≠b
theorem Inv.fpOk {X:Cx}{pins:List (Addr×Obj)}{σ:St}{H H':Hp}{s:Shared}{b:Addr} (I:Inv X pins σ H s) (hb:s.heap.objs.size<=b) (hn:H' b=none):gF X pins H' b:=by
 refine⟨hn,Nat.ne_of_gt (Nat.lt_of_lt_of_le I.lt hb),I.nofs hb,.inr (Nat.le_trans I.sz hb),fun x c e z=> ?_,fun p hp z=> ?_⟩
 ·obtain⟨v,q⟩:=I.cell x c e;exact absurd (Nat.lt_of_lt_of_le q.lt (by rw[z];exact hb)) (Nat.lt_irrefl _)
 ·exact absurd (Nat.lt_of_lt_of_le (Heap.lt_size (I.pin p hp).1) (by rw[z];exact hb)) (Nat.lt_irrefl _)
structure vM (P:Program)(w:World)(K:W.Frag)(tg:Expr)(J:It)(fp:List Addr)(it:Addr)(tn:Nat->Heap->Prop):Prop where
 mem:it∈fp
 obj:∀i h,tn i h->∀b∈fp,∃o,h.get? b=some o/\∀v,o.data≠ .cell v
 keep:∀i h h',tn i h->(∀b∈fp,∀o,h.get? b=some o->h'.get? b=some o)->tn i h'
 item:∀(X:Cx),X.prog=P->X.w=w->X.K=K->X.calm=true->∀(i:Nat) (pins:List (Addr×Obj)) (s:Shared) (σ:St) (H:Hp) (E:Value->Shared->Prop),Inv X pins σ H s->(∀b∈fp,gF X pins H b)->tn i s.heap->J.go i H →
  wpAny (model P w) X.A (pyNext (.ref it)) (fun r s1=>∃u,r=some u ∧
   wpAny (model P w) X.A (letOwnedTupleGo tg (.ref it) u) (fun _ s2=>∃x H',Inv X pins σ H' s2/\RelV x u/\J.yld i H x H'/\tn (i+1) s2.heap/\∀b∈fp,H' b=none) E s1) E s
 done:∀(X:Cx),X.prog=P->X.w=w->X.K=K->X.calm=true->∀(i:Nat) (pins:List (Addr×Obj)) (s:Shared) (σ:St) (H:Hp) (E:Value->Shared->Prop),Inv X pins σ H s->(∀b∈fp,gF X pins H b)->tn i s.heap->J.stop i H →
  wpAny (model P w) X.A (pyNext (.ref it)) (fun r s1=>r=none/\Inv X pins σ H s1) E s
 self:∀(A:Around) (i:Nat) (s:Shared) (Q:Value->Shared->Prop) (E:Value->Shared->Prop),tn i s.heap->Q (.ref it) s->wpAny (model P w) A (pyIter (.ref it)) Q E s
abbrev TI:=St->Hp->(It->Hp->Prop)->Prop
def PIE (X:Cx)(pins:List (Addr×Obj))(σ:St)(tg:Expr)(R:It->Hp->Prop)(itv:Value)(s2:Shared):Prop :=
 ∃(it:Addr) (fp:List Addr) (tn:Nat->Heap->Prop) (J:It) (H':Hp),itv= .ref it/\Inv X pins σ H' s2/\vM X.prog X.w X.K tg J fp it tn/\tn 0 s2.heap/\(∀b∈fp,gF X pins H' b)/\R J H'
def PI (X:Cx)(tg iter:Expr)(wi:TI):Prop :=
 ∀(pins:List (Addr×Obj)) (s:Shared) (σ:St) (H:Hp) (R:It->Hp->Prop),Inv X pins σ H s->wi σ H R →
  wpAny (model X.prog X.w) X.A (eval iter X.env) (fun v s1=>wpAny (model X.prog X.w) X.A (pyIter v) (PIE X pins σ tg R) X.xe s1) X.xe s
theorem AT {M:Model}{A:Around}{E:Value->Shared->Prop}{s:Shared}{tg:Expr}{it:Addr}{u:Value}{o:Obj}{n:String}{vs:Array Value}{Q:Unit->Shared->Prop} (ho:s.heap.get? it=some o) (hc:o.cls= .type n) (hd:o.data= .fields vs)
  (hn:["enumerate","zip","dict_itemiterator","dict_reverseitemiterator","odict_iterator","itertools.zip_longest","itertools.pairwise"].contains n=false)(hQ:Q () s):wpAny M A (letOwnedTupleGo tg (.ref it) u) Q E s:=by
 unfold letOwnedTupleGo;cases tg<;>first
  | exact wpAny_pure hQ
  | (cases u<;>first
    | exact wpAny_pure hQ
    | (refine wpAny_bind (wpAny_load ho ?_);rw[hc,hd];show wpAny M A (if (["enumerate","zip","dict_itemiterator","dict_reverseitemiterator","odict_iterator","itertools.zip_longest","itertools.pairwise"].contains n&&vs[0]? ==some (rawInt _))=true then _ else _) Q E s;rw[if_neg (by intro h;rw[hn,Bool.false_and]at h;cases h)];exact wpAny_pure hQ))
def Itl (K:W.Frag)(a:Addr):It :=
 ⟨fun i H=>∃xs x,SqL K H a xs/\xs[i]? =some x,fun i H x H'=>H'=H/\∀xs,SqL K H a xs->xs[i]? =some x,fun i H=>∃xs,SqL K H a xs/\xs.length<=i⟩
def Itt (K:W.Frag)(a:Addr):It :=
 ⟨fun i H=>∃xs x,SqT K H a xs/\xs[i]? =some x,fun i H x H'=>H'=H/\∀xs,SqT K H a xs->xs[i]? =some x,fun i H=>∃xs,SqT K H a xs/\xs.length<=i⟩
def Itr (lo:Int)(n:Nat):It:=⟨fun i _=>i<n,fun i H x H'=>H'=H/\x= .int (lo+i),fun i _=>n<=i⟩
theorem RO {P:Program}{w:World}{K:W.Frag}{tg:Expr} (a it:Addr):vM P w K tg (Itl K a) [it] it (fun i h=>h.IsListIter it a i) where
 mem:=by simp
 obj:=fun i h st b hb=>by
  have e:b=it:=by simpa using hb
  subst e;obtain⟨o,e,c,d⟩:=st;exact⟨o,e,fun v z=>by rw[d]at z;cases z⟩
 keep:=fun i h h' st k=>st.at fun o e=>k it (by simp) o e
 item:=by
  intro X hP hw hK hc i pins s σ H E I hf st hg;subst hP hw hK;obtain⟨xs,x,hq,hx⟩:=hg;obtain⟨its,rv,p,hz⟩:=I.list hq;obtain⟨u,hu,ru⟩:=rv.get hx;obtain⟨f0,f1,f2,f3,f4,f5⟩:=hf it (by simp);refine wpAny_pyNext_list_item st p.isList (x:=u) (by simpa using hu) fun h' st' sb=> ?_;have I1:Inv X pins σ H { s with heap:=h' }:=I.turned (t':=s.toks) (fun b o hb e=>(sb.2 b hb).trans e) f0 f1 f3 f4 f5;obtain⟨o,e,c,d⟩:=id st';exact⟨u,rfl,AT (s:={ s with heap:=h' }) e c d (by decide) ⟨x,H,I1,ru,⟨rfl,fun ys hy=>by rw[I.list_inj hy hq];exact hx⟩,st',fun b hb=>(hf b hb).1⟩⟩
 done:=by
  intro X hP hw hK hc i pins s σ H E I hf st hg;subst hP hw hK;obtain⟨xs,hq,hx⟩:=hg;obtain⟨its,rv,p,hz⟩:=I.list hq;obtain⟨f0,f1,f2,f3,f4,f5⟩:=hf it (by simp);have hl:=rv.length;exact wpAny_pyNext_list_end (I.ok.hd hc) st p.isList (by simp;lia) fun h' eb=>⟨rfl,I.turned (t':=s.toks) (fun b o hb e=>eb b o hb e) f0 f1 f3 f4 f5⟩
 self:=fun _ _ _ _ _ st h=>wpAny_pyIter_listiter st h
theorem OV {P:Program}{w:World}{K:W.Frag}{tg:Expr} (a it:Addr):vM P w K tg (Itt K a) [it] it (fun i h=>h.IsTupleIter it a i) where
 mem:=by simp
 obj:=fun i h st b hb=>by
  have e:b=it:=by simpa using hb
  subst e;obtain⟨o,e,c,d⟩:=st;exact⟨o,e,fun v z=>by rw[d]at z;cases z⟩
 keep:=fun i h h' st k=>st.at fun o e=>k it (by simp) o e
 item:=by
  intro X hP hw hK hc i pins s σ H E I hf st hg;subst hP hw hK;obtain⟨xs,x,hq,hx⟩:=hg;obtain⟨its,rv,p,hz⟩:=I.tuple hq;obtain⟨u,hu,ru⟩:=rv.get hx;obtain⟨f0,f1,f2,f3,f4,f5⟩:=hf it (by simp);refine wpAny_pyNext_tuple_item st (show s.heap.IsTuple a its.toArray from p) (x:=u) (by simpa using hu) fun h' st' sb=> ?_;have I1:Inv X pins σ H { s with heap:=h' }:=I.turned (t':=s.toks) (fun b o hb e=>(sb.2 b hb).trans e) f0 f1 f3 f4 f5;obtain⟨o,e,c,d⟩:=id st';exact⟨u,rfl,AT (s:={ s with heap:=h' }) e c d (by decide) ⟨x,H,I1,ru,⟨rfl,fun ys hy=>by rw[I.tuple_inj hy hq];exact hx⟩,st',fun b hb=>(hf b hb).1⟩⟩
 done:=by
  intro X hP hw hK hc i pins s σ H E I hf st hg;subst hP hw hK;obtain⟨xs,hq,hx⟩:=hg;obtain⟨its,rv,p,hz⟩:=I.tuple hq;obtain⟨f0,f1,f2,f3,f4,f5⟩:=hf it (by simp);have hl:=rv.length;exact wpAny_pyNext_tuple_end (I.ok.hd hc) st (show s.heap.IsTuple a its.toArray from p) (by simp;lia) fun h' eb=>⟨rfl,I.turned (t':=s.toks) (fun b o hb e=>eb b o hb e) f0 f1 f3 f4 f5⟩
 self:=fun _ _ _ _ _ st h=>wpAny_pyIter_tupleiter st h
theorem O4 {P:Program}{w:World}{K:W.Frag}{tg:Expr} (it:Addr) (lo:Int) (n:Nat):vM P w K tg (Itr lo n) [it] it (fun i h=>IsRangeIter h it (lo+(i:Nat) * 1) ((n:Int) - (i:Nat)) 1) where
 mem:=by simp
 obj:=fun i h st b hb=>by
  have e:b=it:=by simpa using hb
  subst e;exact⟨_,st,fun v z=>by
   have z':Data.fields _=Data.cell v:=z;cases z'⟩
 keep:=fun i h h' st k=>k it (by simp) _ st
 item:=by
  intro X hP hw hK hc i pins s σ H E I hf st hg;subst hP hw hK;obtain⟨f0,f1,f2,f3,f4,f5⟩:=hf it (by simp);have W:=Walks.range (prog:=X.prog) (w:=X.w) (I.ok.hd hc) it lo 1 n;refine W.item i s _ _ hg st fun v h' tk hv st' kk=> ?_;obtain⟨t,rfl⟩:=hv;have I1:Inv X pins σ H { s with heap:=h',toks:=tk }:=I.turned (fun b o hb e=>kk b o (by simpa using hb) e) f0 f1 f3 f4 f5;refine⟨_,rfl,AT (s:={ s with heap:=h',toks:=tk }) (n:= "range_iterator") st' rfl rfl (by decide) ⟨.int (lo+i),H,I1,⟨t,?_⟩,⟨rfl,rfl⟩,st',fun b hb=>(hf b hb).1⟩⟩;rw[Int.mul_one]
 done:=by
  intro X hP hw hK hc i pins s σ H E I hf st hg;subst hP hw hK;obtain⟨f0,f1,f2,f3,f4,f5⟩:=hf it (by simp);exact wpAny_pyNext_range_end (I.ok.hd hc) st (by have:n<=i:=hg;lia) fun h' eb=>⟨rfl,I.turned (t':=s.toks) (fun b o hb e=>eb b o hb e) f0 f1 f3 f4 f5⟩
 self:=fun _ _ _ _ _ st h=>wpAny_pyIter_rangeiter st h
section
variable {X:Cx}{tg:Expr}
def W4 (K:W.Frag)(tl:TE):TI:=fun σ H R=>tl σ H fun x H1=>∃a,x= .ref a/\(∃xs,SqL K H1 a xs)/\R (Itl K a) H1
def aCl (K:W.Frag)(tl:TE):TI:=fun σ H R=>tl σ H fun x H1=>∃a,x= .ref a/\(∃xs,SqT K H1 a xs)/\R (Itt K a) H1
theorem bG {l:Expr}{tl:TE} (hl:PE X l tl):PI X tg l (W4 X.K tl):=by
 intro pins s σ H R I h;refine thn (hl pins s σ H _ I h) fun v s1 ⟨x,H1,I1,r1,q1⟩=> ?_;obtain⟨a,e,⟨xs,hq⟩,q⟩:=q1;subst e;cases r1;obtain⟨its,rv,p,hz⟩:=I1.list hq;refine wpAny_pyIter_list p.isList ?_;refine⟨s1.heap.objs.size,[s1.heap.objs.size],_,_,H1,rfl,I1.kept (t':=s1.toks) fun b o e=>Heap.get?_push_of_some _ e,RO a _,⟨_,Heap.get?_push_size _ rfl,rfl,rfl⟩,fun b hb=> ?_,q⟩;have e:b=s1.heap.objs.size:=by simpa using hb
 subst e;exact I1.fpOk (Nat.le_refl _) (I1.hok.fresh (Nat.le_refl _))
theorem aBZ {l:Expr}{tl:TE} (hl:PE X l tl):PI X tg l (aCl X.K tl):=by
 intro pins s σ H R I h;refine thn (hl pins s σ H _ I h) fun v s1 ⟨x,H1,I1,r1,q1⟩=> ?_;obtain⟨a,e,⟨xs,hq⟩,q⟩:=q1;subst e;cases r1;obtain⟨its,rv,p,hz⟩:=I1.tuple hq;refine wpAny_pyIter_tuple (show s1.heap.IsTuple a its.toArray from p) ?_;refine⟨s1.heap.objs.size,[s1.heap.objs.size],_,_,H1,rfl,I1.kept (t':=s1.toks) fun b o e=>Heap.get?_push_of_some _ e,OV a _,⟨_,Heap.get?_push_size _ rfl,rfl,rfl⟩,fun b hb=> ?_,q⟩;have e:b=s1.heap.objs.size:=by simpa using hb
 subst e;exact I1.fpOk (Nat.le_refl _) (I1.hok.fresh (Nat.le_refl _))
theorem JI {pins:List (Addr×Obj)}{σ:St}{H:Hp}{s:Shared}{R:It->Hp->Prop}{E:Value->Shared->Prop}{lo hi:Int}{t u v:Tok}{tk:Nat} (I:Inv X pins σ H s) (h1: -(2^62)<=lo) (h2:lo<2^62) (h3: -(2^62)<=hi) (h4:hi<2^62)
  (q:R (Itr lo (hi - lo).toNat) H):wpAny (model X.prog X.w) X.A (pyIter (.ref s.heap.objs.size)) (PIE X pins σ tg R) E { s with heap:=s.heap.push { cls:= .type "range",data:= .fields #[.int lo t,.int hi u,.int 1 v] },toks:=tk }:=by
 refine wpAny_pyIter_range (IsRange.new ..) (small_one h1 h2 h3 h4) ?_;have I1:Inv X pins σ H { s with heap:=s.heap.push { cls:= .type "range",data:= .fields #[.int lo t,.int hi u,.int 1 v] },toks:=tk }:=I.kept fun b o e=>Heap.get?_push_of_some _ e;refine⟨(s.heap.push { cls:= .type "range",data:= .fields #[.int lo t,.int hi u,.int 1 v] }).objs.size,[(s.heap.push { cls:= .type "range",data:= .fields #[.int lo t,.int hi u,.int 1 v] }).objs.size],_,_,H,rfl,
  I1.kept (t':=tk) fun b o e=>Heap.get?_push_of_some _ e,O4 _ lo (hi - lo).toNat,?_,fun b hb=> ?_,q⟩
 ·have e1:lo+((0:Nat):Int) * 1=lo:=by simp
  have e2:(((hi - lo).toNat:Nat):Int) - ((0:Nat):Int)=Builtin.Range.rangeSize lo hi 1:=by rw[rangeSize_one];split<;>lia
  show IsRangeIter _ _ (lo+((0:Nat):Int) * 1) ((((hi - lo).toNat:Nat):Int) - ((0:Nat):Int)) 1;rw[e1,e2];exact Heap.get?_push_size _ rfl
 ·have e:b=(s.heap.push { cls:= .type "range",data:= .fields #[.int lo t,.int hi u,.int 1 v] }).objs.size:=by simpa using hb
  subst e;exact I1.fpOk (Nat.le_refl _) (I1.hok.fresh (Nat.le_refl _))
def XS (ta:TA):TI:=fun σ H R=>ta σ H fun vs H1=>∃j:Int,vs=[.int j]/\ -(2^62)<=j/\j<2^62/\R (Itr 0 j.toNat) H1
def XC (ta:TA):TI:=fun σ H R=>ta σ H fun vs H1=>∃i j:Int,vs=[.int i,.int j]/\(-(2^62)<=i/\i<2^62/\ -(2^62)<=j/\j<2^62)/\R (Itr i (j - i).toNat) H1
theorem QQ {a:Expr}{ta:TA}{p pos:Pos} (hg:Gl X "range") (hm:X.mg "range" =none) (ha:PA X [a] ta) (hs:starEach [a] X.env=[(false,eval a X.env)]:=by rfl):PI X tg (.Call (.Name "range" p) [a] [] pos) (XS ta):=by
 intro pins s σ H R I h;refine Call_ (rZ I hg hm boot_range (PyProof.Rows.callWith_type1 (thn (ha pos pins s σ H _ I h) fun us s1 ⟨vs,H1,I1,r1,q1⟩=> ?_) hs rfl));obtain⟨j,e,q1,q2,q⟩:=q1;subst e;cases r1 with
 | cons r rr =>
  cases rr;obtain⟨t,rfl⟩:=r;exact call_range_1 (JI I1 (by lia) (by lia) q1 q2 (by simpa using q))
theorem Q7 {a b:Expr}{ta:TA}{p pos:Pos} (hg:Gl X "range") (hm:X.mg "range" =none) (ha:PA X [a,b] ta) (hs:starEach [a,b] X.env=[(false,eval a X.env),(false,eval b X.env)]:=by rfl) (hs2:starEach [b] X.env=[(false,eval b X.env)]:=by rfl) :
  PI X tg (.Call (.Name "range" p) [a,b] [] pos) (XC ta):=by
 intro pins s σ H R I h;refine Call_ (rZ I hg hm boot_range (PyProof.Rows.callWith_type1 (thn (ha pos pins s σ H _ I h) fun us s1 ⟨vs,H1,I1,r1,q1⟩=> ?_) (by rw[hs,hs2]) (by rw[hs2];rfl)));obtain⟨i,j,e,⟨q1,q2,q3,q4⟩,q⟩:=q1;subst e;cases r1 with
 | cons r rr =>
  cases rr with
  | cons r' rr =>
   cases rr;obtain⟨t,rfl⟩:=r;obtain⟨t',rfl⟩:=r';exact call_range_2 (JI I1 q1 q2 q3 q4 q)
def aBN (wi:TI)(g:TG)(tb:TS):TS:=fun D σ H=>wi σ H fun J H1=>∃W:Nat->Nat->St->Hp->Prop,(∃m,W 0 m σ H1)/\∀i m σ H,W i m σ H →
 (J.stop i H/\D.nx σ H)∨(J.go i H/\∃N:St->Hp->Prop,(∀σ' H',N σ' H'->∃m',m'<m/\W (i+1) m' σ' H')/\∀x H',J.yld i H x H'->g x σ H' fun σ2 H2=>tb { D with nx:=N,ct:=N,bk:=D.nx } σ2 H2)
def fI (fp:List Addr)(h:Heap):List (Addr×Obj):=fp.filterMap fun b=>(h.get? b).map fun o=>(b,o)
theorem dU {fp:List Addr}{h:Heap}{b:Addr}{o:Obj} (hb:b∈fp) (e:h.get? b=some o):(b,o)∈fI fp h:=List.mem_filterMap.mpr ⟨b,hb,by rw[e];rfl⟩
theorem vF {fp:List Addr}{h:Heap}{p:Addr×Obj} (hp:p∈fI fp h):p.1∈fp/\h.get? p.1=some p.2:=by
 obtain⟨b,hb,e⟩:=List.mem_filterMap.mp hp;cases q:h.get? b with
 | none=>rw[q]at e;cases e
 | some o =>
  rw[q]at e;have e':(b,o)=p:=Option.some.inj e;subst e';exact⟨hb,q⟩
theorem Inv.pinned {pins:List (Addr×Obj)}{σ:St}{H:Hp}{s:Shared}{fp:List Addr} (I:Inv X pins σ H s) (hf:∀b∈fp,gF X pins H b) (ho:∀b∈fp,∃o,s.heap.get? b=some o/\∀v,o.data≠ .cell v):Inv X (pins++fI fp s.heap) σ H s :=
 I.pins_of fun p hp=>(List.mem_append.mp hp).elim (fun z=>I.pin p (List.mem_append_right _ z)) fun z=>by
  obtain⟨hb,e⟩:=vF z;obtain⟨f0,f1,f2,_⟩:=hf p.1 hb;obtain⟨o,e',d⟩:=ho p.1 hb;rw[e]at e';cases e';exact⟨e,f0,f1,f2,d⟩
theorem Inv.unpinned {pins pl:List (Addr×Obj)}{σ:St}{H:Hp}{s:Shared} (I:Inv X (pins++pl) σ H s):Inv X pins σ H s:=I.pins_of fun p hp=>I.pin p (List.mem_append_right _ (List.mem_append_left _ hp))
theorem cU {iter:Expr}{body:List Stmt}{wi:TI}{g:TG}{tb:TS}{pos:Pos} (hp:PassesOwn (model X.prog X.w) X.A X.env X.xe) (hc:X.calm=true) (hi:PI X tg iter wi) (hg:PG X tg g) (hb:PSs X body tb)
  (hs:∀x,foldedSetIterable iter X.env x=pure x:=by intro _;rfl):PS X (.For tg iter body [] pos) (aBN wi g tb):=by
 intro pins s σ H D I h;refine wpAny_For (thn (hi pins s σ H _ I h) fun v s1 h1=>thn h1 fun itv s2 h2=> ?_) hs;obtain⟨it,fp,tn,J,H2,e,I2,T,st2,f2,W,⟨m0,w0⟩,turn⟩:=h2;subst e;have stat:∀{H':Hp},(∀b∈fp,H' b=none)->∀b∈fp,gF X pins H' b:=fun hn b hb=>⟨hn b hb,(f2 b hb).2⟩
 refine codeAny_forLoop_any (fun n s'=>∃i σ' H',Inv X pins σ' H' s'/\tn i s'.heap/\(∀b∈fp,H' b=none)/\W i n σ' H') ?_ m0 ⟨0,σ,H2,I2,st2,fun b hb=>(f2 b hb).1,w0⟩;rintro n s3 ⟨i,σ3,H3,I3,st3,fr3,w3⟩;rcases turn i n σ3 H3 w3 with⟨stop,qn⟩|⟨go,N,hN,step⟩
 ·refine wpAny_passesOwn hp (thn (T.done X rfl rfl rfl hc i pins s3 σ3 H3 X.xe I3 (stat fr3) st3 stop) fun r s4 ⟨hr,I4⟩=> ?_);subst hr;exact wpAny_execs_nil ⟨σ3,H3,I4,qn⟩
 ·refine wpAny_passesOwn hp (thn (T.item X rfl rfl rfl hc i pins s3 σ3 H3 X.xe I3 (stat fr3) st3 go) fun r s4 ⟨u,hr,h4⟩=> ?_);subst hr;refine wpAny_passesOwn hp (thn h4 fun _ s5 ⟨x,H5,I5,r5,y5,st5,fr5⟩=> ?_);have I5':=I5.pinned (stat fr5) (T.obj _ _ st5);refine wpAny_passesOwn hp (thn (hg _ s5 σ3 H5 x u _ I5' r5 (step x H5 y5)) fun _ s6 ⟨σ6,H6,I6,q6⟩=> ?_);refine wpAny_passesOwn hp (thn (hb _ s6 σ6 H6 _ I6 q6) fun f s7 q7=> ?_);have again:∀{σ7:St}{H7:Hp},Inv X (pins++fI fp s5.heap) σ7 H7 s7->N σ7 H7->∃m,m<n/\∃i σ' H',Inv X pins σ' H' s7/\tn i s7.heap/\(∀b∈fp,H' b=none)/\W i m σ' H':=fun {σ7 H7} I7 n7=>by
   obtain⟨m',hm,w7⟩:=hN σ7 H7 n7;refine⟨m',hm,i+1,σ7,H7,I7.unpinned,T.keep _ _ _ st5 fun b hb o e=>(I7.pin (b,o) (List.mem_append_right _ (List.mem_append_right _ (dU hb e)))).1,fun b hb=> ?_,w7⟩;obtain⟨o,e,d⟩:=T.obj _ _ st5 b hb;exact(I7.pin (b,o) (List.mem_append_right _ (List.mem_append_right _ (dU hb e)))).2.1
  cases f with
  | next=>obtain⟨σ7,H7,I7,n7⟩:=q7;exact again I7 n7
  | cont=>obtain⟨σ7,H7,I7,n7⟩:=q7;exact again I7 n7
  | brk=>obtain⟨σ7,H7,I7,q7⟩:=q7;exact⟨σ7,H7,I7.unpinned,q7⟩
  | ret v=>obtain⟨x7,σ7,H7,I7,r7,q7⟩:=q7;exact⟨x7,σ7,H7,I7.unpinned,r7,q7⟩
end
theorem WP {K:W.Frag}{a:Addr}{xs:List V}{g:TG}{tb:TS}{D:fM}{σ:St}{H:Hp} (Pv:Nat->St->Hp->Prop) (h0:Pv 0 σ H) (hl:∀i σ H,i<=xs.length->Pv i σ H->SqL K H a xs)
  (hs:∀i x σ H,xs[i]? =some x->Pv i σ H->g x σ H fun σ2 H2=>tb { D with nx:=Pv (i+1),ct:=Pv (i+1),bk:=D.nx } σ2 H2)(hd:∀σ H,Pv xs.length σ H->D.nx σ H) :
  ∃W:Nat->Nat->St->Hp->Prop,(∃m,W 0 m σ H)/\∀i m σ H,W i m σ H →
   ((Itl K a).stop i H/\D.nx σ H)∨((Itl K a).go i H/\∃N:St->Hp->Prop,(∀σ' H',N σ' H'->∃m',m'<m/\W (i+1) m' σ' H')/\∀x H',(Itl K a).yld i H x H'->g x σ H' fun σ2 H2=>tb { D with nx:=N,ct:=N,bk:=D.nx } σ2 H2):=by
 refine⟨fun i m σ H=>m=xs.length - i/\i<=xs.length/\Pv i σ H,⟨xs.length,by simp,Nat.zero_le _,h0⟩,?_⟩;rintro i m σ H ⟨rfl,hi,p⟩;have q:=hl i σ H hi p
 by_cases hlt:i<xs.length
 ·refine .inr ⟨⟨xs,xs[i],q,by simp[hlt]⟩,Pv (i+1),fun σ' H' p'=>⟨xs.length - (i+1),by lia,rfl,hlt,p'⟩,fun x H' y=> ?_⟩;obtain⟨e,y⟩:=y;subst e;exact hs i x σ _ (y xs q) p
 ·have e:i=xs.length:=by lia
  subst e;exact .inl ⟨⟨xs,q,Nat.le_refl _⟩,hd σ H p⟩
theorem Q9 {lo:Int}{n:Nat}{g:TG}{tb:TS}{D:fM}{σ:St}{H:Hp} (Pv:Nat->St->Hp->Prop) (h0:Pv 0 σ H)
  (hs:∀i σ H,i<n->Pv i σ H->g (.int (lo+i)) σ H fun σ2 H2=>tb { D with nx:=Pv (i+1),ct:=Pv (i+1),bk:=D.nx } σ2 H2)(hd:∀σ H,Pv n σ H->D.nx σ H) :
  ∃W:Nat->Nat->St->Hp->Prop,(∃m,W 0 m σ H)/\∀i m σ H,W i m σ H →
   ((Itr lo n).stop i H/\D.nx σ H)∨((Itr lo n).go i H/\∃N:St->Hp->Prop,(∀σ' H',N σ' H'->∃m',m'<m/\W (i+1) m' σ' H')/\∀x H',(Itr lo n).yld i H x H'->g x σ H' fun σ2 H2=>tb { D with nx:=N,ct:=N,bk:=D.nx } σ2 H2):=by
 refine⟨fun i m σ H=>m=n - i/\i<=n/\Pv i σ H,⟨n,by simp,Nat.zero_le _,h0⟩,?_⟩;rintro i m σ H ⟨rfl,hi,p⟩
 by_cases hlt:i<n
 ·refine .inr ⟨hlt,Pv (i+1),fun σ' H' p'=>⟨n - (i+1),by lia,rfl,hlt,p'⟩,fun x H' y=> ?_⟩;obtain⟨e,y⟩:=y;subst e y;exact hs i σ _ hlt p
 ·have e:i=n:=by lia
  subst e;exact .inl ⟨Nat.le_refl _,hd σ H p⟩
abbrev R2:=V->V->Hp->VK->Prop
def OpR (X:Cx)(f:Value->Value->Sem Value)(r:R2):Prop :=
 ∀(pins:List (Addr×Obj)) (s:Shared) (σ:St) (H:Hp) (x y:V) (v u:Value) (Q:VK),Inv X pins σ H s->RelV x v->RelV y u->r x y H Q →
  wpAny (model X.prog X.w) X.A (f v u) (EP X pins σ Q) X.xe s
def UnR (X:Cx)(f:Value->Sem Value)(r:V->Hp->VK->Prop):Prop :=
 ∀(pins:List (Addr×Obj)) (s:Shared) (σ:St) (H:Hp) (x:V) (v:Value) (Q:VK),Inv X pins σ H s->RelV x v->r x H Q →
  wpAny (model X.prog X.w) X.A (f v) (EP X pins σ Q) X.xe s
def cS (X:Cx)(f:Value)(r:List V->Hp->VK->Prop):Prop :=
 ∀(pins:List (Addr×Obj)) (s:Shared) (σ:St) (H:Hp) (xs:List V) (us:List Value) (Q:VK),Inv X pins σ H s->Vals xs us->r xs H Q →
  wpAny (model X.prog X.w) X.A (call f us) (EP X pins σ Q) X.xe s
def tOp (r:R2)(ta tb:TE):TE:=fun σ H Q=>ta σ H fun x H1=>tb σ H1 fun y H2=>r x y H2 Q
def tUn (r:V->Hp->VK->Prop)(ta:TE):TE:=fun σ H Q=>ta σ H fun x H1=>r x H1 Q
def rI (C:Int->Int->Prop)(g:Int->Int->V):R2:=fun x y H Q=>∃i j,x= .int i/\y= .int j/\C i j/\Q (g i j) H
def rI0 (g:Int->Int->V):R2:=fun x y H Q=>∃i j,x= .int i/\y= .int j/\Q (g i j) H
def rU (g:Int->V):V->Hp->VK->Prop:=fun x H Q=>∃i,x= .int i/\Q (g i) H
section
variable {X:Cx}{a b c:Expr}{ta tb tc:TE}{pos:Pos}
theorem U9 (ha:PE X a ta)(hb:PE X b tb){pins:List (Addr×Obj)}{s:Shared}{σ:St}{H:Hp}{R:V->V->Hp->Prop} (I:Inv X pins σ H s)
  (h:ta σ H fun x H1=>tb σ H1 fun y H2=>R x y H2){Q:Value->Shared->Prop}{f:Value->Value->Sem Value}
  (hf:∀v u s2 x y H2,Inv X pins σ H2 s2->RelV x v->RelV y u->R x y H2->wpAny (model X.prog X.w) X.A (f v u) Q X.xe s2) :
  wpAny (model X.prog X.w) X.A (eval a X.env) (fun v s₁=>wpAny (model X.prog X.w) X.A (eval b X.env) (fun u s₂=>wpAny (model X.prog X.w) X.A (f v u) Q X.xe s₂) X.xe s₁) X.xe s:=by
 refine thn (ha pins s σ H _ I h) fun v s1 ⟨x,H1,I1,r1,q1⟩=> ?_;refine thn (hb pins s1 σ H1 _ I1 q1) fun u s2 ⟨y,H2,I2,r2,q2⟩=> ?_;exact hf v u s2 x y H2 I2 r1 r2 q2
theorem aQ {op:Operator}{r:R2} (ho:OpR X (binaryOp op) r) (ha:PE X a ta) (hb:PE X b tb):PE X (.BinOp a op b pos) (tOp r ta tb):=by
 intro pins s σ H Q I h;exact wpAny_BinOp (U9 ha hb I h fun v u s2 x y H2 I2 rx ry q=>ho pins s2 σ H2 x y v u Q I2 rx ry q)
theorem N4 {op:UnaryOp}{r:V->Hp->VK->Prop} (ho:UnR X (unaryOp op) r) (ha:PE X a ta):PE X (.UnaryOp op a pos) (tUn r ta):=by
 intro pins s σ H Q I h;exact UnaryOp_ (thn (ha pins s σ H _ I h) fun v s1 ⟨x,H1,I1,r1,q1⟩=>ho pins s1 σ H1 x v Q I1 r1 q1)
theorem opI {f:Value->Value->Sem Value}{C:Int->Int->Prop}{g:Int->Int->Int}
  (rule:∀(i j:Int) (t u:Tok) (s:Shared) (Q:Value->Shared->Prop) (E:Value->Shared->Prop),C i j->Q (.int (g i j) s.toks) { s with toks:=s.toks+1 }->wpAny (model X.prog X.w) X.A (f (.int i t) (.int j u)) Q E s) :
  OpR X f (rI C fun i j=> .int (g i j)):=by
 intro pins s σ H x y v u Q I rx ry h;obtain⟨i,j,rfl,rfl,hc,q⟩:=h;obtain⟨t,rfl⟩:=rx;obtain⟨t',rfl⟩:=ry;exact rule i j t t' s _ _ hc ⟨.int (g i j),H,I.tok _,⟨_,rfl⟩,q⟩
theorem aBM {f:Value->Value->Sem Value}{g:Int->Int->Int}
  (rule:∀(i j:Int) (t u:Tok) (s:Shared) (Q:Value->Shared->Prop) (E:Value->Shared->Prop),Q (.int (g i j) s.toks) { s with toks:=s.toks+1 }->wpAny (model X.prog X.w) X.A (f (.int i t) (.int j u)) Q E s) :
  OpR X f (rI0 fun i j=> .int (g i j)):=by
 intro pins s σ H x y v u Q I rx ry h;obtain⟨i,j,rfl,rfl,q⟩:=h;obtain⟨t,rfl⟩:=rx;obtain⟨t',rfl⟩:=ry;exact rule i j t t' s _ _ ⟨.int (g i j),H,I.tok _,⟨_,rfl⟩,q⟩
theorem N8 {f:Value->Value->Sem Value}{g:Int->Int->Bool}
  (rule:∀(i j:Int) (t u:Tok) (s:Shared) (Q:Value->Shared->Prop) (E:Value->Shared->Prop),Q (.bool (g i j)) s->wpAny (model X.prog X.w) X.A (f (.int i t) (.int j u)) Q E s) :
  OpR X f (rI0 fun i j=> .bl (g i j)):=by
 intro pins s σ H x y v u Q I rx ry h;obtain⟨i,j,rfl,rfl,q⟩:=h;obtain⟨t,rfl⟩:=rx;obtain⟨t',rfl⟩:=ry;exact rule i j t t' s _ _ ⟨.bl (g i j),H,I,rfl,q⟩
def aBz (i j:Int):Prop:=0<j/\j<1073741824
def CMul (i j:Int):Prop:=(-(2^64)<i/\i<2^64)∨(-(2^64)<j/\j<2^64)
theorem CMul.ok {i j:Int}(h:CMul i j):IntMulOk i j:=by
 rcases h with⟨h1,h2⟩|⟨h1,h2⟩
 ·exact .of_left (intBits_le_64 h1 h2)
 ·exact .of_right (intBits_le_64 h1 h2)
theorem cG:OpR X (binaryOp .Add) (rI0 fun i j=> .int (i+j)):=aBM fun _ _ _ _ _ _ _ q=>add_int q
theorem vK:OpR X (binaryOp .Sub) (rI0 fun i j=> .int (i - j)):=aBM fun _ _ _ _ _ _ _ q=>sub_int q
theorem vI:OpR X (binaryOp .Mult) (rI CMul fun i j=> .int (i * j)):=opI fun _ _ _ _ _ _ _ hc q=>mul_int q hc.ok
theorem r6:OpR X (binaryOp .FloorDiv) (rI aBz fun i j=> .int (i/j)):=opI fun i j _ _ _ _ _ hc q=>by
 have h1:(0:Int)<j:=hc.1;have h2:j<1073741824:=hc.2;exact floordiv_int (by lia) (by rw[Int.fdiv_eq_ediv_of_nonneg i (by lia)];exact q) (.inl (PyProof.noPylong_small (by lia)))
theorem cQ:OpR X (binaryOp .Mod) (rI (fun _ j=>0<j) fun i j=> .int (i%j)):=opI fun i j _ _ _ _ _ hc q=>by
 have h1:(0:Int)<j:=hc;exact mod_int' (by lia) (by rw[Int.fmod_eq_emod_of_nonneg i (by lia)];exact q)
theorem unI {f:Value->Sem Value}{g:Int->Int}
  (rule:∀(i:Int) (t:Tok) (s:Shared) (Q:Value->Shared->Prop) (E:Value->Shared->Prop),Q (.int (g i) s.toks) { s with toks:=s.toks+1 }->wpAny (model X.prog X.w) X.A (f (.int i t)) Q E s) :
  UnR X f (rU fun i=> .int (g i)):=by
 intro pins s σ H x v Q I rx h;obtain⟨i,rfl,q⟩:=h;obtain⟨t,rfl⟩:=rx;exact rule i t s _ _ ⟨.int (g i),H,I.tok _,⟨_,rfl⟩,q⟩
theorem GS:UnR X (unaryOp .USub) (rU fun i=> .int (-i)):=unI fun _ _ _ _ _ q=>neg_int q
end
def aBR:V->V->Bool
 | .non,.non=>true| .non,.int _=>true| .int _,.non=>true| .non,.bl _=>true| .bl _,.non=>true| .non,.str _=>true| .str _,.non=>true
 | .int _,.int _=>true| .bl _,.bl _=>true| .str _,.str _=>true| .byt _,.byt _=>true
 | .int _,.str _=>true| .str _,.int _=>true| .bl _,.str _=>true| .str _,.bl _=>true
 | _,_=>false
def rEq:R2:=fun x y H Q=>aBR x y=true/\Q (.bl (decide (x=y))) H
def rNe:R2:=fun x y H Q=>aBR x y=true/\Q (.bl (!decide (x=y))) H
theorem LO {i j:Int}:decide (V.int i=V.int j)=(i==j):=by
 rw[Bool.eq_iff_iff];simp
theorem SV {i j:Bool}:decide (V.bl i=V.bl j)=(i==j):=by
 rw[Bool.eq_iff_iff];simp
theorem LB {i j:Str}:decide (V.str i=V.str j)=(i==j):=by
 rw[Bool.eq_iff_iff];simp
theorem K0 {i j:Array UInt8}:decide (V.byt i=V.byt j)=(i.toList==j.toList):=by
 rw[Bool.eq_iff_iff];cases i;cases j;simp
section
variable {X:Cx}{a b c:Expr}{ta tb tc:TE}{pos:Pos}
theorem bW {pins:List (Addr×Obj)}{σ:St}{H:Hp}{s:Shared}{Q:VK}{k k':Bool} (I:Inv X pins σ H s) (q:Q (.bl k) H) (e:k=k'):EP X pins σ Q (.bool k') s:=by
 subst e;exact⟨.bl k,H,I,rfl,q⟩
theorem j6:OpR X (compareOp .Eq) rEq:=by
 intro pins s σ H x y v u Q I rx ry h;obtain⟨hs,q⟩:=h;cases x with
 | non =>
  cases rx;cases y with
  | non=>cases ry;exact PySem.EqNone.eq_none_none (bW I q (by simp))
  | bl j=>cases ry;exact PySem.EqNone.eq_none_bool (bW I q (by simp))
  | int j=>obtain⟨t',rfl⟩:=ry;exact PySem.EqNone.eq_none_int (bW I q (by simp))
  | str j=>obtain⟨t',rfl⟩:=ry;exact PySem.EqNone.eq_none_str (bW I q (by simp))
  | _=>exact absurd (show false=true from hs) Bool.false_ne_true
 | bl i =>
  cases rx;cases y with
  | non=>cases ry;exact PySem.EqNone.eq_bool_none (bW I q (by simp))
  | bl j=>cases ry;exact eq_bool (bW I q SV)
  | str j=>obtain⟨t',rfl⟩:=ry;exact PySem.EqMixed.eq_bool_str (bW I q (by simp))
  | _=>exact absurd (show false=true from hs) Bool.false_ne_true
 | int i =>
  obtain⟨t,rfl⟩:=rx;cases y with
  | non=>cases ry;exact PySem.EqNone.eq_int_none (bW I q (by simp))
  | int j=>obtain⟨t',rfl⟩:=ry;exact eq_int (bW I q LO)
  | str j=>obtain⟨t',rfl⟩:=ry;exact PySem.EqMixed.eq_int_str (bW I q (by simp))
  | _=>exact absurd (show false=true from hs) Bool.false_ne_true
 | str i =>
  obtain⟨t,rfl⟩:=rx;cases y with
  | non=>cases ry;exact PySem.EqNone.eq_str_none (bW I q (by simp))
  | bl j=>cases ry;exact PySem.EqMixed.eq_str_bool (bW I q (by simp))
  | int j=>obtain⟨t',rfl⟩:=ry;exact PySem.EqMixed.eq_str_int (bW I q (by simp))
  | str j=>obtain⟨t',rfl⟩:=ry;exact eq_str (bW I q LB)
  | _=>exact absurd (show false=true from hs) Bool.false_ne_true
 | byt i =>
  obtain⟨t,rfl⟩:=rx;cases y with
  | byt j=>obtain⟨t',rfl⟩:=ry;exact W.eq_bytes (bW I q K0)
  | _=>exact absurd (show false=true from hs) Bool.false_ne_true
 | _=>cases y<;>exact absurd (show false=true from hs) Bool.false_ne_true
theorem NK:OpR X (compareOp .NotEq) rNe:=by
 intro pins s σ H x y v u Q I rx ry h;obtain⟨hs,q⟩:=h;cases x with
 | non =>
  cases rx;cases y with
  | non=>cases ry;exact PySem.EqNone.ne_none_none (bW I q (by simp))
  | bl j=>cases ry;exact PySem.EqNone.ne_none_bool (bW I q (by simp))
  | int j=>obtain⟨t',rfl⟩:=ry;exact PySem.EqNone.ne_none_int (bW I q (by simp))
  | str j=>obtain⟨t',rfl⟩:=ry;exact PySem.EqNone.ne_none_str (bW I q (by simp))
  | _=>exact absurd (show false=true from hs) Bool.false_ne_true
 | bl i =>
  cases rx;cases y with
  | non=>cases ry;exact PySem.EqNone.ne_bool_none (bW I q (by simp))
  | bl j=>cases ry;exact ne_bool (bW I q (congrArg not SV))
  | str j=>obtain⟨t',rfl⟩:=ry;exact PySem.EqMixed.ne_bool_str (bW I q (by simp))
  | _=>exact absurd (show false=true from hs) Bool.false_ne_true
 | int i =>
  obtain⟨t,rfl⟩:=rx;cases y with
  | non=>cases ry;exact PySem.EqNone.ne_int_none (bW I q (by simp))
  | int j=>obtain⟨t',rfl⟩:=ry;exact ne_int (bW I q (congrArg not LO))
  | str j=>obtain⟨t',rfl⟩:=ry;exact PySem.EqMixed.ne_int_str (bW I q (by simp))
  | _=>exact absurd (show false=true from hs) Bool.false_ne_true
 | str i =>
  obtain⟨t,rfl⟩:=rx;cases y with
  | non=>cases ry;exact PySem.EqNone.ne_str_none (bW I q (by simp))
  | bl j=>cases ry;exact PySem.EqMixed.ne_str_bool (bW I q (by simp))
  | int j=>obtain⟨t',rfl⟩:=ry;exact PySem.EqMixed.ne_str_int (bW I q (by simp))
  | str j=>obtain⟨t',rfl⟩:=ry;exact ne_str (bW I q (congrArg not LB))
  | _=>exact absurd (show false=true from hs) Bool.false_ne_true
 | byt i =>
  obtain⟨t,rfl⟩:=rx;cases y with
  | byt j=>obtain⟨t',rfl⟩:=ry;exact W.ne_bytes (bW I q (congrArg not K0))
  | _=>exact absurd (show false=true from hs) Bool.false_ne_true
 | _=>cases y<;>exact absurd (show false=true from hs) Bool.false_ne_true
theorem iK:OpR X (compareOp .Lt) (rI0 fun i j=> .bl (decide (i<j))):=N8 fun _ _ _ _ _ _ _ q=>lt_int q
theorem MB:OpR X (compareOp .LtE) (rI0 fun i j=> .bl (decide (i<=j))):=N8 fun _ _ _ _ _ _ _ q=>le_int q
theorem qG:OpR X (compareOp .Gt) (rI0 fun i j=> .bl (decide (j<i))):=N8 fun _ _ _ _ _ _ _ q=>gt_int q
theorem W6:OpR X (compareOp .GtE) (rI0 fun i j=> .bl (decide (j<=i))):=N8 fun _ _ _ _ _ _ _ q=>ge_int q
theorem aBi:OpR X (compareOp .Is) (fun x y H Q=>y= .non/\Q (.bl (decide (x= .non))) H):=by
 intro pins s σ H x y v u Q I rx ry h;obtain⟨rfl,q⟩:=h;cases ry;refine is_none_gen (bW I q ?_);cases x<;>first
  | (cases rx;rfl)
  | (obtain⟨t,rfl⟩:=rx;rfl)
theorem Y1:OpR X (compareOp .IsNot) (fun x y H Q=>y= .non/\Q (.bl (!decide (x= .non))) H):=by
 intro pins s σ H x y v u Q I rx ry h;obtain⟨rfl,q⟩:=h;cases ry;refine isnot_none_gen (bW I q ?_);cases x<;>first
  | (cases rx;rfl)
  | (obtain⟨t,rfl⟩:=rx;rfl)
theorem bL (b:Expr){op:CmpOp}(h:op≠ .In:=by decide)(h2:op≠ .NotIn:=by decide):behindInMarks op b=false:=by
 have e1:(op==CmpOp.In)=false:=by cases op<;>first|rfl|exact absurd rfl h
 have e2:(op==CmpOp.NotIn)=false:=by cases op<;>first|rfl|exact absurd rfl h2
 cases b<;>simp[behindInMarks,e1,e2]
theorem rV {op:CmpOp}{r:R2} (ho:OpR X (compareOp op) r) (ha:PE X a ta) (hb:PE X b tb) (hm:behindInMarks op b=false):PE X (.Compare a [op] [b] pos) (tOp r ta tb):=by
 intro pins s σ H Q I h;exact wpAny_Compare1 (U9 ha hb I h fun v u s2 x y H2 I2 rx ry q=>ho pins s2 σ H2 x y v u Q I2 rx ry q) hm
def O9 (t:TE):TT:=fun σ H Q=>t σ H fun x H'=>∃k,x= .bl k/\Q k H'
theorem aV {op:CmpOp}{r:R2} (ho:OpR X (compareOp op) r) (ha:PE X a ta) (hb:PE X b tb) (hm:behindInMarks op b=false):PT X (.Compare a [op] [b] pos) (O9 (tOp r ta tb)):=by
 intro pins s σ H Q I h;refine wpAny_isTrue_Compare1 (thn (ha pins s σ H _ I h) fun v s1 ⟨x,H1,I1,r1,q1⟩=>thn (hb pins s1 σ H1 _ I1 q1) fun u s2 ⟨y,H2,I2,r2,q2⟩ =>
  thn (ho pins s2 σ H2 x y v u _ I2 r1 r2 q2) fun c s3 ⟨z,H3,I3,r3,k,e,q3⟩=> ?_) hm
 subst e;cases r3;exact wpAny_truthy_bool ⟨H3,I3,q3⟩
def IA (r r':R2)(ta tb tc:TE):TE:=fun σ H Q=>ta σ H fun x H1=>tb σ H1 fun y H2=>r x y H2 fun z H3=>∃k,z= .bl k ∧
 (if k=true then tc σ H3 fun w' H4=>r' y w' H4 Q else Q (.bl false) H3)
theorem JH {op op':CmpOp}{r r':R2} (ho:OpR X (compareOp op) r) (ho':OpR X (compareOp op') r') (ha:PE X a ta) (hb:PE X b tb) (hc:PE X c tc)
  (hm:lastMarks [op,op'] [b,c]=false:=by with_unfolding_all rfl):PE X (.Compare a [op,op'] [b,c] pos) (IA r r' ta tb tc):=by
 intro pins s σ H Q I h;refine Compare_chain (thn (ha pins s σ H _ I h) fun v s1 ⟨x,H1,I1,r1,q1⟩=>chain_link (thn (hb pins s1 σ H1 _ I1 q1) fun u s2 ⟨y,H2,I2,r2,q2⟩ =>
  thn (ho pins s2 σ H2 x y v u _ I2 r1 r2 q2) fun d s3 ⟨z,H3,I3,r3,k,e,q3⟩=> ?_)) hm
 subst e;cases r3;refine wpAny_truthy_bool ?_;cases k with
 | false=>exact ite_ff ⟨.bl false,H3,I3,rfl,q3⟩
 | true=>exact ite_tt (chain_last (thn (hc pins s3 σ H3 _ I3 q3) fun w' s4 ⟨z',H4,I4,r4,q4⟩=>ho' pins s4 σ H4 y z' u w' Q I4 r2 r4 q4))
theorem V3 {op op':CmpOp}{r r':R2} (ho:OpR X (compareOp op) r) (ho':OpR X (compareOp op') r') (ha:PE X a ta) (hb:PE X b tb) (hc:PE X c tc)
  (hm:lastMarks [op,op'] [b,c]=false:=by with_unfolding_all rfl):PT X (.Compare a [op,op'] [b,c] pos) (O9 (IA r r' ta tb tc)):=by
 intro pins s σ H Q I h;refine isTrue_chain (thn (ha pins s σ H _ I h) fun v s1 ⟨x,H1,I1,r1,q1⟩=>test_link (thn (hb pins s1 σ H1 _ I1 q1) fun u s2 ⟨y,H2,I2,r2,q2⟩ =>
  thn (ho pins s2 σ H2 x y v u _ I2 r1 r2 q2) fun d s3 ⟨z,H3,I3,r3,k,e,q3⟩=> ?_)) hm
 subst e;cases r3;refine wpAny_truthy_bool ?_;cases k with
 | false =>
  obtain⟨k',e',q'⟩:=q3;cases e';exact ite_ff ⟨H3,I3,q'⟩
 | true =>
  refine ite_tt (test_last (thn (hc pins s3 σ H3 _ I3 q3) fun w' s4 ⟨z',H4,I4,r4,q4⟩=>thn (ho' pins s4 σ H4 y z' u w' _ I4 r2 r4 q4) fun d' s5 ⟨z2,H5,I5,r5,k2,e2,q5⟩=> ?_));subst e2;cases r5;exact wpAny_truthy_bool ⟨H5,I5,q5⟩
theorem A6:(sizeLine:Nat)<2^63:=by rw[sizeLine_eq];decide
theorem jW {x:V}{us:List Value} (r:Vals [x] us):∃u,us=[u]/\RelV x u:=by
 cases r with
 | cons r1 r2=>cases r2;exact⟨_,rfl,r1⟩
theorem F7 {x y:V}{us:List Value} (r:Vals [x,y] us):∃u w',us=[u,w']/\RelV x u/\RelV y w':=by
 cases r with
 | cons r1 r2 =>
  cases r2 with
  | cons r3 r4=>cases r4;exact⟨_,_,rfl,r1,r3⟩
theorem QE (hc:X.calm=true):cS X (.builtin "max") (fun xs H Q=>∃i j,xs=[.int i,.int j]/\Q (.int (if j>i then j else i)) H):=by
 intro pins s σ H xs us Q I r h;obtain⟨i,j,rfl,q⟩:=h;obtain⟨u,w',rfl,⟨t,rfl⟩,⟨t',rfl⟩⟩:=F7 r;refine max_two_ints (I.ok.hd hc) fun h' tk k=>⟨_,H,I.kept k,?_,q⟩
 by_cases hj:j>i
 ·rw[if_pos hj,if_pos hj];exact⟨_,rfl⟩
 ·rw[if_neg hj,if_neg hj];exact⟨_,rfl⟩
end
structure ObjM (h:Heap)(x dx C:Addr)(mA:Str->Option Value):Prop where
 obj:h.get? x=some (W.instObj C dx)
 ns:h.Ns1 dx mA
 ne:dx≠x
theorem P8 {h:Heap}{dx:Addr}{mA:Str->Option Value} (n:h.Ns1 dx mA):∃od,h.get? dx=some od/\∀name,W.lookIn name od=some (mA name):=by
 obtain⟨o,es,ep,ho,hd,hk,_,hm⟩:=n;refine⟨o,ho,fun name=> ?_⟩;have e:=hm name;unfold nsFind findBy at e;rw[←Array.find?_toList]at e;unfold W.lookIn;rw[hd]
 dsimp only
 split
 ·rename_i y q;rw[q]at e;exact congrArg some e
 ·rename_i q;rw[q]at e;have a:es.toList.any (·.refKey)=false:=by
   rw[List.any_eq_false];intro y hy;obtain⟨z,t,hkey⟩:=hk y (Array.mem_toList_iff.mp hy);simp[DictEntry.refKey,hkey]
  have a':¬es.toList.any (·.refKey)=true:=by rw[a];exact Bool.false_ne_true
  rw[if_neg a'];exact congrArg some e
theorem ObjM.look {h:Heap}{x dx C:Addr}{mA:Str->Option Value} (I:ObjM h x dx C mA):∃od,W.InstAt h x (W.instObj C dx) C (some od)/\∀name,W.lookIn name od=some (mA name) :=
 let ⟨od,ho,hl⟩:=P8 I.ns
 ⟨od,⟨I.obj,rfl,rfl,ho⟩,hl⟩
section
variable {prog:Program}{w:World}{A:Around}{E:Value->Shared->Prop}{s:Shared}{K:W.Frag}{x dx C f:Addr}{mA:Str->Option Value}{name:Str}{v:Value}
theorem YS {expr:Bool}{Q:Value->Shared->Prop} (X:K.In s.heap) (I:ObjM s.heap x dx C mA) (hg:W.plainGet K C name=true) (hh:W.hasDictIn K C=true)
  (ha:W.findIn K (.ref C) name=some none)(hv:mA name=some v)(hv':W.handedIn v=true)(h:Q v { s with toks:=s.toks+1 }) :
  wpAny (model prog w) A (getAttr (.ref x) name expr) Q E s:=by
 obtain⟨od,J,hl⟩:=I.look;exact W.get_value X J (W.plainGet_of hg).1 (W.findObj_own hh ha rfl (by rw[hl,hv])) hv' h
theorem UU {pl:Sem Bool}{Q:Value×List Value->Shared->Prop} (X:K.In s.heap) (I:ObjM s.heap x dx C mA) (hg:W.plainGet K C name=true)
  (hf:W.findIn K (.ref C) name=some (some (.ref f)))(ht:W.isFn K (.ref f)=true)(hv:mA name=none)(h:Q (.ref f,[.ref x]) s) :
  wpAny (model prog w) A (getMethod (.ref x) name pl) Q E s:=by
 obtain⟨od,J,hl⟩:=I.look;exact W.method_fn X J (W.plainGet_of hg).1 (W.plainGet_of hg).2 hf (beq_iff_eq.mp ht) (by show (W.lookIn name od).map (·.isSome)=some false;rw[hl,hv];rfl) h
theorem ZF {ns:List Str}{Q:Unit->Shared->Prop} (X:K.In s.heap) (I:ObjM s.heap x dx C mA)
  (hs:W.findIn K (.ref C) "__setattr__" =some (some (.builtin "object.__setattr__")))(hp:W.plainOver K C=true)(ht:W.takerIn K C name=some none)(hh:W.hasDictIn K C=true)
  (hw:PySem.Within mA ns)(hsz:ns.length<=sizeLine)
  (h:∀h',ObjM h' x dx C (fun y=>if y=name then some v else mA y)->Heap.SameBut dx s.heap h'->Q () { s with heap:=h',toks:=s.toks+2 }) :
  wpAny (model prog w) A (setAttr (.ref x) name v) Q E s:=by
 obtain⟨od,J,hl⟩:=I.look;refine W.set_plain X J hs (W.osa_open (s:={ s with toks:=s.toks+1 }) (r:=none) X J hp ht fun b=> ?_);obtain⟨cd,hc,hd'⟩:=W.any_some hh;have hx:s.heap.get? x=some ⟨.ref C,some dx,.plain,#[]⟩:=I.obj;refine wpAny_bind (wpAny_pure (wpAny_bind (wpAny_bind (wpAny_loadPart hx (wpAny_bind (W.Looks.here (s:={ s with toks:=s.toks+1 }) (W.looks_clsIn X hc) ?_))))));rw[hd'];refine wpAny_pure (a:=some dx) (wpAny_bind (wpAny_pure (wpAny_bind ?_)));refine wpAny_nsSet1 (s:={ s with toks:=s.toks+1 }) I.ns fun h' hn2 hs2=> ?_;obtain⟨oD,esD,epD,hoD,hdD,hcD⟩:=hn2.count (PySem.Within.cons name v hw);refine wpAny_bind (wpAny_lookBehind hoD (by rw[hdD];exact pastItsLine_dict (Nat.le_trans hcD (by rw[List.length_cons];lia))) ?_);exact wpAny_pure (h _ ⟨(hs2.2 _ (Ne.symm I.ne)).trans I.obj,hn2,I.ne⟩ hs2)
theorem VG {R:Result->Shared->Prop}{vs:List Value}{kw:List (Str×Value)} (X:K.In s.heap) (hm:W.makesIn K C=true)
  (hi:W.findIn K (.ref C) "__init__" =some (some (.ref f)))(hf:W.typeIn K (.ref f)=some (.type "function"))
  (h:codeAny (model prog w) (A.under (.builtin "type.__call__" ⟨.ref C::vs,kw⟩)) (.call (.ref f) ⟨.ref (s.heap.objs.size+1)::vs,kw⟩) (W.InitBack (s.heap.objs.size+1) R)
   { s with heap:=(s.heap.push W.emptyDict).push (W.instObj C s.heap.objs.size) }) :
  codeAny (model prog w) A (.call (.ref C) ⟨vs,kw⟩) R s:=by
 obtain⟨hh,g,d,t,os⟩:=s;exact W.make_core (W.makes_of X hm) (W.looks_findIn X hi) (fun self=>W.bind_fn X self hf) (.inl rfl) h
end
def cM (f:Str)(v:V):List (Str×V)->List (Str×V)
 | []=>[(f,v)]
 | (g,x)::r=>if g=f then (g,v)::r else (g,x)::cM f v r
theorem lV (f g:Str)(v:V):∀fs:List (Str×V),(cM f v fs).lookup g=if g=f then some v else fs.lookup g
 | []=>by
  show List.lookup g [(f,v)]=_
  by_cases h:g=f
  ·have hb:(g==f)=true:=beq_iff_eq.mpr h;simp only[List.lookup,hb,if_pos h]
  ·have hb:(g==f)=false:=beq_eq_false_iff_ne.mpr h;simp only[List.lookup,hb,if_neg h]
 | (k,x)::r=>by
  have ih:=lV f g v r;rw[show cM f v ((k,x)::r)=(if k=f then (k,v)::r else (k,x)::cM f v r) from rfl]
  by_cases hk:k=f
  ·rw[if_pos hk]
   by_cases h:g=k
   ·have hb:(g==k)=true:=beq_iff_eq.mpr h;simp only[List.lookup,hb,if_pos (h.trans hk)]
   ·have hb:(g==k)=false:=beq_eq_false_iff_ne.mpr h;simp only[List.lookup,hb,if_neg (fun e:g=f=>h (e.trans hk.symm))]
  ·rw[if_neg hk]
   by_cases h:g=k
   ·have hb:(g==k)=true:=beq_iff_eq.mpr h;simp only[List.lookup,hb,if_neg (fun e:g=f=>hk (h.symm.trans e))]
   ·have hb:(g==k)=false:=beq_eq_false_iff_ne.mpr h;simp only[List.lookup,hb];exact ih
theorem vH (f:Str)(v:V):∀fs:List (Str×V),f∈(cM f v fs).map (·.1)/\∀g,g∈fs.map (·.1)->g∈(cM f v fs).map (·.1)
 | []=>⟨by simp[cM],fun g h=>by simp at h⟩
 | (k,x)::r=>by
  obtain⟨i1,i2⟩:=vH f v r;rw[show cM f v ((k,x)::r)=(if k=f then (k,v)::r else (k,x)::cM f v r) from rfl]
  by_cases hk:k=f
  ·rw[if_pos hk];subst hk;exact⟨by simp,fun g h=>by simpa using h⟩
  ·rw[if_neg hk];refine⟨?_,fun g h=> ?_⟩
   ·rw[List.map_cons];exact List.mem_cons_of_mem _ i1
   ·rw[List.map_cons]at h ⊢;rcases List.mem_cons.mp h with e|e
    ·exact List.mem_cons.mpr (.inl e)
    ·exact List.mem_cons_of_mem _ (i2 g e)
theorem yC (f:Str)(v:V):∀fs:List (Str×V),(cM f v fs).length<=fs.length+1
 | []=>by simp[cM]
 | (k,x)::r=>by
  have ih:=yC f v r;rw[show cM f v ((k,x)::r)=(if k=f then (k,v)::r else (k,x)::cM f v r) from rfl]
  by_cases hk:k=f
  ·rw[if_pos hk,List.length_cons,List.length_cons];lia
  ·rw[if_neg hk,List.length_cons,List.length_cons];lia
theorem RelO.some_of {v:V}{o:Option Value} (r:RelO (some v) o):∃u,o=some u/\RelV v u:=by
 cases o with
 | none=>exact(show False from r).elim
 | some u=>exact⟨u,rfl,r⟩
theorem RelO.none_of {o:Option Value}(r:RelO none o):o=none:=by
 cases o with
 | none=>rfl
 | some u=>exact(show False from r).elim
theorem ES {v:V}{u:Value} (r:RelV v u):W.handedIn u=true:=by
 cases v with
 | non=>cases (show u=Value.none from r);rfl
 | bl b=>cases (show u=Value.bool b from r);rfl
 | int i=>obtain⟨t,e⟩:=(show ∃t,u=Value.int i t from r);cases e;rfl
 | str x=>obtain⟨t,e⟩:=(show ∃t,u=Value.str x t from r);cases e;rfl
 | byt b=>obtain⟨t,e⟩:=(show ∃t,u=Value.bytes b t from r);cases e;rfl
 | flt b=>obtain⟨t,e⟩:=(show ∃t,u=Value.float b t from r);cases e;rfl
 | ref a=>cases (show u=Value.ref a from r);rfl
 | ty n=>cases (show u=Value.type n from r);rfl
section
variable {P:Program}{w:World}{H H':Hp}{h h':Heap}{a C dx:Addr}{fs fs':List (Str×V)}
theorem wF (hok:HOk P w H h)(e:H a=some (.ins C dx fs)):∃mA,ObjM h a dx C mA/\(∀f,RelO (fs.lookup f) (mA f))/\PySem.Within mA (fs.map (·.1))/\fs.length<=1000/\H dx=some (.own a):=by
 obtain⟨d,z,ne,ob,mA,n,r,q⟩:=(show ObjOk P w H h a (.ins C dx fs) from hok a _ e)
 exact⟨mA,⟨ob,n,ne⟩,r,q,z,d⟩
end
structure Cls (K:W.Frag)(C:Addr):Prop where
 pg:W.plainGet K C Str.empty=true
 hd:W.hasDictIn K C=true
 po:W.plainOver K C=true
 sa:W.findIn K (.ref C) "__setattr__" =some (some (.builtin "object.__setattr__"))
theorem Cls.get {K:W.Frag}{C:Addr} (c:Cls K C) (f:Str):W.plainGet K C f=true:=c.pg
def NoAttr (K:W.Frag)(C:Addr)(f:Str):Prop:=W.findIn K (.ref C) f=some none
theorem NoAttr.taker {K:W.Frag}{C:Addr}{f:Str} (n:NoAttr K C f):W.takerIn K C f=some none:=by
 unfold W.takerIn;rw[show W.findIn K (.ref C) f=some none from n];rfl
structure Meth (K:W.Frag)(C:Addr)(m:Str)(f:Addr):Prop where
 at_:W.findIn K (.ref C) m=some (some (.ref f))
 fn:W.isFn K (.ref f)=true
 kp:W.keepIn K (.ref f)=true
section
variable {X:Cx}{pins:List (Addr×Obj)}{σ:St}{H:Hp}{s:Shared}{a C dx:Addr}{fs:List (Str×V)}{f:Str}{v:V}{A:Around}{E:Value->Shared->Prop}
theorem N1 {b:Bool}{Q:Value->Shared->Prop} (I:Inv X pins σ H s) (e:H a=some (.ins C dx fs)) (c:Cls X.K C) (n:NoAttr X.K C f) (l:fs.lookup f=some v)
  (h:∀u s',Inv X pins σ H s'->RelV v u->Q u s'):wpAny (model X.prog X.w) A (getAttr (.ref a) f b) Q E s:=by
 obtain⟨mA,O,r,_,_,_⟩:=wF I.hok e;obtain⟨u,hu,ru⟩:=RelO.some_of (v:=v) (o:=mA f) (by rw[←l];exact r f);exact YS I.kIn O (c.get f) c.hd n hu (ES ru) (h u _ (I.tok _) ru)
theorem A4 {m:Str}{g:Addr}{pl:Sem Bool}{Q:Value×List Value->Shared->Prop} (I:Inv X pins σ H s) (e:H a=some (.ins C dx fs)) (c:Cls X.K C) (k:Meth X.K C m g) (l:fs.lookup m=none)
  (h:Q (.ref g,[.ref a]) s):wpAny (model X.prog X.w) A (getMethod (.ref a) m pl) Q E s:=by
 obtain⟨mA,O,r,_,_,_⟩:=wF I.hok e;have hn:mA m=none:=RelO.none_of (by rw[←l];exact r m);exact UU I.kIn O (c.get m) k.at_ k.fn hn h
theorem NO {y:V}{u:Value}{Q:Unit->Shared->Prop} (I:Inv X pins σ H s) (e:H a=some (.ins C dx fs)) (c:Cls X.K C) (n:NoAttr X.K C f) (hl:fs.length<1000) (ry:RelV y u)
  (h:∀s',Inv X pins σ (upd H a (.ins C dx (cM f y fs))) s'->Q () s'):wpAny (model X.prog X.w) A (setAttr (.ref a) f u) Q E s:=by
 obtain⟨mA,O,r,wi,_,ho⟩:=wF I.hok e;have hz:(fs.map (·.1)).length<=sizeLine:=by rw[List.length_map,sizeLine_eq];lia
 refine ZF I.kIn O c.sa c.po n.taker c.hd wi hz fun h' O' sb=>h _ ?_;have hd:∃o,h'.get? dx=some o:=let ⟨o,_,_,e',_⟩:=O'.ns;⟨o,e'⟩;refine I.write (x:=a) (e:=dx) (by rw[e];exact True.intro) (.inr ho) (fun b q hb z=>(sb.2 b hb).trans z) hd ?_;refine⟨by rw[aK O.ne];exact ho,?_,O.ne,O'.obj,_,O'.ns,fun g=> ?_,fun g hg=> ?_⟩
 ·have:=yC f y fs;lia
 ·show RelO ((cM f y fs).lookup g) (if g=f then some u else mA g);rw[lV]
  by_cases q:g=f
  ·rw[if_pos q,if_pos q];exact ry
  ·rw[if_neg q,if_neg q];exact r g
 ·by_cases q:g=f
  ·rw[q];exact(vH f y fs).1
  ·refine(vH f y fs).2 g (wi g fun z=>hg ?_);show (if g=f then some u else mA g)=none;rw[if_neg q];exact z
theorem Inv.made (I:Inv X pins σ H s):Inv X pins σ (upd (upd H s.heap.objs.size (.own (s.heap.objs.size+1))) (s.heap.objs.size+1) (.ins C s.heap.objs.size []))
  { s with heap:=(s.heap.push W.emptyDict).push (W.instObj C s.heap.objs.size) }:=by
 have e1:(s.heap.push W.emptyDict).get? s.heap.objs.size=some W.emptyDict:=Heap.get?_push_size s.heap rfl;have e2:((s.heap.push W.emptyDict).push (W.instObj C s.heap.objs.size)).get? (s.heap.objs.size+1)=some (W.instObj C s.heap.objs.size):=by
  have:=Heap.get?_push_size (s.heap.push W.emptyDict) (o:=W.instObj C s.heap.objs.size) rfl
  rwa [Heap.size_push]at this
 have e3:(s.heap.push W.emptyDict).Ns s.heap.objs.size (fun _=>none):=⟨W.emptyDict,#[],_,e1,rfl,(fun e he=>absurd he (by simp)),fun _=>rfl⟩
 have I1:=I.laid (a:=s.heap.objs.size) (o:= .own (s.heap.objs.size+1)) (h':=s.heap.push W.emptyDict) (t':=s.toks) (fun b u q=>Heap.get?_push_of_some _ q) (Nat.le_refl _) ⟨_,e1⟩;refine I1.laid (a:=s.heap.objs.size+1) (o:= .ins C s.heap.objs.size []) (t':=s.toks) (fun b u q=>Heap.get?_push_of_some _ q) (Nat.le_of_eq (Heap.size_push _ _)) ?_;have ne:s.heap.objs.size≠s.heap.objs.size+1:=Nat.ne_of_lt (Nat.lt_succ_self _);refine⟨by rw[aK ne,aY],Nat.zero_le _,ne,e2,fun _=>none,(Heap.Ns1.of_empty e3).at fun o q=>Heap.get?_push_of_some _ q,fun _=>True.intro,fun y hy=>absurd rfl hy⟩
theorem KW {prog:Program}{w:World}{env:Env}{e:Expr}{f:Str}{pos:Pos}{s:Shared}{Q:Value->Shared->Prop} (hb:attributeBase e f env (eval e env)=eval e env)
  (h:wpAny (model prog w) A (eval e env) (fun o s₁=>wpAny (model prog w) A (getAttr o f true) Q E s₁) E s):wpAny (model prog w) A (eval (.Attribute e f pos) env) Q E s :=
 Attribute_any_ h (by rw[arm_eval_Attribute,hb])
end
def WA (K:W.Frag)(ta:TE)(f:Str):TE:=fun σ H Q=>ta σ H fun x H1=>∃a C dx fs v,x= .ref a/\H1 a=some (.ins C dx fs)/\Cls K C/\NoAttr K C f/\fs.lookup f=some v/\Q v H1
def aA0 (K:W.Frag)(ta tv:TE)(f:Str):TS:=fun D σ H=>tv σ H fun y H1=>ta σ H1 fun x H2=>∃a C dx fs,x= .ref a/\H2 a=some (.ins C dx fs)/\Cls K C/\NoAttr K C f/\fs.length<1000 ∧
 D.nx σ (upd H2 a (.ins C dx (cM f y fs)))
def aA8 (X:Cx)(op:Operator)(rd:V->V->Hp->VK->Prop):Prop :=
 ∀(pins:List (Addr×Obj)) (s:Shared) (σ:St) (H:Hp) (x y:V) (u v:Value) (Q:VK),Inv X pins σ H s->RelV x u->RelV y v->rd x y H Q->wpAny (model X.prog X.w) X.A (inplaceOp op u v) (EP X pins σ Q) X.xe s
section
variable {X:Cx}{o e value:Expr}{f:Str}{pos pos' tpos:Pos}{ta tv:TE}
theorem bK (he:PE X e ta)(hb:attributeBase e f X.env (eval e X.env)=eval e X.env):PE X (.Attribute e f pos) (WA X.K ta f):=by
 intro pins s σ H Q I h;refine KW hb (thn (he pins s σ H _ I h) fun u s1 ⟨x,H1,I1,rx,a,C,dx,fs,v,ex,ea,c,n,l,q⟩=> ?_);subst ex;obtain rfl:u=Value.ref a:=rx;exact N1 I1 ea c n l fun u' s2 I2 ru=>⟨v,H1,I2,ru,q⟩
theorem dY (ha:PE X o ta)(hv:PE X value tv)(hs:swapsWith value (some (.Attribute o f pos')) pos.line X.env=pure false):PS X (.Assign [.Attribute o f pos'] value pos) (aA0 X.K ta tv f):=by
 intro pins s σ H D I h;refine plainObj_wpAny_Assign_Attribute (thn (hv pins s σ H _ I h) fun u s1 ⟨y,H1,I1,ry,q⟩=>thn (ha pins s1 σ H1 _ I1 q) fun ov s2 ⟨x,H2,I2,rx,a,C,dx,fs,ex,ea,c,n,l,q2⟩=> ?_) hs;subst ex;obtain rfl:ov=Value.ref a:=rx;exact NO I2 ea c n l ry fun s3 I3=>⟨σ,_,I3,q2⟩
def aAu:V->V->Hp->VK->Prop:=fun x y H Q=>∃i j,x= .int i/\y= .int j/\Q (.int (i+j)) H
theorem aA2:aA8 X .Add aAu:=by
 rintro pins s σ H x y u v Q I rx ry ⟨i,j,rfl,rfl,q⟩;obtain⟨t,rfl⟩:=(show ∃t,u=Value.int i t from rx)
 obtain⟨t',rfl⟩:=(show ∃t',v=Value.int j t' from ry)
 exact PyProof.Rows.iadd_int ⟨.int (i+j),H,I.tok _,⟨_,rfl⟩,q⟩
end
section
variable {X:Cx}{pins:List (Addr×Obj)}{σ:St}{H:Hp}{s:Shared}{A:Around}{E:Value->Shared->Prop}{Q:Value->Shared->Prop}{c:Value}{b:Bool}
inductive iU (K:W.Frag)(H:Hp):V->Value->Prop where
 | non:iU K H .non (.type "NoneType")
 | bl (x:Bool):iU K H (.bl x) (.type "bool")
 | int (i:Int):iU K H (.int i) (.type "int")
 | str (x:Str):iU K H (.str x) (.type "str")
 | flt (x:UInt64):iU K H (.flt x) (.type "float")
 | lst {a:Addr}{xs:List V} (e:H a=some (.lst xs)):iU K H (.ref a) (.type "list")
 | frz {a:Addr}{o:Obj}{xs:List V} (e:H a=some (.frz o (.lst xs))):iU K H (.ref a) (.type "list")
 | tup {a:Addr}{xs:List V} (e:H a=some (.tup xs)):iU K H (.ref a) (.type "tuple")
 | dK {a:Addr}{kvs:List (Key×V)} (e:H a=some (.dK kvs)):iU K H (.ref a) (.type "dict")
 | dT {a:Addr}{kvs:List (List Key×V)} (e:H a=some (.dT kvs)):iU K H (.ref a) (.type "dict")
 | ins {a C dx:Addr}{fs:List (Str×V)} (e:H a=some (.ins C dx fs)) (cl:Cls K C) (ha:W.findIn K (.ref C) "__class__" =some (some (.builtin "object.__class__")))
   (hn:W.specialIn K (.builtin "object.__class__") "__get__" =some (some (.builtin "getset_descriptor.__get__")))(htk:W.takesIn K (.builtin "object.__class__")=some true)
   (hm:W.mroIn K C (.type "object")=some true):iU K H (.ref a) (.ref C)
theorem RL {x:V}{u t:Value} (I:Inv X pins σ H s) (rx:RelV x u) (ty:iU X.K H x t) (e:W.kitOne X.K t c=some b) (h:∀tk,Q (.bool b) { s with toks:=tk }) :
  wpAny (model X.prog X.w) A (call (.builtin "isinstance") [u,c]) Q E s:=by
 cases ty with
 | non=>cases (show u=Value.none from rx);exact W.kia_one W.kitx_none I.kIn True.intro e (fun z=>nomatch z) h
 | bl y=>cases (show u=Value.bool y from rx);exact W.kia_one W.kitx_bool I.kIn True.intro e (fun z=>nomatch z) h
 | int i=>obtain⟨t,q⟩:=(show ∃t,u=Value.int i t from rx);cases q;exact W.kia_one W.kitx_int I.kIn True.intro e (fun z=>nomatch z) h
 | str y=>obtain⟨t,q⟩:=(show ∃t,u=Value.str y t from rx);cases q;exact W.kia_one W.kitx_str I.kIn True.intro e (fun z=>nomatch z) h
 | flt y=>obtain⟨t,q⟩:=(show ∃t,u=Value.float y t from rx);cases q;exact W.kia_one W.kitx_float I.kIn True.intro e (fun z=>nomatch z) h
 | @lst a xs ea =>
  cases (show u=Value.ref a from rx);obtain⟨_,_,n,_,h1⟩:=(show ObjOk X.prog X.w H s.heap a (.lst xs) from I.hok a _ ea)
  exact W.kia_one W.kitx_list I.kIn ⟨_,h1,rfl⟩ e (fun z=>nomatch z) h
 | @frz a ob xs ea =>
  cases (show u=Value.ref a from rx);obtain⟨_,_,_,n,_,h1⟩:=(show ObjOk X.prog X.w H s.heap a (.frz ob (.lst xs)) from I.hok a _ ea)
  exact W.kia_one W.kitx_list I.kIn ⟨_,h1,rfl⟩ e (fun z=>nomatch z) h
 | @tup a xs ea =>
  cases (show u=Value.ref a from rx);obtain⟨_,_,_,p⟩:=(show ObjOk X.prog X.w H s.heap a (.tup xs) from I.hok a _ ea)
  obtain⟨o,h1,h2,_⟩:=p;exact W.kia_one W.kitx_tuple I.kIn ⟨o,h1,h2⟩ e (fun z=>nomatch z) h
 | @dK a kvs ea =>
  cases (show u=Value.ref a from rx);obtain⟨_,_,vs,_,p⟩:=(show ObjOk X.prog X.w H s.heap a (.dK kvs) from I.hok a _ ea)
  obtain⟨o,es,ep,h1,h2,_⟩:=p;exact W.kia_one W.kitx_dict I.kIn ⟨o,h1,h2.1⟩ e (fun z=>nomatch z) h
 | @dT a kvs ea =>
  cases (show u=Value.ref a from rx);obtain⟨_,_,xs,_,o,es,ep,h1,h2,_⟩:=(show ObjOk X.prog X.w H s.heap a (.dT kvs) from I.hok a _ ea)
  exact W.kia_one W.kitx_dict I.kIn ⟨o,h1,h2.1⟩ e (fun z=>nomatch z) h
 | @ins a C dx fs ea cl ha hn htk hm =>
  cases (show u=Value.ref a from rx);obtain⟨mA,O,_⟩:=wF I.hok ea;obtain⟨od,J,_⟩:=O.look;exact W.kia_one (W.kitx_own (cl.get _) cl.hd ha hn htk hm) I.kIn J e (fun z=>nomatch z) h
end
structure Room (k:Nat)(A:Around):Prop where
 hd:A.handled=none
 dp:A.depth+3 * k+5<recursionLimit
 un:A.units+16 * k+200<cLine
theorem Room.mono {j k:Nat}{A:Around} (r:Room k A) (h:j<=k):Room j A:=⟨r.hd,by have:=r.dp;lia,by have:=r.un;lia⟩
theorem Room.deeper {k:Nat}{A:Around} (r:Room (k+1) A) (env:Env):Room k (A.deeper env) :=
 ⟨r.hd,by have:=r.dp;show A.depth+1+3 * k+5<_;lia,by have:=r.un;show A.units+3+16 * k+200<_;lia⟩
theorem PB {A:Around}{C:Addr}{us:List Value}{kw:List (Str×Value)}:(A.under (.builtin "type.__call__" ⟨.ref C::us,kw⟩)).depth=A.depth+1:=by
 first|rfl|simp[Around.under,Code.weight,Code.isCreation,Code.isGuard,Code.isCaller,Code.frames,Code.isFrame,guardIds]
theorem MI {A:Around}{C:Addr}{us:List Value}{kw:List (Str×Value)}:(A.under (.builtin "type.__call__" ⟨.ref C::us,kw⟩)).units=A.units+1:=by
 first|rfl|simp[Around.under,Code.cUnits,Code.frames,Code.isFrame]
theorem Room.make {k:Nat}{A:Around} (r:Room (k+1) A) (C:Addr) (us:List Value) (kw:List (Str×Value)):Room k (A.under (.builtin "type.__call__" ⟨.ref C::us,kw⟩)) :=
 ⟨r.hd,by have:=r.dp;rw[PB];lia,by have:=r.un;rw[MI];lia⟩
theorem Room.depth {k:Nat}{A:Around} (r:Room k A):A.depth<recursionLimit:=by have:=r.dp;lia
theorem Room.units0 {k:Nat}{A:Around} (r:Room k A):A.units<cLine:=by have:=r.un;lia
def MZ:TA:=fun _ H Q=>Q [] H
def O7 (ta:TE)(tr:TA):TA:=fun σ H Q=>ta σ H fun x H1=>tr σ H1 fun xs H2=>Q (x::xs) H2
section
variable {X:Cx}{e:Expr}{es:List Expr}{te:TE}{t:TA}{pos:Pos}
theorem aB:PA X [] MZ:=fun _ _ _ _ H Q I h=>Calls.spliced_nil ⟨[],H,I,.nil,h⟩
theorem aA (ha:PE X e te)(hr:PA X es t)(hs:starEach (e::es) X.env=(false,eval e X.env)::starEach es X.env:=by rfl):PA X (e::es) (O7 te t):=by
 intro pos pins s σ H Q I h;rw[hs];show wpAny _ _ (spliced ((false,eval e X.env)::backTo pos (starEach es X.env))) _ _ s;refine Calls.spliced_cons (thn (ha pins s σ H _ I h) fun u s1 ⟨x,H1,I1,r1,q1⟩=> ?_);exact thn (hr pos pins s1 σ H1 _ I1 q1) fun us s2 ⟨xs,H2,I2,r2,q2⟩=>⟨x::xs,H2,I2,.cons r1 r2,q2⟩
def aBm (t:TA):TE:=fun σ H Q=>t σ H fun xs H1=>xs.length<=sizeLine/\∀p,H1 p=none->Q (.ref p) (upd H1 p (.tup xs))
def aBQ (t:TA):TE:=fun σ H Q=>t σ H fun xs H1=>xs.length<=sizeLine/\∀p,H1 p=none->Q (.ref p) (upd H1 p (.lst xs))
theorem bE {x1}(h:PA X es t):PE X (.Tuple es x1 pos) (aBm t):=by
 intro pins s σ H Q I hq;refine wpAny_Tuple_spliced (thn (h pos pins s σ H _ I hq) fun us s1 ⟨xs,H1,I1,r,z,q⟩=>⟨by rw[←r.length];exact z,?_⟩);have hf:H1 s1.heap.objs.size=none:=I1.hok.fresh (Nat.le_refl _);refine⟨.ref s1.heap.objs.size,upd H1 s1.heap.objs.size (.tup xs),I1.laid (t':=s1.toks) (fun b u e=>Heap.get?_push_of_some _ e) (Nat.le_refl _) ?_,rfl,q _ hf⟩;exact⟨z,us,r,⟨_,Heap.get?_push_size _ rfl,rfl,_,rfl⟩⟩
theorem bY (h:PA X es t):PE X (.List es pos) (aBQ t):=by
 intro pins s σ H Q I hq;refine wpAny_List_spliced (thn (h pos pins s σ H _ I hq) fun us s1 ⟨xs,H1,I1,r,z,q⟩=>⟨by rw[←r.length];exact z,?_⟩);have hf:H1 s1.heap.objs.size=none:=I1.hok.fresh (Nat.le_refl _);refine⟨.ref s1.heap.objs.size,upd H1 s1.heap.objs.size (.lst xs),I1.laid (t':=s1.toks) (fun b u e=>Heap.get?_push_of_some _ e) (Nat.le_refl _) ?_,rfl,q _ hf⟩;exact⟨z,us,0,r,Heap.get?_push_size _ rfl⟩
end
abbrev Sp:=List V->Hp->VK->XK->Prop
abbrev CXT:=List Env->Hp->Shared->XK->Value->Shared->Prop
structure Env0 (P:Program)(w:World)(K:W.Frag)(mg:Str->Option Value)(base:Heap)(A:Around)(outer:List Env)(s:Shared)(H:Hp):Prop where
 frames:A.frames=some outer
 mod:Mod K mg base
 bs:∀b o,base.get? b=some o->s.heap.get? b=some o/\H b=none
 bsz:base.objs.size<=s.heap.objs.size
 funs:s.heap.FunFrames base outer
 frf:∀b∈frs outer,H b=none
 hok:HOk P w H s.heap
 bare:AllBare s.gens
def CE (outer:List Env)(P:Program)(w:World)(H:Hp)(s:Shared)(Q:VK)(u:Value)(s':Shared):Prop :=
 ∃v H',s'.os=s.os/\AllBare s'.gens/\Un (frs outer) [] H H' s.heap s'.heap/\HOk P w H' s'.heap/\RelV v u/\Q v H'
def CR (CX:CXT)(outer:List Env)(P:Program)(w:World)(H:Hp)(s:Shared)(Q:VK)(E:XK)(r:Result)(s':Shared):Prop :=
 match r with
 | .ok (.ret u)=>CE outer P w H s Q u s'
 | .ok _=>False
 | .error e=>CX outer H s E e s'
structure bD (P:Program)(w:World)(K:W.Frag)(mg:Str->Option Value)(base:Heap)(CX:CXT)(k:Nat)(f:Addr)(fd:FuncData)(ps:List Str)(sp:Sp):Prop where
 len:∀vs H Q E,sp vs H Q E->vs.length=ps.length
 run:∀(A:Around) (outer:List Env) (s:Shared) (H:Hp) (args:Args) (us:List Value) (vs:List V) (Q:VK) (E:XK),Room k A->Env0 P w K mg base A outer s H->BindsTo s fd args (ps.zip us)->Vals vs us->sp vs H Q E →
  codeAny (model P w) A (.call (.ref f) args) (CR CX outer P w H s Q E) s
theorem Env0.make {P:Program}{w:World}{K:W.Frag}{mg:Str->Option Value}{base:Heap}{A:Around}{outer:List Env}{s:Shared}{H:Hp} (e:Env0 P w K mg base A outer s H) (C:Addr) (us:List Value) (kw:List (Str×Value)) :
  Env0 P w K mg base (A.under (.builtin "type.__call__" ⟨.ref C::us,kw⟩)) outer s H:=⟨by first|exact e.frames|(simpa [Around.under,Code.envs,Code.isFrame,pushEnvs] using e.frames),e.mod,e.bs,e.bsz,e.funs,e.frf,e.hok,e.bare⟩
section
variable {X:Cx}{pins:List (Addr×Obj)}{σ:St}{H:Hp}{s s':Shared}
theorem Inv.env0 (I:Inv X pins σ H s):Env0 X.prog X.w X.K X.mg X.base X.A X.stack s H :=
 ⟨I.ok.frames,I.ok.mod,I.bs,Nat.le_trans I.ok.bsz I.sz,I.stack,I.stkFree,I.hok,I.bare⟩
theorem Inv.after {Q:VK}{u:Value} (I:Inv X pins σ H s) (h:CE X.stack X.prog X.w H s Q u s'):EP X pins σ Q u s':=by
 obtain⟨v,H',os,bare,un,hok,r,q⟩:=h;obtain⟨hh,g,d,t,os'⟩:=s';obtain rfl:os'=s.os:=os;exact⟨v,H',I.call (h':=hh) (g':=g) (d':=d) (t':=t) (ch:=[]) un hok bare (fun b z=>absurd z (by simp)),r,q⟩
end
def nY (sp:Sp)(dvs:List V)(E:XK)(t:TA):TE:=fun σ H Q=>t σ H fun vs H1=>sp (vs++dvs) H1 Q E
def GB (C:Addr)(sp:Sp)(dvs:List V)(E:XK)(t:TA):TE:=fun σ H Q=>t σ H fun vs H1=>∀x dx,H1 x=none->H1 dx=none->dx≠x →
 sp (.ref x::(vs++dvs)) (upd (upd H1 dx (.own x)) x (.ins C dx [])) (fun v H2=>v= .non/\Q (.ref x) H2) E
def Binds (K:W.Frag)(fd:FuncData)(ps:List Str)(ds:List Value):Prop :=
 ∀(s:Shared) (us:List Value),K.In s.heap->(us++ds).length=ps.length->BindsTo s fd ⟨us,[]⟩ (ps.zip (us++ds))
theorem Binds.all {K:W.Frag}{fd:FuncData}{ps:List Str} (h:∀us:List Value,us.length=ps.length->bindArgs fd ⟨us,[]⟩=pure (ps.zip us)):Binds K fd ps []:=fun s us _ hl=>by
 rw[List.append_nil]at hl ⊢;exact .of_eq (h us hl)
def j5 (CX:CXT)(X:Cx)(E:XK):Prop:=∀(pins:List (Addr×Obj)) (σ:St) (H:Hp) (s:Shared) (e:Value) (s':Shared),Inv X pins σ H s->CX X.stack H s E e s'->X.xe e s'
section
variable {X:Cx}{CX:CXT}{k:Nat}{f C:Addr}{fd:FuncData}{ps:List Str}{sp:Sp}{dvs:List V}{ds:List Value}{E:XK}{x m:Str}{p pos apos:Pos}{e o:Expr}{es:List Expr}{ta:TE}{t:TA}
theorem AQ {pins:List (Addr×Obj)}{σ:St}{H:Hp}{s:Shared}{Q:VK}{us:List Value}{vs:List V} (F:bD X.prog X.w X.K X.mg X.base CX k f fd ps sp) (hr:Room k X.A) (hb:Binds X.K fd ps ds) (hd:Vals dvs ds) (hx:j5 CX X E)
  (I:Inv X pins σ H s)(r:Vals vs us)(h:sp (vs++dvs) H Q E):wpAny (model X.prog X.w) X.A (call (.ref f) us) (EP X pins σ Q) X.xe s:=by
 have r2:Vals (vs++dvs) (us++ds):=r.append hd;have hl:(us++ds).length=ps.length:=by rw[←r2.length];exact F.len _ _ _ _ h
 refine wpAny_call (codeAny_mono (F.run X.A X.stack s H ⟨us,[]⟩ (us++ds) (vs++dvs) Q E hr I.env0 (hb s us I.kIn hl) r2 h) fun r s' hq=> ?_);cases r with
 | error e=>exact hx pins σ H s e s' I hq
 | ok fl =>
  cases fl with
  | ret u=>exact I.after hq
  | next=>exact False.elim hq
  | brk=>exact False.elim hq
  | cont=>exact False.elim hq
theorem LJ (F:bD X.prog X.w X.K X.mg X.base CX k f fd ps sp)(hr:Room k X.A)(hg:Gl X x)(hm:X.mg x=some (.ref f))(hk:W.keepIn X.K (.ref f)=true)(hb:Binds X.K fd ps ds)(hd:Vals dvs ds)(hx:j5 CX X E)
  (ha:PA X (e::es) t)(hdb:(x==("__debug__" :Str))=false:=by decide)(he:starEach (e::es) X.env=(false,eval e X.env)::starEach es X.env:=by rfl)(hpl:(backTo pos (starEach es X.env)).any (·.1)=false:=by rfl) :
  PE X (.Call (.Name x p) (e::es) [] pos) (nY sp dvs E t):=by
 intro pins s σ H Q I h;refine wpAny_Call_Name_kw (gI I hg hm ?_ hdb);refine W.callWith_K (h₀:=X.base) I.ok.mod.kin hk (thn (ha pos pins s σ H _ I h) fun us s1 ⟨vs,H1,I1,r,q⟩=>⟨I1.kIn,?_⟩) he hpl;exact AQ F hr hb hd hx I1 r q
structure Mk (K:W.Frag)(C f:Addr):Prop where
 makes:W.makesIn K C=true
 init:W.findIn K (.ref C) "__init__" =some (some (.ref f))
 fn:W.isFn K (.ref f)=true
 kp:W.keepIn K (.ref C)=true
theorem WE {pins:List (Addr×Obj)}{σ:St}{H:Hp}{s:Shared}{Q:VK}{us:List Value}{vs:List V} (M:Mk X.K C f) (F:bD X.prog X.w X.K X.mg X.base CX k f fd ps sp) (hr:Room (k+1) X.A) (hb:Binds X.K fd ps ds) (hd:Vals dvs ds)
  (hx:j5 CX X E)(I:Inv X pins σ H s)(r:Vals vs us)
  (h:∀x dx,H x=none->H dx=none->dx≠x->sp (.ref x::(vs++dvs)) (upd (upd H dx (.own x)) x (.ins C dx [])) (fun v H2=>v= .non/\Q (.ref x) H2) E) :
  wpAny (model X.prog X.w) X.A (call (.ref C) us) (EP X pins σ Q) X.xe s:=by
 have hq:=h (s.heap.objs.size+1) s.heap.objs.size (I.hok.fresh (Nat.le_succ _)) (I.hok.fresh (Nat.le_refl _)) (Nat.ne_of_lt (Nat.lt_succ_self _));have I2:=Inv.made (C:=C) I;have r2:Vals (V.ref (s.heap.objs.size+1)::(vs++dvs)) (Value.ref (s.heap.objs.size+1)::(us++ds)):= .cons rfl (r.append hd);have hl:(Value.ref (s.heap.objs.size+1)::us++ds).length=ps.length:=by
  have e:=r2.length;rw[F.len _ _ _ _ hq]at e;exact e.symm
 refine wpAny_call (VG (f:=f) I.kIn M.makes M.init (beq_iff_eq.mp M.fn) (codeAny_mono (F.run _ X.stack _ _ ⟨Value.ref (s.heap.objs.size+1)::us,[]⟩ (Value.ref (s.heap.objs.size+1)::(us++ds)) _ _ E (hr.make C us [])
  (I2.env0.make C us []) (hb _ (Value.ref (s.heap.objs.size+1)::us) I2.kIn hl) r2 hq) fun r s' hq'=> ?_))
 cases r with
 | error e=>exact hx pins σ _ _ e s' I2 hq'
 | ok fl =>
  cases fl with
  | ret u =>
   obtain⟨v,H',I3,rv,ev,q3⟩:=I2.after hq';subst ev;exact⟨rv,⟨V.ref (s.heap.objs.size+1),H',I3,rfl,q3⟩⟩
  | next=>exact False.elim hq'
  | brk=>exact False.elim hq'
  | cont=>exact False.elim hq'
theorem LW (M:Mk X.K C f)(F:bD X.prog X.w X.K X.mg X.base CX k f fd ps sp)(hr:Room (k+1) X.A)(hg:Gl X x)(hm:X.mg x=some (.ref C))(hb:Binds X.K fd ps ds)(hd:Vals dvs ds)(hx:j5 CX X E)
  (ha:PA X (e::es) t)(hdb:(x==("__debug__" :Str))=false:=by decide)(he:starEach (e::es) X.env=(false,eval e X.env)::starEach es X.env:=by rfl)(hpl:(backTo pos (starEach es X.env)).any (·.1)=false:=by rfl) :
  PE X (.Call (.Name x p) (e::es) [] pos) (GB C sp dvs E t):=by
 intro pins s σ H Q I h;refine wpAny_Call_Name_kw (gI I hg hm ?_ hdb);refine W.callWith_K (h₀:=X.base) I.ok.mod.kin M.kp (thn (ha pos pins s σ H _ I h) fun us s1 ⟨vs,H1,I1,r,q⟩=>⟨I1.kIn,?_⟩) he hpl;exact WE M F hr hb hd hx I1 r q
end
section
variable {X:Cx}{CX:CXT}{k:Nat}{f C:Addr}{fd:FuncData}{ps ks:List Str}{sp:Sp}{E:XK}{x m:Str}{p pos apos kpos:Pos}{e o:Expr}{es:List Expr}{kws:List Keyword}{te ta:TE}{t tk:TA}{nm:Option Str}
variable {g:List Value->List Value->List Value}{gV:List V->List V->List V}
end
structure aO (N P:List Str)(sc:Scope):Prop where
 kind:sc.kind= .function
 co:sc.isCoroutine=false
 gen:sc.isGenerator=false
 nd:N.Nodup
 pre:N.take P.length=P
 par:∀x∈P,sc.names.lookup x=some .local∨sc.names.lookup x=some .cell
 nofree:∀y∈sc.names,y.2≠ .free
theorem EV {kindOf:Str->Option NameKind}{x:Str}:∀{binds:List (Str×Value)}{m:Str->Option Value},(∀v,(x,v)∉binds)->bindL kindOf binds m x=m x
 | [],_,_=>rfl
 | (n,v)::r,m,h=>by
  unfold bindL;rw[EV fun w hw=>h w (List.mem_cons_of_mem _ hw)]
  split
  ·have:x≠n:=by rintro rfl;exact h v List.mem_cons_self
   simp[this]
  ·rfl
theorem E9 {kindOf:Str->Option NameKind}{x:Str}:∀{binds:List (Str×Value)}{m:Str->Option Value},(∀v,(x,v)∉binds)->bindC kindOf binds m x=m x
 | [],_,_=>rfl
 | (n,v)::r,m,h=>by
  unfold bindC;rw[E9 fun w hw=>h w (List.mem_cons_of_mem _ hw)]
  split
  ·rfl
  ·have:x≠n:=by rintro rfl;exact h v List.mem_cons_self
   simp[this]
theorem EJ {kindOf:Str->Option NameKind}{x:Str}{v:Value}:∀{P:List Str}{vs:List Value}{i:Nat}{m:Str->Option Value},P.Nodup->P[i]? =some x->vs[i]? =some v->kindOf x=some .local →
  bindL kindOf (P.zip vs) m x=some v
 | [],_,_,_,_,h,_,_=>by simp at h
 | _::_,[],_,_,_,_,h,_=>by simp at h
 | p::P,w::vs,0,m,nd,h1,h2,hk=>by
  simp at h1 h2;subst h1;subst h2;show bindL kindOf ((p,w)::P.zip vs) m p=_;unfold bindL;rw[EV fun v hv=>(List.nodup_cons.mp nd).1 (List.of_mem_zip hv).1,if_pos hk];simp
 | p::P,w::vs,i+1,m,nd,h1,h2,hk=>by
  show bindL kindOf ((p,w)::P.zip vs) m x=_;unfold bindL;exact EJ (i:=i) (List.nodup_cons.mp nd).2 (by simpa using h1) (by simpa using h2) hk
theorem E3 {kindOf:Str->Option NameKind}{x:Str}{v:Value}:∀{P:List Str}{vs:List Value}{i:Nat}{m:Str->Option Value},P.Nodup->P[i]? =some x->vs[i]? =some v->kindOf x≠some .local →
  bindC kindOf (P.zip vs) m x=some v
 | [],_,_,_,_,h,_,_=>by simp at h
 | _::_,[],_,_,_,_,h,_=>by simp at h
 | p::P,w::vs,0,m,nd,h1,h2,hk=>by
  simp at h1 h2;subst h1;subst h2;show bindC kindOf ((p,w)::P.zip vs) m p=_;unfold bindC;rw[E9 fun v hv=>(List.nodup_cons.mp nd).1 (List.of_mem_zip hv).1,if_neg hk];simp
 | p::P,w::vs,i+1,m,nd,h1,h2,hk=>by
  show bindC kindOf ((p,w)::P.zip vs) m x=_;unfold bindC;exact E3 (i:=i) (List.nodup_cons.mp nd).2 (by simpa using h1) (by simpa using h2) hk
def fO (N:List Str)(vs:List V):St:=vs.map some++List.replicate (N.length - vs.length) none
def dJ (CX:CXT)(P:Program)(w:World)(K:W.Frag)(mg:Str->Option Value)(base:Heap)(N:List Str)(qual:Str)(scope:Scope)(f:Addr)(cd:Value)(A:Around)(outer:List Env)(s:Shared)(H:Hp)(E:XK):Cx where
 prog:=P
 w:=w
 K:=K
 mg:=mg
 base:=base
 A:=A.deeper (envOfC qual scope s.heap.objs.size f cd)
 N:=N
 s₀:=s
 H₀:=H
 env:=envOfC qual scope s.heap.objs.size f cd
 outer:=outer
 stack:=envOfC qual scope s.heap.objs.size f cd::outer
 ex:=[]
 calm:=true
 fn:=fun _=>true
 pn:=[]
 xe:=fun e s'=>wpAny (model P w) (A.deeper (envOfC qual scope s.heap.objs.size f cd)) (leaving (envOfC qual scope s.heap.objs.size f cd) e) (fun _ s''=>CX outer H s E e s'') (fun e' s''=>CX outer H s E e' s'') s'
theorem zK {sc:Scope}{n:Nat}{x:Str} (h:sc.names.lookup x=some .cell):∃c,(cellsFrom n sc.names []).lookup x=some c:=by
 have q:=W.cellsFrom_some sc.names n [] (.inl h);exact Option.isSome_iff_exists.mp q
theorem EM {CX:CXT}{P:Program}{w:World}{K:W.Frag}{mg:Str->Option Value}{base:Heap}{N ps:List Str}{qual:Str}{scope:Scope}{f:Addr}{cd:Value}{A:Around}{outer:List Env}{s s1:Shared}{H:Hp}{E:XK}{us:List Value}{vs:List V}
  (S:aO N ps scope)(hd:A.handled=none)(e0:Env0 P w K mg base A outer s H)(hl:vs.length=ps.length)(r:Vals vs us)
  (x:InCallC s s.heap.objs.size (bindL (envOfC qual scope s.heap.objs.size f cd).kindOf (ps.zip us) fun _=>none) (cellsFrom (s.heap.objs.size+1) scope.names []) (bindC (envOfC qual scope s.heap.objs.size f cd).kindOf (ps.zip us) fun _=>none) s1) :
  Inv (dJ CX P w K mg base N qual scope f cd A outer s H E) [] (fO N vs) H s1:=by
 have hpl:ps.length<=N.length:=by have:=congrArg List.length S.pre;rw[List.length_take]at this;lia
 obtain⟨h1,tk,rfl,hk⟩:=x.done;have noA:∀b:Addr,b∉(dJ CX P w K mg base N qual scope f cd A outer s H E).ex:=fun b z=>absurd (show b∈([]:List Addr) from z) (by simp);refine⟨⟨e0.mod,S.kind,rfl,rfl,Nat.le_refl _,fun y z c h1 h2=> ?_,fun y hy=> ?_,fun y c _ h=> ?_,fun _=>hd,Around.frames_deeper e0.frames,.inr ⟨rfl,rfl⟩,fun b z=>absurd z (noA b),e0.bs,e0.bsz,fun b _ _=>noA b,fun b z=>absurd z (noA b),e0.funs,e0.frf⟩,
  rfl,e0.bare,Un.kept hk,⟨_,x.toInCall.ns,fun i y v h1 h2 h3=> ?_⟩,fun y c h=>⟨_,x.cell y c h⟩,e0.hok.fresh (Nat.le_refl _),fun y c h=> ?_,fun p hp=>absurd (show p∈([]:List (Addr×Obj)) from hp) (by simp),e0.hok.kept hk,?_⟩
 ·exact name_of_addr x.apart (PySem.mem_of_lookup h1) (PySem.mem_of_lookup h2)
 ·have hy:scope.names.lookup y=some .cell∨scope.names.lookup y=some .free:=hy;rcases hy with hy|hy
  ·exact zK hy
  ·exact absurd rfl (S.nofree _ (PySem.mem_of_lookup hy))
 ·exact Nat.le_of_lt (x.above y c (PySem.mem_of_lookup h))
 ·have hi:i<vs.length:=by
   unfold fO at h2
   by_cases hi:i<vs.length
   ·exact hi
   ·rw[List.getElem?_append_right (by simpa using hi)]at h2;rw[List.getElem?_replicate]at h2
    split at h2<;>cases h2
  have ha:vs[i]? =some v:=by
   unfold fO at h2;rw[List.getElem?_append_left (by simpa using hi),List.getElem?_map]at h2;cases e:vs[i]? with
   | none=>rw[e]at h2;cases h2
   | some a=>rw[e]at h2;cases h2;rfl
  obtain⟨u,hu,rv⟩:=r.get ha;have hp:ps[i]? =some y:=by
   rw[←S.pre,List.getElem?_take_of_lt (by lia)];exact h1
  have ndP:ps.Nodup:=by rw[←S.pre];exact S.nd.sublist (List.take_sublist _ _)
  refine⟨u,rv,?_⟩;rcases S.par y (List.mem_of_getElem? hp) with k|k
  ·exact .inl ⟨k,EJ ndP hp hu k⟩
  ·obtain⟨c,e⟩:=zK (n:=s.heap.objs.size+1) k;refine .inr ⟨.inl k,c,e,?_⟩;have q:=x.cell y c e;rw[E3 ndP hp hu (by show scope.names.lookup y≠_;rw[k];decide)]at q;exact q
 ·exact e0.hok.fresh (Nat.le_of_lt (x.above y c (PySem.mem_of_lookup h)))
 ·unfold fO;show _=N.length;rw[List.length_append,List.length_map,List.length_replicate]
  lia
theorem XJ {CX:CXT}{P:Program}{w:World}{K:W.Frag}{mg:Str->Option Value}{base:Heap}{k:Nat}{f:Addr}{name qual:Str}{params:Arguments}{body:List Stmt}{scope:Scope}{dV kV doc pm cdv ct oc:Value}{an od:Option Addr}
  {osl:Array (Option Value)}{N ps:List Str}{sp:Sp} (lk:K.lookup f=some ⟨oc,od,.func (W.fnOf name qual params body scope dV kV doc pm an cdv ct),osl⟩) (hcd:W.codeIn K cdv qual=true) (S:aO N ps scope)
  (len:∀vs H Q E,sp vs H Q E->vs.length=ps.length)
  (hbody:∀(A:Around) (outer:List Env) (s:Shared) (H:Hp) (vs:List V) (Q:VK) (E:XK),Room k (A.deeper (envOfC qual scope s.heap.objs.size f cdv))->sp vs H Q E →
   ∃t,PSs (dJ CX P w K mg base N qual scope f cdv A outer s H E) body t/\t { nx:=fun _ H'=>Q .non H',rt:=Q } (fO N vs) H) :
  bD P w K mg base CX (k+1) f (W.fnOf name qual params body scope dV kV doc pm an cdv ct) ps sp:=by
 refine⟨len,fun A outer s H args us vs Q E hr e0 hb r hsp=> ?_⟩;have hl:=len _ _ _ _ hsp;have KX:K.In s.heap:=e0.mod.kin.keeps fun b o e=>(e0.bs b o e).1;have lim:s.heap.NoLimit:=e0.mod.nolimit.keeps fun b o e=>(e0.bs b o e).1;have hkind:∀y∈ps.zip us,scope.names.lookup y.1=some .local∨(scope.names.lookup y.1=some .cell/\((cellsFrom (s.heap.objs.size+1) scope.names []).lookup y.1).isSome=true):=fun⟨n,v⟩ hy=>by
  rcases S.par n (List.of_mem_zip hy).1 with q|q
  ·exact .inl q
  ·exact .inr ⟨q,W.cellsFrom_some _ _ _ (.inl q)⟩
 refine codeAny_call_function hr.depth (KX _ _ lk) rfl S.co S.gen rfl (W.codeRec_of KX hcd) (hb _ _ _ _ ?_);refine wpAny_newFunctionEnv_cells S.kind hkind fun env he s1 x=> ?_;subst he;refine⟨lim.keeps x.toInCall.keep,codeAny_func ?_⟩;obtain⟨t,ht,hq⟩:=hbody A outer s H vs Q E (hr.deeper _) hsp;have I:Inv (dJ CX P w K mg base N qual scope f cdv A outer s H E) [] (fO N vs) H s1:=EM S hr.hd e0 hl r x;refine wpAny_mono (ht [] s1 (fO N vs) H _ I hq) (fun fl s' hs=> ?_) fun e s' hs=>hs;have fin:∀{σ':St}{H':Hp}{v:V}{u:Value},Inv (dJ CX P w K mg base N qual scope f cdv A outer s H E) [] σ' H' s'->RelV v u->Q v H'->CE outer P w H s Q u s' :=
  fun {σ' H' v u} J rv q=>⟨v,H',J.os,J.bare,J.base,J.hok,rv,q⟩
 cases fl with
 | ret u =>
  obtain⟨v,σ',H',J,rv,q⟩:=hs;exact fin J rv q
 | next =>
  obtain⟨σ',H',J,q⟩:=hs;exact fin (v:=V.non) (u:=Value.none) J rfl q
 | brk =>
  obtain⟨_,_,_,q⟩:=hs;exact False.elim q
 | cont =>
  obtain⟨_,_,_,q⟩:=hs;exact False.elim q
section
variable {X:Cx}{x:Str}{p pos:Pos}{e:Expr}{es:List Expr}{t:TA}{id T:String}{r:List V->Hp->VK->Prop}
def tCB (r:List V->Hp->VK->Prop)(t:TA):TE:=fun σ H Q=>t σ H fun vs H1=>r vs H1 Q
theorem bM (hc:cS X (.builtin id) r)(hg:Gl X x)(hm:X.mg x=none)(hv:bootBuiltins x=some (.builtin id))(ha:PA X (e::es) t)(hn:x≠ "__name__" :=by decide)(hdb:(x==("__debug__" :Str))=false:=by decide)
  (he:starEach (e::es) X.env=(false,eval e X.env)::starEach es X.env:=by rfl)(hpl:(backTo pos (starEach es X.env)).any (·.1)=false:=by rfl):PE X (.Call (.Name x p) (e::es) [] pos) (tCB r t):=by
 intro pins s σ H Q I h;refine wpAny_Call_Name_kw (rZ I hg hm hv ?_ hn hdb);exact PyProof.Rows.callWith_builtin1 (thn (ha pos pins s σ H _ I h) fun us s1 ⟨vs,H1,I1,r1,q1⟩=>hc pins s1 σ H1 vs us Q I1 r1 q1) he hpl
theorem qH (hc:cS X (.type T) r)(hg:Gl X x)(hm:X.mg x=none)(hv:bootBuiltins x=some (.type T))(ha:PA X (e::es) t)(hn:x≠ "__name__" :=by decide)(hdb:(x==("__debug__" :Str))=false:=by decide)
  (he:starEach (e::es) X.env=(false,eval e X.env)::starEach es X.env:=by rfl)(hpl:(backTo pos (starEach es X.env)).any (·.1)=false:=by rfl):PE X (.Call (.Name x p) (e::es) [] pos) (tCB r t):=by
 intro pins s σ H Q I h;refine wpAny_Call_Name_kw (rZ I hg hm hv ?_ hn hdb);exact PyProof.Rows.callWith_type1 (thn (ha pos pins s σ H _ I h) fun us s1 ⟨vs,H1,I1,r1,q1⟩=>hc pins s1 σ H1 vs us Q I1 r1 q1) he hpl
end
end L2
namespace HT
open PySem PyProof.Rows
section
open PySem.SeqAt
open PySem.AutoSeq1 (wpAny_loadPart')
open PySem.MeetsSeq PySem.MeetsSeq2 PySem.MeetsSeq3
end
section
variable {prog:Program}{w:World}{A:Around}{E:Value->Shared->Prop}{s:Shared}
def sIx (n d:Nat):Option Int->Nat
 | none=>d
 | some v=>if v<0 then (v+(n:Int)).toNat else min v.toNat n
theorem sIx_none (n d:Nat):sIx n d none=d:=rfl
theorem sIx_nat (n d k:Nat):sIx n d (some (k:Int))=min k n:=by
 show (if (k:Int)<0 then ((k:Int)+(n:Int)).toNat else min (k:Int).toNat n)=min k n;rw[if_neg (by lia),Int.toNat_natCast]
theorem aAq (n d:Nat)(hd:d<=n)(o:Option Int):sIx n d o<=n:=by
 cases o with
 | none=>exact hd
 | some v =>
  show (if v<0 then (v+(n:Int)).toNat else min v.toNat n)<=n
  by_cases hv:v<0
  ·rw[if_pos hv];lia
  ·rw[if_neg hv];exact Nat.min_le_right _ _
theorem LA (v:Int)(n d:Nat):(if v<0 then max (v+(n:Int)) 0 else min v (n:Int))=((sIx n d (some v):Nat):Int):=by
 show (if v<0 then max (v+(n:Int)) 0 else min v (n:Int))=(((if v<0 then (v+(n:Int)).toNat else min v.toNat n):Nat):Int)
 by_cases hv:v<0
 ·simp only[if_pos hv];lia
 ·simp only[if_neg hv];lia
theorem OR (lo hi:Option Int)(n:Nat):Builtin.Slice.sliceAdjust lo hi 1 (n:Int)=(((sIx n 0 lo:Nat):Int),((sIx n n hi:Nat):Int)):=by
 have h1:¬((1:Int)<0):=by lia
 unfold Builtin.Slice.sliceAdjust;simp only[h1,if_false];refine Prod.ext ?_ ?_
 ·cases lo with
  | none=>rfl
  | some v=>exact LA v n 0
 ·cases hi with
  | none=>rfl
  | some v=>exact LA v n n
theorem MP (i j:Nat):Builtin.Slice.slicePlaces (i:Int) (j:Int) 1=j - i:=by
 unfold Builtin.Slice.slicePlaces;have h1:(1:Int)>0:=by lia
 simp only[h1,if_true,Int.ediv_one]
 split<;>lia
theorem BM {v:Value}{o:Option Int}{Q:Option Int->Shared->Prop} (p:IsPart v o) (h:Q o s):wpAny (model prog w) A (Builtin.Slice.slicePartIndex v) Q E s:=by
 cases p with
 | none=>exact slicePart_none h
 | int i t=>exact slicePart_int h
theorem yV {sl:Addr}{vl vu:Value}{lo hi:Option Int}{n:Nat}{Q:Int×Int×Nat->Shared->Prop} (hs:s.heap.IsSliceOf sl vl vu .none) (pl:IsPart vl lo) (pu:IsPart vu hi)
  (h:Q (((sIx n 0 lo:Nat):Int),1,sIx n n hi - sIx n 0 lo) s):wpAny (model prog w) A (Builtin.Slice.sliceApplied (.ref sl) (pure (n:Int))) Q E s:=by
 obtain⟨os,hos,hcs,hds⟩:=id hs;unfold Builtin.Slice.sliceApplied Builtin.Slice.sliceFields;refine wpAny_bind (wpAny_bind (wpAny_field hos hds (x:=vl) rfl (wpAny_bind (wpAny_field hos hds (x:=vu) rfl (wpAny_bind (wpAny_field hos hds (x:= .none) rfl (wpAny_pure ?_)))))));refine wpAny_bind (slicePart_none ?_);show wpAny _ _ (if ((1:Int)==0)=true then _ else _) _ _ s;rw[if_neg (by decide)];refine wpAny_bind (BM pl (wpAny_bind (BM pu (wpAny_bind (wpAny_pure ?_)))));show wpAny _ _ (match Builtin.Slice.sliceAdjust lo hi 1 (n:Int) with|(lo,hi)=>pure (lo,(1:Int),Builtin.Slice.slicePlaces lo hi 1)) _ _ s;rw[OR lo hi n];show wpAny _ _ (pure (((sIx n 0 lo:Nat):Int),(1:Int),Builtin.Slice.slicePlaces ((sIx n 0 lo:Nat):Int) ((sIx n n hi:Nat):Int) 1)) _ _ s;rw[MP];exact wpAny_pure h
theorem TY (xs:Array Value)(i k:Nat):((List.range k).filterMap fun (m:Nat)=>xs[((i:Int)+(m:Int) * 1).toNat]?).toArray=((xs.toList.drop i).take k).toArray:=by
 have e:(fun (m:Nat)=>xs[((i:Int)+(m:Int) * 1).toNat]?)=fun m=>xs[i+m]? :=by
  funext m
  have:((i:Int)+(m:Int) * 1).toNat=i+m:=by lia
  rw[this]
 rw[e];have:=pick_run xs i k;rw[List.filterMap_map]at this;have e2:((fun x=>xs[x]?)∘fun x=>i+x)=fun m=>xs[i+m]? :=rfl;rw[e2]at this;rw[this]
theorem getItem_tuple_cut {t sl:Addr}{items:Array Value}{vl vu:Value}{lo hi:Option Int}{Q:Value->Shared->Prop} (ht:IsTup s.heap t items) (hs:s.heap.IsSliceOf sl vl vu .none) (pl:IsPart vl lo) (pu:IsPart vu hi)
  (hw:¬(sIx items.size 0 lo=0/\sIx items.size items.size hi=items.size))
  (h:Q (.ref s.heap.objs.size) { s with heap:=s.heap.push { cls:= .type "tuple",data:= .seq ((items.toList.drop (sIx items.size 0 lo)).take (sIx items.size items.size hi - sIx items.size 0 lo)).toArray } })
  (hsz:items.size<=sizeLine):wpAny (model prog w) A (getItem (.ref t) (.ref sl)) Q E s:=by
 have htake:sizeOk (.seq ((items.toList.drop (sIx items.size 0 lo)).take (sIx items.size items.size hi - sIx items.size 0 lo)).toArray):=by
  show ((items.toList.drop (sIx items.size 0 lo)).take (sIx items.size items.size hi - sIx items.size 0 lo)).toArray.size<=sizeLine;rw[List.size_toArray,List.length_take,List.length_drop,Array.length_toList]
  lia
 have hj:sIx items.size items.size hi<=items.size:=aAq _ _ (Nat.le_refl _) hi;obtain⟨os,hos,hcs,hds⟩:=id hs;have hTs:s.TypeIs (.ref sl) "slice" :=⟨os,hos,hcs⟩
 unfold getItem
 try with_reducible refine wpAny_holding ?_
 first|refine wpAny_bind (wpAny_pure ?_)|skip
 refine wpAny_bind (wpAny_sequenceKey ht.typeIs (by decide) ?_);refine wpAny_bind (wpAny_callSpecial?_slot (name:=Str.ofString "__getitem__") ht.typeIs PyProof.Rows.slot_tuple_getitem
  (wpAny_call_entry PyProof.Rows.slot_tuple_getitem ht.typeIs entry_tuple_getitem ?_ (args_tuple_getitem _ _)))
 show wpAny _ _ (Builtin.Tuple.tupleItemsOf (.ref t) >>= _) _ _ s;refine wpAny_bind (tupleItemsOf_ ht ?_);refine wpAny_bind (wpAny_typeOf hTs ?_);rw[if_pos (by decide)];refine wpAny_bind (yV hs pl pu ?_);have hno:¬((((sIx items.size 0 lo:Nat):Int)==0&&(1:Int)==1&&(sIx items.size items.size hi - sIx items.size 0 lo)==items.size)=true):=by
  intro q;rw[Bool.and_eq_true,Bool.and_eq_true]at q;have q1:((sIx items.size 0 lo:Nat):Int)=0:=eq_of_beq q.1.1;have q2:sIx items.size items.size hi - sIx items.size 0 lo=items.size:=eq_of_beq q.2;exact hw ⟨by lia,by lia⟩
 show wpAny _ _ (if (((sIx items.size 0 lo:Nat):Int)==0&&(1:Int)==1&&(sIx items.size items.size hi - sIx items.size 0 lo)==items.size)=true then _ else _) _ _ s;rw[if_neg hno,TY]
 first
  | exact wpAny_bind (m:=Builtin.Tuple.tupleExact _) (wpAny_newObj_type (wpAny_pure ⟨_,rfl,wpAny_pure h⟩) htake)
  | exact wpAny_bind (m:=Builtin.Tuple.tupleExact _) (wpAny_newObj_type (wpAny_bind (wpAny_pure (wpAny_pure ⟨_,rfl,wpAny_pure h⟩))) htake)
  | exact wpAny_bind (wpAny_bind (m:=Builtin.Tuple.tupleExact _) (wpAny_newObj_type (wpAny_pure (wpAny_pure ⟨_,rfl,wpAny_pure h⟩)) htake))
  | exact wpAny_bind (wpAny_bind (m:=Builtin.Tuple.tupleExact _) (wpAny_newObj_type (wpAny_pure ⟨_,rfl,wpAny_pure h⟩) htake))
end
end HT
namespace L2
open PySem PySem.Spec PyProof.Rows
abbrev TO:=St->Hp->(Option Int->Hp->Prop)->Prop
def PO (X:Cx)(e:Option Expr)(t:TO):Prop :=
 ∀(pins:List (Addr×Obj)) (s:Shared) (σ:St) (H:Hp) (Q:Option Int->Hp->Prop),Inv X pins σ H s->t σ H Q →
  wpAny (model X.prog X.w) X.A (evalPart e X.env) (fun u s'=>∃o H',Inv X pins σ H' s'/\IsPart u o/\Q o H') X.xe s
def LU:TO:=fun _ H Q=>Q none H
def XR (t:TE):TO:=fun σ H Q=>t σ H fun x H1=>∃i,x= .int i/\Q (some i) H1
section
variable {X:Cx}{e:Expr}{te:TE}{lo hi:Option Expr}{tl th:TO}{pos p2:Pos}
theorem rR:PO X none LU:=by
 intro pins s σ H Q I h;rw[evalPart_none];exact wpAny_pure ⟨none,H,I,.none,h⟩
theorem lG (h:PE X e te):PO X (some e) (XR te):=by
 intro pins s σ H Q I hw;rw[evalPart_some];refine thn (h pins s σ H _ I hw) fun u s1 ⟨x,H1,I1,r1,q1⟩=> ?_;obtain⟨i,rfl,q⟩:=q1;obtain⟨t,rfl⟩:=r1;exact⟨some i,H1,I1,.int i t,q⟩
def SlR (X:Cx)(r:V->Option Int->Option Int->Hp->VK->Prop):Prop :=
 ∀(pins:List (Addr×Obj)) (s:Shared) (σ:St) (H:Hp) (x:V) (v vl vu:Value) (lo hi:Option Int) (sl:Addr) (Q:VK),Inv X pins σ H s->RelV x v->s.heap.IsSliceOf sl vl vu .none->IsPart vl lo->IsPart vu hi->r x lo hi H Q →
  ∃T id,typeLookup (.type T) "__getitem__" =pure (some (.builtin id))/\s.TypeIs v T/\wpAny (model X.prog X.w) X.A (getItem v (.ref sl)) (EP X pins σ Q) X.xe s
def tSl (r:V->Option Int->Option Int->Hp->VK->Prop)(te:TE)(tl th:TO):TE:=fun σ H Q=>te σ H fun x H1=>tl σ H1 fun l H2=>th σ H2 fun u H3=>r x l u H3 Q
theorem kZ {r:V->Option Int->Option Int->Hp->VK->Prop}(hr:SlR X r)(he:PE X e te)(hl:PO X lo tl)(hu:PO X hi th):PE X (.Subscript e (.Slice lo hi none p2) pos) (tSl r te tl th):=by
 intro pins s σ H Q I h;refine Subscript_ (thn (he pins s σ H _ I h) fun v s1 ⟨x,H1,I1,r1,q1⟩=> ?_);refine wpAny_Slice (thn (hl pins s1 σ H1 _ I1 q1) fun vl s2 ⟨l,H2,I2,pl,q2⟩=>thn (hu pins s2 σ H2 _ I2 q2) fun vu s3 ⟨u,H3,I3,pu,q3⟩=> ?_);rw[evalPart_none];refine wpAny_pure ?_;have I4:Inv X pins σ H3 { s3 with heap:=s3.heap.push { cls:= .type "slice",data:= .fields #[vl,vu,.none] } }:=I3.kept (t':=s3.toks) fun b ob q=>Heap.get?_push_of_some _ q;obtain⟨T,id,hT,ht,hg⟩:=hr pins { s3 with heap:=s3.heap.push { cls:= .type "slice",data:= .fields #[vl,vu,.none] } } σ H3 x v vl vu l u s3.heap.objs.size Q I4 r1 (Heap.IsSliceOf.new ..) pl pu q3;show wpAny (model X.prog X.w) X.A (subscriptTail e (.Slice lo hi none p2) v (.ref s3.heap.objs.size)) (EP X pins σ Q) X.xe { s3 with heap:=s3.heap.push { cls:= .type "slice",data:= .fields #[vl,vu,.none] } };exact tail_any (ops:=[.ref s3.heap.objs.size,v]) ht hT hg (by with_unfolding_all rfl)
def d7 (xs:List V)(lo hi:Option Int):List V:=(xs.drop (HT.sIx xs.length 0 lo)).take (HT.sIx xs.length xs.length hi - HT.sIx xs.length 0 lo)
theorem yG (xs:List V)(lo hi:Option Int):(d7 xs lo hi).length<=xs.length:=by
 unfold d7;rw[List.length_take,List.length_drop]
 lia
def aDs (K:W.Frag):V->Option Int->Option Int->Hp->VK->Prop:=fun x lo hi H Q=>∃a xs,x= .ref a/\SqT K H a xs ∧
 ¬(HT.sIx xs.length 0 lo=0/\HT.sIx xs.length xs.length hi=xs.length)/\∀p,H p=none->Q (.ref p) (upd H p (.tup (d7 xs lo hi)))
theorem aBu:SlR X (aDs X.K):=by
 intro pins s σ H x v vl vu lo hi sl Q I rx hs pl pu h;obtain⟨a,xs,rfl,hx,hw,q⟩:=h;cases rx;obtain⟨its,r,ht,hz⟩:=I.tuple hx;have hlen:its.toArray.size=xs.length:=by rw[List.size_toArray];exact r.length.symm
 refine⟨"tuple",_,PyProof.Rows.slot_tuple_getitem.lookup,ht.typeIs,?_⟩;refine HT.getItem_tuple_cut ht hs pl pu (by rw[hlen];exact hw) ?_ (by rw[hlen];exact hz);rw[hlen];refine⟨.ref s.heap.objs.size,_,I.laid (t':=s.toks) (o:= .tup (d7 xs lo hi)) (fun b ob q=>Heap.get?_push_of_some _ q) (Nat.le_refl _) ?_,rfl,q _ (I.hok.fresh (Nat.le_refl _))⟩;exact⟨Nat.le_trans (yG xs lo hi) hz,_,(r.drop (HT.sIx xs.length 0 lo)).take (HT.sIx xs.length xs.length hi - HT.sIx xs.length 0 lo),IsTup.new _ _⟩
end
def ixN (n:Nat)(i:Int):Option Nat:=if 0<=i then (if i<n then some i.toNat else none) else if -(n:Int)<=i then some (i+n).toNat else none
def atI {α:Type}(xs:List α)(i:Int):Option α:=(ixN xs.length i).bind fun j=>xs[j]?
theorem Y0 {n:Nat}{i:Int}{j:Nat} (h:ixN n i=some j):seqIndex? i n=some j/\j<n/\ -(n:Int)<=i/\i<n:=by
 unfold ixN at h
 by_cases h0:0<=i
 ·rw[if_pos h0]at h
  by_cases h1:i<n
  ·rw[if_pos h1]at h;have e:i.toNat=j:=Option.some.inj h;exact⟨by rw[seqIndex_of h0 h1,e],by lia,by lia,h1⟩
  ·rw[if_neg h1]at h;cases h
 ·rw[if_neg h0]at h
  by_cases h1: -(n:Int)<=i
  ·rw[if_pos h1]at h;have e:(i+n).toNat=j:=Option.some.inj h;exact⟨by rw[seqIndex_neg (by lia) h1,e],by lia,h1,by lia⟩
  ·rw[if_neg h1]at h;cases h
theorem LM {α:Type}{xs:List α}{i:Int}{v:α} (h:atI xs i=some v):∃j,seqIndex? i xs.length=some j/\xs[j]? =some v/\j<xs.length/\ -(xs.length:Int)<=i/\i<xs.length:=by
 unfold atI at h;cases e:ixN xs.length i with
 | none=>rw[e]at h;cases h
 | some j =>
  rw[e]at h;obtain⟨h1,h2,h3,h4⟩:=Y0 e;exact⟨j,h1,h,h2,h3,h4⟩
theorem dA {α:Type}{xs:List α}{j:Nat}{v:α} (h:xs[j]? =some v):atI xs (j:Int)=some v:=by
 have hj:j<xs.length:=(List.getElem?_eq_some_iff.mp h).1;have e:ixN xs.length (j:Int)=some j:=by
  unfold ixN;rw[if_pos (by lia),if_pos (by lia)];simp
 unfold atI;rw[e];exact h
def ZY (b:Expr):Prop:=∀o i,subscripted b false o i=operate [o,i] (getItem o i)
def IxR (X:Cx)(r:R2):Prop :=
 ∀(value slice:Expr) (pins:List (Addr×Obj)) (s:Shared) (σ:St) (H:Hp) (x y:V) (v u:Value) (Q:VK),Inv X pins σ H s->RelV x v->RelV y u->r x y H Q →
  subscripted slice false v u=operate [v,u] (getItem v u)->wpAny (model X.prog X.w) X.A (subscriptTail value slice v u) (EP X pins σ Q) X.xe s
def MtR (X:Cx)(id:String)(r:V->List V->Hp->VK->Prop):Prop :=
 ∀(pins:List (Addr×Obj)) (s:Shared) (σ:St) (H:Hp) (x:V) (xs:List V) (v:Value) (us:List Value) (Q:VK),Inv X pins σ H s->RelV x v->Vals xs us->r x xs H Q →
  wpAny (model X.prog X.w) X.A (call (.builtin id) (v::us)) (EP X pins σ Q) X.xe s
section
variable {X:Cx}{a b:Expr}{ta tb:TE}{pos:Pos}
theorem bS {r:R2}(hr:IxR X r)(ha:PE X a ta)(hb:PE X b tb)(hs:ZY b):PE X (.Subscript a b pos) (tOp r ta tb):=by
 intro pins s σ H Q I h;exact Subscript_ (U9 ha hb I h fun v u s2 x y H2 I2 rx ry q=>hr a b pins s2 σ H2 x y v u Q I2 rx ry q (hs _ _))
def OL (K:W.Frag):R2:=fun x y H Q=>∃p xs i v,x= .ref p/\y= .int i/\SqL K H p xs/\atI xs i=some v/\Q v H
def U3 (K:W.Frag):R2:=fun x y H Q=>∃p xs i v,x= .ref p/\y= .int i/\SqT K H p xs/\atI xs i=some v/\Q v H
theorem cW:IxR X (OL X.K):=by
 intro value slice pins s σ H x y v u Q I rx ry h hs;obtain⟨p,xs,i,z,rfl,rfl,hq,he,q⟩:=h;cases rx;obtain⟨t,rfl⟩:=ry;obtain⟨its,r,pl,hz⟩:=I.list hq;obtain⟨j,h1,h2,h3,h4,h5⟩:=LM he;obtain⟨w,ew,rw'⟩:=r.get h2;have hl:=r.length;have hn:=A6;have fin:EP X pins σ Q w s:=⟨z,H,I,rw',q⟩
 by_cases h0:0<=i
 ·have hj:i.toNat=j:=by
   rw[seqIndex_of h0 h5]at h1;exact Option.some.inj h1
  exact item_listR pl.isList h0 (by lia) (by rw[hj];simpa using ew) fin hs
 ·have hj:(i+(its.toArray.size:Int)).toNat=j:=by
   rw[seqIndex_neg (by lia) h4]at h1;rw[List.size_toArray,←hl];exact Option.some.inj h1
  exact subscriptTail_builtinR (x:=w) pl.isList.typeIs slot_list_getitem.lookup
   (wpAny_getItem_list_neg (Q:=fun r s'=>r=w/\EP X pins σ Q r s') pl.isList (by lia) (by rw[List.size_toArray]<;>lia) (by lia) (by rw[hj];simpa using ew) ⟨rfl,fin⟩) hs
theorem dX:IxR X (U3 X.K):=by
 intro value slice pins s σ H x y v u Q I rx ry h hs;obtain⟨p,xs,i,z,rfl,rfl,hq,he,q⟩:=h;cases rx;obtain⟨t,rfl⟩:=ry;obtain⟨its,r,pl,hz⟩:=I.tuple hq;obtain⟨j,h1,h2,h3,h4,h5⟩:=LM he;obtain⟨w,ew,rw'⟩:=r.get h2;have hl:=r.length;have hn:=A6;have fin:EP X pins σ Q w s:=⟨z,H,I,rw',q⟩
 exact subscriptTail_builtinR (x:=w) pl.typeIs slot_tuple_getitem.lookup
  (getItem_tuple (j:=j) (Q:=fun r s'=>r=w/\EP X pins σ Q r s') pl (by lia) (by lia) (by rw[List.size_toArray,←hl];exact h1) (by simpa using ew) ⟨rfl,fin⟩) hs
theorem II (lo hi:Option Int)(n:Nat):(sliceBounds lo hi none n).1=((HT.sIx n 0 lo:Nat):Int)/\(sliceBounds lo hi none n).2.1=((HT.sIx n n hi:Nat):Int)/\(sliceBounds lo hi none n).2.2=1:=by
 refine⟨?_,?_,rfl⟩
 ·cases lo with
  | none=>simp[sliceBounds,HT.sIx]
  | some i =>
   simp only[sliceBounds,HT.sIx,Option.getD_none,show (1:Int)>0 by decide,if_true]
   by_cases h:i<0
   ·simp only[h,if_true]<;>lia
   ·simp only[h,if_false]<;>lia
 ·cases hi with
  | none=>simp[sliceBounds,HT.sIx]
  | some i =>
   simp only[sliceBounds,HT.sIx,Option.getD_none,show (1:Int)>0 by decide,if_true]
   by_cases h:i<0
   ·simp only[h,if_true]<;>lia
   ·simp only[h,if_false]<;>lia
theorem FJ (its:List Value)(lo hi:Option Int):slicePick its.toArray lo hi none=((its.drop (HT.sIx its.length 0 lo)).take (HT.sIx its.length its.length hi - HT.sIx its.length 0 lo)).toArray:=by
 obtain⟨h1,h2,h3⟩:=II lo hi its.toArray.size;unfold slicePick;rw[h1,h2,h3];simp only[sliceRange_one,pick_run,List.size_toArray]<;>rfl
def VL (K:W.Frag):V->Option Int->Option Int->Hp->VK->Prop:=fun x lo hi H Q=>∃a xs,x= .ref a/\SqL K H a xs/\∀p,H p=none->Q (.ref p) (upd H p (.lst (d7 xs lo hi)))
theorem rG:SlR X (VL X.K):=by
 intro pins s σ H x v vl vu lo hi sl Q I rx hs pl pu h;obtain⟨a,xs,rfl,hx,q⟩:=h;cases rx;obtain⟨its,r,ht,hz⟩:=I.list hx;have hlen:=r.length;refine⟨"list",_,slot_list_getitem.lookup,ht.isList.typeIs,?_⟩;refine wpAny_getItem_list_slice ht.isList hs pl pu .none (by simp) ?_ (by rw[List.size_toArray]<;>lia);rw[FJ,←hlen];refine⟨.ref s.heap.objs.size,_,I.laid (t':=s.toks) (o:= .lst (d7 xs lo hi)) (fun b ob q=>Heap.get?_push_of_some _ q) (Nat.le_refl _) ?_,rfl,q _ (I.hok.fresh (Nat.le_refl _))⟩;exact⟨Nat.le_trans (yG xs lo hi) hz,_,0,(r.drop (HT.sIx xs.length 0 lo)).take (HT.sIx xs.length xs.length hi - HT.sIx xs.length 0 lo),Heap.get?_push_size _ rfl⟩
def gJ:V->Bool
 | .non=>true
 | .bl _=>true
 | .int _=>true
 | .str _=>true
 | _=>false
def eqV:V->V->Bool
 | .non,.non=>true
 | .bl a,.bl b=>a==b
 | .bl a,.int b=>(if a then 1 else 0)==b
 | .int a,.bl b=>a==(if b then 1 else 0)
 | .int a,.int b=>a==b
 | .str a,.str b=>a==b
 | _,_=>false
theorem GY {A:Around}{s:Shared}{y x:V}{u v:Value} (ry:RelV y u) (rx:RelV x v) (fy:gJ y=true) (fx:gJ x=true):SeqAt.EqAt A s u v (eqV y x):=by
 cases y with
 | non =>
  cases ry;cases x with
  | non=>cases rx;exact SeqAt.EqAt.same _
  | bl b=>cases rx;exact SeqAt.EqAt.none_bool b
  | int b=>obtain⟨t,rfl⟩:=rx;exact SeqAt.EqAt.none_int b t
  | str b=>obtain⟨t,rfl⟩:=rx;exact SeqAt.EqAt.none_str b t
  | _=>exact absurd (show false=true from fx) Bool.false_ne_true
 | bl a =>
  cases ry;cases x with
  | non=>cases rx;exact SeqAt.EqAt.bool_none a
  | bl b=>cases rx;exact SeqAt.EqAt.bool_bool a b
  | int b=>obtain⟨t,rfl⟩:=rx;exact SeqAt.EqAt.bool_int a b t
  | str b=>obtain⟨t,rfl⟩:=rx;exact SeqAt.EqAt.bool_str a b t
  | _=>exact absurd (show false=true from fx) Bool.false_ne_true
 | int a =>
  obtain⟨t',rfl⟩:=ry;cases x with
  | non=>cases rx;exact SeqAt.EqAt.int_none a t'
  | bl b=>cases rx;exact SeqAt.EqAt.int_bool a t' b
  | int b=>obtain⟨t,rfl⟩:=rx;exact SeqAt.EqAt.int_int a t' b t
  | str b=>obtain⟨t,rfl⟩:=rx;exact SeqAt.EqAt.int_str a t' b t
  | _=>exact absurd (show false=true from fx) Bool.false_ne_true
 | str a =>
  obtain⟨t',rfl⟩:=ry;cases x with
  | non=>cases rx;exact SeqAt.EqAt.str_none a t'
  | bl b=>cases rx;exact SeqAt.EqAt.str_bool a t' b
  | int b=>obtain⟨t,rfl⟩:=rx;exact SeqAt.EqAt.str_int a t' b t
  | str b=>obtain⟨t,rfl⟩:=rx;exact SeqAt.EqAt.str_str a t' b t
  | _=>exact absurd (show false=true from fx) Bool.false_ne_true
 | _=>exact absurd (show false=true from fy) Bool.false_ne_true
def eqU (x:V)(u:Value):Bool:=match u with
 | .none=>eqV .non x
 | .bool b=>eqV (.bl b) x
 | .int i _=>eqV (.int i) x
 | .str z _=>eqV (.str z) x
 | _=>false
theorem ST {x y:V}{u:Value} (r:RelV y u) (f:gJ y=true):eqU x u=eqV y x:=by
 cases y with
 | non=>cases r;rfl
 | bl b=>cases r;rfl
 | int i=>obtain⟨t,rfl⟩:=r;rfl
 | str z=>obtain⟨t,rfl⟩:=r;rfl
 | _=>exact absurd (show false=true from f) Bool.false_ne_true
theorem rQ {x:V}:∀{xs:List V}{us:List Value},Vals xs us->xs.all gJ=true->us.any (eqU x)=xs.any fun y=>eqV y x
 | _,_,.nil,_=>rfl
 | y::xs,u::us,.cons r t,f=>by
  rw[List.all_cons,Bool.and_eq_true]at f;rw[List.any_cons,List.any_cons,ST r f.1,rQ t f.2]
theorem o8 {A:Around}{s:Shared}{x:V}{v:Value} (rx:RelV x v) (fx:gJ x=true):∀{xs:List V}{us:List Value},Vals xs us->xs.all gJ=true->∀u∈us,SeqAt.EqAt A s u v (eqU x u)
 | _,_,.nil,_=>fun u hu=>by cases hu
 | y::xs,u::us,.cons r t,f=>fun u' hu=>by
  rw[List.all_cons,Bool.and_eq_true]at f;rcases List.mem_cons.mp hu with rfl|hu
  ·rw[ST r f.1];exact GY r rx f.1 fx
  ·exact o8 rx fx t f.2 u' hu
def inV (x:V)(xs:List V):Bool:=xs.any fun y=>eqV y x
def rIn (K:W.Frag)(neg:Bool):R2:=fun x y H Q=>∃p xs,y= .ref p/\(SqL K H p xs∨SqT K H p xs)/\gJ x=true/\xs.all gJ=true/\Q (.bl (if neg then !inV x xs else inV x xs)) H
theorem u8:OpR X (compareOp .In) (rIn X.K false):=by
 intro pins s σ H x y v u Q I rx ry h;obtain⟨p,xs,rfl,hq,fx,fs,q⟩:=h;cases ry;rcases hq with hq|hq
 ·obtain⟨its,r,pl,hz⟩:=I.list hq;refine SeqAt.in_listAt (eqU x) pl.isList (fun w hw=>o8 rx fx r fs w (by simpa using hw)) ⟨.bl _,H,I,rfl,?_⟩;rw[show its.toArray.any (eqU x)=its.any (eqU x) by simp,rQ r fs];exact q
 ·obtain⟨its,r,pl,hz⟩:=I.tuple hq;refine SeqAt.in_tupleAt (eqU x) pl (fun w hw=>o8 rx fx r fs w (by simpa using hw)) ⟨.bl _,H,I,rfl,?_⟩;rw[show its.toArray.any (eqU x)=its.any (eqU x) by simp,rQ r fs];exact q
theorem jX:OpR X (compareOp .NotIn) (rIn X.K true):=by
 intro pins s σ H x y v u Q I rx ry h;obtain⟨p,xs,rfl,hq,fx,fs,q⟩:=h;cases ry;rcases hq with hq|hq
 ·obtain⟨its,r,pl,hz⟩:=I.list hq;refine SeqAt.notIn_listAt (eqU x) pl.isList (fun w hw=>o8 rx fx r fs w (by simpa using hw)) ⟨.bl _,H,I,rfl,?_⟩;rw[show its.toArray.any (eqU x)=its.any (eqU x) by simp,rQ r fs];exact q
 ·obtain⟨its,r,pl,hz⟩:=I.tuple hq;refine SeqAt.notIn_tupleAt (eqU x) pl (fun w hw=>o8 rx fx r fs w (by simpa using hw)) ⟨.bl _,H,I,rfl,?_⟩;rw[show its.toArray.any (eqU x)=its.any (eqU x) by simp,rQ r fs];exact q
theorem IM:cS X (.builtin "len") (fun xs H Q=>∃p ys,xs=[.ref p]/\(SqL X.K H p ys∨SqT X.K H p ys)/\Q (.int ys.length) H):=by
 intro pins s σ H xs us Q I r h;obtain⟨p,ys,rfl,hq,q⟩:=h;obtain⟨u,rfl,rx⟩:=jW r;cases rx;have hn:=A6;rcases hq with hq|hq
 ·obtain⟨its,r',pl,hz⟩:=I.list hq;have hlen:=r'.length;exact Calls.call_len_list pl.isList (by simp only[List.size_toArray]<;>lia) ⟨.int ys.length,H,I.tok _,⟨s.toks+1,by rw[List.size_toArray,hlen]⟩,q⟩
 ·obtain⟨its,r',pl,hz⟩:=I.tuple hq;have hlen:=r'.length;exact len_tuple pl (by simp only[List.size_toArray]<;>lia) ⟨.int ys.length,H,I.tok _,⟨s.toks+1,by rw[List.size_toArray,hlen]⟩,q⟩
theorem JG:cS X (.builtin "len") (fun xs H Q=>∃z,xs=[.str z]/\z.length<=sizeLine/\Q (.int z.length) H):=by
 intro pins s σ H xs us Q I r h;obtain⟨z,rfl,hz,q⟩:=h;obtain⟨u,rfl,t,rfl⟩:=jW r;have hn:=A6;exact len_str (by lia) ⟨.int z.length,H,I.tok _,⟨_,rfl⟩,q⟩
theorem IT:cS X (.type "list") (fun xs H Q=>∃p ys,xs=[.ref p]/\(SqL X.K H p ys∨SqT X.K H p ys)/\∀l,H l=none->Q (.ref l) (upd H l (.lst ys))):=by
 intro pins s σ H xs us Q I r h;obtain⟨p,ys,rfl,hq,q⟩:=h;obtain⟨u,rfl,rx⟩:=jW r;cases rx;have fin:∀(its:List Value),Vals ys its->ys.length<=sizeLine->∀(h':Heap) (c':Nat),(∀b o',s.heap.get? b=some o'->h'.get? b=some o') →
   h'.get? s.heap.objs.size=some { cls:= .type "list",dict:=none,data:= .seq its.toArray c',slots:= #[] }->EP X pins σ Q (.ref s.heap.objs.size) { s with heap:=h' }:=fun its r' hz h' c' kp e =>
  ⟨.ref s.heap.objs.size,_,I.laid (t':=s.toks) kp (Nat.le_refl _) (show ObjOk X.prog X.w _ h' _ (.lst ys) from⟨hz,its,c',r',e⟩),rfl,q _ (I.hok.fresh (Nat.le_refl _))⟩
 rcases hq with hq|hq
 ·obtain⟨its,r',pl,hz⟩:=I.list hq;have hlen:=r'.length;obtain⟨o,ho,hc,n,hd⟩:=pl.isList;exact call_list_seq p (.inl rfl) ho hc hd (fun h' c' kp e=>fin its r' hz h' c' kp e) (by simp only[List.size_toArray]<;>lia)
 ·obtain⟨its,r',pl,hz⟩:=I.tuple hq;have hlen:=r'.length;obtain⟨o,ho,hc,n,hd⟩:=pl;exact call_list_seq p (.inr rfl) ho hc hd (fun h' c' kp e=>fin its r' hz h' c' kp e) (by simp only[List.size_toArray]<;>lia)
def tyV (K:W.Frag)(T:String)(x:V)(H:Hp):Prop:=match x with
 | .str _=>T= "str"
 | .int _=>T= "int"
 | .ref p=>(T= "list" /\∃xs,SqL K H p xs)∨(T= "tuple" /\∃o,K.lookup p=some o/\o.cls= .type "tuple" /\o.dict=none) ∨
   (T= "dict" /\((∃kvs,H p=some (.dK kvs))∨∃kvs,H p=some (.dT kvs)))∨(T= "set" /\∃S n,H p=some (.set S n))
 | _=>False
theorem aAs {pins:List (Addr×Obj)}{σ:St}{H:Hp}{s:Shared}{T:String}{x:V}{v:Value} (I:Inv X pins σ H s) (r:RelV x v) (ty:tyV X.K T x H) :
  s.TypeIs v T/\∀a,v= .ref a->∃ob,s.heap.get? a=some ob/\ob.dict=none:=by
 cases x with
 | str z =>
  obtain⟨t,rfl⟩:=r;cases (show T= "str" from ty);exact⟨typeIs_str s z t,fun _ e=>nomatch e⟩
 | int i =>
  obtain⟨t,rfl⟩:=r;cases (show T= "int" from ty);exact⟨typeIs_int s i t,fun _ e=>nomatch e⟩
 | ref p =>
  cases r;rcases ty with⟨rfl,xs,hq⟩|⟨rfl,o,hk,hc,hd⟩|⟨rfl,hk⟩|⟨rfl,S,n,hk⟩
  ·obtain⟨its,_,pl,_⟩:=I.list hq;refine⟨pl.isList.typeIs,fun a e=> ?_⟩;cases e;obtain⟨o,n,e,c,hd,_⟩:=pl;exact⟨o,e,hd⟩
  ·refine⟨⟨o,I.kIn p o hk,hc⟩,fun a e=> ?_⟩;cases e;exact⟨o,I.kIn _ o hk,hd⟩
  ·have z:∃o,s.heap.get? p=some o/\o.ExactDict:=by
    rcases hk with⟨kvs,hk⟩|⟨kvs,hk⟩
    ·obtain⟨_,_,_,_,o,_,_,e,ex,_⟩:=I.hok p _ hk;exact⟨o,e,ex⟩
    ·obtain⟨_,_,_,_,o,_,_,e,ex,_⟩:=I.hok p _ hk;exact⟨o,e,ex⟩
   obtain⟨o,e,ex⟩:=z;refine⟨⟨o,e,ex.1⟩,fun a e2=> ?_⟩;cases e2;exact⟨o,e,ex.2.1⟩
  ·obtain⟨o,_,_,_,e,ex,_⟩:=I.hok p _ hk;refine⟨⟨o,e,ex.1⟩,fun a e2=> ?_⟩;cases e2;exact⟨o,e,ex.2.1⟩
 | _=>exact False.elim ty
def tBM (K:W.Frag)(T:String)(r:V->List V->Hp->VK->Prop)(to:TE)(t:TA):TE:=fun σ H Q=>to σ H fun x H1=>tyV K T x H1/\t σ H1 fun xs H2=>r x xs H2 Q
variable {o e:Expr}{es:List Expr}{to:TE}{t:TA}{name:Str}{apos cpos:Pos}{T id:String}{r:V->List V->Hp->VK->Prop}
theorem wO (pa:PlainAttrs T)(slot:Slot T name id)(hty:typeOf (.builtin id)=pure (.type "method_descriptor"))(hm:MtR X id r)(ho:PE X o to)(ha:PA X (e::es) t)
  (hbase:attributeBase o name X.env (eval o X.env)=eval o X.env:=by rfl)
  (hfew:((backTo cpos (starEach (e::es) X.env)).all (fun x=> !x.1)&&(backToKw cpos (keywordEach [] X.env)).all (fun x=>x.1.isSome)
   && decide ((e::es).length+([]:List Keyword).length+(if ([]:List Keyword).isEmpty then 0 else 1)<30))=true:=by rfl)
  (hline:(apos.endLine==cpos.line)=true:=by rfl)(hs:starEach (e::es) X.env=(false,eval e X.env)::starEach es X.env:=by rfl)(hplain:(backTo cpos (starEach es X.env)).any (·.1)=false:=by rfl) :
  PE X (.Call (.Attribute o name apos) (e::es) [] cpos) (tBM X.K T r to t):=by
 intro pins s σ H Q I h;refine wpAny_Call_method_late hbase hfew hline rfl (thn (ho pins s σ H _ I h) fun v s1 ⟨x,H1,I1,r1,ty,q1⟩=> ?_);obtain⟨h1,h2⟩:=aAs I1 r1 ty;refine⟨T,id,pa,slot,hty,h1,h2,?_⟩;have hA:=ha cpos pins s1 σ H1 _ I1 q1;rw[hs]at hA ⊢;refine Calls.callWith_builtin (by show (false||(backTo cpos (starEach es X.env)).any (·.1))=false;rw[hplain]<;>rfl) (Calls.evalArgs_plain ?_);exact thn hA fun us s2 ⟨vs,H2,I2,r2,q2⟩=>hm pins s2 σ H2 x vs v us Q I2 r1 r2 q2
end
def MtM (X:Cx)(id:String)(r:V->List V->Hp->VK->Prop):Prop :=
 ∀(pins:List (Addr×Obj)) (s:Shared) (σ:St) (H:Hp) (x:V) (xs:List V) (v:Value) (us:List Value) (Q:VK),Inv X pins σ H s->RelV x v->Vals xs us->r x xs H Q →
  wpAny (model X.prog X.w) X.A (call (.builtin id) (v::us)) (EP X pins σ Q) X.xe s
theorem Vals.one:∀{x:V}{us:List Value},Vals [x] us->∃u,us=[u]/\RelV x u
 | _,_,.cons r .nil=>⟨_,rfl,r⟩
section
variable {X:Cx}{pins:List (Addr×Obj)}{σ:St}{H:Hp}{s:Shared}{l b:Addr}{xs ys zs:List V}
theorem Inv.lset {its its':List Value}{n:Nat}{f:Array Value->Array Value}{t':Nat} (I:Inv X pins σ H s) (hH:H l=some (.lst xs))
  (e:s.heap.get? l=some { cls:= .type "list",data:= .seq its.toArray n })(hf:f its.toArray=its'.toArray)(hv:Vals ys its')(hz:ys.length<=sizeLine) :
  Inv X pins σ (upd H l (.lst ys)) { s with heap:=s.heap.update l (Obj.mapSeq f),toks:=t' }:=by
 have q:=PySem.IsL.update e f;rw[hf]at q;refine I.write (x:=l) (e:=l) (by rw[hH];exact trivial) (.inl rfl) (fun b' u hb hu=>(Heap.get?_update_other s.heap (Obj.mapSeq f) (Ne.symm hb)).trans hu) ⟨_,q⟩ ?_;exact⟨hz,its',_,hv,q⟩
theorem Inv.lnew {its:List Value}{t':Nat} (I:Inv X pins σ H s) (hv:Vals ys its) (hz:ys.length<=sizeLine) :
  Inv X pins σ (upd H s.heap.objs.size (.lst ys)) { s with heap:=s.heap.push { cls:= .type "list",data:= .seq its.toArray },toks:=t' } :=
 I.laid (fun _ _ q=>Heap.get?_push_of_some _ q) (Nat.le_refl _) ⟨hz,its,0,hv,Heap.get?_push_size _ rfl⟩
theorem Inv.fresh (I:Inv X pins σ H s):H s.heap.objs.size=none:=I.hok.fresh (Nat.le_refl _)
theorem Inv.lstM (I:Inv X pins σ H s)(hH:H l=some (.lst xs)):xs.length<=sizeLine/\∃(its:List Value) (n:Nat),Vals xs its/\xs.length=its.length/\s.heap.get? l=some { cls:= .type "list",data:= .seq its.toArray n }:=by
 obtain⟨z,its,n,r,e⟩:=I.hok l _ hH;exact⟨z,its,n,r,r.length,e⟩
theorem UZ {n:Nat}(h:n<=sizeLine):Builtin.List.listTooLong n=false:=by
 unfold Builtin.List.listTooLong;exact decide_eq_false (by lia)
end
section
variable {X:Cx}
def KS:V->List V->Hp->VK->Prop:=fun x vs H Q=>∃l xs y,x= .ref l/\vs=[y]/\H l=some (.lst xs)/\xs.length<sizeLine/\Q .non (upd H l (.lst (xs++[y])))
theorem jO:MtM X "list.append" KS:=by
 intro pins s σ H x vs v us Q I rx rv h;obtain⟨l,xs,y,rfl,rfl,hH,hz,q⟩:=h;cases rx;obtain⟨u,rfl,ru⟩:=rv.one;obtain⟨z,its,n,r,hl,e⟩:=I.lstM hH;refine call_meets F.slot_list_append ⟨_,e,rfl⟩ F.entry_list_append (F.args_list_append_2 _ _) (PySem.list_append l its.toArray n u (by rw[List.size_toArray];lia)) ⟨e,?_⟩;refine⟨.non,_,I.lset (its':=its++[u]) hH e (by simp) (r.append (.cons ru .nil)) ?_,rfl,q⟩;rw[List.length_append,List.length_singleton]
 lia
def LR:V->List V->Hp->VK->Prop:=fun x vs H Q=>∃l b xs zs,x= .ref l/\vs=[.ref b]/\H l=some (.lst xs)/\H b=some (.lst zs)/\xs.length+zs.length<=sizeLine/\Q .non (upd H l (.lst (xs++zs)))
theorem R7:MtM X "list.extend" LR:=by
 intro pins s σ H x vs v us Q I rx rv h;obtain⟨l,b,xs,zs,rfl,rfl,hH,hB,hz,q⟩:=h;cases rx;obtain⟨u,rfl,ru⟩:=rv.one;cases ru;obtain⟨z,its,n,r,hl,e⟩:=I.lstM hH;obtain⟨z2,its2,n2,r2,hl2,e2⟩:=I.lstM hB;have hsz:its.toArray.size+its2.toArray.size<=sizeLine:=by rw[List.size_toArray,List.size_toArray];lia
 have hlong:¬(!its.toArray.isEmpty&&Builtin.List.listTooLong (its.toArray.size+its2.toArray.size))=true:=by
  rw[UZ hsz,Bool.and_false];exact Bool.false_ne_true
 refine call_meets F.slot_list_extend ⟨_,e,rfl⟩ F.entry_list_extend (F.args_list_extend_2 _ _)
  (AutoSeq1.list_extend_list_list_0 l its.toArray n b its2.toArray n2 hlong (by rw[List.size_toArray];lia) (by lia)) ⟨e,e2,?_⟩
 refine⟨.non,_,I.lset (its':=its++its2) hH e (by simp) (r.append r2) ?_,rfl,q⟩;rw[List.length_append]
 lia
def aBO:R2:=fun x y H Q=>∃l b xs zs,x= .ref l/\y= .ref b/\H l=some (.lst xs)/\H b=some (.lst zs)/\xs.length+zs.length<=sizeLine/\∀p,H p=none->Q (.ref p) (upd H p (.lst (xs++zs)))
theorem c6:OpR X (binaryOp .Add) aBO:=by
 intro pins s σ H x y v u Q I rx ry h;obtain⟨l,b,xs,zs,rfl,rfl,hH,hB,hz,q⟩:=h;cases rx;cases ry;obtain⟨z,its,n,r,hl,e⟩:=I.lstM hH;obtain⟨z2,its2,n2,r2,hl2,e2⟩:=I.lstM hB;refine PySem.P.add_list e e2 ?_ (by rw[List.size_toArray,List.size_toArray];lia);have ea:its.toArray++its2.toArray=(its++its2).toArray:=by simp
 rw[ea];exact⟨.ref _,_,I.lnew (t':=s.toks) (r.append r2) (by rw[List.length_append];lia),rfl,q _ I.fresh⟩
end
section
variable {prog:Program}{w:World}{A:Around}{E:Value->Shared->Prop}{s:Shared}
set_option maxRecDepth 100000 in
end
section
variable {X:Cx}
end
end L2
namespace Att
open PySem PySem.W PySem.Calls PyProof.Rows
theorem AX {P:Params}{h:Heap}:∀(ns:List Int) (vs:List Value),WellAll P h vs (ns.map WData.int)->IntsAre vs ns:=by
 intro ns
 induction ns with
 | nil =>
  intro vs w;rw[List.map_nil]at w;cases w;exact .nil
 | cons n ns ih =>
  intro vs w;rw[List.map_cons]at w;cases w with
  | cons a b =>
   cases a;exact .cons _ _ (ih _ b)
theorem QF {l:OpenLaw}{n:Nat} (hn:l.most=some n) {P:Params}{h:Heap}{args:List WData}{vals:List Value}
  (hpre:l.row.toRowW.claim.pre args=true)(hwl:WellAll P h vals args) :
  ∃a vs ns,vals=[Value.ref a]/\args=[WData.list (ns.map WData.int)]/\h.get? a=some { cls:= .type "list",data:= .seq vs.toArray }/\IntsAre vs ns/\ns.length<=n:=by
 have hsh:WShape.hasAll [] args [.list .int]=true:=(pre_splitW hpre).1;have hc:l.pre.holds [] { args:=args }=true:=(pre_splitW hpre).2;obtain⟨d,r,rfl,h1,h2⟩:=hasAllW_cons hsh;obtain rfl:=hasAllW_nil h2;obtain⟨xs,rfl,h3⟩:=hasW_list h1;obtain⟨ns,rfl⟩:=items_int h3;have hlen:ns.length<=n:=by
  unfold OpenLaw.pre at hc;have h4:(WTm.not (.lt (.lit (.int (n:Int))) (.len (.arg 0)))).holds [] { args:=[.list (ns.map .int)] }=true:=by
   have h4:=(holds_andW hc).1;rw[hn]at h4;exact h4
  have h5:=condW_of h4 (w_not (w_lt w_lit (w_len_list (w_arg rfl))));rw[List.length_map]at h5;refine Nat.le_of_not_lt fun q=> ?_;have q':(n:Int)<((ns.length:Nat):Int):=by lia
  first
   | (rw[decide_eq_true q']at h5;exact absurd h5 (by decide))
   | (simp at h5;lia)
 cases hwl with
 | cons w1 w2 =>
  cases w2;cases w1 with
  | list ho hall=>exact⟨_,_,ns,rfl,rfl,ho,AX ns _ hall,hlen⟩
theorem SR (l:OpenLaw)(args:List WData):l.row.toRowW.claim.post args (.bool true) args=true :=
 postW_of (r:=l.row.toRowW) (X:=(true==true))
  (show WShape.has [] (.bool true) .bool=true by first|rfl|decide|simp[WShape.has,WShape.arms,WShape.armsAll])
  (show (WTm.eq .res (.lit (.bool true))).value [] { args:=args,res:=some (.bool true),after:=args }=some (.bool (true==true)) from w_eq_bool (w_res rfl) w_lit) rfl
theorem attach_call {l:OpenLaw}{n:Nat}{q:Program}{loose:List Str}{XP:(Str->Option Value)->Heap->Prop}{YP:World->Heap->Prop}{d:DefRec}
  (hn:l.most=some n)(hdf:d.params.defaults=[])
  (call:∀(w:World) (s₀ s₁:Shared) (mg mb:Str->Option Value) (fa:Addr) (o:Obj) (pm cd doc:Value) (a:Addr) (vs:List Value) (ns:List Int),
   Ground q loose [] XP w s₀ mg mb s₁.heap->YP w s₁.heap →
   s₁.heap.get? fa=some o->o.data= .func (docDef d.name d.params d.body d.scope pm cd doc)->s₁.heap.CodeRec cd d.name->mg d.name=some (.ref fa) →
   s₁.heap.get? a=some { cls:= .type "list",data:= .seq vs.toArray }->IntsAre vs ns->ns.length<=n->s₁.gens= #[] →
   codeAny (model l.prog w) callerA (.call (.ref fa) ⟨[.ref a],[]⟩) (fun r s'=>r= .ok (.ret (.bool true))/\OldK s₁.heap s'.heap/\s'.os=s₁.os/\AllBare s'.gens) s₁) :
  WalkO q loose XP YP l.row.toRowW d [] (fun f vs=>PySem.call f vs):=by
 intro w s₀ s₁ mg mb G Y fa o pm cd doc dV kV ho hd hcd hD hmg hg args vals as hpre hlay hrd hwl hlo;obtain rfl:dV= .none:=Dflts.none hD hdf;obtain rfl:kV= .none:=Dflts.noKw hD;obtain⟨a,vs,ns,rfl,rfl,hobj,hints,hlen⟩:=QF hn hpre hwl;refine enter_call (codeAny_mono (call w s₀ s₁ mg mb fa o pm cd doc a vs ns G Y ho (fd_plain hd) hcd hmg hobj hints hlen hg) fun r s' hq=> ?_);obtain⟨rfl,h2,h3,h4⟩:=hq;exact⟨.inl ⟨.bool true,.bool true,[],rfl,fun _=>rfl,.bool true,SR l _,fun _=>⟨List.Pairwise.nil,fun _ hm=>(nomatch hm)⟩⟩,h2,h3,h4⟩
section
variable {prog:Program}{w:World}{A:Around}{E:Value->Shared->Prop}{s:Shared}{K:Frag}
end
end Att
namespace L2
open PySem PySem.Spec PyProof.Rows
theorem E6:∀{vs:List Value}{ns:List Int},IntsAre vs ns->Vals (ns.map V.int) vs
 | _,_,.nil=> .nil
 | _,_,.cons n t h=> .cons ⟨t,rfl⟩ (E6 h)
def UP (H:Hp):Prop:=∀b,H b=none∨∃o xs,H b=some (.frz o (.lst xs))
theorem UY {P:Program}{w:World}{K:W.Frag}{mg mb:Str->Option Value}{CX:CXT}{k:Nat}{fa a:Addr}{fd:FuncData}{x:Str}{sp:Sp}{s₁:Shared}{vs:List Value}{ns:List Int}
  (KX:K.In s₁.heap)(hns:s₁.heap.Ns mainGlobals mg)(hb:s₁.heap.Ns builtinsNs mb)(hbb:∀x:Str,x≠ "__name__" ->mb x=bootBuiltins x)(hlim:s₁.heap.NoLimit)(hg:s₁.gens= #[])
  (ha:s₁.heap.get? a=some { cls:= .type "list",data:= .seq vs.toArray })(hi:IntsAre vs ns)(hl:ns.length<=sizeLine)(hr:Room k callerA)
  (F:∀base:Heap,K.In base->base.Ns mainGlobals mg->bD P w K mg base CX k fa fd [x] sp)(hbind:∀(s:Shared) (u:Value),BindsTo s fd ⟨[u],[]⟩ [(x,u)])
  (hsp:∀H:Hp,UP H->SqL K H a (ns.map V.int)->sp [.ref a] H (fun v _=>v= .bl true) fun _ _ _=>False)
  (hCX:∀H e s',CX [] H s₁ (fun _ _ _=>False) e s'->False) :
  codeAny (model P w) callerA (.call (.ref fa) ⟨[.ref a],[]⟩) (fun r s'=>r= .ok (.ret (.bool true))/\OldK s₁.heap s'.heap/\s'.os=s₁.os/\AllBare s'.gens) s₁:=by
 have rv:=E6 hi;have lenV:=hi.length;have core:∀H:Hp,UP H->SqL K H a (ns.map V.int)->HOk P w H s₁.heap->(∀b,H b≠none->b=a)->(H a≠none->K.lookup a=none) →
   codeAny (model P w) callerA (.call (.ref fa) ⟨[.ref a],[]⟩) (fun r s'=>r= .ok (.ret (.bool true))/\OldK s₁.heap s'.heap/\s'.os=s₁.os/\AllBare s'.gens) s₁:=by
  intro H hO hS hok hA hK;have base_of:∀{b:Addr}{o:Obj},s₁.heap.get? b=some o->H b=none->(tF s₁.heap H).get? b=some o:=fun e n=>UC e n;have noA:∀{b:Addr}{o:Obj}{es:Array DictEntry}{ep:Nat},s₁.heap.get? b=some o->o.data= .dict es ep->H b=none:=fun {b o es ep} e d=>by
   cases q:H b with
   | none=>rfl
   | some u =>
    have e':b=a:=hA b (by rw[q];simp);subst e';rw[ha]at e;cases e;have d':Data.seq vs.toArray _=Data.dict es ep:=d;cases d'
  have nsK:∀{b:Addr}{m:Str->Option Value},s₁.heap.Ns b m->(tF s₁.heap H).Ns b m:=fun {b m} ⟨o,es,ep,e,d,r⟩=>⟨o,es,ep,base_of e (noA e d),d,r⟩
  have hKb:K.In (tF s₁.heap H):=fun b o e=>base_of (KX b o e) (by
   cases q:H b with
   | none=>rfl
   | some u =>
    have e':b=a:=hA b (by rw[q];simp);subst e';rw[hK (by rw[q];simp)]at e;cases e)
  have hM:Mod K mg (tF s₁.heap H):=⟨hKb,nsK hns,⟨mb,nsK hb,hbb⟩,let ⟨mc,h1,h2⟩:=hlim;⟨mc,nsK h1,h2⟩⟩
  have e0:Env0 P w K mg (tF s₁.heap H) callerA [] s₁ H:=⟨rfl,hM,fun b o e=>X9 e,Nat.le_of_eq (RV _ _),trivial,fun b hb=>absurd (show b∈([]:List Addr) from hb) (by simp),hok,.of_eq hg⟩
  refine codeAny_mono ((F _ hKb (nsK hns)).run callerA [] s₁ H ⟨[.ref a],[]⟩ [.ref a] [.ref a] _ _ hr e0 (hbind s₁ (.ref a)) (.cons rfl .nil) (hsp H hO hS)) fun r s' h=> ?_;cases r with
  | error e=>exact(hCX H e s' h).elim
  | ok fl =>
   cases fl with
   | next=>exact False.elim h
   | brk=>exact False.elim h
   | cont=>exact False.elim h
   | ret u =>
    obtain⟨v,H',os,bare,un,hok',r',q⟩:=h;have q':v= .bl true:=q;subst q';obtain rfl:u=Value.bool true:=r';refine⟨rfl,OldK.of_keep fun b o e=> ?_,os,bare⟩;cases q:H b with
    | none=>exact un.keep b o e q (by intro z;exact absurd (show b∈([]:List Addr) from z) (by simp)) (by simp)
    | some u =>
     rcases hO b with z|⟨ob,xs,z⟩
     ·rw[q]at z;cases z
     ·have z2:=un.frzs b ob _ z;obtain⟨e1,_⟩:=hok b _ z;obtain⟨e2,_⟩:=hok' b _ z2;rw[e]at e1;cases e1;exact e2
 cases hk:K.lookup a with
 | some o =>
  have e:=KX a o hk;rw[ha]at e;cases e;refine core (fun _=>none) (fun _=> .inl rfl) (.inr ⟨_,vs.toArray,_,hk,rfl,rfl,rfl,by rw[List.size_toArray,lenV];exact hl,by simpa using rv⟩) (fun b u z=>by have z':(none:Option HO)=some u:=z;cases z') (fun b z=>absurd rfl z) fun z=>absurd rfl z
 | none =>
  refine core (fun b=>if b=a then some (.frz { cls:= .type "list",data:= .seq vs.toArray } (.lst (ns.map V.int))) else none) (fun b=> ?_) (.inl (.inr ⟨{ cls:= .type "list",data:= .seq vs.toArray },if_pos rfl⟩)) (fun b u z=> ?_) (fun b z=> ?_) fun _=>hk
  ·by_cases hb:b=a
   ·exact .inr ⟨_,_,if_pos hb⟩
   ·exact .inl (if_neg hb)
  ·by_cases hb:b=a
   ·have z':=(if_pos hb).symm.trans z;cases z';subst hb;exact⟨ha,by rw[List.length_map];exact hl,vs,_,rv,ha⟩
   ·have z':=(if_neg hb).symm.trans z;cases z'
  ·by_cases hb:b=a
   ·exact hb
   ·exact absurd (if_neg hb) z
theorem walk_of {l:W.OpenLaw}{n k:Nat}{q:Program}{loose:List Str}{XP:(Str->Option Value)->Heap->Prop}{YP:World->Heap->Prop}{d:DefRec}{K:Params->W.Frag}{CX:World->CXT}{sp:World->Sp}{x:Str}
  (hn:l.most=some n)(hn2:n<=sizeLine)(hdf:d.params.defaults=[])(hr:Room k callerA)
  (hY:∀(w:World) (h:Heap),YP w h->(K w.params).In h)
  (F:∀(w:World) (mg:Str->Option Value) (fa:Addr) (h:Heap),(K w.params).In h->h.Ns mainGlobals mg->mg d.name=some (.ref fa) →
   ∃fd:FuncData,(∀(s:Shared) (u:Value),BindsTo s fd ⟨[u],[]⟩ [(x,u)]) ∧
    ∀base:Heap,(K w.params).In base->base.Ns mainGlobals mg->bD l.prog w (K w.params) mg base (CX w) k fa fd [x] (sp w))
  (hsp:∀(w:World) (H:Hp) (a:Addr) (ns:List Int),ns.length<=n->UP H->SqL (K w.params) H a (ns.map V.int)->sp w [.ref a] H (fun v _=>v= .bl true) fun _ _ _=>False)
  (hCX:∀(w:World) (H:Hp) (s:Shared) (e:Value) (s':Shared),CX w [] H s (fun _ _ _=>False) e s'->False) :
  W.WalkO q loose XP YP l.row.toRowW d [] (fun f vs=>PySem.call f vs):=by
 refine Att.attach_call hn hdf fun w s₀ s₁ mg mb fa o pm cd doc a vs ns G Y ho hd hcd hmg hobj hints hlen hg=> ?_;have KX:=hY w _ Y;obtain⟨fd,hb,hF⟩:=F w mg fa _ KX G.T.g hmg;exact UY KX G.T.g G.T.b G.T.builtins G.T.nolimit hg hobj hints (Nat.le_trans hlen hn2) hr hF hb (fun H hO hS=>hsp w H a ns hlen hO hS) fun H e s'=>hCX w H s₁ e s'
def cN (s:Stmt)(j:Nat):Stmt:=match s with
 | .ClassDef _ _ _ body _ _ _ _ _ _ _=>body.getD j (.Pass ⟨0,0,0,0⟩)
 | _=> .Pass ⟨0,0,0,0⟩
def dP (s:Stmt):Arguments:=match s with
 | .FunctionDef _ a _ _ _ _ _ _ _ _=>a
 | _=>{ posonlyargs:=[],args:=[],vararg:=none,kwonlyargs:=[],kw_defaults:=[],kwarg:=none,defaults:=[] }
def cY (s:Stmt):List Stmt:=match s with
 | .FunctionDef _ _ b _ _ _ _ _ _ _=>b
 | _=>[]
def aG (s:Stmt):Scope:=match s with
 | .FunctionDef _ _ _ _ _ _ sc _ _ _=>sc
 | _=>{ kind:= .function,names:=[],isGenerator:=false,isCoroutine:=false }
abbrev CX0:CXT:=fun _ _ _ _ _ _=>False
abbrev E0:XK:=fun _ _ _=>False
theorem A0 {X:Cx}:j5 CX0 X E0:=fun _ _ _ _ _ _ _ h=>h.elim
section
variable {P:Program}{w:World}{K:W.Frag}{mg:Str->Option Value}{base:Heap}
end
theorem vC {n:Nat}(h:n<=1000):n<sizeLine:=Nat.lt_of_le_of_lt h (by decide)
section
variable {X:Cx}
theorem pv (i:Nat){x:Str}{pos:Pos} (hN:X.N[i]? =some x:=by rfl) (hv:Vis X.env.scope x:=by first|exact Or.inl rfl|exact Or.inr (Or.inl rfl)|exact Or.inr (Or.inr rfl)) (hd:(x==("__debug__" :Str))=false:=by decide)
  (hcd:(x==("__classdict__" :Str))=false:=by decide):PE X (.Name x pos) (c5 i):=aCq hN hv hd hcd
end
theorem DK {c A B:Prop}[Decidable c](h1:c->A)(h2:¬c->B):if c then A else B:=by
 by_cases h:c
 ·rw[if_pos h];exact h1 h
 ·rw[if_neg h];exact h2 h
def Same (H H':Hp):Prop:=∀b o,H b=some o->H' b=some o
theorem Same.refl (H:Hp):Same H H:=fun _ _ h=>h
theorem Same.trans {H H1 H2:Hp}(a:Same H H1)(b:Same H1 H2):Same H H2:=fun c o h=>b c o (a c o h)
theorem Same.seq {K:W.Frag}{H H':Hp}{a:Addr}{xs:List V} (e:Same H H') (h:SqL K H a xs):SqL K H' a xs:=by
 rcases h with (h|⟨o,h⟩)|h
 ·exact .inl (.inl (e _ _ h))
 ·exact .inl (.inr ⟨o,e _ _ h⟩)
 ·exact .inr h
section
variable {X:Cx}{pins:List (Addr×Obj)}{σ:St}{H:Hp}{s:Shared}{D:Addr}{ys:List V}
theorem HOk.adds {P:Program}{w:World}{h:Heap}{o:HO} (x:HOk P w H h) (hn:H D=none) (new:ObjOk P w (upd H D o) h D o):HOk P w (upd H D o) h:=fun b u e=>by
 by_cases hb:b=D
 ·subst hb;rw[aY]at e;cases e;exact new
 ·rw[aK hb]at e;exact(x b u e).stay (fun c v _ q=>q) (fun c q=>by rw[aK (aN q hn)];exact q) fun c xs q=>by rw[aK (aN q hn)];exact q
theorem HOk.drops {P:Program}{w:World}{h:Heap} (x:HOk P w (upd H D (.lst ys)) h) (hn:H D=none):HOk P w H h:=fun b u e=>by
 have hb:b≠D:=aN e hn;refine(x b u (by rw[aK hb];exact e)).stay (fun c v _ q=>q) (fun c q=> ?_) fun c xs q=> ?_
 ·by_cases hc:c=D
  ·subst hc;rw[aY]at q;cases q
  ·rw[aK hc]at q;exact q
 ·by_cases hc:c=D
  ·subst hc;rw[aY]at q;cases q
  ·rw[aK hc]at q;exact q
theorem Inv.track {its:List Value}{n:Nat} (I:Inv X pins σ H s) (hn:H D=none) (e:s.heap.get? D=some { cls:= .type "list",data:= .seq its.toArray n }) (r:Vals ys its) (hz:ys.length<=sizeLine)
  (h0:X.s₀.heap.objs.size<=D)(h1:D≠X.env.locals)(h2:∀x c,X.env.cells.lookup x=some c->c≠D)(h3:∀p∈X.pn++pins,p.1≠D):Inv X pins σ (upd H D (.lst ys)) s where
 ok:=I.ok
 os:=I.os
 bare:=I.bare
 base:=by
  have lt:∀b o,X.s₀.heap.get? b=some o->b≠D:=fun b o q=>Nat.ne_of_lt (Nat.lt_of_lt_of_le (Heap.lt_size q) h0);refine⟨I.base.keep,I.base.slot,fun b o q n' hx=> ?_,I.base.there,fun b xs q=> ?_,fun b o u q=> ?_,fun b ps q=> ?_⟩
  ·rw[aK (lt b o q)];exact I.base.free b o q n' hx
  ·have z:=I.base.tups b xs q;rw[aK (aN z hn)];exact z
  ·have z:=I.base.frzs b o u q;rw[aK (aN z hn)];exact z
  ·obtain⟨more,z⟩:=I.base.tbls b ps q;exact⟨more,by rw[aK (aN z hn)];exact z⟩
 loc:=I.loc
 cell:=I.cell
 free:=by rw[aK (Ne.symm h1)];exact I.free
 freeC:=fun x c q=>by rw[aK (h2 x c q)];exact I.freeC x c q
 pin:=fun p hp=>by
  obtain⟨a,b,c⟩:=I.pin p hp;exact⟨a,by rw[aK (h3 p hp)];exact b,c⟩
 hok:=I.hok.adds hn ⟨hz,its,n,r,e⟩
 len:=I.len
theorem Inv.untrack (I:Inv X pins σ (upd H D (.lst ys)) s)(hn:H D=none):Inv X pins σ H s where
 ok:=I.ok
 os:=I.os
 bare:=I.bare
 base:=by
  have low:∀b u,upd H D (.lst ys) b=some u->(∀xs,u≠ .lst xs)->H b=some u:=fun b u q nl=>by
   by_cases hb:b=D
   ·subst hb;rw[aY]at q;cases q;exact absurd rfl (nl ys)
   ·rw[aK hb]at q;exact q
  refine⟨I.base.keep,I.base.slot,fun b o q n' hx=> ?_,I.base.there,fun b xs q=> ?_,fun b o u q=> ?_,fun b ps q=> ?_⟩
  ·have z:=I.base.free b o q n' hx
   by_cases hb:b=D
   ·subst hb;exact hn
   ·rw[aK hb]at z;exact z
  ·exact low _ _ (I.base.tups b xs q) (fun _ z=>by cases z)
  ·exact low _ _ (I.base.frzs b o u q) (fun _ z=>by cases z)
  ·obtain⟨more,z⟩:=I.base.tbls b ps q;exact⟨more,low _ _ z (fun _ z=>by cases z)⟩
 loc:=I.loc
 cell:=I.cell
 free:=by
  have z:=I.free
  by_cases hb:X.env.locals=D
  ·rw[hb];exact hn
  ·rw[aK hb]at z;exact z
 freeC:=fun x c q=>by
  have z:=I.freeC x c q
  by_cases hb:c=D
  ·rw[hb];exact hn
  ·rw[aK hb]at z;exact z
 pin:=fun p hp=>by
  obtain⟨a,b,c⟩:=I.pin p hp;refine⟨a,?_,c⟩
  by_cases hb:p.1=D
  ·rw[hb];exact hn
  ·rw[aK hb]at b;exact b
 hok:=I.hok.drops hn
 len:=I.len
end
def aR (X:Cx)(scope:Scope)(cl:List (Str×Addr))(N:List Str)(C:Addr)(s0:Shared)(H0:Hp)(fp:List Addr):Cx where
 prog:=X.prog
 w:=X.w
 K:=X.K
 mg:=X.mg
 base:=X.base
 A:=X.A
 N:=N
 s₀:=s0
 H₀:=H0
 env:=compEnvC scope cl C X.env
 outer:=X.stack
 stack:=X.stack
 ex:=fp
 fn:=fun _=>false
 calm:=X.calm
 pn:=[]
 xe:=fun _ _=>False
structure Blk (X:Cx)(scope:Scope)(cl:List (Str×Addr))(N:List Str)(nl:Nat)(ci:List Nat):Prop where
 kind:scope.kind= .function
 names:∀y∈scope.names,y.2= .local->scope.names.lookup y.1=some .local
 nocell:∀y∈scope.names,y.2≠ .cell
 clos:closureFor scope X.env=pure cl
 sub:∀n c,cl.lookup n=some c->X.env.cells.lookup n=some c
 has:∀n,((relabel scope X.env).names.lookup n=some .cell∨(relabel scope X.env).names.lookup n=some .free)->∃c,cl.lookup n=some c
 len:N.length=nl+ci.length
 cap:∀(j i:Nat),ci[j]? =some i->∃n,N[nl+j]? =some n/\X.N[i]? =some n/\(X.env.scope.names.lookup n=some .cell∨X.env.scope.names.lookup n=some .free) ∧
  ((relabel scope X.env).names.lookup n=some .cell∨(relabel scope X.env).names.lookup n=some .free)/\cl.lookup n=X.env.cells.lookup n
def bZ (nl:Nat)(ci:List Nat)(σ:St):St:=List.replicate nl none++ci.map fun i=>(σ[i]?).join
theorem R6 {nl:Nat}{ci:List Nat}{σ:St}{k:Nat}{v:V} (h:(bZ nl ci σ)[k]? =some (some v)):∃j i,k=nl+j/\ci[j]? =some i/\σ[i]? =some (some v):=by
 unfold bZ at h
 by_cases hk:k<nl
 ·rw[List.getElem?_append_left (by simpa using hk),List.getElem?_replicate]at h
  split at h<;>cases h
 ·rw[List.getElem?_append_right (by simpa using hk),List.length_replicate,List.getElem?_map]at h;cases e:ci[k - nl]? with
  | none=>rw[e]at h;cases h
  | some i =>
   rw[e]at h;have h':(σ[i]?).join=some v:=by simpa using h
   refine⟨k - nl,i,by lia,e,?_⟩;cases q:σ[i]? with
   | none=>rw[q]at h';cases h'
   | some o=>rw[q]at h';simp at h';rw[h']
theorem IN {nl:Nat}{ci:List Nat}{σ:St}:(bZ nl ci σ).length=nl+ci.length:=by unfold bZ;simp
section
variable {X:Cx}{scope:Scope}{cl:List (Str×Addr)}{N:List Str}{nl:Nat}{ci:List Nat}{pins:List (Addr×Obj)}{σ:St}{H2:Hp}{s2:Shared}{fp:List Addr}
theorem yH (B:Blk X scope cl N nl ci)(I:Inv X pins σ H2 s2)(f2:∀b∈fp,gF X pins H2 b)(fo:∀b∈fp,∃o,s2.heap.get? b=some o){C:Addr}{h4:Heap}{t4:Nat}{m4:Str->Option Value} (hC:s2.heap.objs.size<=C) (hns:h4.Ns C m4)
  (hk:∀b o,s2.heap.get? b=some o->h4.get? b=some o):Inv (aR X scope cl N C s2 H2 fp) [] (bZ nl ci σ) H2 { s2 with heap:=h4,toks:=t4 }:=by
 have lt2:∀b∈fp,b<s2.heap.objs.size:=fun b hb=>by obtain⟨o,e⟩:=fo b hb;exact Heap.lt_size e
 have ok:(aR X scope cl N C s2 H2 fp).Ok:=by
  refine⟨I.ok.mod,B.kind,I.ok.glob,I.ok.blt,hC,fun x y c h1 h2=>I.ok.inj x y c (B.sub x c h1) (B.sub y c h2),fun x hx=>B.has x hx,fun x c hf _=>(by cases hf),I.ok.hd,I.ok.frames,.inl rfl,fun b hb=>⟨?_,?_⟩,I.bs,?_,fun b o e hb=> ?_,fun b hb z=> ?_,I.stack,I.stkFree⟩
  ·exact Nat.ne_of_lt (Nat.lt_of_lt_of_le (lt2 b hb) hC)
  ·exact fun x c h=>(f2 b hb).2.2.2.2.1 x c (B.sub x c h)
  ·exact Nat.le_trans I.ok.bsz I.sz
  ·rcases (f2 b hb).2.2.2.1 with z|z
   ·exact I.ok.noex b o e z
   ·exact absurd (Nat.lt_of_lt_of_le (Heap.lt_size e) (Nat.le_trans I.ok.bsz z)) (Nat.lt_irrefl _)
  ·rcases List.mem_cons.mp (I.stkSub b z) with q|q
   ·exact(f2 b hb).2.1 q
   ·exact(f2 b hb).2.2.1 q
 refine⟨ok,rfl,I.bare,Un.kept hk,⟨m4,hns,fun k x v e1 e2 e3=> ?_⟩,fun x c e=> ?_,I.hok.fresh hC,fun x c e=>I.freeC x c (B.sub x c e),fun p hp=>(by cases hp),I.hok.kept hk,?_⟩
 ·obtain⟨j,i,rfl,hj,hσ⟩:=R6 e2;obtain⟨n,hn1,hn2,hk1,hk2,hl⟩:=B.cap j i hj;have en:x=n:=by
   have e1':N[nl+j]? =some x:=e1;rw[hn1]at e1';exact(Option.some.inj e1').symm
  subst en;obtain⟨m,hm,hloc⟩:=I.loc;have vis:Vis X.env.scope x:= .inr hk1;obtain⟨u,ru,lk⟩:=hloc i x v hn2 hσ vis;refine⟨u,ru,.inr ⟨hk2,?_⟩⟩;rcases lk with⟨kl,_⟩|⟨_,c,ec,hc⟩
  ·have kl':X.env.scope.names.lookup x=some .local:=kl;rcases hk1 with z|z<;>· rw[z]at kl';cases kl'
  ·refine⟨c,hl.trans ec,?_⟩;obtain⟨o,ho,hd⟩:=hc;exact⟨o,hk _ _ ho,hd⟩
 ·obtain⟨v,o,ho,hd⟩:=I.cell x c (B.sub x c e);exact⟨v,o,hk _ _ ho,hd⟩
 ·show (bZ nl ci σ).length=N.length;rw[IN,B.len]
theorem E5 {C:Addr}{σ':St}{H':Hp}{s':Shared}{pb:List (Addr×Obj)} (I:Inv X pins σ H2 s2) (f2:∀b∈fp,gF X pins H2 b) (J:Inv (aR X scope cl N C s2 H2 fp) pb σ' H' s'):Inv X pins σ H' s' :=
 I.call' J.os J.base J.hok J.bare fun b hb=>⟨(f2 b hb).2.2.2.1,(f2 b hb).2.1,(f2 b hb).2.2.2.2.1,(f2 b hb).2.2.2.2.2⟩
end
section
variable {prog:Program}{w:World}{A:Around}{R:Result->Shared->Prop}{s:Shared}
theorem yF {elt target iter:Expr}{ifs:List Expr}{scope:Scope}{pos:Pos}{it acc:Value}{env:Env} (I:Nat->Shared->Prop)
  (turn:∀n s,I n s->wpAny (model prog w) A (pyNext it) (fun r s₁=>match r with
   | none=>R (.ok .next) s₁
   | some v=>wpAny (model prog w) A (letOwnedTupleGo target it v) (fun _ s₁'=>wpAny (model prog w) A (assign target env v) (fun _ s₂ =>
     wpAny (model prog w) A (forIn ifs true fun c r=>if r=true then do let ok ←isTrue c env (eval c env);pure (ForInStep.yield ok) else pure (ForInStep.yield r)) (fun ok s₃ =>
      if ok=true then wpAny (model prog w) A (eval elt env) (fun x s₄ =>
       wpAny (model prog w) A (call (.builtin "list.append") [acc,x]) (fun _ s₅=>∃m,m<n/\I m s₅) (notedBy (model prog w) A env fun e s'=>R (.error e) s') s₄) (notedBy (model prog w) A env fun e s'=>R (.error e) s') s₃
      else ∃m,m<n/\I m s₃) (notedBy (model prog w) A env fun e s'=>R (.error e) s') s₂) (notedBy (model prog w) A env fun e s'=>R (.error e) s') s₁') (notedBy (model prog w) A env fun e s'=>R (.error e) s') s₁) (notedBy (model prog w) A env fun e s'=>R (.error e) s') s)
  (n:Nat)(h:I n s) :
  codeAny (model prog w) A (.compLoop (.ListComp elt [⟨target,iter,ifs,0⟩] scope pos) 0 it acc env) R s:=by
 refine codeAny_loop rfl I (fun n s hI=> ?_) n h;show wpAny _ A ((compTurn (.ListComp elt [⟨target,iter,ifs,0⟩] scope pos) 0 it acc env).onRaise (fun x=>do noteFrame x env;theTreesLotGoes x)) _ _ s;refine wpAny_noted ?_;rw[compTurn_list];refine wpAny_bind (wpAny_standAt (wpAny_bind (wpAny_mono (turn n s hI) (fun r s₁ h₁=> ?_) fun _ _ h'=>h')));cases r with
 | none=>exact wpAny_pure h₁
 | some v =>
  refine wpAny_bind (wpAny_mono h₁ (fun _ s₁' h₁'=> ?_) fun _ _ h'=>h');refine wpAny_bind (wpAny_mono h₁' (fun _ s₂ h₂=>wpAny_bind (wpAny_mono h₂ (fun ok s₃ h₃=> ?_) fun _ _ h'=>h')) fun _ _ h'=>h');cases ok with
  | false=>exact wpAny_pure ⟨rfl,h₃⟩
  | true =>
   exact wpAny_bind (wpAny_bind (wpAny_mono h₃ (fun x s₄ h₄=>wpAny_bind (wpAny_mono h₄ (fun _ s₅ h₅=>wpAny_pure (wpAny_pure ⟨rfl,h₅⟩)) fun _ _ h'=>h')) fun _ _ h'=>h'))
end
def PF (X:Cx)(ifs:List Expr)(t:TT):Prop :=
 ∀(pins:List (Addr×Obj)) (s:Shared) (σ:St) (H:Hp) (Q:Bool->Hp->Prop),Inv X pins σ H s->t σ H Q →
  wpAny (model X.prog X.w) X.A (forIn ifs true fun c r=>if r=true then do let ok ←isTrue c X.env (eval c X.env);pure (ForInStep.yield ok) else pure (ForInStep.yield r)) (TP X pins σ Q) X.xe s
def aB9:TT:=fun _ H Q=>Q true H
theorem dF {X:Cx}:PF X [] aB9:=fun _ _ _ H _ I h=>wpAny_tests_nil ⟨H,I,h⟩
theorem fE {X:Cx}{c:Expr}{t:TT} (h:PT X c t):PF X [c] t:=fun pins s σ H Q I q=>wpAny_tests_one (h pins s σ H Q I q)
def fW (J:It)(g:TG)(ti:TT)(te:TE)(σ0:St)(fin:List V->Hp->Prop)(H1:Hp):Prop :=
 ∃W:Nat->Nat->List V->Hp->Prop,(∃m,W 0 m [] H1)/\∀i m ys H,W i m ys H →
  (J.stop i H/\fin ys H) ∨
  (J.go i H/\∀x H',J.yld i H x H'->g x σ0 H' fun σ2 H2=>(σ2.length=σ0.length/\∀(j:Nat) v,σ0[j]? =some (some v)->σ2[j]? =some (some v)) ∧
   ti σ2 H2 fun b H3=>if b=true then te σ2 H3 fun y H4=>ys.length<sizeLine/\∃m',m'<m/\W (i+1) m' (ys++[y]) H4 else ∃m',m'<m/\W (i+1) m' ys H3)
def F8 (wi:TI)(nl:Nat)(ci:List Nat)(g:TG)(ti:TT)(te:TE):TE:=fun σ H Q =>
 wi σ H fun J H1=>fW J g ti te (bZ nl ci σ) (fun ys H'=>∀p,H' p=none->Q (.ref p) (upd H' p (.lst ys))) H1
section
variable {X:Cx}{scope:Scope}{cl:List (Str×Addr)}{N:List Str}{nl:Nat}{ci:List Nat}{tg elt iter:Expr}{ifs:List Expr}{pos:Pos}{wi:TI}{g:TG}{ti:TT}{te:TE}
theorem E7 {pins:List (Addr×Obj)}{σ:St}{H2:Hp}{s2:Shared}{fp:List Addr}{it:Addr}{J:It}{tn:Nat->Heap->Prop}{E:Value->Shared->Prop}{RR:Value->Addr->Result->Shared->Prop}{fin:List V->Hp->Prop}
  (hc:X.calm=true)(B:Blk X scope cl N nl ci)(hg:∀C s0 H0 fp,PG (aR X scope cl N C s0 H0 fp) tg g)(hi:∀C s0 H0 fp,PF (aR X scope cl N C s0 H0 fp) ifs ti)(he:∀C s0 H0 fp,PE (aR X scope cl N C s0 H0 fp) elt te)
  (I2:Inv X pins σ H2 s2)(T:vM X.prog X.w X.K tg J fp it tn)(st2:tn 0 s2.heap)(f2:∀b∈fp,gF X pins H2 b)(hW:fW J g ti te (bZ nl ci σ) fin H2)
  (hfin:∀(D C:Addr) (s':Shared) (H':Hp) (ys:List V) (oC:Obj) (m:Str->Option Value),H' D=none->Inv X (pins++[(C,oC)]) σ (upd H' D (.lst ys)) s'->s'.heap.Ns C m->s2.heap.objs.size<=C->fin ys H'->RR (.ref D) C (.ok .next) s') :
  wpAny (model X.prog X.w) X.A (newList []) (fun acc s₃=>wpAny (model X.prog X.w) X.A (newFunctionEnv scope X.env.globals cl [] X.env.qual none .none (some X.env)) (fun cenv s₄ =>
   codeAny (model X.prog X.w) X.A (.compStart (.ListComp elt [⟨tg,iter,ifs,0⟩] scope pos) 0 (.ref it) acc { cenv with scope:=relabel scope X.env }) (RR acc cenv.locals) s₄) E s₃) E s2:=by
 obtain⟨W,⟨m0,w0⟩,turn⟩:=hW;refine wpAny_newObj_type (wpAny_newFunctionEnv B.nocell (by intro y hy;simp at hy) (fun h1 hns1 hsb1=> ?_) B.kind)
 dsimp only at hns1 hsb1 ⊢
 generalize hH2:s2.heap.push { cls:= .type "list",dict:=none,data:= .seq ([]:List Value).toArray }=G2 at hns1 hsb1 ⊢;have hCs:G2.objs.size=s2.heap.objs.size+1:=by rw[←hH2,Heap.size_push]
 generalize hCe:G2.objs.size=C at hns1 hsb1 hCs ⊢;have hDC:s2.heap.objs.size≠C:=by rw[hCs];exact Nat.ne_of_lt (Nat.lt_succ_self _)
 have hCle:s2.heap.objs.size<=C:=by rw[hCs];exact Nat.le_succ _
 have old:∀b o,s2.heap.get? b=some o->h1.get? b=some o:=fun b o e=>hsb1.extBut b o (by rw[hCs];exact Nat.ne_of_lt (Nat.lt_succ_of_lt (Heap.lt_size e))) (Heap.get?_push_of_some _ (hH2▸Heap.get?_push_of_some _ e));have hacc:h1.get? s2.heap.objs.size=some { cls:= .type "list",data:= .seq ([]:List Value).toArray 0 }:=hsb1.extBut _ _ hDC (Heap.get?_push_of_some _ (hH2▸Heap.get?_push_size _ rfl));have fo:∀b∈fp,∃o,s2.heap.get? b=some o:=fun b hb=>let ⟨o,e,_⟩:=T.obj 0 _ st2 b hb;⟨o,e⟩;have lt2:∀b∈fp,b<s2.heap.objs.size:=fun b hb=>let ⟨o,e⟩:=fo b hb;Heap.lt_size e;have hDfp:s2.heap.objs.size∉fp:=fun z=>Nat.lt_irrefl _ (lt2 _ z);have hCfp:C∉fp:=fun z=>Nat.lt_irrefl _ (Nat.lt_of_lt_of_le (lt2 _ z) hCle);generalize hDe:s2.heap.objs.size=D at hCs hDC hCle hacc hDfp lt2;have loop:∀s3:Shared,s3={ s2 with heap:=h1,toks:=s2.toks+([]:List (Str×Value)).length } →
   codeAny (model X.prog X.w) X.A (.compLoop (.ListComp elt [⟨tg,iter,ifs,0⟩] scope pos) 0 (.ref it) (.ref D) (compEnvC scope cl C X.env)) (RR (.ref D) C) s3:=by
  rintro s3 rfl;have I4:Inv (aR X scope cl N C s2 H2 fp) [] (bZ nl ci σ) H2 { s2 with heap:=h1,toks:=s2.toks+([]:List (Str×Value)).length }:=yH B I2 f2 fo (by rw[hDe];exact hCle) hns1 old;have fpk:∀{H':Hp},(∀b∈fp,H' b=none)->∀b∈fp,gF (aR X scope cl N C s2 H2 fp) [] H' b:=fun hn b hb =>
   ⟨hn b hb,(I4.ok.exf b hb).1,I4.ok.exfs b hb,.inl hb,(I4.ok.exf b hb).2,fun p hp=>by cases hp⟩
  have hDX:∀x c,(aR X scope cl N C s2 H2 fp).env.cells.lookup x=some c->c≠D:=fun x c e=>by
   obtain⟨v,o,ho,_⟩:=I2.cell x c (B.sub x c e);rw[←hDe];exact Nat.ne_of_lt (Heap.lt_size ho)
  have hDL:D≠(aR X scope cl N C s2 H2 fp).env.locals:=hDC;have hDf:D∉(aR X scope cl N C s2 H2 fp).fs:=fun z=>by
   rcases List.mem_cons.mp (I2.stkSub D z) with q|q
   ·exact Nat.lt_irrefl _ (by have:=I2.lt;rw[hDe,←q]at this;exact this)
   ·exact I2.nofs (by rw[hDe];exact Nat.le_refl _) q
  refine yF (fun n s'=>∃i ys its k H',W i n ys H'/\Inv (aR X scope cl N C s2 H2 fp) [] (bZ nl ci σ) H' s'/\tn i s'.heap/\(∀b∈fp,H' b=none)/\H' D=none ∧
   s'.heap.get? D=some { cls:= .type "list",data:= .seq its.toArray k }/\Vals ys its/\ys.length<=sizeLine) ?_ m0 ?_
  ·rintro n s' ⟨i,ys,its,k,H',w',I',st',fr',hD',eD,rv,hz⟩;have IP:Inv (aR X scope cl N C s2 H2 fp) [(D,{ cls:= .type "list",data:= .seq its.toArray k })] (bZ nl ci σ) H' s':=I'.pins_of fun p hp=>by
    obtain rfl:p=_:=by simpa using hp
    exact⟨eD,hD',hDL,hDf,fun v z=>by cases z⟩
   have fpD:∀{H'':Hp},(∀b∈fp,H'' b=none)->∀b∈fp,gF (aR X scope cl N C s2 H2 fp) [(D,{ cls:= .type "list",data:= .seq its.toArray k })] H'' b:=fun hn b hb =>
    ⟨hn b hb,(I4.ok.exf b hb).1,I4.ok.exfs b hb,.inl hb,(I4.ok.exf b hb).2,fun p hp=>by
     obtain rfl:p=_:=by simpa [aR] using hp
     exact fun z=>hDfp ((show D=b from z)▸hb)⟩
   rcases turn i n ys H' w' with⟨stop,q⟩|⟨go,step⟩
   ·refine thn (T.done (aR X scope cl N C s2 H2 fp) rfl rfl rfl hc i _ s' (bZ nl ci σ) H' _ IP (fpD fr') st' stop) fun r s'' ⟨hr,I''⟩=> ?_;subst hr;have eD2:=(I''.pin (D,_) (List.mem_append_right _ List.mem_cons_self)).1;have J1:Inv (aR X scope cl N C s2 H2 fp) [] (bZ nl ci σ) (upd H' D (.lst ys)) s'' :=
     (I''.pins_of (pins':=[]) fun p hp=>by cases hp).track hD' eD2 rv hz (by show s2.heap.objs.size<=D;rw[hDe];exact Nat.le_refl _) hDL hDX fun p hp=>by cases hp
    have K1:Inv X pins σ (upd H' D (.lst ys)) s'':=E5 I2 f2 J1;obtain⟨mC,nsC,_⟩:=J1.loc;obtain⟨oC,es,ep,hoC,hdC,rC⟩:=id nsC;refine hfin D C s'' H' ys oC mC hD' (K1.pins_of fun p hp=> ?_) nsC (by rw[hDe];exact hCle) q;rcases List.mem_append.mp hp with hp|hp
    ·exact K1.pin p (List.mem_append_right _ hp)
    ·obtain rfl:p=(C,oC):=by simpa using hp
     refine⟨hoC,J1.free,Nat.ne_of_gt (Nat.lt_of_lt_of_le I2.lt (by rw[hDe];exact hCle)),I2.nofs (by rw[hDe];exact hCle),fun v z=> ?_⟩;rw[hdC]at z;cases z
   ·refine thn (T.item (aR X scope cl N C s2 H2 fp) rfl rfl rfl hc i _ s' (bZ nl ci σ) H' _ IP (fpD fr') st' go) fun r s4 ⟨u,hr,h4⟩=> ?_;subst hr;refine thn h4 fun _ s5 ⟨x,H5,I5,r5,y5,st5,fr5⟩=> ?_;have I5':=I5.pinned (fpD fr5) (T.obj _ _ st5);refine wpAny_mono (hg C s2 H2 fp _ s5 (bZ nl ci σ) H5 x u _ I5' r5 (step x H5 y5)) (fun _ s6 ⟨σ6,H6,I6,⟨hl6,hk6⟩,q6⟩=> ?_) fun _ _ f=>f.elim;refine wpAny_mono (hi C s2 H2 fp _ s6 σ6 H6 _ I6 q6) (fun b s7 ⟨H7,I7,q7⟩=> ?_) fun _ _ f=>f.elim;have pinD:∀{pp:List (Addr×Obj)}{σx:St}{Hx:Hp}{sx:Shared},Inv (aR X scope cl N C s2 H2 fp) ([(D,({ cls:= .type "list",data:= .seq its.toArray k }:Obj))]++fI fp s5.heap) σx Hx sx →
      sx.heap.get? D=some { cls:= .type "list",data:= .seq its.toArray k }/\Hx D=none/\tn (i+1) sx.heap/\(∀b∈fp,Hx b=none):=fun {pp σx Hx sx} Ix=>by
     refine⟨(Ix.pin (D,_) (List.mem_append_right _ (List.mem_append_left _ List.mem_cons_self))).1,(Ix.pin (D,_) (List.mem_append_right _ (List.mem_append_left _ List.mem_cons_self))).2.1,T.keep _ _ _ st5 fun b hb o e=>(Ix.pin (b,o) (List.mem_append_right _ (List.mem_append_right _ (dU hb e)))).1,fun b hb=> ?_⟩;obtain⟨o,e,d⟩:=T.obj _ _ st5 b hb;exact(Ix.pin (b,o) (List.mem_append_right _ (List.mem_append_right _ (dU hb e)))).2.1
    cases b with
    | false =>
     rw[if_neg Bool.false_ne_true]at q7 ⊢;obtain⟨m',hm',w7⟩:=q7;obtain⟨e7,n7,st7,fr7⟩:=pinD (pp:=[]) I7;exact⟨m',hm',i+1,ys,its,k,H7,w7,(I7.pins_of (pins':=[]) fun p hp=>by cases hp).weak hl6.symm hk6,st7,fr7,n7,e7,rv,hz⟩
    | true =>
     rw[if_pos rfl]at q7 ⊢;refine wpAny_mono (he C s2 H2 fp _ s7 σ6 H7 _ I7 q7) (fun y' s8 ⟨y,H8,I8,r8,hlt,m',hm',w8⟩=> ?_) fun _ _ f=>f.elim;obtain⟨e8,n8,st8,fr8⟩:=pinD (pp:=[]) I8;have I8f:Inv (aR X scope cl N C s2 H2 fp) (fI fp s5.heap) σ6 H8 s8:=I8.pins_of fun p hp=>I8.pin p (List.mem_append_right _ (List.mem_append_right _ hp));have I8t:=I8f.track n8 e8 rv hz (by show s2.heap.objs.size<=D;rw[hDe];exact Nat.le_refl _) hDL hDX fun p hp=>by
      have hp':p∈fI fp s5.heap:=by simpa [aR] using hp
      exact fun z=>hDfp (z▸(vF hp').1)
     refine wpAny_mono (jO (X:=aR X scope cl N C s2 H2 fp) (fI fp s5.heap) s8 σ6 _ (.ref D) [y] (.ref D) [y'] (fun _ H9=>H9=upd H8 D (.lst (ys++[y]))) I8t rfl (.cons r8 .nil)
      ⟨D,ys,y,rfl,rfl,aY,hlt,L8⟩) (fun _ s9 ⟨_,H9,I9,_,e9⟩=> ?_) fun _ _ f=>f.elim
     subst e9;obtain⟨hz9,its9,k9,rv9,e9⟩:=I9.hok D _ aY;have I9u:=I9.untrack n8;refine⟨m',hm',i+1,ys++[y],its9,k9,H8,w8,(I9u.pins_of (pins':=[]) fun p hp=>by cases hp).weak hl6.symm hk6,?_,fr8,n8,e9,rv9,hz9⟩;exact T.keep _ _ _ st5 fun b hb o e=>(I9u.pin (b,o) (List.mem_append_right _ (dU hb e))).1
  ·exact⟨0,[],[],0,H2,w0,I4,T.keep _ _ _ st2 fun b hb o e=>old b o e,fun b hb=>(f2 b hb).1,I2.hok.fresh (by rw[hDe];exact Nat.le_refl _),hacc,.nil,Nat.zero_le _⟩
 exact codeAny_compStart_list (loop _ rfl) (T.self _ 0 _ _ _ (T.keep _ _ _ st2 fun b hb o e=>old b o e) (loop _ rfl))
theorem cI (hc:X.calm=true)(B:Blk X scope cl N nl ci)(hp:PI X tg iter wi)(hg:∀C s0 H0 fp,PG (aR X scope cl N C s0 H0 fp) tg g)(hi:∀C s0 H0 fp,PF (aR X scope cl N C s0 H0 fp) ifs ti)
  (he:∀C s0 H0 fp,PE (aR X scope cl N C s0 H0 fp) elt te)(hs:∀x,foldedSetIterable iter X.env x=pure x:=by intro _;rfl):PE X (.ListComp elt [⟨tg,iter,ifs,0⟩] scope pos) (F8 wi nl ci g ti te):=by
 intro pins s σ H Q I h;rw[eval_ListComp];refine wpAny_comprehension_free (use:=none) rfl hs B.clos B.kind B.names (thn (hp pins s σ H _ I h) fun v s1 h1=>thn h1 fun itv s2 h2=> ?_);obtain⟨it,fp,tn,J,H2,e,I2,T,st2,f2,hW⟩:=h2;subst e;refine E7 (RR:=fun acc C=>compPost (model X.prog X.w) X.A X.xe none (EP X pins σ Q) acc C) hc B hg hi he I2 T st2 f2 hW ?_;intro D C s' H' ys oC m hD K1 hn hC q;refine⟨m,hn,fun h' hs'=> ?_⟩;have hL:C≠X.env.locals:=(K1.pin (C,oC) (by simp)).2.2.1;have I9:Inv X pins σ (upd H' D (.lst ys)) { s' with heap:=h',toks:=s'.toks }:=K1.unpinned.turned (t':=s'.toks) (it:=C) (fun b o hb e=>hs'.extBut b o hb e) (K1.pin (C,oC) (by simp)).2.1 hL (.inr (Nat.le_trans I2.sz hC)) (fun x c e z=> ?_) fun p hp z=> ?_
 ·exact⟨.ref D,_,I9,rfl,q D hD⟩
 ·obtain⟨v,o,ho,_⟩:=I2.cell x c e;exact absurd (Nat.lt_of_lt_of_le (Heap.lt_size ho) (z▸hC)) (Nat.lt_irrefl _)
 ·exact absurd (Nat.lt_of_lt_of_le (Heap.lt_size (I2.pin p hp).1) (z▸hC)) (Nat.lt_irrefl _)
theorem dR {i:Nat}{x:Str}{pos' spos:Pos} (hN:X.N.Nodup) (hix:X.N[i]? =some x) (hx:Loc X.env.scope x) (hc:X.calm=true) (B:Blk X scope cl N nl ci) (hp:PI X tg iter wi) (hg:∀C s0 H0 fp,PG (aR X scope cl N C s0 H0 fp) tg g)
  (hi:∀C s0 H0 fp,PF (aR X scope cl N C s0 H0 fp) ifs ti)(he:∀C s0 H0 fp,PE (aR X scope cl N C s0 H0 fp) elt te)
  (hsw:swapsWith (.ListComp elt [⟨tg,iter,ifs,0⟩] scope pos) (some (.Name x pos')) spos.line X.env=pure true:=by rfl)(hs:∀x,foldedSetIterable iter X.env x=pure x:=by intro _;rfl)
  (hf:X.fn x=true∨X.env.scope.names.lookup x=some .local:=by first|exact .inl rfl|exact .inr rfl|assumption) :
  PS X (.Assign [.Name x pos'] (.ListComp elt [⟨tg,iter,ifs,0⟩] scope pos) spos) (NC (F8 wi nl ci g ti te) (cJ i)):=by
 intro pins s σ H D I h;rw[exec_Assign_Name_used _ _ _ _ hsw];refine wpAny_bind (wpAny_standAt (wpAny_bind ?_));show wpAny _ X.A (do let _ ←comprehension (.ListComp elt [⟨tg,iter,ifs,0⟩] scope pos) scope X.env _ (newList []) false (eval iter X.env) (some (assign (.Name x pos') X.env))) _ _ s;refine wpAny_bind (wpAny_mono (wpAny_comprehension_free (use:=some (assign (.Name x pos') X.env)) (Q:=fun _ s'=>SP X pins D .next s') rfl hs B.clos B.kind B.names
  (thn (hp pins s σ H _ I h) fun v s1 h1=>thn h1 fun itv s2 h2=> ?_)) (fun _ s' hq=>wpAny_pure (wpAny_pure hq)) fun _ _ e=>e)
 obtain⟨it,fp,tn,J,H2,e,I2,T,st2,f2,hW⟩:=h2;subst e;refine E7 (RR:=fun acc C=>compPost (model X.prog X.w) X.A X.xe (some (assign (.Name x pos') X.env)) (fun _ s'=>SP X pins D .next s') acc C) hc B hg hi he I2 T st2 f2 hW ?_;intro Dd C s' H' ys oC m hD K1 hn hC q;show wpAny _ X.A (assign (.Name x pos') X.env (.ref Dd)) _ _ _;refine thn (aL (i:=i) hN hix hx hf (pins++[(C,oC)]) s' σ (upd H' Dd (.lst ys)) (.ref Dd) (.ref Dd) (fun σ' H''=>D.nx σ' H'') K1 rfl (q Dd hD)) fun _ s'' ⟨σ',H'',K2,q2⟩=> ?_;have eC:=K2.pin (C,oC) (by simp);obtain⟨oC',es,ep,hoC,hdC,rC⟩:=id hn;have eo:oC'=oC:=by
  have:=(K1.pin (C,oC) (by simp)).1;rw[hoC]at this;exact Option.some.inj this
 subst eo;refine⟨m,⟨oC',es,ep,eC.1,hdC,rC⟩,fun h' hs'=> ?_⟩;have hL:C≠X.env.locals:=eC.2.2.1;have I9:Inv X pins σ' H'' { s'' with heap:=h',toks:=s''.toks }:=K2.unpinned.turned (t':=s''.toks) (it:=C) (fun b o hb e=>hs'.extBut b o hb e) eC.2.1 hL (.inr (Nat.le_trans I2.sz hC)) (fun x c e z=> ?_) fun p hp z=> ?_
 ·exact⟨σ',H'',I9,q2⟩
 ·obtain⟨v,o,ho,_⟩:=I2.cell x c e;exact absurd (Nat.lt_of_lt_of_le (Heap.lt_size ho) (z▸hC)) (Nat.lt_irrefl _)
 ·exact absurd (Nat.lt_of_lt_of_le (Heap.lt_size (I2.pin p hp).1) (z▸hC)) (Nat.lt_irrefl _)
end
def Its (x:Str):It:=⟨fun i _=>i<x.cps.size,fun i H v H'=>H'=H/\∃c,x.cps[i]? =some c/\v= .str ⟨#[c]⟩,fun i _=>i=x.cps.size⟩
theorem JB {P:Program}{w:World}{K:W.Frag}{tg:Expr} (it:Addr) (x:Str) (t:Tok) (ty:String)
  (hty:["enumerate","zip","dict_itemiterator","dict_reverseitemiterator","odict_iterator","itertools.zip_longest","itertools.pairwise"].contains ty=false)
  (W:∀A':Around,A'.handled=none->Walks P w A' it [it] [it] x.cps.size (SignAt x) (fun i h=>h.IsStrIter it ty x t i))
  (hself:∀(A:Around) (i:Nat) (s:Shared) (Q:Value->Shared->Prop) (E:Value->Shared->Prop),s.heap.IsStrIter it ty x t i->Q (.ref it) s->wpAny (model P w) A (pyIter (.ref it)) Q E s) :
  vM P w K tg (Its x) [it] it (fun i h=>h.IsStrIter it ty x t i) where
 mem:=by simp
 obj:=fun i h st b hb=>by
  have e:b=it:=by simpa using hb
  subst e;obtain⟨o,e,c,d⟩:=st;exact⟨o,e,fun v z=>by rw[d]at z;cases z⟩
 keep:=fun i h h' st k=>let ⟨o,ho,r⟩:=st;⟨o,k it (by simp) o ho,r⟩
 item:=by
  intro X hP hw hK hc i pins s σ H E I hf st hg;subst hP hw hK;obtain⟨f0,f1,f2,f3,f4,f5⟩:=hf it (by simp);refine(W X.A (I.ok.hd hc)).item i s _ _ hg st fun v h' tk hv st' kk=> ?_;obtain⟨c,u,hc',rfl⟩:=hv;have I1:Inv X pins σ H { s with heap:=h',toks:=tk }:=I.turned (fun b o hb e=>kk b o (by simpa using hb) e) f0 f1 f3 f4 f5;obtain⟨o,e,c1,d⟩:=id st';exact⟨_,rfl,AT (s:={ s with heap:=h',toks:=tk }) e c1 d hty ⟨.str ⟨#[c]⟩,H,I1,⟨u,rfl⟩,⟨rfl,c,hc',rfl⟩,st',fun b hb=>(hf b hb).1⟩⟩
 done:=by
  intro X hP hw hK hc i pins s σ H E I hf st hg;subst hP hw hK;obtain⟨f0,f1,f2,f3,f4,f5⟩:=hf it (by simp);have e:i=x.cps.size:=hg;subst e;exact(W X.A (I.ok.hd hc)).done s _ _ st fun h' tk kk=>⟨rfl,I.turned (fun b o hb e=>kk b o (by simpa using hb) e) f0 f1 f3 f4 f5⟩
 self:=hself
def aDn (tl:TE):TI:=fun σ H R=>tl σ H fun x H1=>∃z,x= .str z/\R (Its z) H1
theorem aAw {X:Cx}{tg l:Expr}{tl:TE} (hl:PE X l tl):PI X tg l (aDn tl):=by
 intro pins s σ H R I h;refine thn (hl pins s σ H _ I h) fun v s1 ⟨x,H1,I1,rx,z,ez,q⟩=> ?_;subst ez;obtain⟨t,rfl⟩:=rx;cases ha:z.cps.all (·<128)
 ·refine wpAny_pyIter_wide ha ⟨s1.heap.objs.size,[s1.heap.objs.size],_,Its z,H1,rfl,I1.kept (t':=s1.toks) fun b u e=>Heap.get?_push_of_some _ e,JB _ z t "str_iterator" (by decide) (fun A' hA=>Walks.strWide hA _ z t) (fun _ _ _ _ _ st h=>wpAny_pyIter_striter_wide st h),⟨_,Heap.get?_push_size _ rfl,rfl,rfl⟩,fun b hb=> ?_,q⟩;have e:b=s1.heap.objs.size:=by simpa using hb
  subst e;exact I1.fpOk (Nat.le_refl _) (I1.hok.fresh (Nat.le_refl _))
 ·refine wpAny_pyIter_ascii ha ⟨s1.heap.objs.size,[s1.heap.objs.size],_,Its z,H1,rfl,I1.kept (t':=s1.toks) fun b u e=>Heap.get?_push_of_some _ e,JB _ z t "str_ascii_iterator" (by decide) (fun A' hA=>Walks.strAscii hA _ z t) (fun _ _ _ _ _ st h=>wpAny_pyIter_striter_ascii st h),⟨_,Heap.get?_push_size _ rfl,rfl,rfl⟩,fun b hb=> ?_,q⟩;have e:b=s1.heap.objs.size:=by simpa using hb
  subst e;exact I1.fpOk (Nat.le_refl _) (I1.hok.fresh (Nat.le_refl _))
theorem Z6 {J:It}{g:TG}{ti:TT}{te:TE}{σ0:St}{fin:List V->Hp->Prop}{H1:Hp} (n:Nat) (f:Nat->V) (hn:n<=sizeLine) (Ok:Hp->Prop) (h0:Ok H1)
  (hst:∀H,Ok H->J.stop n H)(hgo:∀i H,i<n->Ok H->J.go i H)
  (hstep:∀i H x H',i<n->Ok H->J.yld i H x H'->g x σ0 H' fun σ2 H2=>(σ2.length=σ0.length/\∀(j:Nat) v,σ0[j]? =some (some v)->σ2[j]? =some (some v))/\ti σ2 H2 fun b H3=>b=true/\te σ2 H3 fun y H4=>y=f i/\Ok H4)
  (mono:∀σ H (Q Q':Bool->Hp->Prop),(∀b H',Q b H'->Q' b H')->ti σ H Q->ti σ H Q')(mono2:∀σ H (Q Q':VK),(∀b H',Q b H'->Q' b H')->te σ H Q->te σ H Q')(mono3:∀x σ H (Q Q':St->Hp->Prop),(∀σ' H',Q σ' H'->Q' σ' H')->g x σ H Q->g x σ H Q')
  (hfin:∀H,Ok H->fin ((List.range n).map f) H):fW J g ti te σ0 fin H1:=by
 refine⟨fun i m ys H=>m=n - i/\i<=n/\ys=(List.range i).map f/\Ok H,⟨n,by simp,Nat.zero_le _,rfl,h0⟩,?_⟩;rintro i m ys H ⟨rfl,hi,rfl,ok⟩
 by_cases hlt:i<n
 ·refine .inr ⟨hgo i H hlt ok,fun x H' y=> ?_⟩;refine mono3 _ _ _ _ _ (fun σ' H'' q=>⟨q.1,mono _ _ _ _ (fun b H3 q=> ?_) q.2⟩) (hstep i H x H' hlt ok y);obtain⟨rfl,q⟩:=q;rw[if_pos rfl];refine mono2 _ _ _ _ (fun v H4 q=> ?_) q;obtain⟨rfl,ok4⟩:=q;refine⟨by rw[List.length_map,List.length_range];lia,n - (i+1),by lia,rfl,hlt,?_,ok4⟩;rw[List.range_succ,List.map_append];rfl
 ·have e:i=n:=by lia
  subst e;exact .inl ⟨hst H ok,hfin H ok⟩
section
variable {X:Cx}
theorem GZ:∀bs:List Bool,(List.range bs.length).all (fun i=>bs.getD i true)=bs.all id
 | []=>rfl
 | b::bs=>by
  rw[List.length_cons,List.range_succ_eq_map,List.all_cons,List.all_map,List.all_cons,←GZ bs];rfl
theorem DV (hc:X.calm=true):cS X (.builtin "all") (fun xs H Q=>∃(p:Addr) (bs:List Bool),xs=[.ref p]/\SqL X.K H p (bs.map V.bl)/\Q (.bl (bs.all id)) H):=by
 intro pins s σ H xs us Q I r h;obtain⟨p,bs,rfl,hq,q⟩:=h;obtain⟨u,rfl,rx⟩:=jW r;cases rx;obtain⟨its,r',pl,hz⟩:=I.list hq;have hl:=pl.isList;have hlt:p<s.heap.objs.size:=by obtain⟨_,e,_⟩:=hl;exact Heap.lt_size e
 have hlen:bs.length=its.length:=by have:=r'.length;rw[List.length_map]at this;exact this
 refine call_all_walk (wpAny_pyIter_list hl ?_);refine⟨s.heap.objs.size,_,_,its.toArray.size,_,_,fun i=>bs.getD i true,rfl,Walks.list (show X.A.in1.handled=none from I.ok.hd hc) s.heap.objs.size p (Nat.ne_of_lt hlt) its.toArray,⟨⟨_,Heap.get?_push_size _ rfl,rfl,rfl⟩,hl.push _⟩,?_,?_⟩
 ·intro i v s' Q' E' hi hQ;have hi':its[i]? =some v:=by simpa using hi
  have hib:i<bs.length:=by rw[hlen];exact(List.getElem?_eq_some_iff.mp hi').1
  obtain⟨u,hu,ru⟩:=r'.get (i:=i) (x:=V.bl bs[i]) (by rw[List.getElem?_map,List.getElem?_eq_getElem hib];rfl);rw[hi']at hu;cases hu;have:v=Value.bool bs[i]:=ru;subst this;refine wpAny_truthy_bool ?_;have eb:bs.getD i true=bs[i]:=by rw[List.getD_eq_getElem?_getD,List.getElem?_eq_getElem hib];rfl
  have hQ':Q' (bs.getD i true) s':=hQ;rw[eb]at hQ';exact hQ'
 ·intro h' tk hk;have eall:(List.range its.toArray.size).all (fun i=>bs.getD i true)=bs.all id:=by
   rw[List.size_toArray,←hlen];exact GZ bs
  rw[eall];refine⟨.bl (bs.all id),H,?_,rfl,q⟩;have I1:Inv X pins σ H { s with heap:=s.heap.push { cls:= .type "list_iterator",data:= .fields #[.ref p,.int 0 0] },toks:=s.toks }:=I.kept fun b u e=>Heap.get?_push_of_some _ e;obtain⟨f0,f1,f2,f3,f4,f5⟩:=I.fpOk (Nat.le_refl _) (I.hok.fresh (Nat.le_refl _));exact I1.turned (fun b o hb e=>hk b o (by simpa using hb) e) f0 f1 f3 f4 f5
theorem KI:cS X (.builtin "isinstance") (fun xs H Q=>∃x c t u b,xs=[x,c]/\iU X.K H x t/\RelV c u/\W.kitOne X.K t u=some b/\Q (.bl b) H):=by
 intro pins s σ H xs us Q I r h;obtain⟨x,c,t,u,b,rfl,ty,rc,e,q⟩:=h;obtain⟨v1,v2,rfl,r1,r2⟩:=F7 r;have e2:v2=u:=by
  cases c with
  | non=>exact(show v2=_ from r2).trans (show u=_ from rc).symm
  | bl b=>exact(show v2=_ from r2).trans (show u=_ from rc).symm
  | ref b=>exact(show v2=_ from r2).trans (show u=_ from rc).symm
  | ty b=>exact(show v2=_ from r2).trans (show u=_ from rc).symm
  | int i =>
   obtain⟨t1,rfl⟩:=(show ∃t,u=_ from rc)
   cases ty<;>simp[W.kitOne,W.kitCls]at e
  | str i =>
   obtain⟨t1,rfl⟩:=(show ∃t,u=_ from rc)
   cases ty<;>simp[W.kitOne,W.kitCls]at e
  | byt i =>
   obtain⟨t1,rfl⟩:=(show ∃t,u=_ from rc)
   cases ty<;>simp[W.kitOne,W.kitCls]at e
  | flt i =>
   obtain⟨t1,rfl⟩:=(show ∃t,u=_ from rc)
   cases ty<;>simp[W.kitOne,W.kitCls]at e
 subst e2;exact RL I r1 ty e fun tk=>⟨.bl b,H,I.tok tk,rfl,q⟩
theorem RG:OpR X (compareOp .LtE) (fun x y H Q=>∃i j,x= .str i/\y= .str j/\Q (.bl (!decide (j.cps.toList<i.cps.toList))) H):=by
 intro pins s σ H x y v u Q I rx ry h;obtain⟨i,j,rfl,rfl,q⟩:=h;obtain⟨t,rfl⟩:=rx;obtain⟨t',rfl⟩:=ry;exact P.le_str ⟨.bl _,H,I,rfl,q⟩
end
def XQ (xs:List (Str×NameKind))(XN:List Str)(ns:List (Str×NameKind))(N:List Str)(nl:Nat)(ci:List Nat):Bool :=
 (ns.all fun y=>y.2 != .cell&&(y.2 != .local||ns.lookup y.1==some .local)&&(y.2 != .free||(xs.lookup y.1==some .cell&&ns.lookup y.1==some .free))) &&
 (N.length==nl+ci.length) &&
 (List.range ci.length).all fun j=>match ci[j]?,N[nl+j]? with
  | some i,some n=>XN[i]? ==some n&&xs.lookup n==some .cell&&ns.lookup n==some .free
  | _,_=>false
def tJ (ns:List (Str×NameKind))(cs:List (Str×Addr)):List (Str×Addr)->List (Str×Addr)
 | acc=>ns.foldl (fun acc y=>if y.2== .free then (y.1,(cs.lookup y.1).getD 0)::acc else acc) acc
theorem uP {env:Env}:∀(ns:List (Str×NameKind)) (acc:List (Str×Addr)),(∀y∈ns,y.2= .free->∃c,env.cells.lookup y.1=some c) →
  (forIn ns acc fun x r=>(do
   let (name,kind):=x
   if (kind==NameKind.free)=true then do
     let c ←cellOf env name
     pure (ForInStep.yield ((name,c)::r))
    else pure (ForInStep.yield r)):Sem (List (Str×Addr)))=pure (tJ ns env.cells acc)
 | [],acc,_=>rfl
 | (n,k)::r,acc,h=>by
  have ih:=fun acc=>uP r acc fun y hy=>h y (List.mem_cons_of_mem _ hy);rw[List.forIn_cons]
  by_cases hk:k= .free
  ·subst hk;obtain⟨c,e⟩:=h (n,.free) List.mem_cons_self rfl;have e1:cellOf env n=pure c:=by unfold cellOf;rw[e]
   simp only[beq_self_eq_true,if_true,e1];show (forIn r ((n,c)::acc) _:Sem (List (Str×Addr)))=_;rw[ih];show _=pure (tJ ((n,NameKind.free)::r) env.cells acc);simp only[tJ,List.foldl_cons,beq_self_eq_true,if_true,e,Option.getD_some]
  ·have hb:(k==NameKind.free)=false:=by simpa using hk
   simp only[hb,Bool.false_eq_true,if_false];show (forIn r acc _:Sem (List (Str×Addr)))=_;rw[ih];simp only[tJ,List.foldl_cons,hb,Bool.false_eq_true,if_false]
theorem iF {cs:List (Str×Addr)}:∀(ns:List (Str×NameKind)) (acc:List (Str×Addr)) (n:Str),(∀y∈ns,y.2= .free->∃c,cs.lookup y.1=some c) →
  ((n,NameKind.free)∈ns∨acc.lookup n=cs.lookup n)->(∀c,acc.lookup n=some c->cs.lookup n=some c)->(tJ ns cs acc).lookup n=cs.lookup n
 | [],acc,n,_,h,_=>by
  rcases h with h|h
  ·cases h
  ·exact h
 | (m,k)::r,acc,n,hc,h,hs=>by
  have hc':∀y∈r,y.2= .free->∃c,cs.lookup y.1=some c:=fun y hy=>hc y (List.mem_cons_of_mem _ hy);show (tJ r cs (if k== .free then (m,(cs.lookup m).getD 0)::acc else acc)).lookup n=cs.lookup n
  by_cases hk:k= .free
  ·subst hk;obtain⟨c,e⟩:=hc (m,.free) List.mem_cons_self rfl;simp only[beq_self_eq_true,if_true,e,Option.getD_some]
   by_cases hm:n=m
   ·subst hm;have q:List.lookup n ((n,c)::acc)=some c:=by simp[List.lookup_cons]
    exact iF r _ n hc' (.inr (q.trans e.symm)) fun c' z=>by rw[q]at z;cases z;exact e
   ·have hb:(n==m)=false:=by simpa using hm
    have q:List.lookup n ((m,c)::acc)=acc.lookup n:=by simp[List.lookup_cons,hb]
    refine iF r _ n hc' ?_ fun c' z=>hs c' (q▸z);rcases h with h|h
    ·rcases List.mem_cons.mp h with z|z
     ·cases z;exact absurd rfl hm
     ·exact .inl z
    ·exact .inr (q.trans h)
  ·have hb:(k==NameKind.free)=false:=by simpa using hk
   simp only[hb,Bool.false_eq_true,if_false];refine iF r _ n hc' ?_ hs;rcases h with h|h
   ·rcases List.mem_cons.mp h with z|z
    ·cases z;exact absurd rfl hk
    ·exact .inl z
   ·exact .inr h
theorem IQ {cs:List (Str×Addr)}:∀(ns:List (Str×NameKind)) (acc:List (Str×Addr)),(∀y∈ns,y.2= .free->∃c,cs.lookup y.1=some c) →
  (∀n c,acc.lookup n=some c->cs.lookup n=some c)->∀n c,(tJ ns cs acc).lookup n=some c->cs.lookup n=some c
 | [],acc,_,hs,n,c,h=>hs n c h
 | (m,k)::r,acc,hc,hs,n,c,h=>by
  have hc':∀y∈r,y.2= .free->∃c,cs.lookup y.1=some c:=fun y hy=>hc y (List.mem_cons_of_mem _ hy);have h':(tJ r cs (if k== .free then (m,(cs.lookup m).getD 0)::acc else acc)).lookup n=some c:=h;refine IQ r _ hc' ?_ n c h';intro n' c' z
  by_cases hk:k= .free
  ·subst hk;obtain⟨d,e⟩:=hc (m,.free) List.mem_cons_self rfl;simp only[beq_self_eq_true,if_true,e,Option.getD_some]at z
   by_cases hm:n'=m
   ·subst hm;simp[List.lookup_cons]at z;subst z;exact e
   ·have hb:(n'==m)=false:=by simpa using hm
    simp[List.lookup_cons,hb]at z;exact hs n' c' z
  ·have hb:(k==NameKind.free)=false:=by simpa using hk
   simp only[hb,Bool.false_eq_true,if_false]at z;exact hs n' c' z
theorem kN {env:Env}(hkf:env.scope.kind= .function):∀{names:List (Str×NameKind)}{x:Str},names.lookup x=some .free->env.kindOf x=some .cell →
  (names.map fun (n,k)=>if (k==NameKind.free&&env.scope.kind== .function&&env.kindOf n==some .cell) then (n,NameKind.cell) else (n,k)).lookup x=some .cell
 | [],_,h,_=>by simp at h
 | (n,k)::r,x,h,hc=>by
  show List.lookup x ((if (k==NameKind.free&&env.scope.kind== .function&&env.kindOf n==some .cell)=true then (n,NameKind.cell) else (n,k))::_)=_;cases hx:x==n with
  | true =>
   simp only[List.lookup_cons,hx]at h;cases h;have e:x=n:=by simpa using hx
   subst e;rw[hkf,hc];simp[List.lookup_cons]
  | false =>
   simp only[List.lookup_cons,hx]at h;have ih:=kN hkf h hc
   split
   ·simp only[List.lookup_cons,hx];exact ih
   ·simp only[List.lookup_cons,hx];exact ih
theorem fN {env:Env}:∀{names:List (Str×NameKind)}{x:Str}{k':NameKind},(∀y∈names,y.2≠ .cell)->(k'= .cell∨k'= .free) →
  (names.map fun (n,k)=>if (k==NameKind.free&&env.scope.kind== .function&&env.kindOf n==some .cell) then (n,NameKind.cell) else (n,k)).lookup x=some k'->(x,NameKind.free)∈names
 | [],_,_,_,_,h=>by simp at h
 | (n,k)::r,x,k',hn,hk',h=>by
  have h':List.lookup x ((if (k==NameKind.free&&env.scope.kind== .function&&env.kindOf n==some .cell)=true then (n,NameKind.cell) else (n,k))::r.map _)=some k':=h;cases hx:x==n with
  | true =>
   have e:x=n:=by simpa using hx
   subst e
   by_cases hf:k= .free
   ·subst hf;exact List.mem_cons_self
   ·have hb:(k==NameKind.free)=false:=by simpa using hf
    simp only[hb,Bool.false_and,Bool.false_eq_true,if_false,List.lookup_cons,hx]at h';cases h';rcases hk' with z|z
    ·exact absurd z (hn (x,k) List.mem_cons_self)
    ·exact absurd z hf
  | false =>
   have h2:List.lookup x (r.map fun (n,k)=>if (k==NameKind.free&&env.scope.kind== .function&&env.kindOf n==some .cell) then (n,NameKind.cell) else (n,k))=some k':=by
    split at h'
    ·simp only[List.lookup_cons,hx]at h';exact h'
    ·simp only[List.lookup_cons,hx]at h';exact h'
   exact List.mem_cons_of_mem _ (fN (fun y hy=>hn y (List.mem_cons_of_mem _ hy)) hk' h2)
theorem blk {X:Cx}{scope:Scope}{N:List Str}{nl:Nat}{ci:List Nat} (n0:Nat) (hX:X.env.cells=cellsFrom n0 X.env.scope.names []) (hkf:X.env.scope.kind= .function) (hk:scope.kind= .function)
  (h:XQ X.env.scope.names X.N scope.names N nl ci=true):Blk X scope (tJ scope.names X.env.cells []) N nl ci:=by
 unfold XQ at h;rw[Bool.and_eq_true,Bool.and_eq_true]at h;obtain⟨⟨h1,h2⟩,h3⟩:=h;rw[List.all_eq_true]at h1;have h1':∀y∈scope.names,y.2≠ .cell/\(y.2= .local->scope.names.lookup y.1=some .local)/\(y.2= .free->X.env.scope.names.lookup y.1=some .cell/\scope.names.lookup y.1=some .free):=fun y hy=>by
  have q:=h1 y hy;simp only[Bool.and_eq_true,Bool.or_eq_true,bne_iff_ne,ne_eq,beq_iff_eq]at q;obtain⟨⟨q1,q2⟩,q3⟩:=q;exact⟨q1,fun e=>q2.resolve_left fun z=>z e,fun e=>q3.resolve_left fun z=>z e⟩
 have hcs:∀y∈scope.names,y.2= .free->∃c,X.env.cells.lookup y.1=some c:=fun y hy e=>by
  rw[hX];exact zK ((h1' y hy).2.2 e).1
 refine⟨hk,fun y hy=>(h1' y hy).2.1,fun y hy=>(h1' y hy).1,?_,?_,?_,by simpa using h2,?_⟩
 ·unfold closureFor;refine(congrArg (fun m:Sem (List (Str×Addr))=>m >>= fun cs=>pure cs) (uP scope.names [] hcs)).trans ?_;rfl
 ·exact IQ scope.names [] hcs fun n c z=>by cases z
 ·intro n hn;have hm:(n,NameKind.free)∈scope.names:=by
   rcases hn with z|z
   ·exact fN (fun y hy=>(h1' y hy).1) (.inl rfl) z
   ·exact fN (fun y hy=>(h1' y hy).1) (.inr rfl) z
  obtain⟨c,e⟩:=hcs _ hm rfl;exact⟨c,(iF scope.names [] n hcs (.inl hm) fun c z=>by cases z).trans e⟩
 ·intro j i hj;have hjl:j<ci.length:=(List.getElem?_eq_some_iff.mp hj).1;rw[List.all_eq_true]at h3;have q:=h3 j (List.mem_range.mpr hjl);rw[hj]at q;cases e:N[nl+j]? with
  | none=>rw[e]at q;cases q
  | some n =>
   rw[e]at q;simp only[Bool.and_eq_true,beq_iff_eq]at q;obtain⟨⟨q1,q2⟩,q3⟩:=q;refine⟨n,rfl,q1,.inl q2,.inl (kN hkf q3 q2),?_⟩;exact iF scope.names [] n hcs (.inl (PySem.mem_of_lookup q3)) fun c z=>by cases z
structure Fc (P:Program)(w:World)(K:W.Frag)(mg:Str->Option Value)(base:Heap)(x:Str)(k:Nat)(ps:List Str)(sp:Sp):Prop where
 ex:∃f fd,mg x=some (.ref f)/\W.keepIn K (.ref f)=true/\Binds K fd ps []/\bD P w K mg base CX0 k f fd ps sp
theorem b9 {X:Cx}{x:Str}{k k':Nat}{ps:List Str}{sp:Sp}{e:Expr}{es:List Expr}{t:TA}{p pos:Pos} (F:Fc X.prog X.w X.K X.mg X.base x k ps sp) (hr:Room k' X.A) (ha:PA X (e::es) t) (hk:k<=k':=by decide) (hg:Gl X x:=by rfl)
  (hdb:(x==("__debug__" :Str))=false:=by decide)(he:starEach (e::es) X.env=(false,eval e X.env)::starEach es X.env:=by rfl)(hpl:(backTo pos (starEach es X.env)).any (·.1)=false:=by rfl) :
  PE X (.Call (.Name x p) (e::es) [] pos) (nY sp [] E0 t):=by
 obtain⟨f,fd,hm,kp,b,G⟩:=F.ex;exact LJ G (hr.mono hk) hg hm kp b .nil A0 ha hdb he hpl
theorem wC {X:Cx}{x:Str}{n:String}{pos:Pos} (hg:Gl X x) (hm:X.mg x=none) (hv:bootBuiltins x=some (.type n)) (hn:x≠ "__name__" :=by decide) (hd:(x==("__debug__" :Str))=false:=by decide):PE X (.Name x pos) (tC (.ty n)):=Z4 hg hm hv rfl hn hd
theorem X8 {X:Cx}{x:Str}{i:Int}{t:Tok}{pos:Pos} (hg:Gl X x) (hm:X.mg x=some (.int i t)) (hd:(x==("__debug__" :Str))=false:=by decide):PE X (.Name x pos) (tC (.int i)):=LE hg hm ⟨t,rfl⟩ hd
theorem mE {X:Cx}{x:Str}{a:Addr}{pos:Pos} (hg:Gl X x) (hm:X.mg x=some (.ref a)) (hd:(x==("__debug__" :Str))=false:=by decide):PE X (.Name x pos) (tC (.ref a)):=LE hg hm rfl hd
theorem bX:bootBuiltins "isinstance" =some (.builtin "isinstance"):=by decide +kernel
theorem RT:bootBuiltins "all" =some (.builtin "all"):=by decide +kernel
theorem j2:bootBuiltins "len" =some (.builtin "len"):=by decide +kernel
theorem aCf:bootBuiltins "max" =some (.builtin "max"):=by decide +kernel
theorem P6:bootBuiltins "int" =some (.type "int"):=by decide +kernel
theorem aB6:bootBuiltins "str" =some (.type "str"):=by decide +kernel
theorem LQ:bootBuiltins "bool" =some (.type "bool"):=by decide +kernel
theorem C0:bootBuiltins "list" =some (.type "list"):=by decide +kernel
theorem ZQ:bootBuiltins "dict" =some (.type "dict"):=by decide +kernel
inductive BTy (K:W.Frag)(H:Hp):V->String->Prop where
 | non:BTy K H .non "NoneType"
 | bl (x:Bool):BTy K H (.bl x) "bool"
 | int (i:Int):BTy K H (.int i) "int"
 | str (x:Str):BTy K H (.str x) "str"
 | lst {a:Addr}{xs:List V} (e:H a=some (.lst xs)):BTy K H (.ref a) "list"
 | tup {a:Addr}{xs:List V} (e:H a=some (.tup xs)):BTy K H (.ref a) "tuple"
 | dK {a:Addr}{kvs:List (Key×V)} (e:H a=some (.dK kvs)):BTy K H (.ref a) "dict"
theorem BTy.ty {K:W.Frag}{H:Hp}{x:V}{n:String} (b:BTy K H x n):iU K H x (.type n):=by
 cases b with
 | non=>exact .non
 | bl=>exact .bl _
 | int=>exact .int _
 | str=>exact .str _
 | lst e=>exact .lst e
 | tup e=>exact .tup e
 | dK e=>exact .dK e
def isB (n c:String):Bool:=n==c||(n== "bool" &&c== "int")
theorem GD {K:W.Frag}{H:Hp}{x:V}{n:String} (b:BTy K H x n) (c:String) (hc:c= "int" ∨c= "bool" ∨c= "str"):W.kitOne K (.type n) (.type c)=some (isB n c):=by
 cases b<;>rcases hc with rfl|rfl|rfl<;>kernel_rfl
section
variable {X:Cx}
theorem UX {x:V}(h:gJ x=true):eqV x x=true:=by
 cases x<;>first|rfl|(simp[eqV];done)|exact absurd h Bool.false_ne_true
theorem tV (n:Nat):(List.range n).all (fun _=>true)=true:=by simp
end
structure FunV (K:W.Frag)(x qual:Str)(st:Stmt)(f:Addr)(fd:FuncData):Prop where
 ex:∃(oc:Value) (od:Option Addr) (dV kV doc pm:Value) (an:Option Addr) (cdv ct:Value) (osl:Array (Option Value)),
  fd=W.fnOf x qual (dP st) (cY st) (aG st) dV kV doc pm an cdv ct/\K.lookup f=some ⟨oc,od,.func fd,osl⟩/\W.codeIn K cdv qual=true
 kp:W.keepIn K (.ref f)=true
section
variable {P:Program}{w:World}{K:W.Frag}{mg:Str->Option Value}{base:Heap}
theorem FunV.ok {x qual:Str}{st:Stmt}{f:Addr}{fd:FuncData}{N ps:List Str}{k:Nat}{sp:Sp} (F:FunV K x qual st f fd) (S:aO N ps (aG st)) (len:∀vs H Q E,sp vs H Q E->vs.length=ps.length)
  (hbody:∀(cdv:Value) (A:Around) (outer:List Env) (s:Shared) (H:Hp) (vs:List V) (Q:VK) (E:XK),Room k (A.deeper (envOfC qual (aG st) s.heap.objs.size f cdv))->sp vs H Q E →
   ∃t,PSs (dJ CX0 P w K mg base N qual (aG st) f cdv A outer s H E).nox (cY st) t/\t { nx:=fun _ H'=>Q .non H',rt:=Q } (fO N vs) H):bD P w K mg base CX0 (k+1) f fd ps sp:=by
 obtain⟨oc,od,dV,kV,doc,pm,an,cdv,ct,osl,rfl,lk,hcd⟩:=F.ex;refine XJ lk hcd S len fun A outer s H vs Q E hr h=> ?_;obtain⟨t,h1,h2⟩:=hbody cdv A outer s H vs Q E hr h;exact⟨t,PSs.nox h1,h2⟩
theorem rM {x qual:Str}{st:Stmt}{f:Addr}{oc:Value}{od an:Option Addr}{osl:Array (Option Value)}{dV kV doc pm cdv ct:Value} (l:K.lookup f=some ⟨oc,od,.func (W.fnOf x qual (dP st) (cY st) (aG st) dV kV doc pm an cdv ct),osl⟩) (c:W.codeIn K cdv qual=true)
  (k:W.keepIn K (.ref f)=true):FunV K x qual st f (W.fnOf x qual (dP st) (cY st) (aG st) dV kV doc pm an cdv ct):=⟨⟨oc,od,dV,kV,doc,pm,an,cdv,ct,osl,rfl,l,c⟩,k⟩
structure Mc (P:Program)(w:World)(K:W.Frag)(mg:Str->Option Value)(base:Heap)(C:Addr)(nm:Str)(k:Nat)(sp:Sp):Prop where
 ex:∃f fd ps,Cls K C/\Meth K C nm f/\Binds K fd ps []/\bD P w K mg base CX0 k f fd ps sp
structure Kc (P:Program)(w:World)(K:W.Frag)(mg:Str->Option Value)(base:Heap)(x:Str)(C:Addr)(k:Nat)(dvs:List V)(sp:Sp):Prop where
 ex:∃f fd ps ds,mg x=some (.ref C)/\Mk K C f/\Vals dvs ds/\Binds K fd ps ds/\bD P w K mg base CX0 k f fd ps sp
end
section
variable {X:Cx}{k k':Nat}{sp:Sp}{x m:Str}{p pos apos:Pos}{e o:Expr}{es:List Expr}{ta:TE}{t:TA}{C:Addr}{dvs:List V}
def tMD (M:Addr->Sp->Prop)(m:Str)(ta:TE)(t:TA):TE:=fun σ H Q=>ta σ H fun x H1=>∃a C dx fs sp,x= .ref a/\H1 a=some (.ins C dx fs)/\fs.lookup m=none/\M C sp/\t σ H1 fun vs H2=>sp (x::vs) H2 Q E0
theorem jY (k:Nat){pl:Sem Bool}(hr:Room k' X.A)(ho:PE X o ta)(ha:PA X (e::es) t)(hk:k<=k':=by decide)
  (hst:starEach (e::es) X.env=(false,eval e X.env)::starEach es X.env:=by rfl)(hpl:(backTo pos (starEach es X.env)).any (·.1)=false:=by rfl)
  (ht:eval (.Call (.Attribute o m apos) (e::es) [] pos) X.env=(do
   let ov ←eval o X.env
   standAt apos.atName
   let (f,first) ←holding [ov] (getMethod ov m pl)
   callWith pos f first (backTo pos (starEach (e::es) X.env)) (backToKw pos (keywordEach [] X.env))):=by rfl) :
  PE X (.Call (.Attribute o m apos) (e::es) [] pos) (tMD (fun C sp=>Mc X.prog X.w X.K X.mg X.base C m k sp) m ta t):=by
 intro pins s σ H Q I h;refine W.methodCall_KW (pl:=pl) (thn (ho pins s σ H _ I h) fun u s1 ⟨x,H1,I1,rx,a,C,dx,fs,sp,ex,ea,l,M,q⟩=> ?_) ht;subst ex;obtain rfl:u=Value.ref a:=rx;obtain⟨f,fd,ps,c,hm,hb,F⟩:=M.ex;refine A4 I1 ea c hm l ?_;refine W.callWith_K (first:=[.ref a]) (h₀:=X.base) I.ok.mod.kin hm.kp (thn (ha pos pins s1 σ H1 _ I1 q) fun us s2 ⟨vs,H2,I2,r,q2⟩=>⟨I2.kIn,?_⟩) hst hpl;exact AQ (us:= .ref a::us) (vs:= .ref a::vs) (dvs:=[]) F (hr.mono hk) hb .nil A0 I2 (.cons rfl r) (by rw[List.append_nil];exact q2)
theorem c7 (k:Nat){pl:Sem Bool}(hr:Room k' X.A)(ho:PE X o ta)(hk:k<=k':=by decide)
  (ht:eval (.Call (.Attribute o m apos) [] [] pos) X.env=(do
   let ov ←eval o X.env
   standAt apos.atName
   let (f,first) ←holding [ov] (getMethod ov m pl)
   callWith pos f first (backTo pos (starEach [] X.env)) (backToKw pos (keywordEach [] X.env))):=by rfl) :
  PE X (.Call (.Attribute o m apos) [] [] pos) (tMD (fun C sp=>Mc X.prog X.w X.K X.mg X.base C m k sp) m ta MZ):=by
 intro pins s σ H Q I h;refine W.methodCall_KW (pl:=pl) (thn (ho pins s σ H _ I h) fun u s1 ⟨x,H1,I1,rx,a,C,dx,fs,sp,ex,ea,l,M,q⟩=> ?_) ht;subst ex;obtain rfl:u=Value.ref a:=rx;obtain⟨f,fd,ps,c,hm,hb,F⟩:=M.ex;refine A4 I1 ea c hm l ?_;exact W.callWith_K0 (first:=[.ref a]) I1.kIn hm.kp (AQ (us:=[.ref a]) (vs:=[.ref a]) (dvs:=[]) F (hr.mono hk) hb .nil A0 I1 (.cons rfl .nil) q)
theorem F6 (F:Kc X.prog X.w X.K X.mg X.base x C k dvs sp)(hr:Room k' X.A)(ha:PA X (e::es) t)(hk:k+1<=k':=by decide)(hg:Gl X x:=by rfl)
  (hdb:(x==("__debug__" :Str))=false:=by decide)(he:starEach (e::es) X.env=(false,eval e X.env)::starEach es X.env:=by rfl)(hpl:(backTo pos (starEach es X.env)).any (·.1)=false:=by rfl) :
  PE X (.Call (.Name x p) (e::es) [] pos) (GB C sp dvs E0 t):=by
 obtain⟨f,fd,ps,ds,hm,M,hd,hb,G⟩:=F.ex;exact LW M G (hr.mono hk) hg hm hb hd A0 ha hdb he hpl
end
def OK:R2:=fun x y H Q=>y= .non/\Q (.bl (decide (x= .non))) H
def GC:R2:=fun x y H Q=>y= .non/\Q (.bl (!decide (x= .non))) H
def aDo:R2:=fun x y H Q=>∃i j,x= .str i/\y= .str j/\Q (.bl (!decide (j.cps.toList<i.cps.toList))) H
def CK (K:W.Frag):List V->Hp->VK->Prop:=fun xs H Q=>∃x c t u b,xs=[x,c]/\iU K H x t/\RelV c u/\W.kitOne K t u=some b/\Q (.bl b) H
def aBV (K:W.Frag):List V->Hp->VK->Prop:=fun xs H Q=>∃(p:Addr) (bs:List Bool),xs=[.ref p]/\SqL K H p (bs.map V.bl)/\Q (.bl (bs.all id)) H
def aCE:List V->Hp->VK->Prop:=fun xs H Q=>∃z,xs=[.str z]/\z.length<=sizeLine/\Q (.int z.length) H
def XI (K:W.Frag):List V->Hp->VK->Prop:=fun xs H Q=>∃p ys,xs=[.ref p]/\(SqL K H p ys∨SqT K H p ys)/\Q (.int ys.length) H
def XM:List V->Hp->VK->Prop:=fun xs H Q=>∃i j,xs=[.int i,.int j]/\Q (.int (if j>i then j else i)) H
def LZ (K:W.Frag):List V->Hp->VK->Prop:=fun xs H Q=>∃p ys,xs=[.ref p]/\(SqL K H p ys∨SqT K H p ys)/\∀l,H l=none->Q (.ref l) (upd H l (.lst ys))
section
variable {X:Cx}
theorem IK:OpR X (compareOp .Is) OK:=aBi
theorem LP:OpR X (compareOp .IsNot) GC:=Y1
theorem QS:OpR X (compareOp .LtE) aDo:=RG
theorem oK:cS X (.builtin "isinstance") (CK X.K):=KI
theorem IC (hc:X.calm=true):cS X (.builtin "all") (aBV X.K):=DV hc
theorem SM:cS X (.builtin "len") aCE:=JG
theorem eT:cS X (.builtin "len") (XI X.K):=IM
theorem QT (hc:X.calm=true):cS X (.builtin "max") XM:=QE hc
theorem MS:cS X (.type "list") (LZ X.K):=IT
end
def nV (P:Bool->Hp->Prop):VK:=fun x H=>∃k,x= .bl k/\P k H
def aCd (O:Option Int->Hp->Prop):VK:=fun x H=>∃i,x= .int i/\O (some i) H
def aAI (Q:VK):List V->Hp->Prop:=fun xs H=>xs.length<=sizeLine/\∀p,H p=none->Q (.ref p) (upd H p (.lst xs))
def aBC (Q:VK):List V->Hp->Prop:=fun xs H=>xs.length<=sizeLine/\∀p,H p=none->Q (.ref p) (upd H p (.tup xs))
def aCc (Q:VK):List V->Hp->Prop:=fun ys H=>∀p,H p=none->Q (.ref p) (upd H p (.lst ys))
def aAz (K:W.Frag)(f:Str)(Q:VK):VK:=fun x H=>∃a C dx fs v,x= .ref a/\H a=some (.ins C dx fs)/\Cls K C/\NoAttr K C f/\fs.lookup f=some v/\Q v H
def XX (K:W.Frag)(f:Str)(y:V)(q:Hp->Prop):VK:=fun x H=>∃a C dx fs,x= .ref a/\H a=some (.ins C dx fs)/\Cls K C/\NoAttr K C f/\fs.length<1000/\q (upd H a (.ins C dx (cM f y fs)))
def MdP (M:Addr->Sp->Prop)(m:Str)(t:TA)(σ:St)(Q:VK):VK:=fun x H=>∃a C dx fs sp,x= .ref a/\H a=some (.ins C dx fs)/\fs.lookup m=none/\M C sp/\t σ H fun vs H2=>sp (x::vs) H2 Q E0
def wK (C:Addr)(sp:Sp)(dvs:List V)(E:XK)(Q:VK):List V->Hp->Prop:=fun vs H1=>∀x dx,H1 x=none->H1 dx=none->dx≠x →
 sp (.ref x::(vs++dvs)) (upd (upd H1 dx (.own x)) x (.ins C dx [])) (fun v H2=>v= .non/\Q (.ref x) H2) E
def BmP (K:W.Frag)(T:String)(r:V->List V->Hp->VK->Prop)(t:TA)(σ:St)(Q:VK):VK:=fun x H1=>tyV K T x H1/\t σ H1 fun xs H2=>r x xs H2 Q
def aAx (K:W.Frag)(R:It->Hp->Prop):VK:=fun x H1=>∃a,x= .ref a/\(∃xs,SqL K H1 a xs)/\R (Itl K a) H1
def aCk (K:W.Frag)(R:It->Hp->Prop):VK:=fun x H1=>∃a,x= .ref a/\(∃xs,SqT K H1 a xs)/\R (Itt K a) H1
def aAr (R:It->Hp->Prop):List V->Hp->Prop:=fun vs H1=>∃j:Int,vs=[.int j]/\ -(2^62)<=j/\j<2^62/\R (Itr 0 j.toNat) H1
def aB4 (R:It->Hp->Prop):List V->Hp->Prop:=fun vs H1=>∃i j:Int,vs=[.int i,.int j]/\(-(2^62)<=i/\i<2^62/\ -(2^62)<=j/\j<2^62)/\R (Itr i (j - i).toNat) H1
section
variable {nx bk ct:St->Hp->Prop}{rt:VK}{σ:St}{H:Hp}{Q:VK}{t u:TS}{te ta tb tc:TE}{g:TG}{c d:TT}{v:V}{K:W.Frag}{E:XK}
theorem aAY (h:t ⟨u ⟨nx,rt,bk,ct⟩,rt,bk,ct⟩ σ H):JD t u ⟨nx,rt,bk,ct⟩ σ H:=h
theorem kW (R:St->Hp->Prop)(h2:∀σ' H',R σ' H'->u ⟨nx,rt,bk,ct⟩ σ' H')(h1:∀nx':St->Hp->Prop,(∀σ' H',R σ' H'->nx' σ' H')->t ⟨nx',rt,bk,ct⟩ σ H):JD t u ⟨nx,rt,bk,ct⟩ σ H:=h1 _ h2
theorem VZ {v:TS}(h:JD (NS c t u) v ⟨nx,rt,bk,ct⟩ σ H):JD (NS c t u) v ⟨nx,rt,bk,ct⟩ σ H:=h
theorem YU (h:nx σ H):XA ⟨nx,rt,bk,ct⟩ σ H:=h
theorem aCe (h:te σ H fun x H1=>g x σ H1 nx):NC te g ⟨nx,rt,bk,ct⟩ σ H:=h
theorem aAW (h:te σ H rt):aBG te ⟨nx,rt,bk,ct⟩ σ H:=h
theorem YJ (h:te σ H fun _ H1=>nx σ H1):XY te ⟨nx,rt,bk,ct⟩ σ H:=h
theorem aCX (h:c σ H fun b H1=>if b=true then t ⟨nx,rt,bk,ct⟩ σ H1 else u ⟨nx,rt,bk,ct⟩ σ H1):NS c t u ⟨nx,rt,bk,ct⟩ σ H:=h
def MW (J:It)(g:TG)(tb:TS)(D:fM)(σ:St)(H:Hp):Prop :=
 ∃W:Nat->Nat->St->Hp->Prop,(∃m,W 0 m σ H)/\∀i m σ H,W i m σ H →
  (J.stop i H/\D.nx σ H)∨(J.go i H/\∃N:St->Hp->Prop,(∀σ' H',N σ' H'->∃m',m'<m/\W (i+1) m' σ' H')/\∀x H',J.yld i H x H'->g x σ H' fun σ2 H2=>tb { D with nx:=N,ct:=N,bk:=D.nx } σ2 H2)
theorem aAN {wi:TI}{tb:TS} (h:wi σ H fun J H1=>MW J g tb ⟨nx,rt,bk,ct⟩ σ H1):aBN wi g tb ⟨nx,rt,bk,ct⟩ σ H:=h
theorem aC5 {l:St}(h:Q v H):c5 0 (some v::l) H Q:=⟨v,rfl,h⟩
theorem aCM {a0}{l:St} (h:Q v H):c5 1 (a0::some v::l) H Q:=⟨v,rfl,h⟩
theorem aCU {a0 a1}{l:St} (h:Q v H):c5 2 (a0::a1::some v::l) H Q:=⟨v,rfl,h⟩
theorem aCJ {a0 a1 a2}{l:St} (h:Q v H):c5 3 (a0::a1::a2::some v::l) H Q:=⟨v,rfl,h⟩
theorem aCT {a0 a1 a2 a3}{l:St} (h:Q v H):c5 4 (a0::a1::a2::a3::some v::l) H Q:=⟨v,rfl,h⟩
theorem aDd {a0 a1 a2 a3 a4}{l:St} (h:Q v H):c5 5 (a0::a1::a2::a3::a4::some v::l) H Q:=⟨v,rfl,h⟩
theorem aC3 {a0 a1 a2 a3 a4 a5}{l:St} (h:Q v H):c5 6 (a0::a1::a2::a3::a4::a5::some v::l) H Q:=⟨v,rfl,h⟩
theorem aC0 {a0 a1 a2 a3 a4 a5 a6}{l:St} (h:Q v H):c5 7 (a0::a1::a2::a3::a4::a5::a6::some v::l) H Q:=⟨v,rfl,h⟩
theorem aC8 {a0 a1 a2 a3 a4 a5 a6 a7}{l:St} (h:Q v H):c5 8 (a0::a1::a2::a3::a4::a5::a6::a7::some v::l) H Q:=⟨v,rfl,h⟩
theorem aCx {a0 a1 a2 a3 a4 a5 a6 a7 a8}{l:St} (h:Q v H):c5 9 (a0::a1::a2::a3::a4::a5::a6::a7::a8::some v::l) H Q:=⟨v,rfl,h⟩
theorem aBt {a0 a1 a2 a3 a4 a5 a6 a7 a8 a9}{l:St} (h:Q v H):c5 10 (a0::a1::a2::a3::a4::a5::a6::a7::a8::a9::some v::l) H Q:=⟨v,rfl,h⟩
theorem aAT {a0 a1 a2 a3 a4 a5 a6 a7 a8 a9 a10}{l:St} (h:Q v H):c5 11 (a0::a1::a2::a3::a4::a5::a6::a7::a8::a9::a10::some v::l) H Q:=⟨v,rfl,h⟩
theorem aCg {a0 a1 a2 a3 a4 a5 a6 a7 a8 a9 a10 a11}{l:St} (h:Q v H):c5 12 (a0::a1::a2::a3::a4::a5::a6::a7::a8::a9::a10::a11::some v::l) H Q:=⟨v,rfl,h⟩
variable {q:St->Hp->Prop}
theorem aCZ {a0 a}{l:St} (h:q (a0::some v::l) H):cJ 1 v (a0::a::l) H q:=h
theorem aCD {a0 a1 a}{l:St} (h:q (a0::a1::some v::l) H):cJ 2 v (a0::a1::a::l) H q:=h
theorem aCP {a0 a1 a2 a}{l:St} (h:q (a0::a1::a2::some v::l) H):cJ 3 v (a0::a1::a2::a::l) H q:=h
theorem aDb {a0 a1 a2 a3 a}{l:St} (h:q (a0::a1::a2::a3::some v::l) H):cJ 4 v (a0::a1::a2::a3::a::l) H q:=h
theorem aCY {a0 a1 a2 a3 a4 a}{l:St} (h:q (a0::a1::a2::a3::a4::some v::l) H):cJ 5 v (a0::a1::a2::a3::a4::a::l) H q:=h
theorem aCw {a0 a1 a2 a3 a4 a5 a}{l:St} (h:q (a0::a1::a2::a3::a4::a5::some v::l) H):cJ 6 v (a0::a1::a2::a3::a4::a5::a::l) H q:=h
theorem aCF {a0 a1 a2 a3 a4 a5 a6 a}{l:St} (h:q (a0::a1::a2::a3::a4::a5::a6::some v::l) H):cJ 7 v (a0::a1::a2::a3::a4::a5::a6::a::l) H q:=h
theorem aDc {a0 a1 a2 a3 a4 a5 a6 a7 a}{l:St} (h:q (a0::a1::a2::a3::a4::a5::a6::a7::some v::l) H):cJ 8 v (a0::a1::a2::a3::a4::a5::a6::a7::a::l) H q:=h
theorem aDe {a0 a1 a2 a3 a4 a5 a6 a7 a8 a}{l:St} (h:q (a0::a1::a2::a3::a4::a5::a6::a7::a8::some v::l) H):cJ 9 v (a0::a1::a2::a3::a4::a5::a6::a7::a8::a::l) H q:=h
theorem aAU {a0 a1 a2 a3 a4 a5 a6 a7 a8 a9 a}{l:St} (h:q (a0::a1::a2::a3::a4::a5::a6::a7::a8::a9::some v::l) H):cJ 10 v (a0::a1::a2::a3::a4::a5::a6::a7::a8::a9::a::l) H q:=h
theorem aBl {a0 a1 a2 a3 a4 a5 a6 a7 a8 a9 a10 a}{l:St} (h:q (a0::a1::a2::a3::a4::a5::a6::a7::a8::a9::a10::some v::l) H):cJ 11 v (a0::a1::a2::a3::a4::a5::a6::a7::a8::a9::a10::a::l) H q:=h
theorem aA3 {a0 a1 a2 a3 a4 a5 a6 a7 a8 a9 a10 a11 a}{l:St} (h:q (a0::a1::a2::a3::a4::a5::a6::a7::a8::a9::a10::a11::some v::l) H):cJ 12 v (a0::a1::a2::a3::a4::a5::a6::a7::a8::a9::a10::a11::a::l) H q:=h
theorem aDx (h:Q v H):tC v σ H Q:=h
theorem aCN {r:R2}(h:ta σ H fun x H1=>tb σ H1 fun y H2=>r x y H2 Q):tOp r ta tb σ H Q:=h
theorem aCy {r:V->Hp->VK->Prop}(h:ta σ H fun x H1=>r x H1 Q):tUn r ta σ H Q:=h
theorem aCS {f:Int->Int->V}{i j:Int} (h:Q (f i j) H):rI0 f (.int i) (.int j) H Q:=⟨i,j,rfl,rfl,h⟩
theorem aDr {f:Int->V}{i:Int} (h:Q (f i) H):rU f (.int i) H Q:=⟨i,rfl,h⟩
theorem aA5 {f:Int->Int->V}{i j:Int} (h0:0<j) (h1:j<1073741824) (h:Q (f i j) H):rI aBz f (.int i) (.int j) H Q:=⟨i,j,rfl,rfl,⟨h0,h1⟩,h⟩
theorem aBW {f:Int->Int->V}{i j:Int} (h0:0<j) (h:Q (f i j) H):rI (fun _ j=>0<j) f (.int i) (.int j) H Q:=⟨i,j,rfl,rfl,h0,h⟩
theorem Y8 {f:Int->Int->V}{i j:Int} (h0: -18446744073709551616<i) (h1:i<18446744073709551616) (h:Q (f i j) H):rI CMul f (.int i) (.int j) H Q:=⟨i,j,rfl,rfl,.inl ⟨by lia,by lia⟩,h⟩
theorem aAh {f:Int->Int->V}{i j:Int} (h0: -18446744073709551616<j) (h1:j<18446744073709551616) (h:Q (f i j) H):rI CMul f (.int i) (.int j) H Q:=⟨i,j,rfl,rfl,.inr ⟨by lia,by lia⟩,h⟩
theorem XL {i j:Int}:decide (V.int i=V.int j)=decide (i=j):=by simp
theorem XH {i j:Str}:decide (V.str i=V.str j)=decide (i=j):=by simp
theorem aBa {i j:Int}(h:Q (.bl (decide (i=j))) H):rEq (.int i) (.int j) H Q:=⟨rfl,by rw[XL];exact h⟩
theorem aB5 {i j:Str}(h:Q (.bl (decide (i=j))) H):rEq (.str i) (.str j) H Q:=⟨rfl,by rw[XH];exact h⟩
theorem aCb {i j:Int}(h:Q (.bl (!decide (i=j))) H):rNe (.int i) (.int j) H Q:=⟨rfl,by rw[XL];exact h⟩
theorem aBS {i j:Str}(h:Q (.bl (!decide (i=j))) H):rNe (.str i) (.str j) H Q:=⟨rfl,by rw[XH];exact h⟩
theorem YW (h:Q (.bl true) H):OK .non .non H Q:=⟨rfl,h⟩
theorem ZG {i:Addr}(h:Q (.bl false) H):OK (.ref i) .non H Q:=⟨rfl,by rw[decide_eq_false (fun z=>by cases z)];exact h⟩
theorem Z0 (h:Q (.bl (decide (v= .non))) H):OK v .non H Q:=⟨rfl,h⟩
theorem aAc (h:Q (.bl false) H):GC .non .non H Q:=⟨rfl,h⟩
theorem aAi {i:Str}(h:Q (.bl true) H):GC (.str i) .non H Q:=⟨rfl,by rw[decide_eq_false (fun z=>by cases z)];exact h⟩
theorem YD (h:Q (.bl (!decide (v= .non))) H):GC v .non H Q:=⟨rfl,h⟩
theorem ZX (h:ta σ H (nV fun c H1=>if c=true then tb σ H1 Q else Q (.bl false) H1)):W7 ta tb σ H Q:=h
theorem aAf (h:ta σ H (nV fun c H1=>Q (.bl (!c)) H1)):XE ta σ H Q:=h
theorem aAZ (h:c σ H fun k H1=>if k=true then ta σ H1 Q else tb σ H1 Q):tIf c ta tb σ H Q:=h
theorem VY {r r':R2}(h:ta σ H fun x H1=>tb σ H1 fun y H2=>r x y H2 (nV fun k H3=>if k=true then tc σ H3 fun w' H4=>r' y w' H4 Q else Q (.bl false) H3)):IA r r' ta tb tc σ H Q:=h
theorem Z9 {sp:Sp}{t:TA} (h:t σ H fun vs H1=>sp vs H1 Q E):nY sp [] E t σ H Q:=by
 unfold nY;simp only[List.append_nil];exact h
theorem aCK {r:List V->Hp->VK->Prop}{t:TA} (h:t σ H fun vs H1=>r vs H1 Q):tCB r t σ H Q:=h
theorem aBf {t:TA}(h:t σ H (aAI Q)):aBQ t σ H Q:=h
theorem aAv {t:TA}(h:t σ H (aBC Q)):aBm t σ H Q:=h
theorem eJ {o:HO}{R:V->Hp->Prop} (h:∀p H',H p=none->Same H H'->H' p=some o->R (.ref p) H'):∀p,H p=none->R (.ref p) (upd H p o) :=
 fun p hp=>h p _ hp (fun b u e=>by rw[aK (aN e hp)];exact e) aY
theorem ZR {xs:List V}(hn:xs.length<=sizeLine)(h:∀p H',H p=none->Same H H'->H' p=some (.lst xs)->Q (.ref p) H'):aAI Q xs H:=⟨hn,eJ h⟩
theorem Z5 {xs:List V}(hn:xs.length<=sizeLine)(h:∀p H',H p=none->Same H H'->H' p=some (.tup xs)->Q (.ref p) H'):aBC Q xs H:=⟨hn,eJ h⟩
theorem aAj {xs:List V}(h:∀p H',H p=none->Same H H'->H' p=some (.lst xs)->Q (.ref p) H'):aCc Q xs H:=eJ h
theorem aAV {f:Str}(h:ta σ H (aAz K f Q)):WA K ta f σ H Q:=h
theorem YY {a C dx:Addr}{fs:List (Str×V)}{f:Str} (e:H a=some (.ins C dx fs)) (cl:Cls K C) (na:NoAttr K C f) (l:fs.lookup f=some v) (h:Q v H):aAz K f Q (.ref a) H:=⟨a,C,dx,fs,v,rfl,e,cl,na,l,h⟩
theorem ZI {f:Str}(h:ta σ H fun y H1=>tb σ H1 (XX K f y (nx σ))):aA0 K tb ta f ⟨nx,rt,bk,ct⟩ σ H:=h
theorem V4 {a C dx:Addr}{fs:List (Str×V)}{f:Str}{y:V}{w:Hp->Prop} (e:H a=some (.ins C dx fs)) (cl:Cls K C) (na:NoAttr K C f) (l:decide (fs.length<1000)=true)
  (h:∀H',(∀b o,H b=some o->b≠a->H' b=some o)->H' a=some (.ins C dx (cM f y fs))->w H'):XX K f y w (.ref a) H :=
 ⟨a,C,dx,fs,rfl,e,cl,na,of_decide_eq_true l,h _ (fun b o q hb=>by rw[aK hb];exact q) aY⟩
theorem aDa {M:Addr->Sp->Prop}{m:Str}{t:TA} (h:ta σ H (MdP M m t σ Q)):tMD M m ta t σ H Q:=h
theorem aB1 {M:Addr->Sp->Prop}{m:Str}{t:TA}{a C dx:Addr}{fs:List (Str×V)}{sp:Sp} (e:H a=some (.ins C dx fs)) (l:fs.lookup m=none) (F:M C sp) (h:t σ H fun vs H2=>sp (.ref a::vs) H2 Q E0):MdP M m t σ Q (.ref a) H :=
 ⟨a,C,dx,fs,sp,rfl,e,l,F,h⟩
theorem YV {C:Addr}{sp:Sp}{dvs:List V}{t:TA} (h:t σ H (wK C sp dvs E Q)):GB C sp dvs E t σ H Q:=h
theorem WJ {C:Addr}{sp:Sp}{dvs vs:List V}{fs:List (Str×V)}
  (hsp:∀p dx H0 (Q':VK),H0 p=some (.ins C dx [])->(∀H',(∀b o,H0 b=some o->b≠p->H' b=some o)->H' p=some (.ins C dx fs)->Q' .non H')->Same H H0->sp (.ref p::(vs++dvs)) H0 Q' E)
  (k:∀p dx H',H p=none->Same H H'->H' p=some (.ins C dx fs)->Q (.ref p) H'):wK C sp dvs E Q vs H:=by
 intro x dx nx nd ne;have s0:Same H (upd (upd H dx (.own x)) x (.ins C dx [])):=fun b o e=>by
  rw[aK (aN e nx),aK (aN e nd)];exact e
 exact hsp x dx _ _ aY (fun H' sb e=>⟨rfl,k x dx H' nx (fun b o q=>sb b o (s0 b o q) (aN q nx)) e⟩) s0
theorem Y6 {wi:TI}{nl:Nat}{ci:List Nat}{ti:TT} (h:wi σ H fun J H1=>fW J g ti te (bZ nl ci σ) (aCc Q) H1):F8 wi nl ci g ti te σ H Q:=h
theorem aCL {r:V->Option Int->Option Int->Hp->VK->Prop}{tl th:TO} (h:te σ H fun x H1=>tl σ H1 fun l H2=>th σ H2 fun u H3=>r x l u H3 Q):tSl r te tl th σ H Q:=h
theorem QV {a:Addr}{xs:List V}{lo hi:Option Int} (e:SqL K H a xs) (h:∀p H',H p=none->Same H H'->H' p=some (.lst (d7 xs lo hi))->Q (.ref p) H'):VL K (.ref a) lo hi H Q:=⟨a,xs,rfl,e,eJ h⟩
theorem aAC {p:Addr}{xs:List V}{i:Int} (e:SqL K H p xs) (l:atI xs i=some v) (h:Q v H):OL K (.ref p) (.int i) H Q:=⟨p,xs,i,v,rfl,rfl,e,l,h⟩
theorem A1 {p:Addr}{xs:List V}{i:Int} (e:SqT K H p xs) (l:atI xs i=some v) (h:Q v H):U3 K (.ref p) (.int i) H Q:=⟨p,xs,i,v,rfl,rfl,e,l,h⟩
def DZ (ns:List Int)(lo hi:Option Int):List Int:=(ns.drop (HT.sIx ns.length 0 lo)).take (HT.sIx ns.length ns.length hi - HT.sIx ns.length 0 lo)
theorem RZ (ns:List Int)(lo hi:Option Int):d7 (ns.map V.int) lo hi=(DZ ns lo hi).map V.int:=by
 unfold d7 DZ;rw[List.length_map,List.map_take,List.map_drop]
theorem aAH {a:Addr}{ns:List Int}{lo hi:Option Int} (e:SqL K H a (ns.map V.int)) (h:∀p H',H p=none->Same H H'->H' p=some (.lst ((DZ ns lo hi).map V.int))->Q (.ref p) H'):VL K (.ref a) lo hi H Q :=
 QV e (by rw[RZ];exact h)
theorem rF {l b:Addr}{xs zs:List V} (e:H l=some (.lst xs)) (e2:H b=some (.lst zs)) (hn:xs.length+zs.length<=sizeLine) (h:∀p H',H p=none->Same H H'->H' p=some (.lst (xs++zs))->Q (.ref p) H'):aBO (.ref l) (.ref b) H Q :=
 ⟨l,b,xs,zs,rfl,rfl,e,e2,hn,eJ h⟩
theorem aC4 {T:String}{r:V->List V->Hp->VK->Prop}{to:TE}{t:TA} (h:to σ H (BmP K T r t σ Q)):tBM K T r to t σ H Q:=h
theorem aBL {r:V->List V->Hp->VK->Prop}{t:TA}{p:Addr}{xs:List V} (e:SqL K H p xs) (h:t σ H fun xs H2=>r (.ref p) xs H2 Q):BmP K "list" r t σ Q (.ref p) H:=⟨.inl ⟨rfl,xs,e⟩,h⟩
theorem oH {x:V}{n cn:String} (b:BTy K H x n) (hc:cn= "int" ∨cn= "bool" ∨cn= "str") (h:Q (.bl (isB n cn)) H):CK K [x,.ty cn] H Q:=⟨x,.ty cn,_,_,_,rfl,b.ty,rfl,GD b cn hc,h⟩
theorem WC {i:Int}(h:Q (.bl true) H):CK K [.int i,.ty "int"] H Q:=oH (.int i) (.inl rfl) h
theorem WM {i:Int}(h:Q (.bl false) H):CK K [.int i,.ty "bool"] H Q:=oH (.int i) (.inr (.inl rfl)) h
theorem WF {i:Bool}(h:Q (.bl true) H):CK K [.bl i,.ty "bool"] H Q:=oH (.bl i) (.inr (.inl rfl)) h
theorem V2 {i:Bool}(h:Q (.bl true) H):CK K [.bl i,.ty "int"] H Q:=oH (.bl i) (.inl rfl) h
structure ICls (K:W.Frag)(C:Addr):Prop where
 cl:Cls K C
 ha:W.findIn K (.ref C) "__class__" =some (some (.builtin "object.__class__"))
 hn:W.specialIn K (.builtin "object.__class__") "__get__" =some (some (.builtin "getset_descriptor.__get__"))
 tk:W.takesIn K (.builtin "object.__class__")=some true
 hm:W.mroIn K C (.type "object")=some true
theorem aAe {p:Addr}{ys:List V} (e:SqL K H p ys) (h:Q (.int ys.length) H):XI K [.ref p] H Q:=⟨p,ys,rfl,.inl e,h⟩
theorem ZP {i j:Int}(h:Q (.int (max i j)) H):XM [.int i,.int j] H Q:=⟨i,j,rfl,by
 have e:(if j>i then j else i)=max i j:=by lia
 rw[e];exact h⟩
theorem QR {p:Addr}{bs:List Bool} (e:SqL K H p (bs.map V.bl)) (h:Q (.bl (bs.all id)) H):aBV K [.ref p] H Q:=⟨p,bs,rfl,e,h⟩
theorem RF {p:Addr}{ys:List V} (e:SqL K H p ys) (h:∀l H',H l=none->Same H H'->H' l=some (.lst ys)->Q (.ref l) H'):LZ K [.ref p] H Q:=⟨p,ys,rfl,.inl e,eJ h⟩
variable {B:Bool->Hp->Prop}
theorem ZS (h:te σ H (nV B)):O9 te σ H B:=h
theorem aCR (h:te σ H (nV B)):tB te σ H B:=h
theorem aCn (h:c σ H fun k H1=>if k=true then d σ H1 B else B false H1):aCm c d σ H B:=h
theorem aCO (h:c σ H fun k H1=>if k=true then B true H1 else d σ H1 B):tOr c d σ H B:=h
theorem aBK (h:c σ H fun k H1=>B (!k) H1):aAO c σ H B:=h
theorem aBd {b:Bool}{P:Bool->Hp->Prop} (h:P b H):nV P (.bl b) H:=⟨b,rfl,h⟩
theorem JA {A B:Prop}(h:A):if true=true then A else B:=by rw[if_pos rfl];exact h
theorem IX {A B:Prop}(h:B):if false=true then A else B:=by rw[if_neg Bool.false_ne_true];exact h
theorem Y7 {A B:Prop}(h:B):if (!true)=true then A else B:=IX h
theorem ZO {A B:Prop}(h:A):if (!false)=true then A else B:=JA h
theorem aBx {p A B:Prop}[Decidable p](hp:p)(h:A):if decide p=true then A else B:=by rw[if_pos (decide_eq_true hp)];exact h
theorem aBU {p A B:Prop}[Decidable p](hp:¬p)(h:B):if decide p=true then A else B:=by rw[if_neg (by rw[decide_eq_false hp];exact Bool.false_ne_true)];exact h
theorem YO {p A B:Prop}[Decidable p](hp:p)(h:B):if (!decide p)=true then A else B:=by rw[decide_eq_true hp];exact IX h
theorem Z8 {p A B:Prop}[Decidable p](hp:¬p)(h:A):if (!decide p)=true then A else B:=by rw[decide_eq_false hp];exact JA h
theorem fG {p A B:Prop}[Decidable p](h1:p->A)(h2:¬p->B):if decide p=true then A else B:=DK (fun h=>h1 (of_decide_eq_true h)) fun h=>h2 fun z=>h (decide_eq_true z)
variable {L:List V->Hp->Prop}{O:Option Int->Hp->Prop}{tr:TA}
theorem aAK (h:L [] H):MZ σ H L:=h
theorem aAl (h:te σ H fun x H1=>tr σ H1 fun xs H2=>L (x::xs) H2):O7 te tr σ H L:=h
theorem R4 (h:O none H):LU σ H O:=h
theorem ZH (h:te σ H (aCd O)):XR te σ H O:=h
theorem aCa {i:Int}(h:O (some i) H):aCd O (.int i) H:=⟨i,rfl,h⟩
variable {vs:List V}{gs:TGs}
theorem YZ (h:q σ H):M0 [] σ H q:=⟨rfl,h⟩
theorem UF (h:g v σ H fun σ' H'=>gs vs σ' H' q):wR g gs (v::vs) σ H q:=⟨v,vs,rfl,h⟩
theorem aAk {a:Addr}{n:Nat} (e:SqT K H a vs) (hl:vs.length=n) (h:gs vs σ H q):HY K n gs (.ref a) σ H q:=⟨a,vs,rfl,e,hl,h⟩
variable {R:It->Hp->Prop}
theorem VA (h:te σ H (aAx K R)):W4 K te σ H R:=h
theorem E4 {a:Addr}{xs:List V} (e:SqL K H a xs) (h:R (Itl K a) H):aAx K R (.ref a) H:=⟨a,rfl,⟨xs,e⟩,h⟩
theorem Z1 (h:te σ H (aCk K R)):aCl K te σ H R:=h
theorem JN {a:Addr}{xs:List V} (e:SqT K H a xs) (h:R (Itt K a) H):aCk K R (.ref a) H:=⟨a,rfl,⟨xs,e⟩,h⟩
theorem UO (h:tr σ H (aAr R)):XS tr σ H R:=h
theorem EO {j:Int}(h0: -4611686018427387904<=j)(h1:j<4611686018427387904)(h:R (Itr 0 j.toNat) H):aAr R [.int j] H:=⟨j,rfl,by lia,by lia,h⟩
theorem WB (h:tr σ H (aB4 R)):XC tr σ H R:=h
theorem Q5 {i j:Int}(h0: -4611686018427387904<=i)(h1:i<4611686018427387904)(h2: -4611686018427387904<=j)(h3:j<4611686018427387904)(h:R (Itr i (j - i).toNat) H):aB4 R [.int i,.int j] H:=⟨i,j,rfl,⟨by lia,by lia,by lia,by lia⟩,h⟩
theorem cX {a:Addr}{tb:TS} (xs:List V) (Pv:Nat->St->Hp->Prop) (h0:Pv 0 σ H) (hl:∀i σ H,i<=xs.length->Pv i σ H->SqL K H a xs)
  (hs:∀i x σ H,xs[i]? =some x->Pv i σ H->g x σ H fun σ2 H2=>tb ⟨Pv (i+1),rt,nx,Pv (i+1)⟩ σ2 H2)(hd:∀σ H,Pv xs.length σ H->nx σ H):MW (Itl K a) g tb ⟨nx,rt,bk,ct⟩ σ H :=
 WP (D:=⟨nx,rt,bk,ct⟩) Pv h0 hl hs hd
theorem K5 {lo:Int}{n:Nat}{tb:TS} (Pv:Nat->St->Hp->Prop) (h0:Pv 0 σ H)
  (hs:∀i σ H,i<n->Pv i σ H->g (.int (lo+i)) σ H fun σ2 H2=>tb ⟨Pv (i+1),rt,nx,Pv (i+1)⟩ σ2 H2)(hd:∀σ H,Pv n σ H->nx σ H):MW (Itr lo n) g tb ⟨nx,rt,bk,ct⟩ σ H :=
 Q9 (D:=⟨nx,rt,bk,ct⟩) Pv h0 hs hd
end
section
variable {K:W.Frag}{te:TE}{σ:St}{ci:List Nat}{rest:St}{fin:List V->Hp->Prop}{H:Hp}{a:Addr}
theorem GF (hr:ci.map (fun i=>(σ[i]?).join)=rest):bZ 1 ci σ=none::rest:=by
 unfold bZ;rw[hr];rfl
end
section
variable {K:W.Frag}{te:TE}{σ:St}{ci:List Nat}{rest:St}{fin:List V->Hp->Prop}{H:Hp}{a:Addr}
end
theorem Same.at {H H':Hp}{b:Addr}{o:HO} (s:Same H H') (h:H b=some o):H' b=some o:=s b o h
def SameBut (p:Addr)(H H':Hp):Prop:=∀b o,H b=some o->b≠p->H' b=some o
theorem SameBut.upd {p:Addr}{H:Hp}{o:HO}:SameBut p H (upd H p o):=fun b u e hb=>by rw[aK hb];exact e
theorem SameBut.trans {p:Addr}{H H1 H2:Hp} (a:SameBut p H H1) (b:SameBut p H1 H2):SameBut p H H2:=fun c o h hc=>b c o (a c o h hc) hc
theorem Same.but {p:Addr}{H H':Hp} (s:Same H H'):SameBut p H H':=fun b o e _=>s b o e
theorem SameBut.same {p:Addr}{H H0 H':Hp} (n:H0 p=none) (s:Same H0 H) (b:SameBut p H H'):Same H0 H':=fun c o e=>b c o (s c o e) (aN e n)
theorem aM {t:TS}{D:fM}{N:List Str}{vs:List V}{σ:St}{H:Hp} (e:fO N vs=σ) (h:t D σ H):t D (fO N vs) H:=e▸h
theorem SameBut.refl {p:Addr}{H:Hp}:SameBut p H H:=fun _ _ e _=>e
theorem SameBut.snoc {p:Addr}{H H1 H2:Hp} (b:∀c o,H1 c=some o->c≠p->H2 c=some o) (a:SameBut p H H1):SameBut p H H2:=fun c o h hc=>b c o (a c o h hc) hc
theorem SameBut.snocS {p:Addr}{H H1 H2:Hp} (b:Same H1 H2) (a:SameBut p H H1):SameBut p H H2:=fun c o h hc=>b c o (a c o h hc)
theorem Same.snoc {H H1 H2:Hp}(b:Same H1 H2)(a:Same H H1):Same H H2:=a.trans b
theorem ZK {f:Str}{v:V}{fs:List (Str×V)}:(cM f v fs).lookup f=some v:=by rw[lV,if_pos rfl]
theorem aC6 {f g:Str}{v:V}{o:Option V}{fs:List (Str×V)} (h:decide (g=f)=false) (l:fs.lookup g=o):(cM f v fs).lookup g=o:=by rw[lV,if_neg (of_decide_eq_false h)];exact l
theorem RW {f:Str}:([]:List (Str×V)).lookup f=none:=rfl
section
variable {K:W.Frag}{x qual:Str}{st:Stmt}{kV doc pm cdv ct:Value}{an:Option Addr}{ps:List Str}
theorem k7 (k:Nat){T:Addr}{ds:List Value}{oc:Value}{od:Option Addr}{sl:Array (Option Value)}{items:Array Value}{n:Nat} (lt:K.lookup T=some ⟨oc,od,.seq items n,sl⟩)
  (h:∀us:List Value,us.length=k->∃k,bindArgs (W.fnOf x qual (dP st) (cY st) (aG st) (.ref T) kV doc pm an cdv ct) ⟨us,[]⟩=seqItems? (.ref T) >>= k/\k (some items)=pure (ps.zip (us++ds)))(hk:k+ds.length=ps.length:=by rfl) :
  Binds K (W.fnOf x qual (dP st) (cY st) (aG st) (.ref T) kV doc pm an cdv ct) ps ds:=fun s us hK hl=>by
 obtain⟨k,h1,h2⟩:=h us (by rw[List.length_append]at hl;lia);exact .of_defaults (T:=T) (items:=items) (n:=n) rfl (hK T _ lt) rfl h1 h2
theorem iY {C:Addr}:W.kitOne K (.ref C) (.ref C)=some true:=by
 unfold W.kitOne;rw[if_pos (beq_self_eq_true _)]
theorem kit_ne {C D:Addr}{cd:ClassData}{b:Bool} (ne:(Value.ref C==Value.ref D)=false) (c:W.clsIn K D=some cd) (t:W.typeIn K (.ref D)=some (.type "type")) (s:W.subIn K (.ref C) (.ref D)=some b) :
  W.kitOne K (.ref C) (.ref D)=some b:=by
 unfold W.kitOne;rw[ne,if_neg Bool.false_ne_true];show (if ((W.clsIn K D).isSome&&W.typeIn K (.ref D)==some (.type "type"))=true then W.subIn K (.ref C) (.ref D) else none)=_;rw[c,t,if_pos (by rfl)];exact s
end
theorem bC (s:String):(Str.ofString s).length=s.length:=by
 rw[Str.ofString_eq_toList];show (s.toList.map Char.toNat).toArray.size=_;rw[List.size_toArray,List.length_map,String.length_toList]
def sgB (c:Nat):Bool:=decide (97<=c)&&decide (c<=122)
def aDm (z:Str):Bool:=z.cps.toList.all sgB
def cD (z:Str):Bool:=decide (1<=(z.length:Int))&&decide ((z.length:Int)<=8)&&aDm z
theorem R9 {z:Str}(h:cD z=true):z.length<=8:=by
 unfold cD at h;simp only[Bool.and_eq_true,decide_eq_true_eq]at h
 lia
theorem qX (x y:Str):(x++y).length=x.length+y.length:=by
 show (x.cps++y.cps).size=_;rw[Array.size_append];rfl
theorem DF (c:Nat):(⟨#[c]⟩:Str).length=1:=rfl
section
variable {prog:Program}{w:World}{A:Around}{E:Value->Shared->Prop}{s:Shared}
end
section
variable {X:Cx}{pos:Pos}
end
section
variable {nx bk ct:St->Hp->Prop}{rt:VK}{σ:St}{H:Hp}{g:TG}{K:W.Frag}{a:Addr}{tb:TS}{xs:List V}
end
theorem YA {H:Hp}{Q:VK}{i j:Int} (h0:0<j) (h:0<=i%j->i%j<j->Q (.int (i%j)) H):rI (fun _ j=>0<j) (fun i j=> .int (i%j)) (.int i) (.int j) H Q:=⟨i,j,rfl,rfl,h0,h (Int.emod_nonneg _ (by lia)) (Int.emod_lt_of_pos _ h0)⟩
end L2
namespace L2
open PySem PySem.Spec PyProof.Rows PySem.W
structure ExcK (K:Frag)(C:Addr):Prop where
 ga:findIn K (.ref C) "__getattribute__" =some (some (.builtin "BaseException.__getattribute__"))
 gg:findIn K (.ref C) "__getattr__" =some none
 cl:findIn K (.ref C) "__class__" =some (some (.builtin "object.__class__"))
 so:subIn K (.ref C) (.type "object")=some true
 sb:subIn K (.ref C) (.type "BaseException")=some true
 cd:∃cd,clsIn K C=some cd
section
variable {prog:Program}{w:World}{A:Around}{E:Value->Shared->Prop}{h:Heap}{g:Array GenState}{d:Drawn}{t:Nat}{os:OsState}{a C:Addr}{o:Obj}{vs:Array Value}{K:Frag}
theorem fZ {M:Model}(hx:h.get? a=some o)(hc:o.cls= .ref C)(hd:o.data= .fields vs):Looks M h (typeOf (.ref a)) (.ref C):=by
 have L:Looks M h (typeOf (.ref a)) o.cls:=by
  refine(Looks.ld hx).andThen ?_;exact .now
 rw[hc]at L;exact L
theorem FM {R:Result->Shared->Prop}(X:K.In h)(k:ExcK K C)(hx:h.get? a=some o)(hc:o.cls= .ref C)(hd:o.data= .fields vs)(hq:R (.ok (.ret (.ref C))) ⟨h,g,d,t,os⟩) :
  codeAny (model prog w) A (.call (.builtin "getset_descriptor.__get__") ⟨[.builtin "object.__class__",.ref a,.ref C],[]⟩) R ⟨h,g,d,t,os⟩:=by
 have hT5:(⟨h,g,d,t,os⟩:Shared).TypeIs (.builtin "object.__class__") "getset_descriptor" :=F.typeOf_object_class;have L0:=fZ (M:=model prog w) hx hc hd;have L1:Looks (model prog w) h (isSubtype (.ref C) (.type (".".intercalate ("object.__class__".cutAt '.').dropLast))) true:=by rw[F.owner_object_class];exact looks_subIn X k.so
 refine codeAny_call_builtin F.slot_gs_get.plain F.entry_gs_get (F.slot_gs_get.check _ _ _ _ _ _ _ _ hT5 (F.args_gs_get _ _ _) ?_)
 repeat (any_goals (first|assumption|(with_reducible refine L0.at ?_)|(with_reducible refine L1.at ?_)|wp_step))
 refine⟨Code.quiet_builtin _ (by decide +kernel),codeAny_builtin F.entry_object_class ?_⟩
 repeat (any_goals (first|assumption|(with_reducible refine L0.at ?_)|wp_step))
theorem BA {tk:Tok}{Q:Fin->Shared->Prop} (X:K.In h) (k:ExcK K C) (hx:h.get? a=some o) (hc:o.cls= .ref C) (hd:o.data= .fields vs) (hq:Q (.done (.ret (.ref C))) ⟨h,g,d,t,os⟩) :
  wpAny (model prog w) A (Builtin.«object.__getattribute__» ⟨[.ref a,.str "__class__" tk],[]⟩) Q E ⟨h,g,d,t,os⟩:=by
 have hT5:(⟨h,g,d,t,os⟩:Shared).TypeIs (.builtin "object.__class__") "getset_descriptor" :=F.typeOf_object_class;have L0:=fZ (M:=model prog w) hx hc hd;have L1:=looks_findIn (M:=model prog w) X k.cl;have f5:=F.typeOf_object_class;have f6:=F.slot_gs_get.lookup;have f7:=F.slot_gs_set.lookup
 repeat (any_goals (first|assumption|(with_reducible refine L0.at ?_)|(with_reducible refine L1.at ?_)|wp_step))
 refine FM X k hx hc hd ?_
 repeat (any_goals (first|assumption|wp_step))
theorem uV {M:Model}{nameV:Value}{Q:Unit->Shared->Prop} (X:K.In h) (k:ExcK K C) (hx:h.get? a=some o) (hc:o.cls= .ref C) (hd:o.data= .fields vs) (hq:Q () ⟨h,g,d,t,os⟩) :
  wpAny M A (checkBuiltinCall "BaseException.__getattribute__" ⟨[.ref a,nameV],[]⟩) Q E ⟨h,g,d,t,os⟩:=by
 have hk:builtinKind "BaseException.__getattribute__" =some .slot:=by decide +kernel
 have hsplit:splitId "BaseException.__getattribute__" =some ("BaseException","__getattribute__"):=by decide +kernel
 have ha:=F.args_bexc_ga (.ref a) nameV;have L0:=fZ (M:=M) hx hc hd;have L1:=looks_subIn (M:=M) X k.sb;simp only[checkBuiltinCall,hk,hsplit];refine wpAny_bind ?_
 ·unfold isInstance
  repeat (first|(with_reducible refine L0.at ?_)|(with_reducible refine L1.at ?_)|wp_step)
  exact hq
theorem CV {tk:Tok}{R:Result->Shared->Prop} (X:K.In h) (k:ExcK K C) (hx:h.get? a=some o) (hc:o.cls= .ref C) (hd:o.data= .fields vs) (hq:R (.ok (.ret (.ref C))) ⟨h,g,d,t,os⟩) :
  codeAny (model prog w) A (.call (.builtin "BaseException.__getattribute__") ⟨[.ref a,.str "__class__" tk],[]⟩) R ⟨h,g,d,t,os⟩ :=
 codeAny_call_builtin F.excAttr_ValueError.ga.plain F.entry_bexc_ga (uV X k hx hc hd (BA X k hx hc hd hq))
theorem GK {tk:Tok}{fill expr:Bool}{Q:Value->Shared->Prop} (X:K.In h) (k:ExcK K C) (hx:h.get? a=some o) (hc:o.cls= .ref C) (hd:o.data= .fields vs) (hq:Q (.ref C) ⟨h,g,d,t,os⟩) :
  wpAny (model prog w) A (getAttrBy (.ref a) (.str "__class__" tk) fill expr) Q E ⟨h,g,d,t,os⟩:=by
 have L0:=fZ (M:=model prog w) hx hc hd;have L1:=looks_findIn (M:=model prog w) X k.ga;have L2:=looks_findIn (M:=model prog w) X k.gg;have f3:=F.excAttr_ValueError.ga.bind (.ref a);have hx0:(expr&&onTheHeap (Value.builtin "BaseException.__getattribute__"))=false:=by cases expr<;>rfl
 have hx2:(Value.builtin "BaseException.__getattribute__" ==Value.builtin "object.__getattribute__")=false:=by decide +kernel
 have hx1:(onTheHeap (Value.ref C)&&Value.builtin "BaseException.__getattribute__" ==Value.builtin "object.__getattribute__")=false:=by rw[hx2];rfl
 repeat (any_goals (first|assumption|(with_reducible refine L0.at ?_)|(with_reducible refine L1.at ?_)|(with_reducible refine L2.at ?_)|wp_step))
 refine CV X k hx hc hd ?_
 repeat (any_goals (first|assumption|wp_step))
theorem CT {Q:Option Value->Shared->Prop}(X:K.In h)(k:ExcK K C)(hx:h.get? a=some o)(hc:o.cls= .ref C)(hd:o.data= .fields vs)(hq:Q (some (.ref C)) ⟨h,g,d,t+1,os⟩) :
  wpAny (model prog w) A (getAttr? (.ref a) "__class__") Q E ⟨h,g,d,t,os⟩:=by
 unfold getAttr? getAttrBy?
 repeat (any_goals (first|assumption|with_reducible apply GK X k hx hc hd|wp_step))
end
def tX (a C:Addr)(h:Heap):Prop:=∃o vs,h.get? a=some o/\o.cls= .ref C/\o.data= .fields vs
theorem IU {K:Frag}{a C:Addr} (k:ExcK K C):KitX K (.ref a) (.ref C) (tX a C) where
 ty:=fun M h X ⟨o,vs,hx,hc,hd⟩=>fZ hx hc hd
 it:=fun _ _ X _=>by
  obtain⟨cd,hcD⟩:=k.cd;unfold clsIn at hcD
  split at hcD
  ·rename_i c' d' cd' sl' ho;intro A' Q' E' s' k q;unfold isType loadHead;exact wpAny_bind (wpAny_loadPart (k _ _ (X _ _ ho)) (wpAny_pure q))
  ·cases hcD
 ne:=fun h tp dd its n sl X htp=>by
  obtain⟨cd,hcD⟩:=k.cd;refine Bool.eq_false_iff.mpr fun q=> ?_;have e:C=tp:=Value.ref.inj (beq_iff_eq.mp q);subst e;unfold clsIn at hcD
  split at hcD
  ·rename_i c' d' cd' sl' ho;have z:=(X _ _ ho).symm.trans htp;cases z
  ·cases hcD
 ca:=fun {_ _ _ _ _ s} X ⟨o,vs,hx,hc,hd⟩ q=>by
  obtain⟨h,g,d,t,os⟩:=s;exact CT X k hx hc hd q
def OQ (h base:Heap)(ea:Addr)(cls:Value)(dd:Option Addr)(a0:Value×Value):Prop :=
 ∃ob fv tb tbo tv,h.get? ea=some ob/\ob.cls=cls/\ob.dict=dd/\(fv[0]? =some a0.1/\fv[2]? =some a0.2)/\ob.data= .fields fv/\fv[1]? =some (.ref tb)/\base.get? tb=none/\tb≠ea/\h.get? tb=some tbo/\tbo.data= .fields tv/\tv[3]? =some .none
def NV (base:Heap)(l:List Env)(ea:Addr)(cls:Value)(dd:Option Addr)(a0:Value×Value)(h h':Heap):Prop :=
 base.StaysIn h'/\h'.FunFrames base l/\OQ h' base ea cls dd a0/\h.UpToSlots h'
theorem EL (ob:Obj)(g):(ob.mapFields g).dict=ob.dict:=by
 obtain⟨c,d,dt,sl⟩:=ob;cases dt<;>rfl
section
variable {M:Model}{A:Around}{E:Value->Shared->Prop}{s:Shared}{base:Heap}{env:Env}{outer:List Env}{L ea:Addr}{Q:Unit->Shared->Prop}
theorem A7 {ob:Obj}{fv:Array Value}{hd0:Value}{a0:Value×Value}{nx:Bool} (hfr:A.frames=some (env::outer)) (ff:s.heap.FunFrames base (env::outer)) (hL:env.frame=some L) (go:s.heap.get? ea=some ob) (st:base.StaysIn s.heap)
  (nb:base.get? ea=none)(hdt:ob.data= .fields fv)(hz:1<fv.size)(h0:fv[0]? =some a0.1/\fv[2]? =some a0.2)(k:∀h',NV base (env::outer) ea ob.cls ob.dict a0 s.heap h'->Q () { s with heap:=h' }) :
  wpAny M A (do let a ←frameOf env;let pl ←entryPlaceOf L nx;let b ←EntryCells.newEntry hd0 a .none (rawInt L) .none pl;setField (.ref ea) 1 b) (fun _ s'=>wpAny M A (setFlight (.ref ea) none) Q E s') E s:=by
 have nin:ea∉(env::outer).filterMap (·.frame):=fun hm=>by
  obtain⟨_,o,ho,hnf⟩:=ff.mem hm;rw[go]at ho;cases ho;exact hnf fv hdt
 refine wpAny_bind (wpAny_frameOf_fun hfr ff hL fun hA sA=>wpAny_bind (wpAny_entryPlaceOf fun pl hpl=> ?_));unfold EntryCells.newEntry newFields;refine wpAny_bind (wpAny_newObj_type ?_ (hpl.sizeOk5 _ _ _ _ _));have gA:hA.get? ea=some ob:=(sA.2.1 ea nin).trans go;have stA:base.StaysIn hA:=fun b o q=>(sA.2.1 b fun hm=>by rw[(ff.mem hm).1]at q;cases q).trans (st b o q);generalize hN:({ cls:= .type "traceback",dict:=none,data:= .fields ([hd0,.ref L,.none,rawInt L,.none]++(if pl.isEmpty then List.replicate 6 Value.none else pl)).toArray }:Obj)=nob;have hNd:∃tv,nob.data= .fields tv/\3<tv.size:=by
  rw[←hN];exact⟨_,rfl,by simp only[List.size_toArray,List.length_append,List.length_cons,List.length_nil];lia⟩
 obtain⟨tv,hNd,hNs⟩:=hNd;have gB:(hA.push nob).get? ea=some ob:=Heap.get?_push_of_some nob gA;refine wpAny_setField gB hdt hz ?_;have tne:hA.objs.size≠ea:=Nat.ne_of_gt (Heap.lt_size gA);have dC:=Obj.data_mapFields hdt (·.setIfInBounds 1 (Value.ref hA.objs.size));have gC:=Heap.get?_update_self (Obj.mapFields (·.setIfInBounds 1 (Value.ref hA.objs.size))) gB (Obj.isFreed_of_fields dC);have tC:((hA.push nob).update ea (Obj.mapFields (·.setIfInBounds 1 (Value.ref hA.objs.size)))).get? hA.objs.size=some nob:=(Heap.get?_update_other _ _ (Ne.symm tne)).trans (Heap.get?_push_size hA (Obj.isFreed_of_fields hNd));unfold setFlight;refine wpAny_bind (wpAny_field gC dC (x:= .ref hA.objs.size) (by simp[hz]) ?_);rw[if_pos (show (Value.ref hA.objs.size !=Value.none)=true from by simp)];refine wpAny_setField tC hNd hNs (k _ ?_);generalize hF:((hA.push nob).update ea (Obj.mapFields (·.setIfInBounds 1 (Value.ref hA.objs.size)))).update hA.objs.size _=hX;have keepF:∀b o,b≠ea->hA.get? b=some o->hX.get? b=some o:=fun b o hb q=>by
  rw[←hF,Heap.get?_update_other _ _ (Nat.ne_of_gt (Heap.lt_size q)),Heap.get?_update_other _ _ (Ne.symm hb)];exact Heap.get?_push_of_some _ q
 have norec:∀b o,s.heap.get? b=some o->(∀vs,o.data≠ .fields vs)->b≠ea:=fun b o q hnf z=>by
  rw[z,go]at q;cases q;exact hnf fv hdt
 refine⟨fun b o q=>keepF b o (fun z=>by rw[z,nb]at q;cases q) (stA b o q),ff.of_keeps fun b o q hnf=> ?_,?_,fun b o q hnf=> ?_⟩
 ·obtain⟨sl,hs⟩:=sA.2.2 b o q;exact⟨_,keepF b _ (norec b o q hnf) hs,rfl⟩
 ·refine⟨_,_,hA.objs.size,_,_,by rw[←hF,Heap.get?_update_other _ _ tne];exact gC,Obj.cls_mapFields _ _,EL _ _,⟨by rw[Array.getElem?_setIfInBounds_ne (by decide)];exact h0.1,by rw[Array.getElem?_setIfInBounds_ne (by decide)];exact h0.2⟩,dC,by simp[hz],stA.fresh,tne,
   by rw[←hF];exact Heap.get?_update_self _ tC (Obj.isFreed_of_fields (Obj.data_mapFields hNd _)),Obj.data_mapFields hNd _,?_⟩
  simp[hNs]
 ·obtain⟨sl,hs⟩:=sA.2.2 b o q;exact⟨sl,keepF b _ (norec b o q hnf) hs⟩
theorem vL {ob:Obj}{fv:Array Value}{a0:Value×Value} (hfr:A.frames=some (env::outer)) (ff:s.heap.FunFrames base (env::outer)) (hL:env.frame=some L) (go:s.heap.get? ea=some ob) (st:base.StaysIn s.heap) (nb:base.get? ea=none)
  (hdt:ob.data= .fields fv)(h1:fv[1]? =some .none)(h0:fv[0]? =some a0.1/\fv[2]? =some a0.2)(k:∀h',NV base (env::outer) ea ob.cls ob.dict a0 s.heap h'->Q () { s with heap:=h' }):wpAny M A (leaving env (.ref ea)) Q E s:=by
 unfold leaving noteFrame;simp only[hL];refine wpAny_bind (wpAny_bind (wpAny_field go hdt h1 ?_));rw[if_neg (by decide)];exact A7 hfr ff hL go st nb hdt (Array.getElem?_eq_some_iff.mp h1).1 h0 k
theorem KG {cls:Value}{a0:Value×Value}{dd:Option Addr} (hfr:A.frames=some (env::outer)) (ff:s.heap.FunFrames base (env::outer)) (hL:env.frame=some L) (tr:OQ s.heap base ea cls dd a0) (st:base.StaysIn s.heap) (nb:base.get? ea=none)
  (k:∀h',NV base (env::outer) ea cls dd a0 s.heap h'->Q () { s with heap:=h' }):wpAny M A (leaving env (.ref ea)) Q E s:=by
 obtain⟨ob,fv,tb,tbo,tv,go,ec,ed,h0,hdt,h1,nT,tne,gT,dT,h3⟩:=tr;subst ec ed;unfold leaving noteFrame;simp only[hL];refine wpAny_bind (wpAny_bind (wpAny_field go hdt h1 ?_));rw[if_pos (show (Value.ref tb !=Value.none)=true from by simp)];refine wpAny_bind (wpAny_field gT dT h3 ?_);rw[if_neg (show ¬((Value.none==rawInt L)=true) from by simp[rawInt])];refine wpAny_bind (wpAny_setField gT dT (Array.getElem?_eq_some_iff.mp h3).1 ?_);have oth:∀b,b≠tb->(s.heap.update tb (Obj.mapFields (·.setIfInBounds 3 Value.none))).get? b=s.heap.get? b:=fun b hb=>Heap.get?_update_other _ _ (Ne.symm hb);have norec:∀b o,s.heap.get? b=some o->(∀vs,o.data≠ .fields vs)->b≠tb:=fun b o q hnf z=>by
  rw[z,gT]at q;cases q;exact hnf tv dT
 refine A7 hfr (ff.of_keeps fun b o q hnf=>⟨o,(oth b (norec b o q hnf)).trans q,rfl⟩) hL ((oth ea (Ne.symm tne)).trans go) (fun b o q=>(oth b fun z=>by rw[z,nT]at q;cases q).trans (st b o q)) nb hdt (Array.getElem?_eq_some_iff.mp h1).1 h0 fun h' ⟨x1,x2,x3,x4⟩=> ?_;exact k h' ⟨x1,x2,x3,fun b o q hnf=>x4 b o ((oth b (norec b o q hnf)).trans q) hnf⟩
def FlyD (base:Heap)(l:List Env)(ea:Addr)(cls:Value)(dd:Option Addr)(a0:Value×Value)(h:Heap):Prop:=base.StaysIn h/\base.get? ea=none/\h.FunFrames base l/\OQ h base ea cls dd a0
theorem FlyD.there {l:List Env}{cls:Value}{a0:Value×Value}{dd:Option Addr}{h:Heap} (x:FlyD base l ea cls dd a0 h):∃ob fv,h.get? ea=some ob/\ob.cls=cls/\ob.dict=dd/\ob.data= .fields fv/\fv[2]? =some a0.2:=by
 obtain⟨_,_,_,ob,fv,_,_,_,go,ec,ed,h0,hdt,_⟩:=x;exact⟨ob,fv,go,ec,ed,hdt,h0.2⟩
theorem MX {cls:Value}{a0:Value×Value}{dd:Option Addr} (hfr:A.frames=some (env::outer)) (hL:env.frame=some L) (fl:FlyD base (env::outer) ea cls dd a0 s.heap) (k:∀h',FlyD base outer ea cls dd a0 h'->s.heap.UpToSlots h'->Q () { s with heap:=h' }) :
  wpAny M A (leaving env (.ref ea)) Q E s:=by
 obtain⟨f1,f2,f3,f4⟩:=fl;refine KG hfr f3 hL f4 f1 f2 fun h' hl=> ?_;obtain⟨k1,⟨_,_,k2⟩,k3,k4⟩:=hl;exact k h' ⟨k1,f2,k2,k3⟩ k4
theorem IO {h:Heap}{cls:Value}{args:List Value} (hfr:A.frames=some (env::outer)) (hL:env.frame=some L) (st:base.StaysIn h) (ff:h.FunFrames base (env::outer)) (m:Heap.MadeExcOf h s.heap ea cls args)
  (k:∀h' t,FlyD base outer ea cls none (.ref t,.none) h'->s.heap.UpToSlots h'->Q () { s with heap:=h' }):wpAny M A (leaving env (.ref ea)) Q E s:=by
 obtain⟨t,go,_,_⟩:=m.there;have nb:base.get? ea=none:=by
  cases q:base.get? ea with
  | none=>rfl
  | some o =>
   have z:=st ea o q;rw[m.new]at z;cases z
 refine vL (a0:=(.ref t,.none)) hfr (ff.of_keeps fun b o q _=>⟨o,m.keeps b o q,rfl⟩) hL go (fun b o q=>m.keeps b o (st b o q)) nb rfl rfl ⟨rfl,rfl⟩ fun h' hl=> ?_;obtain⟨k1,⟨_,_,k2⟩,k3,k4⟩:=hl;exact k h' t ⟨k1,nb,k2,k3⟩ k4
end
section
variable {P:Program}{w:World}{H H':Hp}{h h':Heap}{a:Addr}{o:HO}
theorem ObjOk.there (x:ObjOk P w H h a o):∃ob,h.get? a=some ob:=by
 cases o with
 | lst xs=>obtain⟨_,_,_,_,e⟩:=x;exact⟨_,e⟩
 | tup xs=>obtain⟨_,_,_,ob,e,_⟩:=x;exact⟨_,e⟩
 | dK kvs=>obtain⟨_,_,_,_,o,_,_,e,_⟩:=x;exact⟨_,e⟩
 | dT kvs=>obtain⟨_,_,_,_,o,_,_,e,_⟩:=x;exact⟨_,e⟩
 | set S n=>obtain⟨o,_,_,_,e,_⟩:=x;exact⟨_,e⟩
 | ins C dx fs=>obtain⟨_,_,_,e,_⟩:=x;exact⟨_,e⟩
 | own y=>exact x
 | xd fs=>obtain⟨_,⟨_,_,_,e,_⟩,_⟩:=x;exact⟨_,e⟩
 | rng lo hi=>obtain⟨_,_,_,e⟩:=x;exact⟨_,e⟩
 | frz ob u=>obtain⟨e,_⟩:=x;exact⟨_,e⟩
 | tbl ps=>exact⟨_,(show h.get? a=some _ from x)⟩
 | met f y=>exact⟨_,(show h.get? a=some _ from x)⟩
 | ext φ=>obtain⟨_,e,_⟩:=x;exact e
end
def CXE (P:Program)(w:World):CXT:=fun outer H s E e s' =>
 ∃ea cls dd,∃a0:Value,∃H' B,e= .ref ea/\s'.os=s.os/\AllBare s'.gens/\Un (frs outer) [] H H' s.heap s'.heap/\HOk P w H' s'.heap/\H' ea=none/\s.heap.get? ea=none ∧
  FlyD B outer ea cls dd (a0,.none) s'.heap/\(∀b,(H' b≠none∨∃o,s.heap.get? b=some o)->b∉frs outer->∃o,B.get? b=some o)/\E cls dd H'
section
variable {X:Cx}{pins:List (Addr×Obj)}{σ:St}{H H1:Hp}{s s1:Shared}{h2 B:Heap}
theorem MU (I:Inv X pins σ H s)(hex:X.ex=[])(st:B.StaysIn h2)(sb:B.StaysIn s.heap)(up:s.heap.UpToSlots h2)(cov:∀b,(H b≠none∨∃o,X.s₀.heap.get? b=some o)->b∉frs X.stack->∃o,B.get? b=some o)(hst:X.stack=X.env::X.outer)(hf:X.env.frame=some X.env.locals) :
  Un X.fs [] X.H₀ H X.s₀.heap h2/\HOk X.prog X.w H h2:=by
 have hfr:∀b,b∈frs X.stack->b=X.env.locals∨b∈X.fs:=fun b hb=>List.mem_cons.mp (I.stkSub b hb);have nloc:∀b o,X.s₀.heap.get? b=some o->b≠X.env.locals:=fun b o q z=>by
  have e1:=Nat.lt_of_lt_of_le (Heap.lt_size q) I.ok.above;rw[z]at e1;exact Nat.lt_irrefl _ e1
 have same:∀b o,(H b≠none∨∃o,X.s₀.heap.get? b=some o)->b∉frs X.stack->s.heap.get? b=some o->h2.get? b=some o:=fun b o hc hb q=>by
  obtain⟨o',e⟩:=cov b hc hb;have e1:=sb b o' e;rw[q]at e1;cases e1;exact st b _ e
 have ub:=I.base;rw[hex]at ub;refine⟨⟨fun b o q n hb _=> ?_,fun b o q n hb _=> ?_,fun b o q n _=>ub.free b o q n (by simp),fun b o q _=> ?_,ub.tups,ub.frzs,ub.tbls⟩,fun b u e=> ?_⟩
 ·have q1:=ub.keep b o q n hb (by simp);exact same b o (.inr ⟨o,q⟩) (fun z=>(hfr b z).elim (nloc b o q) hb) q1
 ·obtain⟨sl,q1⟩:=ub.slot b o q n hb (by simp);obtain⟨_,o',ho',hd⟩:=I.funs.mem hb;have hd1:∀vs,({ o with slots:=sl }:Obj).data≠ .fields vs:=fun vs z=>by
   rw[q1]at ho';cases ho';exact hd vs z
  obtain⟨sl2,q2⟩:=up b _ q1 hd1;exact⟨sl2,q2⟩
 ·obtain⟨o1,q1⟩:=ub.there b o q (by simp)
  by_cases hb:b∈frs X.stack
  ·obtain⟨_,o',ho',hd⟩:=I.stack.mem hb;rw[q1]at ho';cases ho';obtain⟨sl2,q2⟩:=up b _ q1 hd;exact⟨_,q2⟩
  ·exact⟨o1,same b o1 (.inr ⟨o,q⟩) hb q1⟩
 ·refine(I.hok b u e).stay (fun c v hc q=> ?_) (fun _ q=>q) fun _ _ q=>q;have hn:H c≠none:=by
   rcases hc with z|z
   ·rw[z,e];simp
   ·rw[z];simp
  exact same c v (.inl hn) (fun z=>hn (I.stkFree c z)) q
end
theorem eU {P:Program}{w:World}{K:W.Frag}{mg:Str->Option Value}{base:Heap}{N:List Str}{qual:Str}{scope:Scope}{f:Addr}{cd:Value}{A:Around}{outer:List Env}{s₀:Shared}{H₀:Hp}{E:XK} :
  j5 (CXE P w) (dJ (CXE P w) P w K mg base N qual scope f cd A outer s₀ H₀ E) E:=by
 intro pins σ H s e s' I h;obtain⟨ea,cls,dd,a0,H',B,rfl,os,bare,un,hok,hn,new,fl,cov,q⟩:=h;have I':=I.call' (ch:=[]) os un hok bare (fun b z=>absurd z (by simp));have there:∀b o,s₀.heap.get? b=some o->∃o',s.heap.get? b=some o':=fun b o e=>I.base.there b o e (fun z=>absurd (show b∈([]:List Addr) from z) (by simp));show wpAny _ _ (leaving _ _) _ _ s';refine MX (I.ok.frames) rfl fl fun h2 fl2 up=> ?_;obtain⟨un2,hok2⟩:=MU (B:=B) (h2:=h2) I' rfl fl2.1 fl.1 up (fun b hb hs=>cov b (hb.imp id fun⟨o,e⟩=>there b o e) hs) rfl rfl;refine⟨ea,cls,dd,a0,H',B,rfl,I'.os,bare,un2,hok2,hn,?_,fl2,fun b hb hs=>cov b (hb.imp id fun⟨o,e⟩=>there b o e) fun z=> ?_,q⟩
 ·cases e:s₀.heap.get? ea with
  | none=>rfl
  | some o =>
   obtain⟨o',e'⟩:=there ea o e;rw[new]at e';cases e'
 ·rcases List.mem_cons.mp (I.stkSub b z) with e|hb'
  ·rcases hb with hb|⟨o,e2⟩
   ·exact hb (by rw[e];exact I'.free)
   ·have e1:=Nat.lt_of_lt_of_le (Heap.lt_size e2) I.ok.above;rw[e]at e1;exact Nat.lt_irrefl _ e1
  ·exact hs hb'
theorem NQ {P:Program}{w:World}{K:W.Frag}{mg:Str->Option Value}{base:Heap}{N:List Str}{qual:Str}{scope:Scope}{f:Addr}{cd:Value}{A:Around}{outer:List Env}{s₀:Shared}{H₀:Hp}{E:XK}
  {pins:List (Addr×Obj)}{σ:St}{H:Hp}{s1:Shared}{h':Heap}{ea:Addr}{cls:Value}{args:List Value} (I:Inv (dJ (CXE P w) P w K mg base N qual scope f cd A outer s₀ H₀ E) pins σ H s1)
  (m:Heap.MadeExcOf s1.heap h' ea cls args)(q:E cls none H):(dJ (CXE P w) P w K mg base N qual scope f cd A outer s₀ H₀ E).xe (.ref ea) { s1 with heap:=h' }:=by
 have there:∀b o,s₀.heap.get? b=some o->∃o',s1.heap.get? b=some o':=fun b o e=>I.base.there b o e (fun z=>absurd (show b∈([]:List Addr) from z) (by simp));have hin:∀env∈(dJ (CXE P w) P w K mg base N qual scope f cd A outer s₀ H₀ E).stack,∀b,env.frame=some b->b∈frs (dJ (CXE P w) P w K mg base N qual scope f cd A outer s₀ H₀ E).stack:=fun env he b hb=>List.mem_filterMap.mpr ⟨env,he,hb⟩;have hk:(hideAll s1.heap (frs (dJ (CXE P w) P w K mg base N qual scope f cd A outer s₀ H₀ E).stack)).StaysIn s1.heap:=fun b o e=>of_hideAll _ e;have cov:∀b,(H b≠none∨∃o,s₀.heap.get? b=some o)->b∉frs (dJ (CXE P w) P w K mg base N qual scope f cd A outer s₀ H₀ E).stack →
   ∃o,(hideAll s1.heap (frs (dJ (CXE P w) P w K mg base N qual scope f cd A outer s₀ H₀ E).stack)).get? b=some o:=fun b hb hs=>by
  have:∃o,s1.heap.get? b=some o:=by
   rcases hb with hb|⟨o,e⟩
   ·cases e:H b with
    | none=>exact absurd e hb
    | some u=>exact(I.hok b u e).there
   ·exact there b o e
  obtain⟨o,e⟩:=this;exact⟨o,hideAll_get _ e hs⟩
 show wpAny _ _ (leaving _ _) _ _ _;refine IO (s:={ s1 with heap:=h' }) (h:=s1.heap) (base:=hideAll s1.heap (frs (dJ (CXE P w) P w K mg base N qual scope f cd A outer s₀ H₀ E).stack)) (I.ok.frames) rfl hk (funFrames_hide I.stack hin) m fun h2 t fl up=> ?_;have up2:s1.heap.UpToSlots h2:=(Heap.UpToSlots.of_keeps m.keeps).trans up;obtain⟨un2,hok2⟩:=MU (h2:=h2) I rfl fl.1 hk up2 cov rfl rfl;have hn:H ea=none:=by
  cases e:H ea with
  | none=>rfl
  | some u =>
   obtain⟨o,e2⟩:=(I.hok ea u e).there;rw[m.new]at e2;cases e2
 refine⟨ea,cls,none,.ref t,H,_,rfl,I.os,I.bare,un2,hok2,hn,?_,fl,fun b hb hs=>cov b hb fun z=> ?_,q⟩
 ·cases e:s₀.heap.get? ea with
  | none=>rfl
  | some o =>
   obtain⟨o',e'⟩:=there ea o e;rw[m.new]at e';cases e'
 ·rcases List.mem_cons.mp (I.stkSub b z) with e|hb'
  ·rcases hb with hb|⟨o,e2⟩
   ·exact hb (by rw[e];exact I.free)
   ·have e1:=Nat.lt_of_lt_of_le (Heap.lt_size e2) I.ok.above;rw[e]at e1;exact Nat.lt_irrefl _ e1
  ·exact hs hb'
def PV (X:Cx)(E:XK):Prop:=∀(pins:List (Addr×Obj)) (σ:St) (H:Hp) (s1:Shared) (h':Heap) (ea:Addr) (cls:Value) (args:List Value),Inv X pins σ H s1->Heap.MadeExcOf s1.heap h' ea cls args->E cls none H->X.xe (.ref ea) { s1 with heap:=h' }
theorem oU {P:Program}{w:World}{K:W.Frag}{mg:Str->Option Value}{base:Heap}{N:List Str}{qual:Str}{scope:Scope}{f:Addr}{cd:Value}{A:Around}{outer:List Env}{s₀:Shared}{H₀:Hp}{E:XK} :
  PV (dJ (CXE P w) P w K mg base N qual scope f cd A outer s₀ H₀ E) E:=fun _ _ _ _ _ _ _ _ I m q=>NQ I m q
abbrev bmV:List Value:=[.type "ValueError",.type "Exception",.type "BaseException",.type "object"]
abbrev IL (K:W.Frag)(C:Addr):Prop:=excIn K C bmV "ValueError.__new__" =true
theorem ZA {K:Frag}{h₀:Heap}{C:Addr}{bmB:List Value}{newId:String} (X:K.In h₀) (q:excIn K C bmB newId=true) :
  ∃bm N nm q bs hdct sn sub ab col dd k0 k1 k2 k3 k5 mN,h₀.get? C=some (excClassObj nm q C N bs bm hdct sn sub ab col dd k0 k1 k2 k3 k5 newId)/\h₀.Ns N mN/\mN "__init__" =none/\OwnTail h₀ bmB bm:=by
 unfold excIn at q
 split at q
 ·rename_i dd cd sl ho
  split at q
  ·rename_i C' bm k0 k1 k2 k3 n k5 hm hs;simp only[Bool.and_eq_true,beq_iff_eq,Bool.not_eq_true']at q;obtain⟨⟨⟨⟨⟨rfl,rfl⟩,hdel⟩,ht⟩,hok⟩,hni⟩:=q;obtain⟨nm,bs,mro,ns,qn,hd,sn,sub,ab,col,del⟩:=cd
   dsimp only at hm hdel hok hni
   subst hm hdel;have hsl:sl= #[k0,k1,k2,k3,some (.builtin n),k5]:=by
    obtain⟨l⟩:=sl;simp only at hs;rw[hs]
   subst hsl;exact⟨bm,ns,nm,qn,bs,hd,sn,sub,ab,col,dd,k0,k1,k2,k3,k5,_,X _ _ ho,.of_isNs (isNs_of_in X hok),nsMap_none_of_in X hok hni,tail_of_in X ht⟩
  ·cases q
 ·cases q
section
variable {X:Cx}{E:XK}{x:Str}{C:Addr}{np cpos pos:Pos}{e:Expr}{es:List Expr}{t:TA}
def GW (C:Addr)(E:XK)(t:TA):TS:=fun D σ H=>t σ H fun vs H1=>vs.length<=sizeLine/\E (.ref C) none H1
theorem jB (hm:X.mg x=some (.ref C))(hc:IL X.K C)(hx:PV X E)(ha:PA X (e::es) t)(cm:X.calm=true:=by rfl)(hg:Gl X x:=by rfl)(hdb:(x==("__debug__" :Str))=false:=by decide)
  (he:starEach (e::es) X.env=(false,eval e X.env)::starEach es X.env:=by rfl)(hpl:(backTo cpos (starEach es X.env)).any (·.1)=false:=by rfl) :
  PS X (.Raise (some (.Call (.Name x np) (e::es) [] cpos)) none pos) (GW C E t):=by
 intro pins s σ H D I h;obtain⟨tl,N,nm,q,bs,hdct,sn,sub,ab,col,dd,k0,k1,k2,k3,k5,mN,hC,hN,hni,T⟩:=ZA I.ok.mod.kin hc;refine wpAny_Raise_call_subT (C:=C) (nm:=nm) (q:=q) (N:=N) (bs:=bs) (bm:=tl) (hdct:=hdct) (sn:=sn) (sub:=sub) (ab:=ab) (col:=col) (dd:=dd) (k0:=k0) (k1:=k1) (k2:=k2) (k3:=k3) (k5:=k5)
  PySem.F.excBase_ValueError (mN:=mN) (T.hasType PySem.F.excBase_ValueError.hasBase) (I.ok.hd cm) (by rw[he];show (false||(backTo cpos (starEach es X.env)).any (·.1))=false;rw[hpl];rfl) hni (gI I hg hm ⟨rfl,?_⟩ hdb)
 have hh:=ha cpos pins s σ H _ I h;rw[he]at hh ⊢;refine Calls.evalArgs_plain (wpAny_mono hh (fun vs s₂ h₂=> ?_) fun _ _ y=>y);obtain⟨us,H2,I2,r,z,q2⟩:=h₂;exact⟨rfl,by rw[←r.length];exact z,I2.bk _ _ hC,hN.keeps I2.bk,T.keeps I2.bk,fun h' ea m=>hx pins σ H2 s₂ h' ea _ _ I2 m q2⟩
end
structure FcE (P:Program)(w:World)(K:W.Frag)(mg:Str->Option Value)(base:Heap)(x:Str)(k:Nat)(ps:List Str)(sp:Sp):Prop where
 ex:∃f fd,mg x=some (.ref f)/\W.keepIn K (.ref f)=true/\Binds K fd ps []/\bD P w K mg base (CXE P w) k f fd ps sp
structure KcE (P:Program)(w:World)(K:W.Frag)(mg:Str->Option Value)(base:Heap)(x:Str)(C:Addr)(k:Nat)(dvs:List V)(sp:Sp):Prop where
 ex:∃f fd ps ds,mg x=some (.ref C)/\Mk K C f/\Vals dvs ds/\Binds K fd ps ds/\bD P w K mg base (CXE P w) k f fd ps sp
section
variable {X:Cx}{k k':Nat}{sp:Sp}{x m:Str}{p pos apos:Pos}{e o:Expr}{es:List Expr}{ta:TE}{t:TA}{C:Addr}{dvs:List V}{E:XK}{ps:List Str}
theorem iM (F:FcE X.prog X.w X.K X.mg X.base x k ps sp)(hr:Room k' X.A)(hx:j5 (CXE X.prog X.w) X E)(ha:PA X (e::es) t)(hk:k<=k':=by decide)(hg:Gl X x:=by rfl)
  (hdb:(x==("__debug__" :Str))=false:=by decide)(he:starEach (e::es) X.env=(false,eval e X.env)::starEach es X.env:=by rfl)(hpl:(backTo pos (starEach es X.env)).any (·.1)=false:=by rfl) :
  PE X (.Call (.Name x p) (e::es) [] pos) (nY sp [] E t):=by
 obtain⟨f,fd,hm,kp,b,G⟩:=F.ex;exact LJ G (hr.mono hk) hg hm kp b .nil hx ha hdb he hpl
theorem BF (F:KcE X.prog X.w X.K X.mg X.base x C k dvs sp)(hr:Room k' X.A)(hx:j5 (CXE X.prog X.w) X E)(ha:PA X (e::es) t)(hk:k+1<=k':=by decide)(hg:Gl X x:=by rfl)
  (hdb:(x==("__debug__" :Str))=false:=by decide)(he:starEach (e::es) X.env=(false,eval e X.env)::starEach es X.env:=by rfl)(hpl:(backTo pos (starEach es X.env)).any (·.1)=false:=by rfl) :
  PE X (.Call (.Name x p) (e::es) [] pos) (GB C sp dvs E t):=by
 obtain⟨f,fd,ps,ds,hm,M,hd,hb,G⟩:=F.ex;exact LW M G (hr.mono hk) hg hm hb hd hx ha hdb he hpl
end
section
variable {P:Program}{w:World}{K:W.Frag}{mg:Str->Option Value}{base:Heap}
theorem FunV.okE {x qual:Str}{st:Stmt}{f:Addr}{fd:FuncData}{N ps:List Str}{k:Nat}{sp:Sp} (F:FunV K x qual st f fd) (S:aO N ps (aG st)) (len:∀vs H Q E,sp vs H Q E->vs.length=ps.length)
  (hbody:∀(cdv:Value) (A:Around) (outer:List Env) (s:Shared) (H:Hp) (vs:List V) (Q:VK) (E:XK),Room k (A.deeper (envOfC qual (aG st) s.heap.objs.size f cdv))->sp vs H Q E →
   ∃t,PSs (dJ (CXE P w) P w K mg base N qual (aG st) f cdv A outer s H E) (cY st) t/\t { nx:=fun _ H'=>Q .non H',rt:=Q } (fO N vs) H):bD P w K mg base (CXE P w) (k+1) f fd ps sp:=by
 obtain⟨oc,od,dV,kV,doc,pm,an,cdv,ct,osl,rfl,lk,hcd⟩:=F.ex;exact XJ lk hcd S len fun A outer s H vs Q E hr h=>hbody cdv A outer s H vs Q E hr h
end
def XV (h base:Heap)(ea:Addr)(cls:Value)(dd:Option Addr)(a0:Value×Value)(mk:Value):Prop :=
 ∃ob fv tb tbo tv,h.get? ea=some ob/\ob.cls=cls/\ob.dict=dd/\(fv[0]? =some a0.1/\fv[2]? =some a0.2)/\ob.data= .fields fv/\fv[1]? =some (.ref tb)/\base.get? tb=none/\tb≠ea/\h.get? tb=some tbo/\tbo.data= .fields tv/\tv[3]? =some mk
def XO (base:Heap)(l:List Env)(ea:Addr)(cls:Value)(dd:Option Addr)(a0:Value×Value)(mk:Value)(h h':Heap):Prop :=
 base.StaysIn h'/\h'.FunFrames base l/\XV h' base ea cls dd a0 mk/\h.UpToSlots h'
section
variable {M:Model}{A:Around}{E:Value->Shared->Prop}{s:Shared}{base:Heap}{env:Env}{outer:List Env}{L ea:Addr}{Q:Unit->Shared->Prop}
theorem J7 {ob:Obj}{fv:Array Value}{hd0:Value}{a0:Value×Value}{nx:Bool} (hfr:A.frames=some (env::outer)) (ff:s.heap.FunFrames base (env::outer)) (hL:env.frame=some L) (go:s.heap.get? ea=some ob) (st:base.StaysIn s.heap)
  (nb:base.get? ea=none)(hdt:ob.data= .fields fv)(hz:1<fv.size)(h0:fv[0]? =some a0.1/\fv[2]? =some a0.2)(k:∀h',XO base (env::outer) ea ob.cls ob.dict a0 (rawInt L) s.heap h'->Q () { s with heap:=h' }) :
  wpAny M A (do let a ←frameOf env;let pl ←entryPlaceOf L nx;let b ←EntryCells.newEntry hd0 a .none (rawInt L) .none pl;setField (.ref ea) 1 b) Q E s:=by
 have nin:ea∉(env::outer).filterMap (·.frame):=fun hm=>by
  obtain⟨_,o,ho,hnf⟩:=ff.mem hm;rw[go]at ho;cases ho;exact hnf fv hdt
 refine wpAny_bind (wpAny_frameOf_fun hfr ff hL fun hA sA=>wpAny_bind (wpAny_entryPlaceOf fun pl hpl=> ?_));unfold EntryCells.newEntry newFields;refine wpAny_bind (wpAny_newObj_type ?_ (hpl.sizeOk5 _ _ _ _ _));have gA:hA.get? ea=some ob:=(sA.2.1 ea nin).trans go;have stA:base.StaysIn hA:=fun b o q=>(sA.2.1 b fun hm=>by rw[(ff.mem hm).1]at q;cases q).trans (st b o q);generalize hN:({ cls:= .type "traceback",dict:=none,data:= .fields ([hd0,.ref L,.none,rawInt L,.none]++(if pl.isEmpty then List.replicate 6 Value.none else pl)).toArray }:Obj)=nob;have hNd:∃tv,nob.data= .fields tv/\tv[3]? =some (rawInt L):=by
  rw[←hN];exact⟨_,rfl,by first|(simp;done)|(rcases hpl with rfl|⟨_,_,_,_,_,_,_,rfl⟩<;>simp)⟩
 obtain⟨tv,hNd,hN3⟩:=hNd;have gB:(hA.push nob).get? ea=some ob:=Heap.get?_push_of_some nob gA;refine wpAny_setField gB hdt hz (k _ ?_);have tne:hA.objs.size≠ea:=Nat.ne_of_gt (Heap.lt_size gA);have dC:=Obj.data_mapFields hdt (·.setIfInBounds 1 (Value.ref hA.objs.size));have gC:=Heap.get?_update_self (Obj.mapFields (·.setIfInBounds 1 (Value.ref hA.objs.size))) gB (Obj.isFreed_of_fields dC);have tC:((hA.push nob).update ea (Obj.mapFields (·.setIfInBounds 1 (Value.ref hA.objs.size)))).get? hA.objs.size=some nob:=(Heap.get?_update_other _ _ (Ne.symm tne)).trans (Heap.get?_push_size hA (Obj.isFreed_of_fields hNd));generalize hF:(hA.push nob).update ea (Obj.mapFields (·.setIfInBounds 1 (Value.ref hA.objs.size)))=hX at gC tC ⊢;have keepF:∀b o,b≠ea->hA.get? b=some o->hX.get? b=some o:=fun b o hb q=>by
  rw[←hF,Heap.get?_update_other _ _ (Ne.symm hb)];exact Heap.get?_push_of_some _ q
 have norec:∀b o,s.heap.get? b=some o->(∀vs,o.data≠ .fields vs)->b≠ea:=fun b o q hnf z=>by
  rw[z,go]at q;cases q;exact hnf fv hdt
 refine⟨fun b o q=>keepF b o (fun z=>by rw[z,nb]at q;cases q) (stA b o q),ff.of_keeps fun b o q hnf=> ?_,?_,fun b o q hnf=> ?_⟩
 ·obtain⟨sl,hs⟩:=sA.2.2 b o q;exact⟨_,keepF b _ (norec b o q hnf) hs,rfl⟩
 ·exact⟨_,_,hA.objs.size,_,_,gC,Obj.cls_mapFields _ _,EL _ _,⟨by rw[Array.getElem?_setIfInBounds_ne (by decide)];exact h0.1,by rw[Array.getElem?_setIfInBounds_ne (by decide)];exact h0.2⟩,dC,by simp[hz],stA.fresh,tne,tC,hNd,hN3⟩
 ·obtain⟨sl,hs⟩:=sA.2.2 b o q;exact⟨sl,keepF b _ (norec b o q hnf) hs⟩
theorem RY {cls:Value}{a0:Value×Value}{dd:Option Addr} (hfr:A.frames=some (env::outer)) (hL:env.frame=some L) (fl:FlyD base (env::outer) ea cls dd a0 s.heap)
  (k:∀h',XO base (env::outer) ea cls dd a0 (rawInt L) s.heap h'->Q () { s with heap:=h' }):wpAny M A (noteFrame (.ref ea) env) Q E s:=by
 obtain⟨st,nb,ff,ob,fv,tb,tbo,tv,go,ec,ed,h0,hdt,h1,nT,tne,gT,dT,h3⟩:=fl;subst ec ed;unfold noteFrame;simp only[hL];refine wpAny_bind (wpAny_field go hdt h1 ?_);rw[if_pos (show (Value.ref tb !=Value.none)=true from by simp)];refine wpAny_bind (wpAny_field gT dT h3 ?_);rw[if_neg (show ¬((Value.none==rawInt L)=true) from by simp[rawInt])];refine wpAny_bind (wpAny_setField gT dT (Array.getElem?_eq_some_iff.mp h3).1 ?_);have oth:∀b,b≠tb->(s.heap.update tb (Obj.mapFields (·.setIfInBounds 3 Value.none))).get? b=s.heap.get? b:=fun b hb=>Heap.get?_update_other _ _ (Ne.symm hb);have norec:∀b o,s.heap.get? b=some o->(∀vs,o.data≠ .fields vs)->b≠tb:=fun b o q hnf z=>by
  rw[z,gT]at q;cases q;exact hnf tv dT
 refine J7 hfr (ff.of_keeps fun b o q hnf=>⟨o,(oth b (norec b o q hnf)).trans q,rfl⟩) hL ((oth ea (Ne.symm tne)).trans go) (fun b o q=>(oth b fun z=>by rw[z,nT]at q;cases q).trans (st b o q)) nb hdt (Array.getElem?_eq_some_iff.mp h1).1 h0 fun h' ⟨x1,x2,x3,x4⟩=> ?_;exact k h' ⟨x1,x2,x3,fun b o q hnf=>x4 b o ((oth b (norec b o q hnf)).trans q) hnf⟩
theorem RU {l:List Env}{cls mk:Value}{a0:Value×Value}{dd:Option Addr} (st:base.StaysIn s.heap) (nb:base.get? ea=none) (ff:s.heap.FunFrames base l) (tr:XV s.heap base ea cls dd a0 mk)
  (k:∀h',FlyD base l ea cls dd a0 h'->s.heap.UpToSlots h'->Q () { s with heap:=h' }):wpAny M A (setFlight (.ref ea) none) Q E s:=by
 obtain⟨ob,fv,tb,tbo,tv,go,ec,ed,h0,hdt,h1,nT,tne,gT,dT,h3⟩:=tr;have oth:∀b,b≠tb->(s.heap.update tb (Obj.mapFields (·.setIfInBounds 3 ((none:Option Addr).elim Value.none fun f=>rawInt f)))).get? b=s.heap.get? b:=fun b hb=>Heap.get?_update_other _ _ (Ne.symm hb);have norec:∀b o,s.heap.get? b=some o->(∀vs,o.data≠ .fields vs)->b≠tb:=fun b o q hnf z=>by
  rw[z,gT]at q;cases q;exact hnf tv dT
 have z3:=(Array.getElem?_eq_some_iff.mp h3).1;unfold setFlight;refine wpAny_bind (wpAny_field go hdt h1 ?_);rw[if_pos (show (Value.ref tb !=Value.none)=true from by simp)];refine wpAny_setField gT dT z3 (k _ ⟨fun b o q=>(oth b fun z=>by rw[z,nT]at q;cases q).trans (st b o q),nb,ff.of_keeps fun b o q hnf=>⟨o,(oth b (norec b o q hnf)).trans q,rfl⟩,?_⟩ fun b o q hnf=>⟨o.slots,(oth b (norec b o q hnf)).trans q⟩);exact⟨ob,fv,tb,_,_,(oth ea (Ne.symm tne)).trans go,ec,ed,h0,hdt,h1,nT,tne,Heap.get?_update_self _ gT (Obj.isFreed_of_fields (Obj.data_mapFields dT _)),Obj.data_mapFields dT _,by simp[z3]⟩
end
abbrev Cx.inx (X:Cx)(ea:Addr):Cx:={ X with A:=X.A.mark (some (.ref ea)),calm:=false,xe:=fun _ _=>False }
section
variable {X:Cx}{pins:List (Addr×Obj)}{σ:St}{H:Hp}{s:Shared}{ea:Addr}
theorem Cx.Ok.inx (ok:X.Ok)(ea:Addr):(X.inx ea).Ok :=
 ⟨ok.mod,ok.kind,ok.glob,ok.blt,ok.above,ok.inj,ok.has,ok.cab,(fun z=>by cases z),ok.frames,ok.stk,ok.exf,ok.bs,ok.bsz,ok.noex,ok.exfs,ok.funs,ok.frf⟩
theorem Inv.inx (I:Inv X pins σ H s)(ea:Addr):Inv (X.inx ea) pins σ H s:=⟨I.ok.inx ea,I.os,I.bare,I.base,I.loc,I.cell,I.free,I.freeC,I.pin,I.hok,I.len⟩
theorem Inv.outx (ok:X.Ok)(I:Inv (X.inx ea) pins σ H s):Inv X pins σ H s:=⟨ok,I.os,I.bare,I.base,I.loc,I.cell,I.free,I.freeC,I.pin,I.hok,I.len⟩
end
theorem Z3 {P:Program}{w:World}{fs:List Addr}{H1 H':Hp}{h1 h' h6 B:Heap} (un:Un fs [] H1 H' h1 h') (hok:HOk P w H' h') (cov:∀b,(H' b≠none∨∃o,h1.get? b=some o)->b∉fs->∃o,B.get? b=some o)
  (sb:B.StaysIn h')(st:B.StaysIn h6)(up:h'.UpToSlots h6)(hf:∀b∈fs,H' b=none/\∃o,h'.get? b=some o/\∀vs,o.data≠ .fields vs):Un fs [] H1 H' h1 h6/\HOk P w H' h6:=by
 have same:∀b o,(H' b≠none∨∃o,h1.get? b=some o)->b∉fs->h'.get? b=some o->h6.get? b=some o:=fun b o hc hb q=>by
  obtain⟨o',e⟩:=cov b hc hb;have e1:=sb b o' e;rw[q]at e1;cases e1;exact st b _ e
 have atf:∀b o,b∈fs->h'.get? b=some o->∃sl,h6.get? b=some { o with slots:=sl }:=fun b o hb q=>by
  obtain⟨_,o',e,d⟩:=hf b hb;rw[q]at e;cases e;exact up b _ q d
 refine⟨⟨fun b o q n hb hx=>same b o (.inr ⟨o,q⟩) hb (un.keep b o q n hb hx),fun b o q n hb hx=> ?_,un.free,fun b o q hx=> ?_,un.tups,un.frzs,un.tbls⟩,fun b u e=> ?_⟩
 ·obtain⟨sl,q1⟩:=un.slot b o q n hb hx;obtain⟨sl2,q2⟩:=atf b _ hb q1;exact⟨sl2,q2⟩
 ·obtain⟨o1,q1⟩:=un.there b o q hx
  by_cases hb:b∈fs
  ·obtain⟨sl,q2⟩:=atf b o1 hb q1;exact⟨_,q2⟩
  ·exact⟨o1,same b o1 (.inr ⟨o,q⟩) hb q1⟩
 ·refine(hok b u e).stay (fun c v hc q=> ?_) (fun _ q=>q) fun _ _ q=>q;have hn:H' c≠none:=by
   rcases hc with z|z
   ·rw[z,e];simp
   ·rw[z];simp
  exact same c v (.inl hn) (fun z=>hn (hf c z).1) q
def ExcDAt (a C dx:Addr)(h:Heap):Prop:=∃o vs,h.get? a=some o/\o.cls= .ref C/\o.dict=some dx/\o.data= .fields vs/\vs[2]? =some .none
def ExcU (a C:Addr)(h:Heap):Prop:=∃o vs,h.get? a=some o/\o.cls= .ref C/\o.data= .fields vs/\vs[2]? =some .none
theorem ExcU.at {a C:Addr}{h:Heap} (x:ExcU a C h):tX a C h:=let ⟨o,vs,e,c,d,_⟩:=x;⟨o,vs,e,c,d⟩
theorem ExcDAt.at {a C dx:Addr}{h:Heap} (x:ExcDAt a C dx h):tX a C h:=let ⟨o,vs,e,c,_,d,_⟩:=x;⟨o,vs,e,c,d⟩
def tD (a C:Addr):Option Addr->HO
 | none=> .ext (ExcU a C)
 | some dx=> .ext (ExcDAt a C dx)
theorem QK {P:Program}{w:World}{fs:List Addr}{H1 H':Hp}{h1 h6:Heap}{ea C:Addr}{φ:Heap->Prop} (un:Un fs [] H1 H' h1 h6) (hok:HOk P w H' h6) (new:h1.get? ea=none) (hn:H' ea=none) (x:φ h6) (tx:∃o,h6.get? ea=some o)
  (kx:∀g1 g2,φ g1->(∀o,g1.get? ea=some o->g2.get? ea=some o)->φ g2):Un fs [] H1 (upd H' ea (.ext φ)) h1 h6/\HOk P w (upd H' ea (.ext φ)) h6:=by
 have ne1:∀b o,h1.get? b=some o->b≠ea:=fun b o q z=>by rw[z,new]at q;cases q
 refine⟨⟨un.keep,un.slot,fun b o q n hx=>by rw[aK (ne1 b o q)];exact un.free b o q n hx,un.there,fun b xs q=> ?_,fun b o u q=> ?_,fun b ps q=> ?_⟩,fun b u e=> ?_⟩
 ·have z:=un.tups b xs q;rw[aK (aN z hn)];exact z
 ·have z:=un.frzs b o u q;rw[aK (aN z hn)];exact z
 ·obtain⟨m,z⟩:=un.tbls b ps q;exact⟨m,by rw[aK (aN z hn)];exact z⟩
 ·by_cases hb:b=ea
  ·subst hb;rw[aY]at e;cases e;exact⟨x,tx,kx⟩
  ·rw[aK hb]at e;exact(hok b u e).stay (fun _ _ _ q=>q) (fun c q=>by rw[aK (aN q hn)];exact q) fun c xs q=>by rw[aK (aN q hn)];exact q
theorem X6 {P:Program}{w:World}{fs:List Addr}{H1 H':Hp}{h1 h6:Heap}{ea C:Addr}{dd:Option Addr}{ob:Obj}{vs:Array Value} (un:Un fs [] H1 H' h1 h6) (hok:HOk P w H' h6) (new:h1.get? ea=none) (hn:H' ea=none) (go:h6.get? ea=some ob) (hc:ob.cls= .ref C) (hd:ob.dict=dd) (hf:ob.data= .fields vs) (h2:vs[2]? =some .none) :
  Un fs [] H1 (upd H' ea (tD ea C dd)) h1 h6/\HOk P w (upd H' ea (tD ea C dd)) h6:=by
 cases dd with
 | none=>exact QK (C:=C) un hok new hn ⟨ob,vs,go,hc,hf,h2⟩ ⟨_,go⟩ fun g1 g2 ⟨o',vs',q1,q2,q3⟩ k=>⟨o',vs',k _ q1,q2,q3⟩
 | some dx=>exact QK (C:=C) un hok new hn ⟨ob,vs,go,hc,hd,hf,h2⟩ ⟨_,go⟩ fun g1 g2 ⟨o',vs',q1,q2,q3⟩ k=>⟨o',vs',k _ q1,q2,q3⟩
def XW (X:Cx)(pins:List (Addr×Obj))(σ:St)(R:XK)(e:Value)(s':Shared):Prop:=∃H1 s1,Inv X pins σ H1 s1/\CXE X.prog X.w X.stack H1 s1 R e s'
def PEx (X:Cx)(e:Expr)(t:XK->TE):Prop :=
 ∀(R:XK) (pins:List (Addr×Obj)) (s:Shared) (σ:St) (H:Hp) (Q:VK),Inv X pins σ H s->t R σ H Q->wpAny (model X.prog X.w) X.A (eval e X.env) (EP X pins σ Q) (XW X pins σ R) s
theorem PA.noxx {X:Cx}{es:List Expr}{t:TA} (h:PA X.nox es t) {E:Value->Shared->Prop}:∀(pos:Pos) (pins:List (Addr×Obj)) (s:Shared) (σ:St) (H:Hp) (Q:List V->Hp->Prop),Inv X pins σ H s->t σ H Q->wpAny (model X.prog X.w) X.A (spliced (backTo pos (starEach es X.env))) (AP X pins σ Q) E s :=
 fun pos pins s σ H Q I q=>wpAny_mono (h pos pins s σ H Q (I.wish _) q) (fun _ _ ⟨vs,H',I',r,z⟩=>⟨vs,H',I'.unwish,r,z⟩) fun _ _ z=>False.elim z
section
variable {X:Cx}{k k':Nat}{sp:Sp}{x m:Str}{p pos apos:Pos}{e o:Expr}{es:List Expr}{ta:TE}{t:TA}{C f:Addr}{dvs:List V}{ds:List Value}{R:XK}{ps:List Str}{fd:FuncData}
theorem aB7 {pins:List (Addr×Obj)}{σ:St}{H:Hp}{s:Shared}{Q:VK}{us:List Value}{vs:List V} (F:bD X.prog X.w X.K X.mg X.base (CXE X.prog X.w) k f fd ps sp) (hr:Room k X.A) (hb:Binds X.K fd ps ds) (hd:Vals dvs ds)
  (I:Inv X pins σ H s)(r:Vals vs us)(h:sp (vs++dvs) H Q R):wpAny (model X.prog X.w) X.A (call (.ref f) us) (EP X pins σ Q) (XW X pins σ R) s:=by
 have r2:Vals (vs++dvs) (us++ds):=r.append hd;have hl:(us++ds).length=ps.length:=by rw[←r2.length];exact F.len _ _ _ _ h
 refine wpAny_call (codeAny_mono (F.run X.A X.stack s H ⟨us,[]⟩ (us++ds) (vs++dvs) Q R hr I.env0 (hb s us I.kIn hl) r2 h) fun r s' hq=> ?_);cases r with
 | error e=>exact⟨H,s,I,hq⟩
 | ok fl =>
  cases fl with
  | ret u=>exact I.after hq
  | next=>exact False.elim hq
  | brk=>exact False.elim hq
  | cont=>exact False.elim hq
theorem aCI (F:FcE X.prog X.w X.K X.mg X.base x k ps sp)(hr:Room k' X.A)(ha:PA X.nox (e::es) t)(hk:k<=k':=by decide)(hg:Gl X x:=by rfl)
  (hdb:(x==("__debug__" :Str))=false:=by decide)(he:starEach (e::es) X.env=(false,eval e X.env)::starEach es X.env:=by rfl)(hpl:(backTo pos (starEach es X.env)).any (·.1)=false:=by rfl) :
  PEx X (.Call (.Name x p) (e::es) [] pos) (fun R=>nY sp [] R t):=by
 intro R pins s σ H Q I h;obtain⟨f,fd,hm,kp,b,G⟩:=F.ex;refine wpAny_Call_Name_kw (gI I hg hm ?_ hdb);refine W.callWith_K (h₀:=X.base) I.ok.mod.kin kp (thn (ha.noxx pos pins s σ H _ I h) fun us s1 ⟨vs,H1,I1,r,q⟩=>⟨I1.kIn,?_⟩) he hpl;exact aB7 G (hr.mono hk) b .nil I1 r q
end
section
variable {X:Cx}{k k':Nat}{sp:Sp}{x m:Str}{p pos apos:Pos}{e o:Expr}{es:List Expr}{ta:TE}{t:TA}{C:Addr}{dvs:List V}{R:XK}
end
theorem qL {X:Cx}{pins:List (Addr×Obj)}{σ:St}{H:Hp}{s:Shared}{M:Model}{A:Around}{E:Value->Shared->Prop}{i:Nat}{n:Str}{pos:Pos}{Q:Unit->Shared->Prop} (I:Inv X pins σ H s) (hN:X.N.Nodup) (hi:X.N[i]? =some n) (hk:X.env.scope.names.lookup n=some .local)
  (h:∀s',Inv X pins (σ.set i none) H s'->Q () s'):wpAny M A (do bindName X.env n .none;unbindBehindTheSuite X.env n pos) Q E s:=by
 obtain⟨m,hn,hl⟩:=id I.loc;have hcls:(X.env.scope.kind== .class||(X.env.scope.kind== .module&&X.env.locals !=X.env.globals))=false:=by rw[I.ok.kind];rfl
 have cne:=I.cne;have tracked:∀{a:Addr}{h':Heap},(∃o,s.heap.get? a=some o/\H a=none)->Heap.SameBut a s.heap h'->HOk X.prog X.w H h':=fun {a h'} ha hs b ob e=>by
  obtain⟨_,_,hfree⟩:=ha;refine(I.hok b ob e).stay (fun c w' hc q=>(hs.2 c ?_).trans q) (fun _ q=>q) fun _ _ q=>q;rintro rfl;rcases hc with rfl|hc
  ·rw[hfree]at e;cases e
  ·rw[hfree]at hc;cases hc
 refine wpAny_nameGoes_keeps hk hn hcls fun h' v hn' hs=> ?_;obtain⟨oL,_,_,hoL,_⟩:=id hn;refine h _ ⟨I.ok,I.os,I.bare,⟨fun b o e n hb hx=> ?_,fun b o e n hb hx=> ?_,I.base.free,fun b o e hx=> ?_,I.base.tups,I.base.frzs,I.base.tbls⟩,⟨_,hn',fun j y v' e1 e2 e3=> ?_⟩,fun y c e=> ?_,I.free,I.freeC,fun p hp=> ?_,tracked ⟨oL,hoL,I.free⟩ hs,by simpa using I.len⟩
 ·exact(hs.2 b (Nat.ne_of_lt (Nat.lt_of_lt_of_le (Heap.lt_size e) I.ok.above))).trans (I.base.keep b o e n hb hx)
 ·obtain⟨sl,e1⟩:=I.base.slot b o e n hb hx;exact⟨sl,(hs.2 b (Nat.ne_of_lt (Nat.lt_of_lt_of_le (Heap.lt_size e) I.ok.above))).trans e1⟩
 ·obtain⟨o',e1⟩:=I.base.there b o e hx;exact⟨o',(hs.2 b (Nat.ne_of_lt (Nat.lt_of_lt_of_le (Heap.lt_size e) I.ok.above))).trans e1⟩
 ·by_cases hj:j=i
  ·subst hj;rw[List.getElem?_set]at e2;simp at e2
  ·rw[List.getElem?_set_ne (Ne.symm hj)]at e2;obtain⟨u',r',q⟩:=hl j y v' e1 e2 e3;refine⟨u',r',?_⟩;rcases q with⟨k,e⟩|⟨k,c,e,z⟩
   ·refine .inl ⟨k,?_⟩;have:y≠n:=fun e=>hj (yP hN e1 (e▸hi));simp[this,e]
   ·exact .inr ⟨k,c,e,z.sameBut hs (cne y c e)⟩
 ·obtain⟨w',z⟩:=I.cell y c e;exact⟨w',z.sameBut hs (cne y c e)⟩
 ·obtain⟨e,n,ne,nf,d⟩:=I.pin p hp;exact⟨(hs.2 p.1 ne).trans e,n,ne,nf,d⟩
section
variable {X:Cx}{i:Nat}{n x:Str}{T:Addr}{np hpos pos epos:Pos}{e:Expr}{tc:XK->TE}{b₀:Stmt}{suite:List Stmt}{ts:TS}
def PXs (X:Cx)(st:List Stmt)(t:XK->TS):Prop :=
 ∀(R:XK) (pins:List (Addr×Obj)) (s:Shared) (σ:St) (H:Hp) (D:fM),Inv X pins σ H s->t R D σ H->wpAny (model X.prog X.w) X.A (execs st X.env) (SP X pins D) (XW X pins σ R) s
def txE (tc:XK->TE):XK->TS:=fun R D σ H=>tc R σ H fun _ H1=>D.nx σ H1
theorem aCQ (he:PEx X e tc)(hsw:swapsWith e none epos.line X.env=pure false:=by rfl):PXs X [.Expr e epos] (txE tc):=by
 intro R pins s σ H D I h;refine wpAny_execs_cons (wpAny_Expr_any ?_ I.quiet hsw);exact wpAny_mono (he R pins s σ H _ I h) (fun v s1 ⟨v',H1,I1,r1,q1⟩=>wpAny_execs_nil ⟨σ,H1,I1,q1⟩) fun _ _ z=>z
end
def IsX (H:Hp)(a C:Addr):Prop:=∃φ,H a=some (.ext φ)/\∀h,φ h->tX a C h
def UJ (K:W.Frag):List V->Hp->VK->Prop:=fun xs H Q=>∃a C c u b,xs=[.ref a,c]/\IsX H a C/\ExcK K C/\(c= .ref u/\W.kitOne K (.ref C) (.ref u)=some b)/\Q (.bl b) H
def OU (K:W.Frag):List V->Hp->VK->Prop:=fun xs H Q=>∃a C n b,xs=[.ref a,.ty n]/\IsX H a C/\ExcK K C/\W.kitOne K (.ref C) (.type n)=some b/\Q (.bl b) H
theorem UR {X:Cx}:cS X (.builtin "isinstance") (UJ X.K):=by
 intro pins s σ H xs us Q I r h;obtain⟨a,C,c,u,b,rfl,hs,k,⟨rfl,e⟩,q⟩:=h;obtain⟨v1,v2,rfl,r1,r2⟩:=F7 r;obtain rfl:v1= .ref a:=r1;obtain rfl:v2= .ref u:=r2;obtain⟨φ,hs,hφ⟩:=hs;obtain⟨z,_⟩:=I.hok a _ hs;exact kia_one (IU k) I.kIn (hφ _ z) e (fun z=>by cases z) fun tk=>⟨.bl b,H,I.tok tk,rfl,q⟩
theorem QZ {X:Cx}:cS X (.builtin "isinstance") (OU X.K):=by
 intro pins s σ H xs us Q I r h;obtain⟨a,C,n,b,rfl,hs,k,e,q⟩:=h;obtain⟨v1,v2,rfl,r1,r2⟩:=F7 r;obtain rfl:v1= .ref a:=r1;obtain rfl:v2= .type n:=r2;obtain⟨φ,hs,hφ⟩:=hs;obtain⟨z,_⟩:=I.hok a _ hs;exact kia_one (IU k) I.kIn (hφ _ z) e (fun z=>by cases z) fun tk=>⟨.bl b,H,I.tok tk,rfl,q⟩
theorem aB0 {P:Program}{w:World}{X:Cx}:j5 (CXE P w) X E0:=fun _ _ _ _ _ _ _ h=>by
 obtain⟨_,_,_,_,_,_,_,_,_,_,_,_,_,_,_,q⟩:=h;exact q.elim
abbrev TJ:=Str->St->Hp->(Str->Hp->Prop)->Prop
def PJ (X:Cx)(es:List Expr)(t:TJ):Prop:=∀(pins:List (Addr×Obj)) (s:Shared) (σ:St) (H:Hp) (acc:Str) (Q:Str->Hp->Prop),Inv X pins σ H s->t acc σ H Q →
 Joins (model X.prog X.w) X.A X.xe (evalEach es X.env) acc (fun out s1=>∃H1,Inv X pins σ H1 s1/\Q out H1) s
def OW:TJ:=fun acc _ H Q=>Q acc H
def tjC (x:Str)(r:TJ):TJ:=fun acc σ H Q=>(acc++x).length<=sizeLine/\r (acc++x) σ H Q
def aDv (v:V)(y:Str):Prop:=(v= .str y/\y.length<=sizeLine)∨∃i,v= .int i/\i.natAbs.log2<1920/\y=toString i
def tjF (te:TE)(r:TJ):TJ:=fun acc σ H Q=>te σ H fun v H1=>∃y,aDv v y/\(acc++y).length<=sizeLine/\r (acc++y) σ H1 Q
def tJs (t:TJ):TE:=fun σ H Q=>t Str.empty σ H fun out H1=>out.length<=sizeLine/\Q (.str out) H1
section
variable {X:Cx}{x:Str}{j:Nat}{p pos:Pos}{e v1 v2:Expr}{es:List Expr}{te:TE}{t:TJ}
theorem aBv:PJ X [] OW:=fun _ _ _ H _ _ I h=>⟨H,I,h⟩
theorem aAD (hr:PJ X es t):PJ X (.Constant (.str x) j p::es) (tjC x t):=by
 intro pins s σ H acc Q I h;show wpAny _ _ (eval (.Constant (.str x) j p) X.env) _ _ s;exact Calls.Constant_str ⟨x,_,rfl,h.1,hr pins _ σ H (acc++x) Q (I.tok _) h.2⟩
theorem aAP (he:PE X e te)(hr:PJ X es t):PJ X (.FormattedValue e (-1) none p::es) (tjF te t):=by
 intro pins s σ H acc Q I h;show wpAny _ _ (eval (.FormattedValue e (-1) none p) X.env) _ _ s;refine FormattedValue_plain (thn (he pins s σ H _ I h) fun u s1 ⟨v,H1,I1,r,y,f,z,q⟩=> ?_);rcases f with⟨rfl,hz⟩|⟨i,rfl,hi,rfl⟩
 ·obtain⟨tk,rfl⟩:=(show ∃t,u= .str y t from r)
  exact formatField_str (fun t' tk'=>⟨y,t',rfl,z,hr pins _ σ H1 _ Q (I1.tok _) q⟩) hz
 ·obtain⟨tk,rfl⟩:=(show ∃t,u= .int i t from r)
  exact formatField_int_small hi ⟨_,_,rfl,z,hr pins _ σ H1 _ Q (I1.tok _) q⟩
theorem aCG (h:PJ X (v1::v2::es) t):PE X (.JoinedStr (v1::v2::es) pos) (tJs t):=by
 intro pins s σ H Q I hq;have key:∀(l:List (Sem Value)) (acc:Str) (s:Shared) (A B:Str->Shared->Prop),(∀o s,A o s->B o s)->Joins (model X.prog X.w) X.A X.xe l acc A s->Joins (model X.prog X.w) X.A X.xe l acc B s:=by
  intro l
  induction l with
  | nil=>intro acc s A B f q;exact f _ _ q
  | cons a l ih =>
   intro acc s A B f q;exact wpAny_mono q (fun v s1 ⟨y,t,e1,e2,e3⟩=>⟨y,t,e1,e2,ih _ _ A B f e3⟩) fun _ _ z=>z
 refine wpAny_JoinedStr (key _ _ _ _ _ ?_ (h pins s σ H Str.empty _ I hq));rintro out s1 ⟨H1,I1,z,q⟩;exact⟨z,.str out,H1,I1.tok _,⟨_,rfl⟩,q⟩
end
theorem jT (a b:Str):(a++b).length=a.length+b.length:=strLen_append a b
theorem aBb {i j:Nat}{c d p:Str}{l:Int}{σ:St}{H:Hp}{Q:VK} (e:σ[i]? =some (some (.str p))) (hp:p.length<=1000) (hc:c.length<=1000) (e2:σ[j]? =some (some (.int l))) (hl:l.natAbs.log2<1920) (ht:(toString l:Str).length<=1000) (hd:d.length<=1000) (h:∀out,Q (.str out) H) :
  tJs (tjF (c5 i) (tjC c (tjF (c5 j) (tjC d OW)))) σ H Q:=by
 have l0:Str.empty.length=0:=rfl;refine⟨_,e,p,.inl ⟨rfl,Nat.le_of_lt (vC hp)⟩,?_,?_,_,e2,_,.inr ⟨l,rfl,hl,rfl⟩,?_,?_,?_,h _⟩
 ·rw[jT,l0];exact Nat.le_trans (by lia) (Nat.le_of_lt (vC hp))
 ·rw[jT,jT,l0];exact Nat.le_trans (by lia:_<=2000) (by decide)
 ·rw[jT,jT,jT,l0];exact Nat.le_trans (by lia:_<=3000) (by decide)
 ·rw[jT,jT,jT,jT,l0];exact Nat.le_trans (by lia:_<=4000) (by decide)
 ·rw[jT,jT,jT,jT,l0];exact Nat.le_trans (by lia:_<=4000) (by decide)
theorem GO {C:Addr}{E:XK}{t:TA}{D:fM}{σ:St}{H:Hp} (h:t σ H fun vs H1=>vs.length<=sizeLine/\E (.ref C) none H1):GW C E t D σ H:=h
end L2
namespace L2
open PySem PySem.W
theorem FH:bootBuiltins "ValueError" =some (.type "ValueError"):=PyProof.Rows.Boot.«ValueError»
section
variable {K:Frag}{C D:Addr}{cd:ClassData}{b:Bool}
theorem exm_mk (c:clsIn K D=some cd)(t:typeIn K (.ref D)=some (.type "type"))(sb:subIn K (.ref D) (.type "BaseException")=some true)(s:subIn K (.ref C) (.ref D)=some b):exmOne K (.ref C) (.ref D)=some b:=by
 unfold exmOne;rw[if_pos (by rw[sb];rfl)];show (if ((clsIn K D).isSome&&typeIn K (.ref D)==some (.type "type"))=true then subIn K (.ref C) (.ref D) else none)=_;rw[c,t,if_pos (by rfl)];exact s
theorem kit_vt {n:String}(hm:kitMeta n=true)(s:subIn K (.ref C) (.type n)=some b):kitOne K (.ref C) (.type n)=some b:=by
 unfold kitOne;rw[if_neg (by intro h;cases (beq_iff_eq.mp h))];show (if kitMeta n=true then subIn K (.ref C) (.type n) else none)=_;rw[if_pos hm];exact s
end
theorem kitMeta_ValueError:kitMeta "ValueError" =true:=by decide +kernel
variable {K:Frag}{H:Hp}{Q:VK}
end L2
namespace L2
open PySem PySem.W
theorem eQ {X:Cx}(K:Frag)(h:X.K=K):cS X (.builtin "isinstance") (UJ K):=by
 subst h;exact UR
theorem OP {X:Cx}(K:Frag)(h:X.K=K):cS X (.builtin "isinstance") (OU K):=by
 subst h;exact QZ
end L2
set_option maxHeartbeats 4000000
namespace L2
open PySem PySem.Spec PyProof.Rows
section
variable {X:Cx}{pins:List (Addr×Obj)}{σ:St}{H:Hp}{s:Shared}
end
section
variable {X:Cx}{CX:CXT}{k k':Nat}{sp:Sp}{E:XK}{x y:Str}{p pos:Pos}{e:Expr}{es:List Expr}{t:TA}{i:Nat}{c:Addr}
end
section
variable {P:Program}{w:World}{K:W.Frag}{mg:Str->Option Value}{base:Heap}
end
section
variable {X:Cx}{k k':Nat}{x:Str}{p pos:Pos}{e:Expr}{es:List Expr}{t:TA}
end
section
variable {X:Cx}{args:Arguments}{body:Expr}{lsc:Scope}{pos:Pos}{y:Str}{c cL PL:Addr}
end
section
variable {P:Program}{w:World}{K:W.Frag}{mg:Str->Option Value}{base:Heap}
end
section
variable {X:Cx}{o:Expr}{to:TE}{ap pos:Pos}
theorem IG:∀{xs:List V}{us:List Value},xs.length=us.length->(∀(i:Nat) x u,xs[i]? =some x->us[i]? =some u->RelV x u)->Vals xs us
 | [],[],_,_=> .nil
 | [],_::_,h,_=>by simp at h
 | _::_,[],h,_=>by simp at h
 | x::xs,u::us,h,k=> .cons (k 0 x u rfl rfl) (IG (by simpa using h) fun i y w e1 e2=>k (i+1) y w (by simpa using e1) (by simpa using e2))
end
structure DcD (P:Program)(w:World)(K:W.Frag)(mg:Str->Option Value)(base:Heap)(x m:Str)(k:Nat)(dvs:List V)(sp:Sp):Prop where
 ex:∃C f fd ps ds,mg x=some (.ref C)/\W.specialIn K (.ref C) "__getattribute__" =some (some (.builtin "type.__getattribute__"))/\W.readsIn K C (.type "type")=true/\W.findCls K (.ref C) (.type "type") m=some (.val (.ref f)) ∧
  W.keepIn K (.ref f)=true/\Vals dvs ds/\Binds K fd ps ds/\bD P w K mg base CX0 k f fd ps sp
section
variable {X:Cx}{k k':Nat}{sp:Sp}{x m:Str}{p pos apos:Pos}{e:Expr}{es:List Expr}{t:TA}{dvs:List V}
theorem R1 {pl:Sem Bool}(F:DcD X.prog X.w X.K X.mg X.base x m k dvs sp)(hr:Room k' X.A)(ha:PA X (e::es) t)(hk:k<=k':=by decide)(hg:Gl X x:=by rfl)(hdb:(x==("__debug__" :Str))=false:=by decide)
  (hst:starEach (e::es) X.env=(false,eval e X.env)::starEach es X.env:=by rfl)(hpl:(backTo pos (starEach es X.env)).any (·.1)=false:=by rfl)
  (ht:eval (.Call (.Attribute (.Name x p) m apos) (e::es) [] pos) X.env=(do
   let ov ←eval (.Name x p) X.env
   standAt apos.atName
   let (f,first) ←holding [ov] (getMethod ov m pl)
   callWith pos f first (backTo pos (starEach (e::es) X.env)) (backToKw pos (keywordEach [] X.env))):=by rfl) :
  PE X (.Call (.Attribute (.Name x p) m apos) (e::es) [] pos) (nY sp dvs E0 t):=by
 intro pins s σ H Q I h;obtain⟨C,f,fd,ps,ds,hm,hga,hrd,hfc,kp,hd,hb,G⟩:=F.ex;refine W.methodCall_KW (pl:=pl) (gI I hg hm ?_ hdb) ht;refine W.method_cls I.kIn hga (W.cls_value I.kIn hrd hfc (ES (v:= .ref f) rfl) ?_);have I1:=I.tok (s.toks+1);refine W.callWith_K (first:=[]) (h₀:=X.base) I.ok.mod.kin kp (thn (ha pos pins _ σ H _ I1 h) fun us s2 ⟨vs,H2,I2,r,q2⟩=>⟨I2.kIn,?_⟩) hst hpl;exact AQ G (hr.mono hk) hb hd A0 I2 r q2
theorem JL {E:XK}{σ:St}{H:Hp}{Q:VK} (h:t σ H fun vs H1=>sp (vs++dvs) H1 Q E):nY sp dvs E t σ H Q:=h
end
section
variable {P:Program}{w:World}
end
section
variable {P:Program}{w:World}{K:W.Frag}{mg:Str->Option Value}{base:Heap}
end
section
variable {X:Cx}{st:Stmt}{rest:List Stmt}{t:TS}{u:fM->(St->V->Hp->Prop)->St->Hp->Prop}{e:Expr}{te:TE}{pos:Pos}
end
section
variable {P:Program}{w:World}{K:W.Frag}{mg:Str->Option Value}{base:Heap}
end
section
open PySem.W
variable {X:Cx}{i j:Nat}{n x y:Str}{T:Addr}{np yp hpos pos epos:Pos}{e:Expr}{tc:XK->TE}{b₀:Stmt}{suite:List Stmt}{ts:TS}
end
section
variable {X:Cx}
def aBh (K:W.Frag):R2:=fun x y H Q=>∃a b xs,x= .ref a/\y= .ref b/\SqL K H a xs/\SqL K H b []/\Q (.bl (!xs.isEmpty)) H
theorem SQ (hu:X.A.units<cLine):OpR X (compareOp .NotEq) (aBh X.K):=by
 intro pins s σ H x y v u Q I rx ry h;obtain⟨a,b,xs,rfl,rfl,ha,hb,q⟩:=h;cases rx;cases ry;obtain⟨its,r,pl,hz⟩:=I.list ha;obtain⟨its2,r2,pl2,_⟩:=I.list hb;cases r2;cases xs with
 | nil =>
  cases r;refine SeqAt.RcNeAt.lists (e:=fun _=>true) pl.isList pl2.isList rfl hu (fun j h1=>absurd h1 (Nat.not_lt_zero _)) X.prog X.w X.xe _ ⟨.bl false,H,I,rfl,q⟩
 | cons x xs =>
  cases r with
  | cons r1 r2 =>
   exact SeqAt.RcNeAt.lists_lengths pl.isList pl2.isList (by simp) hu X.prog X.w X.xe _ ⟨.bl true,H,I,rfl,q⟩
theorem QX {K:W.Frag}{H:Hp}{Q:VK}{a b:Addr}{xs:List V} (ha:SqL K H a xs) (hb:SqL K H b []) (h:Q (.bl (!xs.isEmpty)) H):aBh K (.ref a) (.ref b) H Q:=⟨a,b,xs,rfl,rfl,ha,hb,h⟩
end
section
variable {κ:Type}[DecidableEq κ]
def bA (kvs:List (κ×V))(k:κ):Option V:=(kvs.find? fun kv=>decide (kv.1=k)).map (·.2)
def cH (kvs:List (κ×V))(k:κ)(v:V):List (κ×V) :=
 if (kvs.any fun kv=>decide (kv.1=k))=true then kvs.map (fun kv=>if kv.1=k then (kv.1,v) else kv) else kvs++[(k,v)]
theorem dD {p:κ×V}{r:List (κ×V)}{k:κ} (e:p.1=k):bA (p::r) k=some p.2:=by simp[bA,List.find?_cons,e]
theorem cV {p:κ×V}{r:List (κ×V)}{k:κ} (e:¬p.1=k):bA (p::r) k=bA r k:=by simp[bA,List.find?_cons,e]
theorem iV (k:κ):∀kvs:List (κ×V),(kvs.any fun kv=>decide (kv.1=k))=(bA kvs k).isSome
 | []=>rfl
 | p::r=>by
  rw[List.any_cons]
  by_cases e:p.1=k
  ·simp only[dD e,decide_eq_true e,Bool.true_or,Option.isSome_some]
  ·rw[cV e,decide_eq_false e,Bool.false_or];exact iV k r
theorem GM (k j:κ)(y:V):∀kvs:List (κ×V),bA (kvs.map fun kv=>if kv.1=k then (kv.1,y) else kv) j=(bA kvs j).map fun x=>if j=k then y else x
 | []=>rfl
 | p::r=>by
  have ih:=GM k j y r;rw[List.map_cons]
  by_cases h:p.1=k
  ·rw[if_pos h]
   by_cases e:p.1=j
   ·rw[dD (p:=(p.1,y)) e,dD e,Option.map_some,if_pos (e.symm.trans h)]
   ·rw[cV (p:=(p.1,y)) e,cV e,ih]
  ·rw[if_neg h]
   by_cases e:p.1=j
   ·rw[dD (p:=p) e,dD e,Option.map_some,if_neg (fun z=>h (e.trans z))]
   ·rw[cV (p:=p) e,cV e,ih]
theorem EK (k j:κ)(y:V):∀kvs:List (κ×V),bA kvs k=none->bA (kvs++[(k,y)]) j=if j=k then some y else bA kvs j
 | [],_=>by
  by_cases e:k=j
  ·rw[if_pos e.symm];exact dD (p:=(k,y)) e
  ·rw[if_neg (fun z=>e z.symm)];exact cV (p:=(k,y)) e
 | p::r,hn=>by
  rw[List.cons_append];have hk:¬p.1=k:=fun z=>by rw[dD z]at hn;cases hn
  rw[cV hk]at hn;have ih:=EK k j y r hn
  by_cases e:p.1=j
  ·rw[dD e,dD e,if_neg (fun z=>hk (e.trans z))]
  ·rw[cV e,cV e,ih]
theorem kP (kvs:List (κ×V))(k j:κ)(y:V):bA (cH kvs k y) j=if j=k then some y else bA kvs j:=by
 unfold cH
 by_cases a:(kvs.any fun kv=>decide (kv.1=k))=true
 ·rw[if_pos a,GM];rw[iV]at a
  by_cases e:j=k
  ·obtain⟨x,hx⟩:=Option.isSome_iff_exists.mp a;rw[if_pos e,e,hx,Option.map_some,if_pos rfl]
  ·rw[if_neg e];cases bA kvs j with
   | none=>rfl
   | some x=>rw[Option.map_some,if_neg e]
 ·rw[if_neg a];refine EK k j y kvs ?_;rw[iV]at a;cases q:bA kvs k with
  | none=>rfl
  | some x=>rw[q]at a;exact(a rfl).elim
theorem fL (kvs:List (κ×V))(k:κ)(v:V):(cH kvs k v).length<=kvs.length+1:=by
 unfold cH
 split
 ·rw[List.length_map];lia
 ·rw[List.length_append,List.length_cons,List.length_nil];lia
theorem oS {kvs:List (κ×V)}{k:κ} (v:V) (h:bA kvs k=none):cH kvs k v=kvs++[(k,v)]:=by
 unfold cH;rw[iV,h];exact if_neg (by decide)
theorem RelO.isSome_eq {o:Option V}{u:Option Value} (r:RelO o u):o.isSome=u.isSome:=by
 cases o with
 | none=>cases u with
  | none=>rfl
  | some _=>exact(show False from r).elim
 | some _=>cases u with
  | none=>exact(show False from r).elim
  | some _=>rfl
theorem RelO.getD {o:Option V}{u:Option Value}{d:V}{d':Value} (r:RelO o u) (rd:RelV d d'):RelV (o.getD d) (u.getD d'):=by
 cases o with
 | none=>cases u with
  | none=>exact rd
  | some _=>exact(show False from r).elim
 | some _=>cases u with
  | none=>exact(show False from r).elim
  | some _=>exact r
theorem KV.val {kvs:List (κ×V)}{vs:List (κ×Value)} (r:KV kvs vs) (k:κ):RelO (bA kvs k) (valueAt vs k):=by
 unfold KV at r
 induction r with
 | nil=>exact True.intro
 | @cons p q ps qs h t ih =>
  obtain⟨h1,h2⟩:=h
  by_cases e:p.1=k
  ·have e':q.1=k:=h1.symm.trans e;have b:valueAt (q::qs) k=some q.2:=by simp[valueAt,List.find?_cons,e']
   rw[dD e,b];exact h2
  ·have e':¬q.1=k:=fun z=>e (h1.trans z);have b:valueAt (q::qs) k=valueAt qs k:=by simp[valueAt,List.find?_cons,e']
   rw[cV e,b];exact ih
theorem KV.any {kvs:List (κ×V)}{vs:List (κ×Value)} (r:KV kvs vs) (k:κ):(kvs.any fun kv=>decide (kv.1=k))=vs.any fun kv=>decide (kv.1=k):=by
 unfold KV at r
 induction r with
 | nil=>rfl
 | cons h t ih=>rw[List.any_cons,List.any_cons,ih,h.1]
theorem KV.repl {kvs:List (κ×V)}{vs:List (κ×Value)} (r:KV kvs vs) (k:κ) {y:V}{u:Value} (ry:RelV y u) :
  KV (kvs.map fun kv=>if kv.1=k then (kv.1,y) else kv) (vs.map fun kv=>if kv.1=k then (kv.1,u) else kv):=by
 unfold KV at r ⊢
 induction r with
 | nil=>exact .nil
 | @cons p q ps qs h t ih =>
  rw[List.map_cons,List.map_cons];refine .cons ?_ ih;obtain⟨h1,h2⟩:=h
  by_cases e:p.1=k
  ·rw[if_pos e,if_pos (h1.symm.trans e)];exact⟨h1,ry⟩
  ·rw[if_neg e,if_neg (fun z=>e (h1.trans z))];exact⟨h1,h2⟩
theorem KV.put {kvs:List (κ×V)}{vs:List (κ×Value)} (r:KV kvs vs) (k:κ) {y:V}{u:Value} (ry:RelV y u):KV (cH kvs k y) (stored vs k u):=by
 unfold cH stored;rw[r.any k]
 by_cases e:(vs.any fun kv=>decide (kv.1=k))=true
 ·rw[if_pos e,if_pos e];exact r.repl k ry
 ·rw[if_neg e,if_neg e];exact Paired.snoc r ⟨rfl,ry⟩
theorem KV.length {kvs:List (κ×V)}{vs:List (κ×Value)} (r:KV kvs vs):kvs.length=vs.length:=Paired.length r
end
theorem sS {P:Program}{w:World}{k:Key}{u:Value} (r:RelV (kV k) u):(cB P w).is k u=true:=by
 cases k with
 | inl i=>obtain⟨t,e⟩:=(show ∃t,u=Value.int i t from r);subst e;exact J5 P w i t
 | inr x=>obtain⟨t,e⟩:=(show ∃t,u=Value.str x t from r);subst e;exact J9 P w x t
theorem EW {P:Program}{w:World}:∀{ks:List Key}{us:List Value},Vals (ks.map kV) us->ItemsAre (cB P w) ks us
 | [],_,r=>by rw[List.map_nil]at r;cases r;exact .nil
 | k::ks,_,r=>by
  rw[List.map_cons]at r;cases r with
  | cons h t=>exact .cons (sS h) (EW t)
abbrev KT (H:Hp):List (List Key×V)->List (List Key×Addr×Value)->Prop:=Paired fun p q=>p.1=q.1/\H q.2.1=some (.tup (p.1.map kV))/\RelV p.2 q.2.2
theorem KT.val {H:Hp}{kvs:List (List Key×V)}{xs:List (List Key×Addr×Value)} (r:KT H kvs xs) (k:List Key):RelO (bA kvs k) ((atKey xs k).map (·.2)):=by
 induction r with
 | nil=>exact True.intro
 | @cons p q ps qs h t ih =>
  obtain⟨h1,_,h2⟩:=h
  by_cases e:p.1=k
  ·have e':q.1=k:=h1.symm.trans e;have b:atKey (q::qs) k=some q.2:=by simp[atKey,List.find?_cons,e']
   rw[dD e,b];exact h2
  ·have e':¬q.1=k:=fun z=>e (h1.trans z);have b:atKey (q::qs) k=atKey qs k:=by simp[atKey,List.find?_cons,e']
   rw[cV e,b];exact ih
theorem KT.repl {H:Hp}{kvs:List (List Key×V)}{xs:List (List Key×Addr×Value)} (r:KT H kvs xs) (k:List Key) {y:V}{u:Value} (ry:RelV y u) :
  KT H (kvs.map fun kv=>if kv.1=k then (kv.1,y) else kv) (xs.map (putAt k u)):=by
 induction r with
 | nil=>exact .nil
 | @cons p q ps qs h t ih =>
  rw[List.map_cons,List.map_cons];refine .cons ?_ ih;obtain⟨h1,h2,h3⟩:=h;unfold putAt
  by_cases e:p.1=k
  ·rw[if_pos e,if_pos (h1.symm.trans e)];exact⟨h1,h2,ry⟩
  ·rw[if_neg e,if_neg (fun z=>e (h1.trans z))];exact⟨h1,h2,h3⟩
theorem KT.put {H:Hp}{kvs:List (List Key×V)}{xs:List (List Key×Addr×Value)} (r:KT H kvs xs) (k:List Key) {b:Addr}{y:V}{u:Value} (hb:H b=some (.tup (k.map kV))) (ry:RelV y u) :
  KT H (cH kvs k y) (storedH xs k b u):=by
 have e:(kvs.any fun kv=>decide (kv.1=k))=(atKey xs k).isSome:=by
  rw[iV,(r.val k).isSome_eq,Option.isSome_map]
 unfold cH storedH;rw[e]
 by_cases q:(atKey xs k).isSome=true
 ·rw[if_pos q,if_pos q];exact r.repl k ry
 ·rw[if_neg q,if_neg q];exact Paired.snoc r ⟨rfl,hb,ry⟩
theorem KT.keeps {H H':Hp}{kvs:List (List Key×V)}{xs:List (List Key×Addr×Value)} (r:KT H kvs xs) (ht:∀b ys,H b=some (.tup ys)->H' b=some (.tup ys)):KT H' kvs xs :=
 Paired.mapP r fun _ _ z=>⟨z.1,ht _ _ z.2.1,z.2.2⟩
section
variable {P:Program}{w:World}{H:Hp}{h:Heap}{a:Addr}
theorem W9 {u:HO}(ok:HOk P w H h)(e:Rd H a u):ObjOk P w H h a u:=e.ok ok
theorem lT {kvs:List (Key×V)}(ok:HOk P w H h)(e:Rd H a (.dK kvs)):kvs.length<=sizeLine/\(a==sysModules)=false/\∃vs,KV kvs vs/\h.DictOf (cB P w) a vs :=
 show ObjOk P w H h a (.dK kvs) from W9 ok e
theorem aCH {kvs:List (Key×V)}(ok:HOk P w H h)(e:H a=some (.dK kvs)):kvs.length<=sizeLine/\(a==sysModules)=false/\∃vs,KV kvs vs/\h.DictOf (cB P w) a vs:=lT ok (.inl e)
theorem rP {ks:List Key}(ok:HOk P w H h)(e:H a=some (.tup (ks.map kV))):(tupleKind (cB P w)).is h ks a:=by
 obtain⟨_,its,r,o,h1,h2,n,h3⟩:=(show ObjOk P w H h a (.tup (ks.map kV)) from ok a _ e)
 exact⟨o,its.toArray,n,h1,h2,h3,by simpa using EW r⟩
theorem tM {kvs:List (List Key×V)}(ok:HOk P w H h)(e:Rd H a (.dT kvs)):kvs.length<=sizeLine/\(a==sysModules)=false ∧
  ∃xs,KT H kvs xs/\h.DictOfH (tupleKind (cB P w)) a xs:=by
 obtain⟨z,y,xs,r,o,es,ep,h1,h2,h3,h4,h5⟩:=(show ObjOk P w H h a (.dT kvs) from W9 ok e)
 refine⟨z,y,xs,r,o,es,ep,h1,h2,h3,h4,fun x hx=> ?_,h5⟩;have all:∀{l:List (List Key×V)}{m:List (List Key×Addr×Value)},KT H l m->∀x∈m,(tupleKind (cB P w)).is h x.1 x.2.1:=by
  intro l m q
  induction q with
  | nil=>intro x hx;exact nomatch hx
  | @cons p q ps qs hq t ih =>
   intro x hx;rcases List.mem_cons.mp hx with e|hx
   ·subst e;exact rP ok (by rw[←hq.1];exact hq.2.1)
   ·exact ih x hx
 exact all r x hx
theorem aC7 {kvs:List (List Key×V)}(ok:HOk P w H h)(e:H a=some (.dT kvs)):kvs.length<=sizeLine/\(a==sysModules)=false ∧
  ∃xs,KT H kvs xs/\h.DictOfH (tupleKind (cB P w)) a xs:=tM ok (.inl e)
end
def DGet (H:Hp)(a:Addr)(y:V)(r:Option V):Prop :=
 (∃kvs k,Rd H a (.dK kvs)/\y=kV k/\r=bA kvs k)∨∃kvs k b,Rd H a (.dT kvs)/\y= .ref b/\H b=some (.tup (k.map kV))/\r=bA kvs k
def DPut (H:Hp)(a:Addr)(y v:V)(H':Hp):Prop :=
 (∃kvs k,H a=some (.dK kvs)/\y=kV k/\kvs.length<sizeLine/\H'=upd H a (.dK (cH kvs k v))) ∨
 ∃kvs k b,H a=some (.dT kvs)/\y= .ref b/\H b=some (.tup (k.map kV))/\kvs.length<sizeLine/\H'=upd H a (.dT (cH kvs k v))
theorem DGet.t {H:Hp}{a b:Addr}{kvs:List (List Key×V)}{k:List Key} (e:H a=some (.dT kvs)) (eb:H b=some (.tup (k.map kV))):DGet H a (.ref b) (bA kvs k):= .inr ⟨kvs,k,b,.inl e,rfl,eb,rfl⟩
theorem DPut.k {H:Hp}{a:Addr}{kvs:List (Key×V)}{k:Key}{v:V} (e:H a=some (.dK kvs)) (hl:kvs.length<sizeLine):DPut H a (kV k) v (upd H a (.dK (cH kvs k v))):= .inl ⟨kvs,k,e,rfl,hl,rfl⟩
theorem DPut.t {H:Hp}{a b:Addr}{kvs:List (List Key×V)}{k:List Key}{v:V} (e:H a=some (.dT kvs)) (eb:H b=some (.tup (k.map kV))) (hl:kvs.length<sizeLine) :
  DPut H a (.ref b) v (upd H a (.dT (cH kvs k v))):= .inr ⟨kvs,k,b,e,rfl,eb,hl,rfl⟩
section
variable {X:Cx}{pins:List (Addr×Obj)}{σ:St}{H:Hp}{s:Shared}{a:Addr}{y v:V}{u r:Value}{o:Option V}{A:Around}{E:Value->Shared->Prop}
theorem Inv.big (I:Inv X pins σ H s):sysModules<s.heap.objs.size:=by
 have h:mainGlobals<s.heap.objs.size:=(I.mod.glob.keeps I.bk).lt;exact Nat.lt_trans (by decide) h
theorem FB {Q:Value->Shared->Prop}(hu:A.units+1<cLine)(I:Inv X pins σ H s)(g:DGet H a y (some v))(ry:RelV y u)(h:∀w' s',Inv X pins σ H s'->RelV v w'->Q w' s') :
  wpAny (model X.prog X.w) A (getItem (.ref a) u) Q E s:=by
 rcases g with⟨kvs,k,e,ey,l⟩|⟨kvs,k,b,e,ey,eb,l⟩
 ·subst ey;obtain⟨z,hd,vs,rel,dd⟩:=lT I.hok e;obtain⟨w',hw,rw'⟩:=RelO.some_of (v:=v) (o:=valueAt vs k) (by rw[l];exact rel.val k);exact wpAny_getItem_of (sS ry) dd.mapOf hw (h w' _ (I.tok _) rw')
 ·subst ey;cases (show u=Value.ref b from ry);obtain⟨z,hd,xs,rel,dd⟩:=tM I.hok e;obtain⟨w',hw,rw'⟩:=RelO.some_of (v:=v) (o:=(atKey xs k).map (·.2)) (by rw[l];exact rel.val k);obtain⟨p,hp,hp2⟩:=Option.map_eq_some_iff.mp hw;refine wpAny_getItem_heap (tupleKind_room_in1 hu) (rP I.hok eb) dd hp ?_;rw[hp2];exact h w' _ (I.tok _) rw'
theorem aDj {Q:Value->Shared->Prop}(hu:A.units+1<cLine)(I:Inv X pins σ H s)(g:DGet H a y o)(ry:RelV y u)(h:∀s',Inv X pins σ H s'->Q (.bool o.isSome) s') :
  wpAny (model X.prog X.w) A (compareOp .In u (.ref a)) Q E s:=by
 rcases g with⟨kvs,k,e,ey,l⟩|⟨kvs,k,b,e,ey,eb,l⟩
 ·subst ey;obtain⟨z,hd,vs,rel,dd⟩:=lT I.hok e;refine wpAny_in_of (sS ry) hd dd.mapOf ?_;rw[←(rel.val k).isSome_eq,←l];exact h _ (I.tok _)
 ·subst ey;cases (show u=Value.ref b from ry);obtain⟨z,hd,xs,rel,dd⟩:=tM I.hok e;refine wpAny_in_heap (tupleKind_room_in1 hu) (rP I.hok eb) hd dd ?_;have q:=(rel.val k).isSome_eq;rw[Option.isSome_map]at q;rw[←q,←l];exact h _ (I.tok _)
theorem ZN {Q:Value->Shared->Prop}(hu:A.units+1<cLine)(I:Inv X pins σ H s)(g:DGet H a y o)(ry:RelV y u)(h:∀s',Inv X pins σ H s'->Q (.bool (!o.isSome)) s') :
  wpAny (model X.prog X.w) A (compareOp .NotIn u (.ref a)) Q E s:=by
 rcases g with⟨kvs,k,e,ey,l⟩|⟨kvs,k,b,e,ey,eb,l⟩
 ·subst ey;obtain⟨z,hd,vs,rel,dd⟩:=lT I.hok e;refine wpAny_notIn_of (sS ry) hd dd.mapOf ?_;rw[←(rel.val k).isSome_eq,←l];exact h _ (I.tok _)
 ·subst ey;cases (show u=Value.ref b from ry);obtain⟨z,hd,xs,rel,dd⟩:=tM I.hok e;refine wpAny_notIn_heap (tupleKind_room_in1 hu) (rP I.hok eb) hd dd ?_;have q:=(rel.val k).isSome_eq;rw[Option.isSome_map]at q;rw[←q,←l];exact h _ (I.tok _)
theorem LF {h':Heap}{t':Nat}{ob:HO} (I:Inv X pins σ H s) (mu:Mut (H a)) (hs:Heap.SameBut a s.heap h') (he:∃q,h'.get? a=some q) (new:ObjOk X.prog X.w (upd H a ob) h' a ob) :
  Inv X pins σ (upd H a ob) { s with heap:=h',toks:=t' } :=
 I.write (x:=a) (e:=a) mu (.inl rfl) (fun b q hb z=>(hs.2 b hb).trans z) he new
theorem QM {P:Program}{w:World}{H':Hp}{h':Heap}{kvs:List (Key×V)}{vs:List (Key×Value)} (z:kvs.length<=sizeLine) (hd:(a==sysModules)=false) (rel:KV kvs vs) (dd:h'.DictOf (cB P w) a vs) :
  ObjOk P w H' h' a (.dK kvs):=⟨z,hd,vs,rel,dd⟩
theorem EY {H':Hp}{Q:Unit->Shared->Prop} (hu:A.units+1<cLine) (I:Inv X pins σ H s) (g:DPut H a y v H') (ry:RelV y u) (rv:RelV v r) (h:∀s',Inv X pins σ H' s'->Q () s') :
  wpAny (model X.prog X.w) A (setItem (.ref a) u r) Q E s:=by
 rcases g with⟨kvs,k,e,ey,l,eH⟩|⟨kvs,k,b,e,ey,eb,l,eH⟩
 ·subst ey eH;obtain⟨z,hd,vs,rel,dd⟩:=aCH I.hok e;have hz:vs.length<=sizeLine:=by rw[←rel.length];exact z
  have hl:(cH kvs k v).length<=sizeLine:=by have:=fL kvs k v;lia
  refine wpAny_setItem_pairs (hsz:=hz) (sS ry) dd fun h' dd' hs=>h _ ?_;have he:∃q,h'.get? a=some q:=let ⟨q,_,_,hq,_⟩:=dd';⟨q,hq⟩;exact LF I (by rw[e];exact True.intro) hs he (QM hl hd (rel.put k rv) dd')
 ·subst ey eH;cases (show u=Value.ref b from ry);obtain⟨z,hd,xs,rel,dd⟩:=aC7 I.hok e;have hz:xs.length<=sizeLine:=by rw[←Paired.length rel];exact z
  have hl:(cH kvs k v).length<=sizeLine:=by have:=fL kvs k v;lia
  refine wpAny_setItem_heap (hsz:=hz) (tupleKind_room_in1 hu) (rP I.hok eb) dd fun h' dd' hs=>h _ ?_;obtain⟨q,es,ep,hq,h2,h3,h4,_,h5⟩:=dd';refine LF I (by rw[e];exact True.intro) hs ⟨q,hq⟩ ⟨hl,hd,_,(rel.put k eb rv).keeps fun c ys ec=> ?_,q,es,ep,hq,h2,h3,h4,h5⟩;rw[aK (aCW ec e (fun z=>nomatch z))];exact ec
end
section
variable {X:Cx}{pins:List (Addr×Obj)}{σ:St}{H:Hp}{s:Shared}{a:Addr}{kvs:List (Key×V)}{k:Key}{u:Value}{A:Around}{E:Value->Shared->Prop}
end
def aB3 (i:Expr):Prop:=∀ov iv,subscripted i false ov iv=operate [ov,iv] (getItem ov iv)
theorem Z7 {prog:Program}{w:World}{A:Around}{E:Value->Shared->Prop}{s:Shared}{env:Env}{value slice:Expr}{pos:Pos}{T id:String}{Q:Value->Shared->Prop}
  (hl:typeLookup (.type T) "__getitem__" =pure (some (.builtin id)))(hs:aB3 slice)
  (h:wpAny (model prog w) A (eval value env) (fun o s₁=>wpAny (model prog w) A (eval slice env) (fun i s₂=>s₂.TypeIs o T/\wpAny (model prog w) A (getItem o i) Q E s₂) E s₁) E s) :
  wpAny (model prog w) A (eval (.Subscript value slice pos) env) Q E s:=by
 refine Subscript_ (wpAny_mono h (fun o s₁ h₁=>wpAny_mono h₁ (fun i s₂ h₂=> ?_) fun _ _ x=>x) fun _ _ x=>x);obtain⟨hT,h₂⟩:=h₂;unfold subscriptTail;refine wpAny_bind ?_;rw[getitemInPython_of_ne hT.not_modules];refine wpAny_bind (wpAny_specialOf hT hl ?_);have fin:wpAny (model prog w) A (subscripted slice false o i) (fun r s₃=>wpAny (model prog w) A (letTemporaryGo value o r >>= fun _=>pure r) Q E s₃) E s₂:=by
  rw[hs o i];exact wpAny_operating (wpAny_mono h₂ (fun r s₃ h₃=>wpAny_bind (wpAny_letTemporaryGo (wpAny_pure h₃))) fun _ _ x=>x)
 first
  | exact wpAny_pure (wpAny_bind fin)
  | exact wpAny_bind (wpAny_pure (wpAny_bind fin))
  | exact wpAny_bind fin
theorem J4 {X:Cx}{pins:List (Addr×Obj)}{σ:St}{H:Hp}{s:Shared}{a:Addr}{y:V}{o:Option V} (I:Inv X pins σ H s) (g:DGet H a y o):s.TypeIs (.ref a) "dict" :=by
 rcases g with⟨kvs,k,e,_,_⟩|⟨kvs,k,b,e,_,_,_⟩
 ·obtain⟨_,_,vs,_,dd⟩:=lT I.hok e;exact dd.typeIs
 ·obtain⟨_,_,xs,_,dd⟩:=tM I.hok e;exact dd.typeIs
def XG (td ty:TE):TE:=fun σ H Q=>td σ H fun x H1=>ty σ H1 fun y H2=>∃a v,x= .ref a/\DGet H2 a y (some v)/\Q v H2
def aCh (ty td:TE):TE:=fun σ H Q=>ty σ H fun y H1=>td σ H1 fun x H2=>∃a o,x= .ref a/\DGet H2 a y o/\Q (.bl o.isSome) H2
def K8 (ty td:TE):TE:=fun σ H Q=>ty σ H fun y H1=>td σ H1 fun x H2=>∃a o,x= .ref a/\DGet H2 a y o/\Q (.bl (!o.isSome)) H2
def XB (td ty tv:TE):TS:=fun D σ H=>tv σ H fun v H1=>td σ H1 fun x H2=>ty σ H2 fun y H3=>∃a H4,x= .ref a/\DPut H3 a y v H4/\D.nx σ H4
def W5 (td ty tv:TE)(rd:V->V->Hp->VK->Prop):TS:=fun D σ H=>td σ H fun x H1=>ty σ H1 fun y H2=>∃a v,x= .ref a/\DGet H2 a y (some v) ∧
 tv σ H2 fun y2 H3=>rd v y2 H3 fun z H4=>∃H5,DPut H4 a y z H5/\D.nx σ H5
section
variable {X:Cx}{o i e value:Expr}{pos pos' tpos:Pos}{td ty tv:TE}
theorem fK (hu:X.A.units+1<cLine)(ho:PE X o td)(hi:PE X i ty)(hs:aB3 i):PE X (.Subscript o i pos) (XG td ty):=by
 intro pins s σ H Q I h;refine Z7 PySem.F.slot_dict_getitem.lookup hs (thn (ho pins s σ H _ I h) fun u s1 ⟨x,H1,I1,rx,q1⟩=>thn (hi pins s1 σ H1 _ I1 q1) fun iv s2 ⟨y,H2,I2,ry,a,v,ex,g,q2⟩=> ?_);subst ex;obtain rfl:u=Value.ref a:=rx;exact⟨J4 I2 g,FB hu I2 g ry fun w' s3 I3 rw'=>⟨v,H2,I3,rw',q2⟩⟩
theorem aAt (hu:X.A.units+1<cLine)(hi:PE X i ty)(ho:PE X o td):PC X .In i o (aCh ty td):=by
 intro pins s σ H Q I h;refine thn (hi pins s σ H _ I h) fun iv s1 ⟨y,H1,I1,ry,q1⟩=>thn (ho pins s1 σ H1 _ I1 q1) fun u s2 ⟨x,H2,I2,rx,a,ov,ex,g,q2⟩=> ?_;subst ex;obtain rfl:u=Value.ref a:=rx;exact aDj hu I2 g ry fun s3 I3=>⟨.bl ov.isSome,H2,I3,rfl,q2⟩
theorem u3 (hu:X.A.units+1<cLine)(hi:PE X i ty)(ho:PE X o td):PC X .NotIn i o (K8 ty td):=by
 intro pins s σ H Q I h;refine thn (hi pins s σ H _ I h) fun iv s1 ⟨y,H1,I1,ry,q1⟩=>thn (ho pins s1 σ H1 _ I1 q1) fun u s2 ⟨x,H2,I2,rx,a,ov,ex,g,q2⟩=> ?_;subst ex;obtain rfl:u=Value.ref a:=rx;exact ZN hu I2 g ry fun s3 I3=>⟨.bl (!ov.isSome),H2,I3,rfl,q2⟩
theorem jQ (hu:X.A.units+1<cLine)(ho:PE X o td)(hi:PE X i ty)(hv:PE X value tv)(hs:swapsWith value (some (.Subscript o i pos')) pos.line X.env=pure false) :
  PS X (.Assign [.Subscript o i pos'] value pos) (XB td ty tv):=by
 intro pins s σ H D I h;refine wpAny_Assign_Subscript (thn (hv pins s σ H _ I h) fun r s1 ⟨v,H1,I1,rv,q1⟩=>thn (ho pins s1 σ H1 _ I1 q1) fun u s2 ⟨x,H2,I2,rx,q2⟩=>thn (hi pins s2 σ H2 _ I2 q2) fun iv s3 ⟨y,H3,I3,ry,a,H4,ex,g,q3⟩=> ?_) hs;subst ex;obtain rfl:u=Value.ref a:=rx;exact EY hu I3 g ry rv fun s4 I4=>⟨σ,H4,I4,q3⟩
theorem aAd {op:Operator}{rd:V->V->Hp->VK->Prop} (hu:X.A.units+1<cLine) (ho:PE X o td) (hi:PE X i ty) (hv:PE X value tv) (hop:aA8 X op rd)
  (ha:∀ov iv new,augStore i ov iv new=(do holding [new,ov,iv] (setItem ov iv new);release [new,ov,iv] [];pure .next)):PS X (.AugAssign (.Subscript o i tpos) op value pos) (W5 td ty tv rd):=by
 intro pins s σ H D I h;refine wpAny_AugAssign_SubscriptAny (thn (ho pins s σ H _ I h) fun u s1 ⟨x,H1,I1,rx,q1⟩=>thn (hi pins s1 σ H1 _ I1 q1) fun iv s2 ⟨y,H2,I2,ry,a,v,ex,g,q2⟩=> ?_) ha;subst ex;obtain rfl:u=Value.ref a:=rx;refine FB hu I2 g ry fun w' s3 I3 rw'=>thn (hv pins s3 σ H2 _ I3 q2) fun w2 s4 ⟨y2,H3,I4,ry2,q3⟩=>thn (hop pins s4 σ H3 v y2 w' w2 _ I4 rw' ry2 q3) fun w3 s5 ⟨z,H4,I5,rz,H5,g5,q4⟩=> ?_;exact EY hu I5 g5 ry rz fun s6 I6=>⟨σ,H5,I6,q4⟩
end
theorem TV {P:Program}{w:World}{H:Hp} (h:Heap) (hb:sysModules<h.objs.size):ObjOk P w H (h.push { cls:= .type "dict",data:= .dict #[] }) h.objs.size (.dK []) :=
 ⟨Nat.zero_le _,beq_eq_false_iff_ne.mpr (Ne.symm (Nat.ne_of_lt hb)),[],.nil,Heap.DictOf.new h⟩
theorem VW {P:Program}{w:World}{H:Hp} (h:Heap) (hb:sysModules<h.objs.size):ObjOk P w H (h.push { cls:= .type "dict",data:= .dict #[] }) h.objs.size (.dT []) :=
 ⟨Nat.zero_le _,beq_eq_false_iff_ne.mpr (Ne.symm (Nat.ne_of_lt hb)),[],.nil,_,#[],0,Heap.get?_push_size _ rfl,⟨rfl,rfl,rfl⟩,rfl,rfl,List.nodup_nil⟩
def SS:TE:=fun _ H Q=>∀p,H p=none->Q (.ref p) (upd H p (.dK []))
def QD:TE:=fun _ H Q=>∀p,H p=none->Q (.ref p) (upd H p (.dT []))
section
variable {X:Cx}{pos:Pos}
theorem yR:PE X (.Dict [] [] pos) SS:=fun pins s σ H Q I h =>
 wpAny_Dict_empty ⟨.ref s.heap.objs.size,_,I.laid (a:=s.heap.objs.size) (o:= .dK []) (t':=s.toks) (fun _ _ q=>Heap.get?_push_of_some _ q) (Nat.le_refl _) (TV s.heap I.big),rfl,h _ (I.hok.fresh (Nat.le_refl _))⟩
theorem sY:PE X (.Dict [] [] pos) QD:=fun pins s σ H Q I h =>
 wpAny_Dict_empty ⟨.ref s.heap.objs.size,_,I.laid (a:=s.heap.objs.size) (o:= .dT []) (t':=s.toks) (fun _ _ q=>Heap.get?_push_of_some _ q) (Nat.le_refl _) (VW s.heap I.big),rfl,h _ (I.hok.fresh (Nat.le_refl _))⟩
end
def jZ (kvs more:List (Key×V)):List (Key×V):=more.foldl (fun acc kv=>cH acc kv.1 kv.2) kvs
theorem KV.merge:∀{more:List (Key×V)}{rs:List (Key×Value)}{kvs:List (Key×V)}{vs:List (Key×Value)},KV more rs->KV kvs vs->KV (jZ kvs more) (merged vs rs):=by
 intro more rs kvs vs r;unfold KV at r
 induction r generalizing kvs vs with
 | nil=>intro q;exact q
 | @cons p q ps qs h t ih =>
  intro r0;have e:KV (cH kvs p.1 p.2) (stored vs q.1 q.2):=by
   have:=r0.put p.1 h.2;rw[←h.1];exact this
  exact ih e
theorem uM:∀(more kvs:List (Key×V)),(jZ kvs more).length<=kvs.length+more.length
 | [],kvs=>by show kvs.length<=kvs.length+0;lia
 | p::r,kvs=>by
  have h1:=uM r (cH kvs p.1 p.2);have h2:=fL kvs p.1 p.2;show (jZ (cH kvs p.1 p.2) r).length<=_;rw[List.length_cons];lia
structure M2 (X:Cx)(o:Expr)(m:Str)(apos:Pos)(e f:Expr)(cpos:Pos):Prop where
 base:attributeBase o m X.env (eval o X.env)=eval o X.env
 few:((backTo cpos (starEach [e,f] X.env)).all (fun x=> !x.1)&&(backToKw cpos (keywordEach [] X.env)).all (fun x=>x.1.isSome)
  && decide (([e,f]:List Expr).length+([]:List Keyword).length+(if ([]:List Keyword).isEmpty then 0 else 1)<30))=true
 line:(apos.endLine==cpos.line)=true
 trees:backTo cpos (starEach [e,f] X.env)=[(false,eval e X.env),(false,eval f X.env)]
def IsD (H:Hp)(a:Addr):Prop:=(∃kvs,Rd H a (.dK kvs))∨∃kvs,Rd H a (.dT kvs)
theorem RB {X:Cx}{pins:List (Addr×Obj)}{σ:St}{H:Hp}{s:Shared}{a:Addr} (I:Inv X pins σ H s) (d:IsD H a) :
  s.TypeIs (.ref a) "dict" /\(∀b,Value.ref a= .ref b->∃ob,s.heap.get? b=some ob/\ob.dict=none)/\(a==sysModules)=false:=by
 rcases d with⟨kvs,e⟩|⟨kvs,e⟩
 ·obtain⟨_,hd,vs,_,dd⟩:=lT I.hok e;refine⟨dd.typeIs,fun b q=> ?_,hd⟩;cases q;obtain⟨ob,_,_,h1,h2,_⟩:=dd;exact⟨ob,h1,h2.2.1⟩
 ·obtain⟨_,hd,xs,_,dd⟩:=tM I.hok e;refine⟨dd.typeIs,fun b q=> ?_,hd⟩;cases q;obtain⟨ob,_,_,h1,h2,_⟩:=dd;exact⟨ob,h1,h2.2.1⟩
section
variable {X:Cx}{pins:List (Addr×Obj)}{σ:St}{H:Hp}{s:Shared}{a:Addr}{y d:V}{u r:Value}{o:Option V}{A:Around}{E:Value->Shared->Prop}
theorem aAy {Q:Value->Shared->Prop}(hu:A.units+1<cLine)(I:Inv X pins σ H s)(g:DGet H a y o)(ry:RelV y u)(rd:RelV d r)(h:∀w' s',Inv X pins σ H s'->RelV (o.getD d) w'->Q w' s') :
  wpAny (model X.prog X.w) A (call (.builtin "dict.get") [.ref a,u,r]) Q E s:=by
 rcases g with⟨kvs,k,e,ey,l⟩|⟨kvs,k,b,e,ey,eb,l⟩
 ·subst ey;obtain⟨z,hd,vs,rel,dd⟩:=lT I.hok e;refine call_meetsIn PySem.F.slot_dict_get dd.typeIs PySem.F.entry_dict_get (PySem.F.args_dict_get_3 _ _ _) (meets_dict_get_default (cB X.prog X.w) a (sS ry) hd r) ⟨_,dd.mapOf,h _ _ (I.tok _) ?_⟩;rw[l];exact(rel.val k).getD rd
 ·subst ey;cases (show u=Value.ref b from ry);obtain⟨z,hd,xs,rel,dd⟩:=tM I.hok e;refine call_meetsIn PySem.F.slot_dict_get dd.typeIs PySem.F.entry_dict_get (PySem.F.args_dict_get_3 _ _ _) (meetsH_dict_get_default (tupleKind (cB X.prog X.w)) a b hd r) ⟨tupleKind_room_in1 hu,k,xs,rP I.hok eb,dd,h _ _ (I.tok _) ?_⟩;rw[l];exact(rel.val k).getD rd
end
def Q1 (td ty tx:TE):TE:=fun σ H Q=>td σ H fun x H1=>∃a,x= .ref a/\IsD H1 a/\ty σ H1 fun y H2=>tx σ H2 fun z H3=>∃o,DGet H3 a y o/\Q (o.getD z) H3
section
variable {X:Cx}{o e f:Expr}{apos cpos:Pos}{td ty tx:TE}
theorem lC (hu:X.A.units+1<cLine)(ho:PE X o td)(he:PE X e ty)(hf:PE X f tx)(m:M2 X o "get" apos e f cpos):PE X (.Call (.Attribute o "get" apos) [e,f] [] cpos) (Q1 td ty tx):=by
 intro pins s σ H Q I h;refine wpAny_Call_method m.base m.few m.line PySem.F.plainAttrs_dict PySem.F.slot_dict_get PySem.F.type_dict_get (thn (ho pins s σ H _ I h) fun u s1 ⟨x,H1,I1,rx,a,ex,d,q1⟩=> ?_);subst ex;obtain rfl:u=Value.ref a:=rx;obtain⟨t1,t2,_⟩:=RB I1 d;refine⟨t1,t2,?_⟩;rw[m.trees];refine Calls.callWith_builtin rfl (Calls.evalArgs_plain (Calls.spliced_cons (thn (he pins s1 σ H1 _ I1 q1) fun iv s2 ⟨y,H2,I2,ry,q2⟩ =>
  Calls.spliced_cons (thn (hf pins s2 σ H2 _ I2 q2) fun fv s3 ⟨z,H3,I3,rz,ov,g,q3⟩=>Calls.spliced_nil ?_))))
 exact aAy hu I3 g ry rz fun w' s4 I4 rw'=>⟨_,H3,I4,rw',q3⟩
end
section
variable {X:Cx}{pins:List (Addr×Obj)}{σ:St}{H:Hp}{s:Shared}{a:Addr}{kvs:List (Key×V)}{A:Around}{E:Value->Shared->Prop}
end
section
variable {X:Cx}{pins:List (Addr×Obj)}{σ:St}{H:Hp}{s:Shared}{a:Addr}{y:V}{u:Value}{A:Around}{E:Value->Shared->Prop}
end
section
variable {κ:Type}[DecidableEq κ]
theorem ZT {kvs:List (κ×V)}{k:κ}{v:V} (h:bA kvs k=some v):k∈kvs.map (·.1):=by
 have q:(kvs.any fun kv=>decide (kv.1=k))=true:=by
  rw[iV,h]
  all_goals rfl
 obtain⟨p,hp,e⟩:=List.any_eq_true.mp q;exact List.mem_map.mpr ⟨p,hp,of_decide_eq_true e⟩
theorem L7:∀{l:List κ}{k:κ},l.Nodup->¬k∈l->(l++[k]).Nodup
 | [],k,_,_=>by simp
 | a::r,k,h,hk=>by
  obtain⟨h1,h2⟩:=List.nodup_cons.mp h;show (a::(r++[k])).Nodup;refine List.nodup_cons.mpr ⟨fun m=> ?_,L7 h2 fun m=>hk (List.mem_cons.mpr (Or.inr m))⟩;rcases List.mem_append.mp m with q|q
  ·exact h1 q
  ·exact hk (List.mem_cons.mpr (Or.inl (List.mem_singleton.mp q).symm))
end
end L2
namespace L2
open PySem PySem.W PyProof.Rows
def fX {α:Type}(c:Nat->Nat->Bool):KasT α->α
 | .ret a=>a
 | .ask i j k=>fX c (k (c i j))
def KasIn {α:Type}(n:Nat)(R:α->Prop):KasT α->Prop
 | .ret a=>R a
 | .ask i j k=>i<n/\j<n/\∀b,KasIn n R (k b)
theorem KasIn.bind {α β:Type}{n:Nat}{R:α->Prop}{S:β->Prop}{f:α->KasT β} (hf:∀a,R a->KasIn n S (f a)):∀{t:KasT α},KasIn n R t->KasIn n S (t.bind f)
 | .ret _,h=>hf _ h
 | .ask _ _ _,h=>⟨h.1,h.2.1,fun b=>KasIn.bind hf (h.2.2 b)⟩
theorem KasIn.val {α:Type}{n:Nat}{R:α->Prop} (c:Nat->Nat->Bool):∀{t:KasT α},KasIn n R t->R (fX c t)
 | .ret _,h=>h
 | .ask i j k,h=>KasIn.val c (t:=k (c i j)) (h.2.2 (c i j))
theorem KasIn.wp {α:Type}{n:Nat}{R:α->Prop}{c:Nat->Nat->Bool}{cmp:Nat->Nat->(Bool->Shared->Prop)->Shared->Prop}{s:Shared} (hc:∀i j,i<n->j<n->∀C,C (c i j) s->cmp i j C s) {Q:α->Shared->Prop} :
  ∀{t:KasT α},KasIn n R t->Q (fX c t) s->t.kasWp cmp Q s
 | .ret _,_,q=>q
 | .ask i j k,h,q=>hc i j h.1 h.2.1 _ (KasIn.wp hc (t:=k (c i j)) (h.2.2 (c i j)) q)
abbrev Places (n:Nat)(p:Array Nat):Prop:=p.Perm (List.range n).toArray
theorem Places.lt {n:Nat}{p:Array Nat} (h:Places n p) (h0:0<n) (i:Nat):p.getD i 0<n:=by
 by_cases hi:i<p.size
 ·have e:p.getD i 0=p[i]:=by simp[Array.getD,hi]
  rw[e];have:=h.mem_iff.mp (Array.getElem_mem hi)
  simpa using this
 ·have e:p.getD i 0=0:=by simp[Array.getD,hi]
  rw[e];exact h0
theorem kA {n:Nat}{p:Array Nat} (h:Places n p) (i j:Nat):Places n (kas_rev p i j):=(mirror_perm _ _ _ _).trans h
theorem JQ {n:Nat}{p:Array Nat} (h0:0<n) (hp:Places n p):∀(f k:Nat),KasIn n (fun _=>True) (kas_asc p f k)
 | 0,_=>trivial
 | f+1,k=>⟨hp.lt h0 _,hp.lt h0 _,fun b=>by cases b with|true=>exact trivial|false=>exact JQ h0 hp f (k+1)⟩
theorem wJ {n:Nat}(h0:0<n):∀(f:Nat) {p:Array Nat},Places n p->∀k q,KasIn n (fun r:Array Nat×Nat×Nat=>Places n r.1) (kas_desc f p k q)
 | 0,_,hp,_,_=>hp
 | f+1,p,hp,k,q=>by
  refine⟨hp.lt h0 _,hp.lt h0 _,fun b=> ?_⟩;cases b with
  | true =>
   show KasIn n _ (if q>0 then _ else _)
   split
   ·exact wJ h0 f (kA hp _ _) _ _
   ·exact wJ h0 f hp _ _
  | false =>
   refine⟨hp.lt h0 _,hp.lt h0 _,fun b=> ?_⟩;cases b with
   | true=>exact hp
   | false=>exact wJ h0 f hp _ _
theorem HZ {n k m:Nat}{p:Array Nat} (h0:0<n) (hp:Places n p):KasIn n (fun r:Nat×Array Nat=>Places n r.2) (kas_tail3 k m p) :=
 KasIn.bind (R:=fun _=>True) (S:=fun r:Nat×Array Nat=>Places n r.2) (f:=fun j=> .ret (j,kas_rev p 0 k)) (fun _ _=>kA hp 0 k) (JQ h0 (kA hp 0 k) (m - k) k)
theorem yB {n k m:Nat}{p:Array Nat} (h0:0<n) (hp:Places n p):KasIn n (fun r:Nat×Array Nat=>Places n r.2) (kas_descPart k m p) :=
 KasIn.bind (fun r hr=>by
  split
  ·exact HZ h0 (kA hr _ _)
  ·exact HZ h0 hr) (wJ h0 _ hp _ _)
theorem VB {n m:Nat}{p:Array Nat} (h0:0<n) (hp:Places n p):KasIn n (fun r:Nat×Array Nat=>Places n r.2) (kas_count m p) :=
 KasIn.bind (fun k _=>by
  split
  ·exact hp
  ·split
   ·refine⟨hp.lt h0 _,hp.lt h0 _,fun b=> ?_⟩;cases b with
    | true=>exact hp
    | false=>exact yB h0 (kA hp _ _)
   ·exact yB h0 hp) (JQ h0 hp _ _)
theorem yJ {n k:Nat}{p:Array Nat} (h0:0<n) (hp:Places n p):∀(f l r:Nat),KasIn n (fun _=>True) (kas_place p k f l r)
 | 0,_,_=>trivial
 | f+1,l,r=>by
  unfold kas_place
  split
  ·exact trivial
  ·refine⟨hp.lt h0 _,hp.lt h0 _,fun b=> ?_⟩;cases b with
   | true=>exact yJ h0 hp f _ _
   | false=>exact yJ h0 hp f _ _
theorem RK {n:Nat}(h0:0<n):∀(f:Nat) {p:Array Nat} (k:Nat),Places n p->KasIn n (Places n) (kas_bin f p k)
 | 0,_,_,hp=>hp
 | f+1,_,k,hp=>KasIn.bind (fun _ _=>RK h0 f (k+1) ((bubble_perm _ _ _).trans hp)) (yJ h0 hp _ _ _)
theorem K4 {n:Nat}(h0:0<n):KasIn n (Places n) (kas_sort n) :=
 KasIn.bind (fun r hr=>by
  split
  ·exact RK h0 _ _ hr
  ·exact hr) (VB h0 (Array.Perm.refl _))
def c4 {α:Type}(d:α)(c:Nat->Nat->Bool)(l:List α):List α:=if l.length<2 then l else (fX c (kas_sort l.length)).toList.map fun i=>l.getD i d
theorem iG {n:Nat}(c:Nat->Nat->Bool)(h:0<n):Places n (fX c (kas_sort n)):=(K4 h).val c
theorem CO {α:Type}(d:α)(c:Nat->Nat->Bool)(l:List α):(c4 d c l).length=l.length:=by
 unfold c4
 split
 ·rfl
 ·have h:=(iG (n:=l.length) c (by lia)).size_eq;rw[List.length_map,Array.length_toList,h];simp
end L2
namespace L2
open PySem PySem.W PyProof.Rows PySem.Calls
section
variable {prog:Program}{w:World}{A:Around}{E:Value->Shared->Prop}{s:Shared}
abbrev r9 (a:Addr)(h h':Heap):Prop:=∀b o,b≠a->h.get? b=some o->h'.get? b=some o
theorem ZC {a:Addr}{vs:List Value}{n:Nat}{P:PySem.Fin->Shared->Prop} (c:Nat->Nat->Bool) (κ:SortKind) (ho:s.heap.get? a=some (seqObj "list" vs.toArray n)) (h64:vs.length<64)
  (hk:2<=vs.length->∀h',r9 a s.heap h'->∀R:SortKind->Shared->Prop,R κ { s with heap:=h' }->wpAny (model prog w) A (keyKind' vs.toArray) R (fun _ _=>False) { s with heap:=h' })
  (hc:2<=vs.length->∀h',r9 a s.heap h'->∀i j,i<vs.length->j<vs.length->∀C,C (c i j) { s with heap:=h' }->kas_ask prog w A κ vs i j C { s with heap:=h' })
  (h:∀h' e,r9 a s.heap h'->h'.get? a=some (seqObj "list" (c4 Value.none c vs).toArray e)->P (.done (.ret .none)) { s with heap:=h' }) :
  wpAny (model prog w) A (Builtin.«list.sort» ⟨[.ref a],[]⟩) P E s:=by
 have lt:a<s.heap.objs.size:=Heap.lt_size ho;generalize hg1:s.heap.update a (Obj.mapSeq fun _=>(#[]:Array Value))=g1;have sb1:Heap.SameBut a s.heap g1:=hg1▸Heap.SameBut.update s.heap a (Obj.mapSeq fun _=>(#[]:Array Value));obtain⟨e1,o1⟩:∃e1,g1.get? a=some (seqObj "list" #[] e1):=hg1▸⟨_,get?_update_seq ho fun _=> #[]⟩;have lt1:a<g1.objs.size:=Heap.lt_size o1;have kp:r9 a s.heap ((g1.push (seqObj "tuple" vs.toArray 0)).push (seqObj "list" #[] 0)):=fun b o hb q =>
  Heap.get?_push_of_some _ (Heap.get?_push_of_some _ ((sb1.2 b hb).trans q))
 have o3:((g1.push (seqObj "tuple" vs.toArray 0)).push (seqObj "list" #[] 0)).get? a=some (seqObj "list" #[] e1):=Heap.get?_push_of_some _ (Heap.get?_push_of_some _ o1);generalize hg3:(g1.push (seqObj "tuple" vs.toArray 0)).push (seqObj "list" #[] 0)=g3 at kp o3;have fin:∀out:List Value,out.length=vs.length->out=c4 Value.none c vs->wpAny (model prog w) A (do
   let touched:=(←seqEpoch a) !=e1
   Builtin.List.listUpdate (.ref a) fun _=>out.toArray
   if let some e:=(none:Option Value) then rule "list.sort.comparison-raised";throw e
   if touched then rule "list.sort.modified";raiseError "ValueError" "list modified during sort"
   ret .none) P E { s with heap:=g3 }:=by
  intro out hl ho';obtain⟨e2,o4⟩:∃e2,(g3.update a (Obj.mapSeq fun _=>out.toArray)).get? a=some (seqObj "list" out.toArray e2):=⟨_,get?_update_seq o3 fun _=>out.toArray⟩
  refine wpAny_bind (seqEpoch_at (s:={ s with heap:=g3 }) o3 rfl ?_);refine wpAny_bind (listUpdate_at (s:={ s with heap:=g3 }) o3 rfl ?_ (Nat.zero_le _) (by rw[List.size_toArray,sizeLine_eq];lia));simp only[bne_self_eq_false,Bool.false_eq_true,if_false];refine wpAny_pure (h _ e2 (fun b o hb q=> ?_) (ho'▸o4));exact((Heap.SameBut.update g3 a (Obj.mapSeq fun _=>out.toArray)).2 b hb).trans (kp b o hb q)
 rw[list_sort_plain];refine wpAny_bind (listItems_at ho rfl (wpAny_bind (listUpdate_at ho rfl ?_ (by rw[List.size_toArray,sizeLine_eq];lia) (Nat.zero_le _))));rw[hg1];refine wpAny_bind (seqEpoch_at (s:={ s with heap:=g1 }) o1 rfl ?_);refine wpAny_bind (wpAny_newTuple ?_ (by show vs.length<=_;rw[sizeLine_eq];lia));refine wpAny_bind (wpAny_newList ?_ (Nat.zero_le _));refine wpAny_holding ?_;show wpAny (model prog w) A _ P E { s with heap:=(g1.push (seqObj "tuple" vs.toArray 0)).push (seqObj "list" #[] 0) };rw[hg3]
 dsimp only
 by_cases h2:vs.toArray.size<2
 ·rw[if_pos h2,if_pos h2];have h2':vs.length<2:=by rwa [List.size_toArray]at h2
  refine wpAny_bind (wpAny_pure ?_);rw[StateT.run_pure];refine wpAny_bind (wpAny_pure ?_)
  dsimp only
  have ez:(arrOf (SortSt.mk' general' (vs.toArray.zip vs.toArray) #[] 7 none)).map (·.2)=vs.toArray:=by
   show (vs.toArray.zip vs.toArray).map (·.2)=_
   apply Array.toList_inj.mp
   rw[Array.toList_map,Array.toList_zip,List.map_snd_zip];exact Nat.le_refl _
  rw[ez];exact fin vs rfl (by unfold c4;rw[if_pos h2'])
 ·rw[if_neg h2,if_neg h2];have h2':2<=vs.length:=by rw[List.size_toArray]at h2;lia
  refine wpAny_bind (wpAny_mono (hk h2' _ kp (fun κ' s'=>κ'=κ/\s'={ s with heap:=g3 }) ⟨rfl,rfl⟩) ?_ fun _ _ x=>x.elim);rintro _ _ ⟨rfl,rfl⟩;refine wpAny_bind (wpAny_mono (kat_run (Q:=fun st' s'=>∃p:Array Nat,p=fX c (kas_sort vs.length)/\arrOf st'=p.map (kas_item (vs.toArray.zip vs.toArray))/\failedOf st'=none/\s'={ s with heap:=g3 }) (G:=fun p s'=>p=fX c (kas_sort vs.length)/\s'={ s with heap:=g3 })
   rfl h2' h64 (fun p st' s' _ a2 a3 a4=>⟨p,a4.1,a2,a3,a4.2⟩) ((K4 (by lia)).wp (hc h2' _ kp) ⟨rfl,rfl⟩)) ?_ fun _ _ e=>e)
  rintro ⟨⟨⟩,st'⟩ _ ⟨p,rfl,har,hf,rfl⟩
  dsimp only
  rw[kat_snds rfl har,hf];have hz:=(iG (n:=vs.length) c (by lia)).size_eq;exact fin _ (by rw[List.length_map,Array.length_toList,hz];simp) (by unfold c4;rw[if_neg (by lia)])
theorem SK {l:Addr}{vs:List Value}{Q:Value->Shared->Prop} (c:Nat->Nat->Bool) (κ:SortKind) (hl:s.heap.IsList l vs.toArray) (h64:vs.length<64)
  (hk:2<=vs.length->∀h',(∀b o,s.heap.get? b=some o->h'.get? b=some o)->∀R:SortKind->Shared->Prop,R κ { s with heap:=h' }->wpAny (model prog w) A.in1.in1 (keyKind' vs.toArray) R (fun _ _=>False) { s with heap:=h' })
  (hc:2<=vs.length->∀h',(∀b o,s.heap.get? b=some o->h'.get? b=some o)->∀i j,i<vs.length->j<vs.length->∀C,C (c i j) { s with heap:=h' }->kas_ask prog w A.in1.in1 κ vs i j C { s with heap:=h' })
  (h:∀D h' e,s.heap.objs.size<=D->(∀b o,s.heap.get? b=some o->h'.get? b=some o)->h'.get? D=some (seqObj "list" (c4 Value.none c vs).toArray e)->Q (.ref D) { s with heap:=h' }) :
  wpAny (model prog w) A (call (.builtin "sorted") [.ref l]) Q E s:=by
 have hz64:vs.length<=sizeLine:=by rw[sizeLine_eq];lia
 refine Calls.call_function_entry kind_sorted plain_sorted entry_sorted (args_sorted1 _) ?_;unfold Builtin.«sorted»;refine wpAny_bind (m:=checkCount "sorted" 1 1 _) (wpAny_pure (wpAny_bind (collect_list hl ?_ hz64)));refine wpAny_bind (wpAny_newList ?_ hz64);generalize hq:(s.heap.push (seqObj "list" #[] 0)).update s.heap.objs.size (Obj.mapSeq (·++vs.toArray))=q;have qs:q.objs.size=s.heap.objs.size+1:=by rw[←hq,Heap.size_update,size_push']
 have qk:∀b o,s.heap.get? b=some o->q.get? b=some o:=fun b o e=>by
  have bl:b<s.heap.objs.size:=Heap.lt_size e;rw[←hq,Heap.get?_update_ne _ _ _ _ (Nat.ne_of_lt bl),Heap.get?_push_ne _ _ _ (Nat.ne_of_lt bl)];exact e
 have oD:(q.push (seqObj "list" vs.toArray 0)).get? q.objs.size=some (seqObj "list" vs.toArray 0):=Heap.get?_push_size _ rfl;have kD:∀h',r9 q.objs.size (q.push (seqObj "list" vs.toArray 0)) h'->∀b o,s.heap.get? b=some o->h'.get? b=some o:=fun h' k b o e =>
  k b o (Nat.ne_of_lt (by rw[qs];exact Nat.lt_succ_of_lt (Heap.lt_size e))) (Heap.get?_push_of_some _ (qk b o e))
 refine wpAny_bind (wpAny_holding (wpAny_call_entry slot_list_sort ⟨_,oD,rfl⟩ entry_list_sort ?body (args_list_sort _)))
 case body =>
  refine ZC (s:={ s with heap:=q.push (seqObj "list" vs.toArray 0) }) c κ oD h64 (fun h2 h' k=>hk h2 h' (kD h' k)) (fun h2 h' k=>hc h2 h' (kD h' k)) fun h' e k o'=> ?_;exact⟨_,rfl,wpAny_pure ⟨_,rfl,h _ h' e (by show s.heap.objs.size<=q.objs.size;rw[qs];exact Nat.le_succ _) (kD h' k) o'⟩⟩
end
end L2
namespace L2
open PySem PySem.W PyProof.Rows
def fA:Key->Bool
 | .inl _=>true
 | .inr _=>false
def NY:Key->Key->Bool
 | .inl i,.inl j=>decide (i<j)
 | .inr x,.inr y=>decide (x.cps.toList<y.cps.toList)
 | _,_=>false
def GJ:List Key->List Key->Bool
 | a::as,b::bs=>if a=b then GJ as bs else NY a b
 | _,_=>false
section
variable {prog:Program}{w:World}{A:Around}{s:Shared}
theorem aBs {a b:Key}{u v:Value}{Q:Bool->Shared->Prop}{E:Value->Shared->Prop} (k:fA a=fA b) (ru:RelV (kV a) u) (rv:RelV (kV b) v) (q:Q (decide (a=b)) s):wpAny (model prog w) A (eqBool u v) Q E s:=by
 cases a<;>cases b<;>first|(cases k;done)|skip
 ·obtain⟨t,rfl⟩:=ru;obtain⟨t',rfl⟩:=rv;refine wpAny_eqBool_int ?_;rename_i i j;have e:(i==j)=decide ((Sum.inl i:Key)=Sum.inl j):=by
   by_cases z:i=j
   ·subst z;simp
   ·rw[beq_false_of_ne z,decide_eq_false (fun y=>z (Sum.inl.inj y))]
  rw[e];exact q
 ·obtain⟨t,rfl⟩:=ru;obtain⟨t',rfl⟩:=rv;refine wpAny_eqBool_str ?_;rename_i i j;have e:decide (i=j)=decide ((Sum.inr i:Key)=Sum.inr j):=by
   by_cases z:i=j
   ·subst z;simp
   ·rw[decide_eq_false z,decide_eq_false (fun y=>z (Sum.inr.inj y))]
  rw[e];exact q
theorem aBj {a b:Key}{u v:Value}{Q:Bool->Shared->Prop}{E:Value->Shared->Prop} (k:fA a=fA b) (ru:RelV (kV a) u) (rv:RelV (kV b) v) (q:Q (NY a b) s) (t:Bool):wpAny (model prog w) A (oneLt' t u v) Q E s:=by
 cases a<;>cases b<;>first|(cases k;done)|skip
 ·obtain⟨t1,rfl⟩:=ru;obtain⟨t2,rfl⟩:=rv;cases t with
  | true=>exact oneLt_int q
  | false=>exact kat_one _ _ (lt_int q)
 ·obtain⟨t1,rfl⟩:=ru;obtain⟨t2,rfl⟩:=rv;cases t with
  | true=>exact oneLt_str q
  | false=>exact kat_one _ _ (lt_str q)
theorem QI {Q:Bool->Shared->Prop}:∀{as bs:List Key}{us vs:List Value} (i:Nat),as.map fA=bs.map fA->Vals (as.map kV) us->Vals (bs.map kV) vs->Q (GJ as bs) s->KatLex prog w A true false Q (us.zip vs) i s
 | [],[],_,_,_,_,.nil,.nil,q=>kat_nil q
 | [],_::_,_,_,_,k,_,_,_=>by cases k
 | _::_,[],_,_,_,k,_,_,_=>by cases k
 | a::as,b::bs,_,_,i,k,.cons ra rs,.cons rb rt,q=>by
  have k1:fA a=fA b:=(List.cons.inj k).1;refine kat_cons (aBs k1 ra rb ?_);have q':Q (if a=b then GJ as bs else NY a b) s:=q
  by_cases z:a=b
  ·rw[if_pos z]at q';rw[decide_eq_true z];exact kat_yes (QI (i+1) (List.cons.inj k).2 rs rt q')
  ·rw[if_neg z]at q';rw[decide_eq_false z];exact kat_no (aBj k1 ra rb q' _)
end
abbrev KRows (H:Hp):List V->List (List Key)->Prop:=Paired fun v r=>∃p,v= .ref p/\H p=some (.tup (r.map kV))
theorem KRows.map {H H':Hp}(f:∀p xs,H p=some (.tup xs)->H' p=some (.tup xs)):∀{vs:List V}{rs:List (List Key)},KRows H vs rs->KRows H' vs rs
 | _,_,.nil=> .nil
 | _,_,.cons ⟨p,e,h⟩ r=> .cons ⟨p,e,f _ _ h⟩ (KRows.map f r)
theorem KRows.same {H H':Hp}{vs:List V}{rs:List (List Key)} (x:KRows H vs rs) (s:Same H H'):KRows H' vs rs:=x.map fun p xs h=>s _ _ h
theorem KRows.get {H:Hp}:∀{vs:List V}{rs:List (List Key)}{i:Nat}{v:V},KRows H vs rs->vs[i]? =some v->∃p r,v= .ref p/\rs[i]? =some r/\H p=some (.tup (r.map kV))
 | _,_,0,_,.cons ⟨p,e,h⟩ _,z=>by cases z;exact⟨p,_,e,rfl,h⟩
 | _,_,i+1,_,.cons _ t,z=>KRows.get (i:=i) t (by simpa using z)
 | _,_,_,_,.nil,z=>by simp at z
def qI (rs:List (List Key))(i j:Nat):Bool:=GJ (rs.getD i []) (rs.getD j [])
def O2 (rs:List (List Key))(vs:List V):List V:=c4 .non (qI rs) vs
section
variable {X:Cx}{pins:List (Addr×Obj)}{σ:St}{H:Hp}{s:Shared}
theorem C4 (I:Inv X pins σ H s){p:Addr}{r:List Key} (e:H p=some (.tup (r.map kV))):∃(o:Obj) (us:List Value) (n:Nat),s.heap.get? p=some o/\o.cls= .type "tuple" /\o.data= .seq us.toArray n/\Vals (r.map kV) us:=by
 obtain⟨_,its,r',o,h1,h2,n,h3⟩:=(show ObjOk X.prog X.w H s.heap p (.tup (r.map kV)) from I.hok p _ e)
 exact⟨o,its,n,h1,h2,h3,r'⟩
theorem ET (I:Inv X pins σ H s){sh:List Bool}{T:Value}{h':Heap} (kp:∀b o,s.heap.get? b=some o->h'.get? b=some o) (hT:∀(k:Key) (u:Value),sh.head? =some (fA k)->RelV (kV k) u->Looks (model X.prog X.w) h' (typeOf u) T) :
  ∀{vs:List V}{rs:List (List Key)}{us:List Value},KRows H vs rs->Vals vs us->(∀r∈rs,r.map fA=sh)->sh≠[]->∃fs,KatTups h' us fs/\fs.length=us.length/\∀v∈fs,Looks (model X.prog X.w) h' (typeOf v) T
 | _,_,_,.nil,.nil,_,_=>⟨[],trivial,rfl,fun _ z=>nomatch z⟩
 | _::_,r::_,_::_,.cons ⟨p,hv,e⟩ q,.cons rv rt,hs,hn=>by
  obtain⟨fs,f1,f2,f3⟩:=ET I kp hT q rt (fun r hr=>hs r (List.mem_cons_of_mem _ hr)) hn;subst hv;cases rv;have hr:=hs r (.head _);cases r with
  | nil=>exact absurd hr.symm hn
  | cons k ks =>
   obtain⟨o,us,n,o1,o2,o3,o4⟩:=C4 I e;cases o4 with
   | cons r1 r2 =>
    rename_i u us;refine⟨u::fs,KatTups.cons (kp _ _ o1) o2 o3 (by simp) f1,by simp[f2],fun v hv=> ?_⟩;rcases List.mem_cons.mp hv with rfl|hv
    ·exact hT k _ (by rw[←hr];rfl) r1
    ·exact f3 v hv
def LY (K:W.Frag):List V->Hp->VK->Prop:=fun xs H Q=>∃p vs rs sh,xs=[.ref p]/\SqL K H p vs/\KRows H vs rs/\vs.length<64/\(∀r∈rs,r.map fA=sh)/\sh≠[]/\∀l,H l=none->Q (.ref l) (upd H l (.lst (O2 rs vs)))
theorem JK {xs:List V}{us:List Value} (c:Nat->Nat->Bool) (r:Vals xs us):Vals (c4 .non c xs) (c4 Value.none c us):=by
 have hl:=r.length;unfold c4;rw[hl]
 split
 ·exact r
 ·have hp:=iG (n:=us.length) c (by lia);have hm:∀i∈(fX c (kas_sort us.length)).toList,i<us.length:=fun i hi=>by
   have h:=hp.mem_iff.mp (Array.mem_toList_iff.mp hi)
   simpa using h
  revert hm;generalize (fX c (kas_sort us.length)).toList=l;intro hm
  induction l with
  | nil=>exact .nil
  | cons i l ih =>
   refine .cons ?_ (ih fun j hj=>hm j (List.mem_cons_of_mem _ hj));have hi:=hm i (.head _);have hx:xs[i]? =some (xs[i]'(by lia)):=List.getElem?_eq_getElem _;obtain⟨u,hu,ru⟩:=r.get hx;show RelV (xs.getD i .non) (us.getD i Value.none);rw[List.getD_eq_getElem?_getD,List.getD_eq_getElem?_getD,hx,hu];exact ru
theorem G0:cS X (.builtin "sorted") (LY X.K):=by
 intro pins s σ H xs us Q I r h;obtain⟨p,vs,rs,sh,rfl,hq,kr,h64,hs,hn,q⟩:=h;obtain⟨u,rfl,rx⟩:=jW r;cases rx;obtain⟨its,rv,pl,hz⟩:=I.list hq;have hl:=rv.length;have hT:∃T:Value,(T==T)=true/\(T !=Value.type "tuple")=true/\∀(h':Heap) (k:Key) (u:Value),sh.head? =some (fA k)->RelV (kV k) u->Looks (model X.prog X.w) h' (typeOf u) T:=by
  cases sh with
  | nil=>exact absurd rfl hn
  | cons b sh =>
   cases b with
   | true =>
    refine⟨.type "int",rfl,by decide,fun h' k u hk ru=> ?_⟩;cases k with
    | inl i=>obtain⟨t,rfl⟩:=ru;exact Looks.of_pure rfl
    | inr x=>cases hk
   | false =>
    refine⟨.type "str",rfl,by decide,fun h' k u hk ru=> ?_⟩;cases k with
    | inl i=>cases hk
    | inr x=>obtain⟨t,rfl⟩:=ru;exact Looks.of_pure rfl
 obtain⟨T,t1,t2,t3⟩:=hT;refine SK (qI rs) (tuples' true) pl.isList (by lia) (fun h2 h' kp R hR=> ?_) (fun h2 h' kp i j hi hj C hC=> ?_) fun D h' e hD kp o'=> ?_
 ·obtain⟨fs,f1,f2,f3⟩:=ET I kp (fun k u=>t3 h' k u) kr rv hs hn;refine kat_kind (s:={ s with heap:=h' }) f1 (by lia) f3 t1 ?_;rw[t2];exact hR
 ·obtain⟨p1,r1,x1,y1,z1⟩:=kr.get (i:=i) (List.getElem?_eq_getElem (by lia));obtain⟨p2,r2,x2,y2,z2⟩:=kr.get (i:=j) (List.getElem?_eq_getElem (by lia));obtain⟨u1,v1,w1⟩:=rv.get (List.getElem?_eq_getElem (show i<vs.length by lia));obtain⟨u2,v2,w2⟩:=rv.get (List.getElem?_eq_getElem (show j<vs.length by lia));rw[x1]at w1;rw[x2]at w2;cases w1;cases w2;obtain⟨o1,us1,n1,g1,c1,d1,l1⟩:=C4 I z1;obtain⟨o2,us2,n2,g2,c2,d2,l2⟩:=C4 I z2;have s1:=hs r1 (List.mem_of_getElem? y1);have s2:=hs r2 (List.mem_of_getElem? y2);have e1:=l1.length;have e2:=l2.length;rw[List.length_map]at e1 e2;have e3:r1.length=r2.length:=by rw[←List.length_map (f:=fA),s1,←s2,List.length_map]
  unfold kas_ask;rw[List.getD_eq_getElem?_getD,List.getD_eq_getElem?_getD,v1,v2];refine kat_lt (s:={ s with heap:=h' }) (kp _ _ g1) d1 (kp _ _ g2) d2 ?_;rw[show decide (us1.toArray.size<us2.toArray.size)=false from decide_eq_false (by rw[List.size_toArray,List.size_toArray];lia)];refine QI 0 (s1.trans s2.symm) l1 l2 ?_;have ec:qI rs i j=GJ r1 r2:=by
   unfold qI;rw[List.getD_eq_getElem?_getD,List.getD_eq_getElem?_getD,y1,y2];rfl
  rw[ec]at hC;exact hC
 ·exact⟨.ref D,_,I.laid (t':=s.toks) kp hD (show ObjOk X.prog X.w _ h' _ (.lst _) from⟨by rw[CO];exact hz,_,e,JK _ rv,o'⟩),rfl,q _ (I.hok.fresh hD)⟩
end
section
variable {prog:Program}{w:World}{A:Around}{E:Value->Shared->Prop}{s:Shared}{d it:Addr}{o:Obj}{es:Array DictEntry}{ep i:Nat}
theorem zF {Q:Value->Shared->Prop}(hd:(d==sysModules)=false)(ho:s.heap.get? d=some o)(hc:o.ExactDict)(hq:o.data= .dict es ep)
  (k:Q (.ref s.heap.objs.size) { s with heap:=s.heap.push { cls:= .type "dict_keyiterator",data:= .fields #[.ref d,.int 0 0,.int es.size 0,.int ep 0] } }):wpAny (model prog w) A (pyIter (.ref d)) Q E s:=by
 have T:s.TypeIs (.ref d) "dict" :=⟨o,ho,hc.1⟩
 refine wpAny_pyIter_slot T F.slot_dict_iter (wpAny_call_entry F.slot_dict_iter T F.entry_dict_iter ?_ (F.args_dict_iter_1 _));unfold Builtin.«dict.__iter__» Builtin.Dict.dictSlotNone;refine wpAny_bind (wpAny_bind (wpAny_notOrdered_dict T (wpAny_pure ?_)));show wpAny _ A.in1 (Builtin.Dict.showsAll d >>= _) _ _ s;unfold Builtin.Dict.showsAll;rw[if_neg (fun z=>by rw[hd]at z;cases z)];refine wpAny_bind (wpAny_pure (wpAny_bind (wpAny_dictEntries ho hq (wpAny_bind (wpAny_dictEpoch ho hq ?_)))));exact wpAny_bind (wpAny_newObj_type (wpAny_pure ⟨_,rfl,"dict_keyiterator",_,⟨_,Heap.get?_push_size _ rfl,rfl⟩,F.slot_dict_keyiterator_next.lookup,k⟩))
theorem GE {Q:Option Value->Shared->Prop}{e:DictEntry} (hit:s.heap.IsKeyIter it d i es.size ep) (ho:s.heap.get? d=some o) (hq:o.data= .dict es ep) (hx:es[i]? =some e)
  (k:∀h',h'.IsKeyIter it d (i+1) es.size ep->Heap.SameBut it s.heap h'->Q (some e.key) { s with heap:=h' }):wpAny (model prog w) A (pyNext (.ref it)) Q E s:=by
 obtain⟨oi,hi,ci,di⟩:=id hit;have T:=hit.typeIs;unfold pyNext;refine wpAny_bind (wpAny_attempt (wpAny_callSpecial?_slot (name:=Str.ofString "__next__") T F.slot_dict_keyiterator_next (wpAny_call_entry F.slot_dict_keyiterator_next T F.entry_dict_keyiterator_next ?_ (F.args_dict_keyiterator_next_1 _))));refine wpAny_bind (wpAny_pure (wpAny_bind (wpAny_bind ?_)))
 first|refine wpAny_bind (wpAny_typeNameOfWhole_keyiter T (wpAny_pure (wpAny_bind (wpAny_fieldsOf hi di ?_))))|refine wpAny_bind (wpAny_typeNameOf_keyiter T (wpAny_pure (wpAny_bind (wpAny_fieldsOf hi di ?_))))
 simp only[show Builtin.Dict_items.ownsTuple "dict_keyiterator" =false by decide,Bool.false_eq_true,if_false];show wpAny _ A.in1 (if (Value.ref d==Value.none)=true then _ else _) _ _ s;rw[if_neg (show ¬(Value.ref d==Value.none)=true from Bool.false_ne_true)];refine wpAny_bind (wpAny_pure (wpAny_bind (wpAny_dictEntries ho hq ?_)));rw[if_neg (by simp)];refine wpAny_bind (wpAny_pure (wpAny_bind (wpAny_dictEpoch ho hq ?_)));rw[if_neg (by simp)];refine wpAny_pure ?_;simp only[show ¬((i:Int)<0) from by lia,if_false,Int.toNat_natCast,hx];refine wpAny_bind ?_
 first|refine wpAny_bind (wpAny_typeNameOfWhole_keyiter T (wpAny_pure (wpAny_bind (wpAny_isOneOf_keyiter T ?_))))|refine wpAny_bind (wpAny_typeNameOf_keyiter T (wpAny_pure (wpAny_bind (wpAny_isOneOf_keyiter T ?_))))
 show wpAny _ A.in1 (setField (.ref it) 1 (rawInt ((i:Int)+1)) >>= _) _ _ s;refine wpAny_bind (wpAny_setField hi di (by simp) ?_);have H2:(s.heap.update it (Obj.mapFields (·.setIfInBounds 1 (rawInt ((i:Int)+1))))).IsKeyIter it d (i+1) es.size ep :=
  ⟨_,Heap.get?_update_self _ hi (Obj.isFreed_of_fields (Obj.data_mapFields di _)),(Obj.cls_mapFields ..).trans ci,(Obj.data_mapFields di _).trans (by simp[rawInt])⟩
 refine wpAny_bind (wpAny_holding (wpAny_bind (wpAny_isOneOf_keyiter (s:={ s with heap:=s.heap.update it (Obj.mapFields (·.setIfInBounds 1 (rawInt ((i:Int)+1)))) }) H2.typeIs ?_)));show wpAny _ A.in1 (pure e.key) _ _ _;exact wpAny_pure (wpAny_pure ⟨_,rfl,wpAny_pure (k _ H2 (Heap.SameBut.update ..))⟩)
theorem LN {Q:Option Value->Shared->Prop}(hh:A.handled=none)(hit:s.heap.IsKeyIter it d i es.size ep)(ho:s.heap.get? d=some o)(hq:o.data= .dict es ep)(hx:es.size<=i)
  (k:∀h',Heap.ExtBut it s.heap h'->Q none { s with heap:=h' }):wpAny (model prog w) A (pyNext (.ref it)) Q E s:=by
 obtain⟨oi,hi,ci,di⟩:=id hit;have T:=hit.typeIs;unfold pyNext;refine wpAny_bind (wpAny_attempt (wpAny_callSpecial?_slot (name:=Str.ofString "__next__") T F.slot_dict_keyiterator_next (wpAny_call_entry F.slot_dict_keyiterator_next T F.entry_dict_keyiterator_next ?_ (F.args_dict_keyiterator_next_1 _))));refine wpAny_bind (wpAny_pure (wpAny_bind (wpAny_bind ?_)))
 first|refine wpAny_bind (wpAny_typeNameOfWhole_keyiter T (wpAny_pure (wpAny_bind (wpAny_fieldsOf hi di ?_))))|refine wpAny_bind (wpAny_typeNameOf_keyiter T (wpAny_pure (wpAny_bind (wpAny_fieldsOf hi di ?_))))
 simp only[show Builtin.Dict_items.ownsTuple "dict_keyiterator" =false by decide,Bool.false_eq_true,if_false];show wpAny _ A.in1 (if (Value.ref d==Value.none)=true then _ else _) _ _ s;rw[if_neg (show ¬(Value.ref d==Value.none)=true from Bool.false_ne_true)];refine wpAny_bind (wpAny_pure (wpAny_bind (wpAny_dictEntries ho hq ?_)));rw[if_neg (by simp)];refine wpAny_bind (wpAny_pure (wpAny_bind (wpAny_dictEpoch ho hq ?_)));rw[if_neg (by simp)];refine wpAny_pure ?_;simp only[show ¬((i:Int)<0) from by lia,if_false,Int.toNat_natCast,Array.getElem?_eq_none hx];refine wpAny_bind ?_
 first|refine wpAny_bind (wpAny_typeNameOfWhole_keyiter T (wpAny_pure ?_))|refine wpAny_bind (wpAny_typeNameOf_keyiter T (wpAny_pure ?_))
 show wpAny _ A.in1 (setField (.ref it) 0 .none >>= _) _ _ s;refine wpAny_bind (wpAny_setField hi di (by simp) ?_);show wpAny _ A.in1 (newExc (.type "StopIteration") [] >>= _) _ _ _;refine wpAny_bind ?_;simp only[newExc,newTuple];refine wpAny_bind (wpAny_newObj_type (wpAny_bind (m:=firstArgMember _ _) (wpAny_of_eq (a:=Value.none) (by first|rfl|(simp only[firstArgMember];rfl)) (wpAny_newObj_type ?_ (by size_fits)))) (by size_fits));simp only[raiseNew];refine wpAny_bind (wpAny_handled ?_);rw[show A.in1.handled=none from hh];refine wpAny_bind (wpAny_pure (wpAny_throw ?_));refine wpAny_bind (wpAny_isInstance (b:=true) (T:= "StopIteration") ⟨_,Heap.get?_push_size _ rfl,rfl⟩ isSubtype_stop ?_);exact wpAny_pure (k _ (((Heap.SameBut.update ..).extBut.push _).push _))
end
def Itk (a:Addr)(o:Obj)(kvs:List (Key×V)):It :=
 ⟨fun i H=>H a=some (.frz o (.dK kvs))/\i<kvs.length,fun i H x H'=>H'=H/\∃k v,kvs[i]? =some (k,v)/\x=kV k,fun i H=>H a=some (.frz o (.dK kvs))/\kvs.length<=i⟩
def Itq (a:Addr)(o:Obj)(kvs:List (List Key×V)):It :=
 ⟨fun i H=>H a=some (.frz o (.dT kvs))/\i<kvs.length,fun i H x H'=>H'=H/\∃k v q,kvs[i]? =some (k,v)/\x= .ref q/\H q=some (.tup (k.map kV)),fun i H=>H a=some (.frz o (.dT kvs))/\kvs.length<=i⟩
theorem KT.get {H:Hp}:∀{kvs:List (List Key×V)}{xs:List (List Key×Addr×Value)}{i:Nat},KT H kvs xs->i<kvs.length->∃k v b u,kvs[i]? =some (k,v)/\xs[i]? =some (k,b,u)/\H b=some (.tup (k.map kV))
 | _,_,0,.cons h _,_=>⟨_,_,_,_,rfl,by rw[h.1];rfl,h.2.1⟩
 | _,_,i+1,.cons _ t,hi=>by
  obtain⟨k,v,b,u,e1,e2,e3⟩:=KT.get (i:=i) t (by simpa using hi);exact⟨k,v,b,u,by simpa using e1,by simpa using e2,e3⟩
 | _,_,_,.nil,hi=>by simp at hi
theorem KT.len {H:Hp}{kvs:List (List Key×V)}{xs:List (List Key×Addr×Value)} (r:KT H kvs xs):kvs.length=xs.length:=Paired.length r
theorem NL {P:Program}{w:World}{K:W.Frag}{tg:Expr} (a it:Addr) {o:Obj}{es:Array DictEntry}{ep:Nat} (kvs:List (List Key×V)) (hd:o.data= .dict es ep) (hz:es.size=kvs.length) :
  vM P w K tg (Itq a o kvs) [it] it (fun i h=>h.IsKeyIter it a i es.size ep) where
 mem:=by simp
 obj:=fun i h st b hb=>by
  have e:b=it:=by simpa using hb
  subst e;obtain⟨ob,e,c,d⟩:=st;exact⟨ob,e,fun v z=>by rw[d]at z;cases z⟩
 keep:=fun i h h' st k=>st.at fun ob e=>k it (by simp) ob e
 item:=by
  intro X hP hw hK hc i pins s σ H E I hf st hg;subst hP hw hK;obtain⟨ha,hi⟩:=hg;obtain⟨ho,hok⟩:=(show ObjOk X.prog X.w H s.heap a (.frz o (.dT kvs)) from I.hok a _ ha)
  obtain⟨z,y,xs,r,o',es',ep',h1,h2,h3,h4,h5⟩:=hok;rw[ho]at h1;cases h1;rw[hd]at h3;cases h3;obtain⟨k,v,b,u,e1,e2,e3⟩:=KT.get r hi;have e4:=entry_at h4 i;rw[e2]at e4;obtain⟨f0,f1,f2,f3,f4,f5⟩:=hf it (by simp);refine GE st ho hd e4 fun h' st' sb=> ?_;have I1:Inv X pins σ H { s with heap:=h' }:=I.turned (t':=s.toks) (fun b o hb e=>(sb.2 b hb).trans e) f0 f1 f3 f4 f5;exact⟨_,rfl,letGo_keyiter (s':={ s with heap:=h' }) st' ⟨.ref b,H,I1,rfl,⟨rfl,k,v,b,e1,rfl,e3⟩,st',fun b hb=>(hf b hb).1⟩⟩
 done:=by
  intro X hP hw hK hc i pins s σ H E I hf st hg;subst hP hw hK;obtain⟨ha,hi⟩:=hg;obtain⟨ho,hok⟩:=(show ObjOk X.prog X.w H s.heap a (.frz o (.dT kvs)) from I.hok a _ ha)
  obtain⟨f0,f1,f2,f3,f4,f5⟩:=hf it (by simp);exact LN (I.ok.hd hc) st ho hd (by lia) fun h' eb=>⟨rfl,I.turned (t':=s.toks) (fun b o hb e=>eb b o hb e) f0 f1 f3 f4 f5⟩
 self:=fun _ _ _ _ _ st h=>wpAny_pyIter_keyiter st h
def RQ (td:TE):TI:=fun σ H R=>td σ H fun x H1=>∃a kvs,x= .ref a/\H1 a=some (.dT kvs)/\∀o,R (Itq a o kvs) (upd H1 a (.frz o (.dT kvs)))
section
variable {X:Cx}{tg:Expr}
theorem Inv.freeze {pins:List (Addr×Obj)}{σ:St}{H:Hp}{s:Shared}{a:Addr}{u:HO}{o:Obj} (I:Inv X pins σ H s) (mu:Mut (some u)) (e:H a=some u) (ho:s.heap.get? a=some o) (new:ObjOk X.prog X.w (upd H a (.frz o u)) s.heap a (.frz o u)):Inv X pins σ (upd H a (.frz o u)) s :=
 I.write (t':=s.toks) (h':=s.heap) (by rw[e];exact mu) (.inl rfl) (fun b u _ z=>z) ⟨_,ho⟩ new
theorem UQ {l:Expr}{td:TE} (hl:PE X l td):PI X tg l (RQ td):=by
 intro pins s σ H R I h;refine thn (hl pins s σ H _ I h) fun v s1 ⟨x,H1,I1,r1,q1⟩=> ?_;obtain⟨a,kvs,rfl,hq,q⟩:=q1;cases r1;obtain⟨z,y,xs,r,o,es,ep,h1,h2,h3,h4,h5⟩:=(show ObjOk X.prog X.w H1 s1.heap a (.dT kvs) from I1.hok a _ hq)
 have hz:es.size=kvs.length:=by rw[size_of_entries h4,KT.len r]
 have hne:∀b ys,H1 b=some (.tup ys)->upd H1 a (.frz o (.dT kvs)) b=some (.tup ys):=fun b ys e=>by
  have hb:b≠a:=fun z=>by rw[z,hq]at e;cases e
  rw[aK hb];exact e
 have new:ObjOk X.prog X.w (upd H1 a (.frz o (.dT kvs))) s1.heap a (.frz o (.dT kvs)):=⟨h1,z,y,xs,KT.keeps r hne,o,es,ep,h1,h2,h3,h4,h5⟩
 have I2:Inv X pins σ (upd H1 a (.frz o (.dT kvs))) s1:=I1.freeze trivial hq h1 new;refine zF y h1 h2 h3 ?_;refine⟨s1.heap.objs.size,[s1.heap.objs.size],_,_,upd H1 a (.frz o (.dT kvs)),rfl,I2.kept (t':=s1.toks) fun b o e=>Heap.get?_push_of_some _ e,NL a _ kvs h3 hz,⟨_,Heap.get?_push_size _ rfl,rfl,rfl⟩,fun b hb=> ?_,q o⟩;have e:b=s1.heap.objs.size:=by simpa using hb
 subst e;exact I2.fpOk (Nat.le_refl _) (I2.hok.fresh (Nat.le_refl _))
end
section
variable {X:Cx}{e c:Expr}{te:TE}{lo hi:Option Expr}{tl th ts:TO}{pos p2:Pos}
end
def tH:V->Bool
 | .ref _=>true
 | x=>gJ x
section
variable {X:Cx}
end
section
variable {X:Cx}{pins:List (Addr×Obj)}{σ:St}{H:Hp}{s:Shared}
end
section
variable {X:Cx}
end
section
variable {K:W.Frag}{ti:TT}{te:TE}{σ:St}{ci:List Nat}{rest:St}{fin:List V->Hp->Prop}{H:Hp}{a:Addr}
end
theorem QG:bootBuiltins "sorted" =some (.builtin "sorted"):=by decide +kernel
theorem Room.units1 {k:Nat}{A:Around} (r:Room k A):A.units+1<cLine:=by have:=r.un;lia
section
variable {K:W.Frag}{H:Hp}{Q:VK}
end
section
variable {H:Hp}{Q:VK}{σ:St}
theorem VR (h:∀p H',H p=none->Same H H'->H' p=some (.dT [])->Q (.ref p) H'):QD σ H Q:=eJ h
theorem yT {κ:Type}[DecidableEq κ]{kvs:List (κ×V)}{k:κ}{v:V}{e:κ×V} (h:e∈cH kvs k v):e∈kvs∨e.1=k/\e.2=v:=by
 unfold cH at h
 split at h
 ·obtain⟨p,hp,e1⟩:=List.mem_map.mp h
  by_cases z:p.1=k
  ·rw[if_pos z]at e1;subst e1;exact .inr ⟨z,rfl⟩
  ·rw[if_neg z]at e1;subst e1;exact .inl hp
 ·rcases List.mem_append.mp h with h|h
  ·exact .inl h
  ·cases List.mem_singleton.mp h;exact .inr ⟨rfl,rfl⟩
end
section
variable {X:Cx}{K:W.Frag}
theorem oG {es:List Expr}{k:Nat}{t:TGs}{n:Nat}{pos:Pos} (hc:X.calm=true) (h:PGs X es t) (hK:X.K=K:=by rfl)
  (hn:(assignEach es X.env).length=n:=by rfl)(hst:(assignEach es X.env).findIdx? (·.1)=none:=by rfl):PG X (.Tuple es k pos) (HY K n t):=by
 subst hK;exact rJ hc h hn hst
theorem dI (hK:X.K=K:=by rfl):IxR X (U3 K):=by
 subst hK;exact dX
end
def MR (nx:St->Hp->Prop)(σ:St)(x v:V):VK:=fun y H3=>∃a H4,x= .ref a/\DPut H3 a y v H4/\nx σ H4
def OY (Q:VK)(x:V):VK:=fun y H2=>∃a v,x= .ref a/\DGet H2 a y (some v)/\Q v H2
def W8 (R:It->Hp->Prop):VK:=fun x H1=>∃a kvs,x= .ref a/\H1 a=some (.dT kvs)/\∀o,R (Itq a o kvs) (upd H1 a (.frz o (.dT kvs)))
section
variable {K:W.Frag}{H:Hp}{Q:VK}{σ:St}{nx rt bk ct:St->Hp->Prop}
theorem ZE {td ty tv:TE}{nx:St->Hp->Prop}{rt:VK}{bk ct:St->Hp->Prop} (h:tv σ H fun v H1=>td σ H1 fun x H2=>ty σ H2 (MR nx σ x v)):XB td ty tv ⟨nx,rt,bk,ct⟩ σ H:=h
theorem oY {p b:Addr}{v:V}{kvs:List (List Key×V)} (k:List Key) (e:H p=some (.dT kvs)) (eb:H b=some (.tup (k.map kV))) (hl:kvs.length<sizeLine)
  (h:∀H',SameBut p H H'->H' p=some (.dT (cH kvs k v))->nx σ H'):MR nx σ (.ref p) v (.ref b) H :=
 ⟨p,_,rfl,DPut.t e eb hl,h _ SameBut.upd aY⟩
theorem ZL {td ty:TE}(h:td σ H fun x H1=>ty σ H1 (OY Q x)):XG td ty σ H Q:=h
theorem oM {p b:Addr}{v:V}{kvs:List (List Key×V)} (k:List Key) (e:Rd H p (.dT kvs)) (eb:H b=some (.tup (k.map kV))) (hv:bA kvs k=some v) (h:Q v H):OY Q (.ref p) (.ref b) H :=
 ⟨p,v,rfl,.inr ⟨kvs,k,b,e,rfl,eb,hv.symm⟩,h⟩
theorem V6 {td:TE}{R:It->Hp->Prop} (h:td σ H (W8 R)):RQ td σ H R:=h
theorem VM {p:Addr}{kvs:List (List Key×V)}{R:It->Hp->Prop} (e:H p=some (.dT kvs)) (h:∀o H',SameBut p H H'->H' p=some (.frz o (.dT kvs))->R (Itq p o kvs) H'):W8 R (.ref p) H :=
 ⟨p,kvs,rfl,e,fun o=>h o _ SameBut.upd aY⟩
theorem QW {p:Addr}{xs:List V}{i:Int} (e:SqL K H p xs) (h0:0<=i) (h1:i<xs.length) (h:∀v∈xs,Q v H):OL K (.ref p) (.int i) H Q:=by
 have hl:i.toNat<xs.length:=by lia
 have e1:=dA (xs:=xs) (j:=i.toNat) (v:=xs[i.toNat]) (List.getElem?_eq_getElem hl);rw[show ((i.toNat:Nat):Int)=i by lia]at e1;exact⟨p,xs,i,_,rfl,rfl,e,e1,h _ (List.getElem_mem hl)⟩
end
theorem L5 {P:Program}{w:World}{k:Key}{u:Value} (h:(cB P w).is k u=true):RelV (kV k) u:=by
 rcases cT h with⟨i,t,rfl,rfl⟩|⟨x,t,rfl,rfl⟩
 ·exact⟨t,rfl⟩
 ·exact⟨t,rfl⟩
theorem JE {κ:Type}{kvs:List (κ×V)}{vs:List (κ×Value)}{i:Nat} (h:KV kvs vs) (hi:i<kvs.length):∃k v u,kvs[i]? =some (k,v)/\vs[i]? =some (k,u)/\RelV v u:=by
 induction h generalizing i with
 | nil=>exact absurd hi (Nat.not_lt_zero _)
 | @cons x y l m h t ih =>
  cases i with
  | zero=>exact⟨x.1,x.2,y.2,rfl,by rw[h.1];rfl,h.2⟩
  | succ i=>exact ih (Nat.lt_of_succ_lt_succ hi)
theorem FA {P:Program}{w:World}{κ:Type} [DecidableEq κ] {knd:KeyKind P w κ}:∀{es:List DictEntry}{kvs:List (κ×Value)}{i:Nat}{k:κ}{u:Value},Pairs knd es kvs->kvs[i]? =some (k,u)->∃e,es[i]? =some e/\knd.is k e.key=true/\e.val=u
 | _,_,0,_,_,.cons h1 h2 _,z=>by cases z;exact⟨_,rfl,h1,h2⟩
 | _,_,i+1,_,_,.cons _ _ t,z=>by
  obtain⟨e,e1,e2⟩:=FA (i:=i) t (by simpa using z);exact⟨e,by simpa using e1,e2⟩
 | _,_,_,_,_,.nil,z=>by simp at z
theorem M5 {P:Program}{w:World}{K:W.Frag}{tg:Expr} (a it:Addr) {o:Obj}{es:Array DictEntry}{ep:Nat} (kvs:List (Key×V)) (hd:o.data= .dict es ep) (hz:es.size=kvs.length) :
  vM P w K tg (Itk a o kvs) [it] it (fun i h=>h.IsKeyIter it a i es.size ep) where
 mem:=by simp
 obj:=fun i h st b hb=>by
  have e:b=it:=by simpa using hb
  subst e;obtain⟨ob,e,c,d⟩:=st;exact⟨ob,e,fun v z=>by rw[d]at z;cases z⟩
 keep:=fun i h h' st k=>st.at fun ob e=>k it (by simp) ob e
 item:=by
  intro X hP hw hK hc i pins s σ H E I hf st hg;subst hP hw hK;obtain⟨ha,hi⟩:=hg;obtain⟨ho,z,y,vs,r,o',es',ep',h1,h2,h3,h4,h5,h6⟩:=(show ObjOk X.prog X.w H s.heap a (.frz o (.dK kvs)) from I.hok a _ ha)
  rw[ho]at h1;cases h1;rw[hd]at h3;cases h3;obtain⟨k,v,u,e1,e2,e3⟩:=JE r hi;obtain⟨e,f6,f7,f8⟩:=FA h5 e2;obtain⟨f0,f1,f2,f3,f4,f5⟩:=hf it (by simp);refine GE st ho hd (e:=e) (by simpa using f6) fun h' st' sb=> ?_;have I1:Inv X pins σ H { s with heap:=h' }:=I.turned (t':=s.toks) (fun b o hb e=>(sb.2 b hb).trans e) f0 f1 f3 f4 f5;exact⟨_,rfl,letGo_keyiter (s':={ s with heap:=h' }) st' ⟨kV k,H,I1,L5 f7,⟨rfl,k,v,e1,rfl⟩,st',fun b hb=>(hf b hb).1⟩⟩
 done:=by
  intro X hP hw hK hc i pins s σ H E I hf st hg;subst hP hw hK;obtain⟨ha,hi⟩:=hg;obtain⟨ho,hok⟩:=(show ObjOk X.prog X.w H s.heap a (.frz o (.dK kvs)) from I.hok a _ ha)
  obtain⟨f0,f1,f2,f3,f4,f5⟩:=hf it (by simp);exact LN (I.ok.hd hc) st ho hd (by lia) fun h' eb=>⟨rfl,I.turned (t':=s.toks) (fun b o hb e=>eb b o hb e) f0 f1 f3 f4 f5⟩
 self:=fun _ _ _ _ _ st h=>wpAny_pyIter_keyiter st h
def QH (td:TE):TI:=fun σ H R=>td σ H fun x H1=>∃a kvs,x= .ref a/\H1 a=some (.dK kvs)/\∀o,R (Itk a o kvs) (upd H1 a (.frz o (.dK kvs)))
section
variable {X:Cx}{tg:Expr}
theorem yU {l:Expr}{td:TE} (hl:PE X l td):PI X tg l (QH td):=by
 intro pins s σ H R I h;refine thn (hl pins s σ H _ I h) fun v s1 ⟨x,H1,I1,r1,q1⟩=> ?_;obtain⟨a,kvs,rfl,hq,q⟩:=q1;cases r1;obtain⟨z,y,vs,r,o,es,ep,h1,h2,h3,h4,h5,h6⟩:=(show ObjOk X.prog X.w H1 s1.heap a (.dK kvs) from I1.hok a _ hq)
 have hz:es.size=kvs.length:=by rw[r.length,←h5.length];simp
 have new:ObjOk X.prog X.w (upd H1 a (.frz o (.dK kvs))) s1.heap a (.frz o (.dK kvs)):=⟨h1,z,y,vs,r,o,es,ep,h1,h2,h3,h4,h5,h6⟩
 have I2:Inv X pins σ (upd H1 a (.frz o (.dK kvs))) s1:=I1.freeze trivial hq h1 new;refine zF y h1 h2 h3 ?_;refine⟨s1.heap.objs.size,[s1.heap.objs.size],_,_,upd H1 a (.frz o (.dK kvs)),rfl,I2.kept (t':=s1.toks) fun b o e=>Heap.get?_push_of_some _ e,M5 a _ kvs h3 hz,⟨_,Heap.get?_push_size _ rfl,rfl,rfl⟩,fun b hb=> ?_,q o⟩;have e:b=s1.heap.objs.size:=by simpa using hb
 subst e;exact I2.fpOk (Nat.le_refl _) (I2.hok.fresh (Nat.le_refl _))
end
section
variable {X:Cx}
end
section
variable {X:Cx}{pins:List (Addr×Obj)}{σ:St}{H:Hp}{s:Shared}{a:Addr}{o:Obj}{u:HO}
theorem Inv.thaw (I:Inv X pins σ H s)(h0:∀o u,X.H₀ a≠some (.frz o u))(e:H a=some (.frz o u)):Inv X pins σ (upd H a u) s:=by
 have nn:∀b,H b=none->b≠a:=fun b n z=>by rw[z,e]at n;cases n
 have no:∀b c,H b=some (.own c)->b≠a:=fun b c n z=>by rw[z,e]at n;cases n
 have nt:∀b xs,H b=some (.tup xs)->b≠a:=fun b c n z=>by rw[z,e]at n;cases n
 refine⟨I.ok,I.os,I.bare,⟨I.base.keep,I.base.slot,fun b ob q n hx=> ?_,I.base.there,fun b xs q=> ?_,fun b ob xs q=> ?_,fun b ps q=> ?_⟩,I.loc,I.cell,?_,fun x c ec=> ?_,fun p hp=> ?_,fun b v q=> ?_,I.len⟩
 ·have z:=I.base.free b ob q n hx;rw[aK (nn b z)];exact z
 ·have z:=I.base.tups b xs q;rw[aK (nt b xs z)];exact z
 ·have z:=I.base.frzs b ob xs q;have hb:b≠a:=fun y=>h0 ob xs (by rw[←y];exact q);rw[aK hb];exact z
 ·obtain⟨more,z⟩:=I.base.tbls b ps q;refine⟨more,?_⟩;rw[aK (fun y=>by rw[y,e]at z;cases z)];exact z
 ·rw[aK (nn _ I.free)];exact I.free
 ·rw[aK (nn _ (I.freeC x c ec))];exact I.freeC x c ec
 ·obtain⟨p1,p2,p3⟩:=I.pin p hp;exact⟨p1,by rw[aK (nn _ p2)];exact p2,p3⟩
 ·have so:∀b c,H b=some (.own c)->upd H a u b=some (.own c):=fun b c z=>by rw[aK (no b c z)];exact z
  have st:∀b xs,H b=some (.tup xs)->upd H a u b=some (.tup xs):=fun b c z=>by rw[aK (nt b c z)];exact z
  by_cases hb:b=a
  ·subst hb;rw[aY]at q;cases q;obtain⟨_,z⟩:=(show ObjOk X.prog X.w H s.heap b (.frz o u) from I.hok b _ e)
   exact z.stay (fun _ _ _ q=>q) (fun c z=>so c b z) st
  ·rw[aK hb]at q;exact(I.hok b v q).stay (fun _ _ _ q=>q) (fun c z=>so c b z) st
theorem Inv.wasFree (I:Inv X pins σ H s)(h:∀o u,H a≠some (.frz o u)):∀o u,X.H₀ a≠some (.frz o u):=fun o u z=>h o u (I.base.frzs a o u z)
end
def fU (a:Addr)(R:Hp->Prop):Hp->Prop:=fun H=>∃o u,H a=some (.frz o u)/\R (upd H a u)
def W3 (te:TE):TE:=fun σ H Q=>∃a,(∀o u,H a≠some (.frz o u))/\te σ H fun x=>fU a (Q x)
def W0 (ts:TS):TS:=fun D σ H=>∃a,(∀o u,H a≠some (.frz o u))/\ts ⟨fun σ'=>fU a (D.nx σ'),fun v=>fU a (D.rt v),fun σ'=>fU a (D.bk σ'),fun σ'=>fU a (D.ct σ')⟩ σ H
section
variable {X:Cx}
theorem DX {e:Expr}{te:TE} (he:PE X e te):PE X e (W3 te):=by
 intro pins s σ H Q I h;obtain⟨a,h0,h⟩:=h;refine thn (he pins s σ H _ I h) fun v s1 ⟨x,H1,I1,r1,o,u,e,q⟩=> ?_;exact⟨x,_,I1.thaw (I.wasFree h0) e,r1,q⟩
theorem ZW {st:Stmt}{ts:TS} (he:PS X st ts):PS X st (W0 ts):=by
 intro pins s σ H D I h;obtain⟨a,h0,h⟩:=h;refine thn (he pins s σ H _ I h) fun f s1 z=> ?_;cases f with
 | next=>obtain⟨σ1,H1,I1,o,u,e,q⟩:=z;exact⟨σ1,_,I1.thaw (I.wasFree h0) e,q⟩
 | brk=>obtain⟨σ1,H1,I1,o,u,e,q⟩:=z;exact⟨σ1,_,I1.thaw (I.wasFree h0) e,q⟩
 | cont=>obtain⟨σ1,H1,I1,o,u,e,q⟩:=z;exact⟨σ1,_,I1.thaw (I.wasFree h0) e,q⟩
 | ret v=>obtain⟨x,σ1,H1,I1,r,o,u,e,q⟩:=z;exact⟨x,σ1,_,I1.thaw (I.wasFree h0) e,r,q⟩
end
theorem IB:∀bs:List Bool,((List.range bs.length).any fun i=>bs.getD i false)=bs.any id
 | []=>rfl
 | b::bs=>by
  rw[List.length_cons,List.range_succ_eq_map,List.any_cons,List.any_map,List.any_cons,←IB bs];rfl
theorem A5:∀{ns:List Int}{us:List Value},Vals (ns.map V.int) us->∃xs:List (Int×Tok),us=xs.map (fun p=>Value.int p.1 p.2)/\ns=xs.map (·.1)
 | [],_,.nil=>⟨[],rfl,rfl⟩
 | n::ns,_,.cons r t=>by
  obtain⟨xs,rfl,rfl⟩:=A5 t;obtain⟨tk,rfl⟩:=r;exact⟨(n,tk)::xs,rfl,rfl⟩
section
variable {X:Cx}
def aA4 (K:W.Frag):List V->Hp->VK->Prop:=fun xs H Q=>∃(p:Addr) (bs:List Bool),xs=[.ref p]/\SqL K H p (bs.map V.bl)/\Q (.bl (bs.any id)) H
theorem E2 (hc:X.calm=true):cS X (.builtin "any") (aA4 X.K):=by
 intro pins s σ H xs us Q I r h;obtain⟨p,bs,rfl,hq,q⟩:=h;obtain⟨u,rfl,rx⟩:=jW r;cases rx;obtain⟨its,r',pl,hz⟩:=I.list hq;have hl:=pl.isList;have hlt:p<s.heap.objs.size:=by obtain⟨_,e,_⟩:=hl;exact Heap.lt_size e
 have hlen:bs.length=its.length:=by have:=r'.length;rw[List.length_map]at this;exact this
 refine call_any_walk (wpAny_pyIter_list hl ?_);refine⟨s.heap.objs.size,_,_,its.toArray.size,_,_,fun i=>bs.getD i false,rfl,Walks.list (show X.A.in1.handled=none from I.ok.hd hc) s.heap.objs.size p (Nat.ne_of_lt hlt) its.toArray,⟨⟨_,Heap.get?_push_size _ rfl,rfl,rfl⟩,hl.push _⟩,?_,?_⟩
 ·intro i v s' Q' E' hi hQ;have hi':its[i]? =some v:=by simpa using hi
  have hib:i<bs.length:=by rw[hlen];exact(List.getElem?_eq_some_iff.mp hi').1
  obtain⟨u,hu,ru⟩:=r'.get (i:=i) (x:=V.bl bs[i]) (by rw[List.getElem?_map,List.getElem?_eq_getElem hib];rfl);rw[hi']at hu;cases hu;have:v=Value.bool bs[i]:=ru;subst this;refine wpAny_truthy_bool ?_;have eb:bs.getD i false=bs[i]:=by rw[List.getD_eq_getElem?_getD,List.getElem?_eq_getElem hib];rfl
  have hQ':Q' (bs.getD i false) s':=hQ;rw[eb]at hQ';exact hQ'
 ·intro h' tk hk;have eany:(List.range its.toArray.size).any (fun i=>bs.getD i false)=bs.any id:=by
   rw[List.size_toArray,←hlen];exact IB bs
  rw[eany];refine⟨.bl (bs.any id),H,?_,rfl,q⟩;have I1:Inv X pins σ H { s with heap:=s.heap.push { cls:= .type "list_iterator",data:= .fields #[.ref p,.int 0 0] },toks:=s.toks }:=I.kept fun b u e=>Heap.get?_push_of_some _ e;obtain⟨f0,f1,f2,f3,f4,f5⟩:=I.fpOk (Nat.le_refl _) (I.hok.fresh (Nat.le_refl _));exact I1.turned (fun b o hb e=>hk b o (by simpa using hb) e) f0 f1 f3 f4 f5
def aBH (K:W.Frag):List V->Hp->VK->Prop:=fun xs H Q=>∃(p:Addr) (ns:List Int),xs=[.ref p]/\SqL K H p (ns.map V.int)/\Q (.int ns.sum) H
theorem QC (hc:X.calm=true):cS X (.builtin "sum") (aBH X.K):=by
 intro pins s σ H xs us Q I r h;obtain⟨p,ns,rfl,hq,q⟩:=h;obtain⟨u,rfl,rx⟩:=jW r;cases rx;obtain⟨its,r',pl,hz⟩:=I.list hq;obtain⟨zs,rfl,rfl⟩:=A5 r';have hl:s.heap.IsList p (intItems zs.toArray):=by
  have:=pl.isList
  simpa [intItems] using this
 refine sum_intListG (I.ok.hd hc) hl fun h' tk t' hk=> ?_;have e2:preSum (numAt zs.toArray) zs.toArray.size=(zs.map (·.1)).sum:=by
  rw[preSum_eq,List.take_of_length_le (by simp)]
 rw[e2];exact⟨.int (zs.map (·.1)).sum,H,I.kept hk,⟨t',rfl⟩,q⟩
end
section
variable {K:W.Frag}{H:Hp}{Q:VK}
theorem RN {p:Addr}{bs:List Bool} (e:SqL K H p (bs.map V.bl)) (h:Q (.bl (bs.any id)) H):aA4 K [.ref p] H Q:=⟨p,bs,rfl,e,h⟩
theorem aBB {p:Addr}{ns:List Int} (e:SqL K H p (ns.map V.int)) (h:Q (.int ns.sum) H):aBH K [.ref p] H Q:=⟨p,ns,rfl,e,h⟩
end
theorem P2:bootBuiltins "any" =some (.builtin "any"):=by decide +kernel
theorem QU:bootBuiltins "sum" =some (.builtin "sum"):=by decide +kernel
theorem YH:typeLookup (.type "list") "keys" =pure none:=by rw[typeLookup_type,builtinLookup_eq_fast];kernel_rfl
theorem YN:typeLookup (.type "list") "__getattr__" =pure none:=by rw[typeLookup_type,builtinLookup_eq_fast];kernel_rfl
theorem JM:isSubtype (.type "AttributeError") (.type "AttributeError")=pure true:=by rw[isSubtype_type];kernel_rfl
theorem WD:((Manifest.find? "AttributeError").elim false fun t=>t.mro.contains "StopIteration" ||t.mro.contains "SystemExit")=false:=by decide +kernel
section
variable {prog:Program}{w:World}{A:Around}{E:Value->Shared->Prop}{s:Shared}
theorem WL {α:Type}{v:Value}{a:Addr}{Q:α->Shared->Prop} (hh:A.handled=none)
  (k:∀e h' tk' o,h'.get? e=some o->o.cls= .type "AttributeError" ->(∀b o,s.heap.get? b=some o->h'.get? b=some o)->E (.ref e) { s with heap:=h',toks:=tk' }) :
  wpAny (model prog w) A (do
   let e ←newExc (.type "AttributeError") [v];let l ←mkText "keys"
   noteAttr e (.ref a) l
   raiseNew e) Q E s:=by
 unfold newExc newTuple;refine wpAny_bind (wpAny_bind (wpAny_newObj_type (wpAny_bind (m:=firstArgMember _ _) (wpAny_of_eq (a:=Value.none) (by simp only[firstArgMember,WD];rfl) (wpAny_newObj_type ?_ (by size_fits)))) (by size_fits)));refine wpAny_bind (wpAny_mkText ?_);refine wpAny_bind ?_;unfold noteAttr;refine wpAny_bind ?_;unfold lacksNameAndObj;have e1:(#[Value.ref s.heap.objs.size,.none,.none,.none,.bool false,.none]++ownMembersOf (.type "AttributeError") [v]:Array Value)= #[Value.ref s.heap.objs.size,.none,.none,.none,.bool false,.none,unsetMember,unsetMember]:=rfl;rw[e1];generalize hs:s.heap.push { cls:=Value.type "tuple",data:=Data.seq #[v] }=h1;have ho:(h1.push { cls:= .type "AttributeError",data:= .fields #[Value.ref s.heap.objs.size,.none,.none,.none,.bool false,.none,unsetMember,unsetMember] }).get? h1.objs.size=some { cls:= .type "AttributeError",data:= .fields #[Value.ref s.heap.objs.size,.none,.none,.none,.bool false,.none,unsetMember,unsetMember] }:=Heap.get?_push_size _ rfl;refine wpAny_bind (wpAny_isInstance (b:=true) (T:= "AttributeError") ⟨_,ho,rfl⟩ JM ?_);refine wpAny_bind (wpAny_load ho ?_);refine wpAny_pure ?_;refine wpAny_bind (wpAny_rule ?_);refine wpAny_bind (wpAny_typeOf (T:= "AttributeError") ⟨_,ho,rfl⟩ ?_);unfold layMembers;refine wpAny_bind (wpAny_load ho ?_);refine wpAny_update ho ?_;simp only[raiseNew];refine wpAny_bind (wpAny_handled ?_);rw[hh];refine wpAny_bind (wpAny_pure (wpAny_throw ?_));refine k h1.objs.size _ _ _ (Heap.get?_update_self _ ho (Obj.isFreed_of_fields (Obj.data_mapFields rfl _))) (Obj.cls_mapFields ..) fun b o e=> ?_;have hb:b≠h1.objs.size:=fun z=>by
  have h2:h1.objs.size=s.heap.objs.size+1:=by rw[←hs];simp[Heap.push]
  have h3:=Heap.lt_size e;rw[z,h2]at h3;exact absurd h3 (Nat.not_lt.mpr (Nat.le_succ _))
 exact(Heap.get?_update_other _ _ (Ne.symm hb)).trans (Heap.get?_push_of_some _ (by rw[←hs];exact Heap.get?_push_of_some _ e))
theorem OE {a:Addr}{its:Array Value}{n:Nat}{tk:Tok}{Q:Fin->Shared->Prop} (hh:A.handled=none) (hx:s.heap.get? a=some { cls:= .type "list",data:= .seq its n })
  (k:∀e h' tk' o,h'.get? e=some o->o.cls= .type "AttributeError" ->(∀b o,s.heap.get? b=some o->h'.get? b=some o)->E (.ref e) { s with heap:=h',toks:=tk' }) :
  wpAny (model prog w) A (Builtin.«object.__getattribute__» ⟨[.ref a,.str "keys" tk],[]⟩) Q E s:=by
 obtain⟨h,g,d,t,os⟩:=s;have hT:(⟨h,g,d,t,os⟩:Shared).TypeIs (.ref a) "list" :=⟨_,hx,rfl⟩
 have f4:=YH
 repeat (any_goals (first|assumption|wp_step))
 refine wpAny_bind (wpAny_mkStr ?_ (by rw[sizeLine_eq];decide +kernel));exact WL hh fun e h' tk' o e1 e2 e3=>k e h' tk' o e1 e2 e3
theorem Q2 {a:Addr}{its:Array Value}{n:Nat}{tk:Tok}{R:Result->Shared->Prop} (hh:A.handled=none) (hx:s.heap.get? a=some { cls:= .type "list",data:= .seq its n })
  (k:∀e h' tk' o,h'.get? e=some o->o.cls= .type "AttributeError" ->(∀b o,s.heap.get? b=some o->h'.get? b=some o)->R (.error (.ref e)) { s with heap:=h',toks:=tk' }) :
  codeAny (model prog w) A (.call (.builtin "list.__getattribute__") ⟨[.ref a,.str "keys" tk],[]⟩) R s:=by
 obtain⟨h,g,d,t,os⟩:=s;exact codeAny_call_builtin F.slot_list_getattribute.plain F.entry_list_ga (F.slot_list_getattribute.check _ _ _ _ _ _ _ _ (show (⟨h,g,d,t,os⟩:Shared).TypeIs (.ref a) "list" from⟨_,hx,rfl⟩) (F.args_list_getattribute_2 _ _) (OE hh hx k))
theorem YQ {a:Addr}{its:Array Value}{n:Nat}{Q:Option Value->Shared->Prop} (hh:A.handled=none) (hx:s.heap.get? a=some { cls:= .type "list",data:= .seq its n })
  (k:∀h' tk',(∀b o,s.heap.get? b=some o->h'.get? b=some o)->Q none { s with heap:=h',toks:=tk' }):wpAny (model prog w) A (getAttr? (.ref a) "keys") Q E s:=by
 obtain⟨h,g,d,t,os⟩:=s;have hT:(⟨h,g,d,t,os⟩:Shared).TypeIs (.ref a) "list" :=⟨_,hx,rfl⟩
 have f2:=F.slot_list_getattribute.lookup;have f3:=F.slot_list_getattribute.bind (.ref a);unfold getAttr? getAttrBy?
 repeat (any_goals (first|assumption|wp_step))
 refine Q2 hh hx fun e h' tk' o e1 e2 e3=> ?_;have hE:(⟨h',g,d,tk',os⟩:Shared).TypeIs (.ref e) "AttributeError" :=⟨_,e1,e2⟩
 show wpAny (model prog w) A (getattributeRaised (Value.ref a) (Value.str (Str.ofString "keys") t) (.type "list") (.ref e) none false false) _ _ (⟨h',g,d,tk',os⟩:Shared);unfold getattributeRaised;refine wpAny_bind (wpAny_isInstance (b:=true) hE JM ?_);show wpAny (model prog w) A (typeLookup (.type "list") "__getattr__" >>= fun x=>hookOrError (Value.ref a) (Value.str (Str.ofString "keys") t) (.ref e) false false x) _ _ (⟨h',g,d,tk',os⟩:Shared);rw[YN];refine wpAny_bind (wpAny_pure ?_);refine wpAny_throw ?_;refine wpAny_bind (wpAny_isInstance (b:=true) hE JM ?_);exact wpAny_pure (k h' tk' e3)
end
theorem rE:entryFor table "dict.update.loop" =some Builtin.«dict.update.loop»:=entryFor_of_tree (by kernel_rfl)
theorem gQ:plainId "dict.update.loop" =true:=by decide +kernel
def P5 {κ:Type}[DecidableEq κ](kvs ps:List (κ×Value)):List (κ×Value):=ps.foldl (fun acc p=>stored acc p.1 p.2) kvs
theorem NG {κ:Type}[DecidableEq κ](kvs:List (κ×Value))(k:κ)(v:Value):(stored kvs k v).length<=kvs.length+1:=by
 unfold stored
 split
 ·rw[List.length_map];exact Nat.le_succ _
 ·rw[List.length_append];exact Nat.le_refl _
section
variable {prog:Program}{w:World}{A:Around}{E:Value->Shared->Prop}{κ:Type} [DecidableEq κ] {knd:KeyKind prog w κ}{I d:Addr}{fp wr:List Addr}{n:Nat}{P:Nat->Value->Prop}{St:Nat->Heap->Prop}{R:Result->Shared->Prop}
def aCB (knd:KeyKind prog w κ)(d:Addr)(wr:List Addr)(P:Nat->Value->Prop)(ps:List (κ×Value))(h:Heap):Prop :=
 ∀i v,P i v->∃(q:Addr) (o:Obj) (key:Value) (k:κ) (u:Value) (c:Nat),v= .ref q/\q∉wr/\q≠d/\h.get? q=some o/\o.cls= .type "tuple" /\o.data= .seq #[key,u] c/\knd.is k key=true/\ps[i]? =some (k,u)
theorem VJ (W:Walks prog w A.in1 I fp wr n P St)(hdf:d∉fp)(ps:List (κ×Value))(hn:ps.length=n)(hsz:n<=sizeLine) :
  ∀(k i:Nat) (s:Shared) (kvs:List (κ×Value)),n - i=k->i<=n->St i s.heap->kvs.length<=i->s.heap.DictOf knd d kvs->aCB knd d wr P ps s.heap →
  (∀h' tk,h'.DictOf knd d (P5 kvs (ps.drop i))->(∀b o,b∉wr->b≠d->s.heap.get? b=some o->h'.get? b=some o)->R (.ok (.ret .none)) { s with heap:=h',toks:=tk }) →
  codeAny (model prog w) A (.builtin "dict.update.loop" ⟨[.ref d,.ref I,rawInt i,.none],[]⟩) R s:=by
 have hdw:d∉wr:=fun h=>hdf (W.sub _ h);intro k
 induction k with
 | zero =>
  intro i s kvs hk hi hst hl hd hrow hR;have hin:i=n:=by lia
  subst hin;refine codeAny_builtin rE ?_;rw[Around.under_plainId gQ _];show wpAny _ A.in1 (pyNext (.ref I) >>= _) _ _ s;refine wpAny_bind (W.done s _ _ hst fun h' tk hk'=> ?_);show wpAny _ _ (Builtin.Dict.addKeywords d [] >>= _) _ _ _;refine wpAny_bind (wpAny_pure (wpAny_pure (hR h' tk ?_ fun b o hb _ e=>hk' b o hb e)));rw[List.drop_of_length_le (by lia)];exact hd.at fun o e=>hk' d o hdw e
 | succ k ih =>
  intro i s kvs hk hi hst hl hd hrow hR;have hlt:i<n:=by lia
  refine codeAny_builtin rE ?_;rw[Around.under_plainId gQ _];show wpAny _ A.in1 (pyNext (.ref I) >>= _) _ _ s;refine wpAny_bind (W.item i s _ _ hlt hst fun v h' tk hP hst' hk'=> ?_);obtain⟨q,o,key,kk,u,c,rfl,hqw,hqd,ho,hc,hdt,his,hps⟩:=hrow i v hP;have ho':=hk' q o hqw ho;refine wpAny_bind (wpAny_holding (wpAny_bind (wpAny_tryCatch ?_)));unfold Builtin.Dict.pairItems;refine wpAny_bind (wpAny_typeOf (T:= "tuple") ⟨o,ho',hc⟩ ?_);rw[if_pos (by rfl)];refine wpAny_bind (wpAny_seqItems ho' hdt (wpAny_pure ?_));have hd':h'.DictOf knd d kvs:=hd.at fun o e=>hk' d o hdw e;refine wpAny_holding (wpAny_dictSet_pairs his hd' (fun h2 hd2 sb=> ?_) (by lia));have keep:∀b o,b∉wr->b≠d->s.heap.get? b=some o->h2.get? b=some o:=fun b o hb hbd e=>(sb.2 b hbd).trans (hk' b o hb e);refine wpAny_pure ⟨plainId_quiet gQ _,ih (i+1) _ (stored kvs kk u) (by lia) hlt (W.frame _ _ _ hst' fun b hb o e=>(sb.2 b (fun z=>hdf (z▸hb))).trans e) (Nat.le_trans (NG ..) (by lia)) hd2 (fun j v hj=> ?_) fun h3 tk3 hd3 hk3=> ?_⟩
  ·obtain⟨q,o,key,kk,u,c,e1,e2,e3,e4,e5⟩:=hrow j v hj;exact⟨q,o,key,kk,u,c,e1,e2,e3,keep q o e2 e3 e4,e5⟩
  ·refine hR h3 tk3 ?_ fun b o hb hbd e=>hk3 b o hb hbd (keep b o hb hbd e);have ed:ps.drop i=(kk,u)::ps.drop (i+1):=by
    have hi2:i<ps.length:=by lia
    rw[List.drop_eq_getElem_cons hi2];have:=(List.getElem?_eq_some_iff.mp hps).2;rw[this]
   rw[ed];exact hd3
end
section
variable {prog:Program}{w:World}{A:Around}{E:Value->Shared->Prop}{κ:Type} [DecidableEq κ] {knd:KeyKind prog w κ}{s:Shared}{l:Addr}{its:Array Value}{c:Nat}
theorem Q8 {ps:List (κ×Value)}{Q:Value->Shared->Prop} (hh:A.handled=none) (hl:s.heap.get? l=some { cls:= .type "list",data:= .seq its c }) (hsz:its.size<=sizeLine) (hlen:ps.length=its.size)
  (hrow:∀(i:Nat) (v:Value),its[i]? =some v->∃(q:Addr) (o:Obj) (key:Value) (k:κ) (u:Value) (c:Nat),v= .ref q/\s.heap.get? q=some o/\o.cls= .type "tuple" /\o.data= .seq #[key,u] c/\knd.is k key=true/\ps[i]? =some (k,u))
  (h:∀h' tk,h'.DictOf knd s.heap.objs.size (P5 [] ps)->(∀b o,s.heap.get? b=some o->h'.get? b=some o)->Q (.ref s.heap.objs.size) { s with heap:=h',toks:=tk }) :
  wpAny (model prog w) A (call (.type "dict") [.ref l]) Q E s:=by
 refine callType_codes (Q₁:=fun obj s₁=>obj= .ref s.heap.objs.size/\s₁={ s with heap:=s.heap.push { cls:= .type "dict",data:= .dict #[] } }) F.kt_called_dict (F.kt_typeCall_dict_1 _) F.entry_dict_init (kt_code_dict_new _ ⟨rfl,rfl⟩) ?_;rintro obj s₁ ⟨rfl,rfl⟩;have hnew:(s.heap.push { cls:= .type "dict",data:= .dict #[] }).DictOf knd s.heap.objs.size []:=Heap.DictOf.new s.heap;have hl':(s.heap.push { cls:= .type "dict",data:= .dict #[] }).get? l=some { cls:= .type "list",data:= .seq its c }:=Heap.get?_push_of_some _ hl;refine⟨hnew.typeIs,F.args_dict_init_2 _ _,?_⟩;unfold Builtin.«dict.__init__»;refine wpAny_bind ?_;unfold Builtin.Dict.selfAndRest;refine wpAny_bind (wpAny_notOrdered_dict hnew.typeIs ?_);show wpAny _ _ (pure (s.heap.objs.size,[Value.ref l])) _ _ _;refine wpAny_pure ?_;show wpAny _ _ (Builtin.Dict.updateFrom "dict.__init__" s.heap.objs.size (.ref l) [] .none) _ _ _;unfold Builtin.Dict.updateFrom;refine wpAny_bind (wpAny_typeOf (T:= "list") ⟨_,hl',rfl⟩ ?_);rw[if_pos (by decide)];refine wpAny_bind (YQ hh hl' fun h1 t1 kp1=> ?_);rw[if_pos (show (none:Option Value).isNone=true from rfl)];refine wpAny_bind (wpAny_rule ?_);have hl1:=kp1 _ _ hl';have isl:h1.IsList l its:=⟨_,hl1,rfl,_,rfl⟩
 have lt1:∀b o,s.heap.get? b=some o->b≠h1.objs.size:=fun b o e z=>by
  have:=Heap.lt_size (kp1 b o (Heap.get?_push_of_some _ e));rw[z]at this;exact Nat.lt_irrefl _ this
 have hdI:s.heap.objs.size≠h1.objs.size:=fun z=>by
  have:=Heap.lt_size (kp1 _ _ (Heap.get?_push_size s.heap (o:={ cls:= .type "dict",data:= .dict #[] }) rfl));rw[z]at this;exact Nat.lt_irrefl _ this
 have hdl:∀b o,s.heap.get? b=some o->b≠s.heap.objs.size:=fun b o e z=>by
  have:=Heap.lt_size e;rw[z]at this;exact Nat.lt_irrefl _ this
 refine wpAny_bind (wpAny_pyIter_list isl ?_);refine wpAny_pure ⟨plainId_quiet gQ _,?_⟩;have W:=Walks.list (prog:=prog) (w:=w) (A:=A.in1.in1) hh h1.objs.size l (lt1 _ _ hl) its;refine VJ (knd:=knd) W (by simp only[List.mem_cons,List.not_mem_nil,or_false,not_or];exact⟨hdI,Ne.symm (hdl _ _ hl)⟩) ps hlen hsz its.size 0 _ [] (Nat.sub_zero _) (Nat.zero_le _) ⟨⟨_,Heap.get?_push_size _ rfl,rfl,rfl⟩,isl.push _⟩ (Nat.le_refl _) ((hnew.at fun o e=>kp1 _ o e).push _) (fun i v hi=> ?_) fun h' tk hd hk=> ?_
 ·obtain⟨q,o,key,k,u,c',e1,e2,e3,e4,e5,e6⟩:=hrow i v hi;refine⟨q,o,key,k,u,c',e1,?_,hdl _ _ e2,Heap.get?_push_of_some _ (kp1 _ _ (Heap.get?_push_of_some _ e2)),e3,e4,e5,e6⟩;simp only[List.mem_cons,List.not_mem_nil,or_false];exact lt1 _ _ e2
 ·refine⟨rfl,h h' tk hd fun b o e=>hk b o ?_ (hdl _ _ e) (Heap.get?_push_of_some _ (kp1 _ _ (Heap.get?_push_of_some _ e)))⟩;simp only[List.mem_cons,List.not_mem_nil,or_false];exact lt1 _ _ e
end
abbrev GA (H:Hp):List V->List (Key×V)->Prop:=Paired fun v p=>∃q,v= .ref q/\H q=some (.tup [kV p.1,p.2])
section
variable {X:Cx}{pins:List (Addr×Obj)}{σ:St}{H:Hp}{s:Shared}
theorem VN (I:Inv X pins σ H s){q:Addr}{k:Key}{x:V} (e:H q=some (.tup [kV k,x])):∃(o:Obj) (key u:Value) (n:Nat),s.heap.get? q=some o/\o.cls= .type "tuple" /\o.data= .seq #[key,u] n/\(cB X.prog X.w).is k key=true/\RelV x u:=by
 obtain⟨_,us,r,o,h1,h2,n,h3⟩:=(show ObjOk X.prog X.w H s.heap q (.tup [kV k,x]) from I.hok q _ e)
 cases r with
 | @cons _ key _ _ r1 r =>
  cases r with
  | @cons _ u _ _ r2 r =>
   cases r;exact⟨o,key,u,n,h1,h2,h3,sS r1,r2⟩
theorem A8 (I:Inv X pins σ H s):∀{vs:List V}{ps:List (Key×V)}{us:List Value},GA H vs ps->Vals vs us →
  ∃rs:List (Key×Value),KV ps rs/\rs.length=us.length/\∀(i:Nat) (v:Value),us[i]? =some v->∃(q:Addr) (o:Obj) (key:Value) (k:Key) (u:Value) (c:Nat),v= .ref q/\s.heap.get? q=some o/\o.cls= .type "tuple" /\o.data= .seq #[key,u] c/\(cB X.prog X.w).is k key=true/\rs[i]? =some (k,u)
 | _,_,_,.nil,.nil=>⟨[],.nil,rfl,fun i v z=>by simp at z⟩
 | _::_,(k,x)::_,_::us,.cons ⟨q,e,hq⟩ t,.cons r rt=>by
  obtain⟨rs,h1,h2,h3⟩:=A8 I t rt;obtain⟨o,key,u,n,o1,o2,o3,o4,o5⟩:=VN I hq;subst e;cases r;refine⟨(k,u)::rs,.cons ⟨rfl,o5⟩ h1,by simp[h2],fun i v z=> ?_⟩;cases i with
  | zero=>cases z;exact⟨q,o,key,k,u,n,rfl,o1,o2,o3,o4,rfl⟩
  | succ i =>
   obtain⟨q,o,key,k,u,c,w1⟩:=h3 i v (by simpa using z);exact⟨q,o,key,k,u,c,by simpa using w1⟩
def Q4:List V->Hp->VK->Prop:=fun xs H Q=>∃p vs ps,xs=[.ref p]/\Rd H p (.lst vs)/\GA H vs ps/\∀l,H l=none->Q (.ref l) (upd H l (.dK (jZ [] ps)))
theorem MJ (hc:X.calm=true):cS X (.type "dict") Q4:=by
 intro pins s σ H xs us Q I r h;obtain⟨p,vs,ps,rfl,hq,pr,q⟩:=h;obtain⟨u,rfl,rx⟩:=jW r;cases rx;obtain⟨z,its,n,rv,e⟩:=(show ObjOk X.prog X.w H s.heap p (.lst vs) from hq.ok I.hok)
 obtain⟨rs,h1,h2,h3⟩:=A8 I pr rv;have hl:=rv.length;have hlp:=h1.length;refine Q8 (knd:=cB X.prog X.w) (ps:=rs) (I.ok.hd hc) e (by rw[List.size_toArray];lia) (by rw[List.size_toArray];exact h2) (fun i v hv=>h3 i v (by simpa using hv)) fun h' tk hd kp=> ?_;have lm:(jZ [] ps).length<=sizeLine:=Nat.le_trans (uM ps []) (by simp;lia);have nm:(s.heap.objs.size==sysModules)=false:=by
  have:=I.big;simp only[beq_eq_false_iff_ne];exact fun z=>by rw[z]at this;exact Nat.lt_irrefl _ this
 exact⟨.ref _,_,I.laid (t':=tk) kp (Nat.le_refl _) (QM lm nm (KV.merge h1 .nil) hd),rfl,q _ (I.hok.fresh (Nat.le_refl _))⟩
end
section
variable {prog:Program}{w:World}{A:Around}{E:Value->Shared->Prop}{s:Shared}{d it:Addr}{o:Obj}{es:Array DictEntry}{ep i:Nat}{k0 v0:Value}
end
section
variable {prog:Program}{w:World}{A:Around}{E:Value->Shared->Prop}{s:Shared}{d it:Addr}{o:Obj}{es:Array DictEntry}{ep i:Nat}
end
section
variable {X:Cx}
end
section
variable (r:Nat->Int)
variable {r}{p:Array Nat}
end
section
variable {r:Nat->Int}{p:Array Nat}
end
section
variable {α:Type}{lt:α->α->Bool}{l:List α}{d:α}
theorem GH (c:Nat->Nat->Bool):(c4 d c l).Perm l:=by
 unfold c4
 split
 ·exact List.Perm.refl _
 ·have h:=Array.perm_iff_toList_perm.mp (iG (n:=l.length) c (by lia));refine(h.map fun i=>l.getD i d).trans ?_;have e:((List.range l.length).toArray.toList.map fun i=>l.getD i d)=l:=by
   apply List.ext_getElem?
   intro i
   by_cases hi:i<l.length
   ·simp[hi,List.getD_eq_getElem?_getD]
   ·simp[hi]
  rw[e]
end
section
variable {X:Cx}
end
def wP (rs:List (List Key)):List (List Key):=c4 [] (qI rs) rs
theorem M1 (rs:List (List Key)):(wP rs).Perm rs:=GH _
theorem OZ {H:Hp}{vs:List V}{rs:List (List Key)} (k:KRows H vs rs):KRows H (O2 rs vs) (wP rs):=by
 have hl:vs.length=rs.length:=Paired.length k;unfold O2 wP c4;rw[hl]
 split
 ·exact k
 ·have hp:=iG (n:=rs.length) (qI rs) (by lia);have hm:∀i∈(fX (qI rs) (kas_sort rs.length)).toList,i<rs.length:=fun i hi=>by
   have h:=hp.mem_iff.mp (Array.mem_toList_iff.mp hi)
   simpa using h
  revert hm;generalize (fX (qI rs) (kas_sort rs.length)).toList=l;intro hm
  induction l with
  | nil=>exact .nil
  | cons i l ih =>
   refine .cons ?_ (ih fun j hj=>hm j (List.mem_cons_of_mem _ hj));have hi:=hm i (.head _);obtain⟨p,r,e1,e2,e3⟩:=k.get (i:=i) (v:=vs.getD i .non) (by rw[List.getD_eq_getElem?_getD,List.getElem?_eq_getElem (by lia)];rfl);refine⟨p,e1,?_⟩;show H p=some (.tup ((rs.getD i []).map kV));rw[List.getD_eq_getElem?_getD,e2];exact e3
section
variable {X:Cx}{pins:List (Addr×Obj)}{σ:St}{H:Hp}{s:Shared}
end
section
variable {X:Cx}
end
theorem Paired.snoc {α β:Type}{F:α->β->Prop}:∀{l:List α}{m:List β}{a:α}{b:β},Paired F l m->F a b->Paired F (l++[a]) (m++[b])
 | _,_,_,_,.nil,h=> .cons h .nil
 | _,_,_,_,.cons r t,h=> .cons r (Paired.snoc t h)
theorem Paired.at2 {α β:Type}{F:α->β->Prop}:∀{l:List α}{m:List β}{i:Nat}{a:α}{b:β},Paired F l m->l[i]? =some a->m[i]? =some b->F a b
 | _,_,0,_,_,.cons r _,h1,h2=>by cases h1;cases h2;exact r
 | _,_,i+1,_,_,.cons _ t,h1,h2=>Paired.at2 (i:=i) t (by simpa using h1) (by simpa using h2)
 | _,_,_,_,_,.nil,h1,_=>by simp at h1
theorem k6 {α:Type}{J:It}{g:TG}{ti:TT}{te:TE}{σ0:St}{fin:List V->Hp->Prop}{H:Hp} (xs:List α) (c:α->Bool) (P:α->V->Hp->Prop) (hm:∀x y H1 H2,P x y H1->Same H1 H2->P x y H2) (hn:xs.length<=sizeLine)
  (hgo:∀i H1,Same H H1->i<xs.length->J.go i H1)(hst:∀H1,Same H H1->J.stop xs.length H1)
  (hb:∀i x H1,xs[i]? =some x->Same H H1->∀v H',J.yld i H1 v H'->Same H1 H'/\∃σ2:St,σ2.length=σ0.length/\(∀(j:Nat) v,σ0[j]? =some (some v)->σ2[j]? =some (some v))/\(∀R:St->Hp->Prop,R σ2 H'->g v σ0 H' R) ∧
   (∀R:Bool->Hp->Prop,(∀H2,Same H' H2->R (c x) H2)->ti σ2 H' R)/\(c x=true->∀H2,Same H' H2->∀R:VK,(∀y H3,P x y H3->Same H2 H3->R y H3)->te σ2 H2 R))
  (hf:∀ys H1,Same H H1->Paired (fun x y=>P x y H1) (xs.filter c) ys->fin ys H1):fW J g ti te σ0 fin H:=by
 refine⟨fun i m ys H1=>i+m=xs.length/\Same H H1/\Paired (fun x y=>P x y H1) ((xs.take i).filter c) ys,⟨xs.length,by lia,Same.refl _,.nil⟩,?_⟩;rintro i m ys H1 ⟨e1,s1,pr⟩;cases m with
 | zero =>
  have ei:i=xs.length:=by lia
  subst ei;rw[List.take_length]at pr;exact .inl ⟨hst H1 s1,hf ys H1 s1 pr⟩
 | succ m =>
  have hi:i<xs.length:=by lia
  refine .inr ⟨hgo i H1 s1 hi,fun v H' y=> ?_⟩;have ex:xs[i]? =some xs[i]:=List.getElem?_eq_getElem hi;have etake:xs.take (i+1)=xs.take i++[xs[i]]:=by rw[List.take_succ,ex];rfl
  have hlen:ys.length<=i:=by
   rw[←Paired.length pr];exact Nat.le_trans (List.length_filter_le _ _) (by rw[List.length_take];lia)
  obtain⟨s2,σ2,l2,c2,hg,ht,he⟩:=hb i xs[i] H1 ex s1 v H' y;refine hg _ ⟨⟨l2,c2⟩,ht _ fun H2 s3=> ?_⟩;cases hc:c xs[i] with
  | true =>
   show te σ2 H2 _;refine he hc H2 s3 _ fun y H3 py s4=>⟨by lia,m,by lia,by lia,((s1.trans s2).trans s3).trans s4,?_⟩
   rw[etake,List.filter_append,List.filter_cons_of_pos hc];exact Paired.snoc (Paired.imp' (fun a b h=>hm a b _ _ h ((s2.trans s3).trans s4)) pr) py
  | false =>
   show ∃m',_;refine⟨m,by lia,by lia,(s1.trans s2).trans s3,?_⟩;rw[etake,List.filter_append,List.filter_cons_of_neg (by rw[hc];exact Bool.false_ne_true),List.filter_nil,List.append_nil];exact Paired.imp' (fun a b h=>hm a b _ _ h (s2.trans s3)) pr
section
variable {K:W.Frag}{ti:TT}{te:TE}{σ:St}{ci:List Nat}{rest:St}{fin:List V->Hp->Prop}{H:Hp}{a:Addr}
theorem aA7 {n:Nat}(hr:ci.map (fun i=>(σ[i]?).join)=rest):bZ n ci σ=List.replicate n none++rest:=by unfold bZ;rw[hr]
theorem rN {α:Type}{vs:List V}{xs:List α} (f1 f2:α->V) (c:α->Bool) (P:α->V->Hp->Prop) (hm:∀x y H1 H2,P x y H1->Same H1 H2->P x y H2) (hn:xs.length<=sizeLine) (hr:ci.map (fun i=>(σ[i]?).join)=rest) (hl:SqL K H a vs)
  (hv:Paired (fun v x=>∃q,v= .ref q/\H q=some (.tup [f1 x,f2 x])) vs xs)
  (ht:∀x H1,x∈xs->Same H H1->∀R:Bool->Hp->Prop,(∀H2,Same H1 H2->R (c x) H2)->ti (some (f1 x)::some (f2 x)::rest) H1 R)
  (he:∀x H1,x∈xs->c x=true->Same H H1->∀R:VK,(∀y H2,P x y H2->Same H1 H2->R y H2)->te (some (f1 x)::some (f2 x)::rest) H1 R)
  (hf:∀ys H1,Same H H1->Paired (fun x y=>P x y H1) (xs.filter c) ys->fin ys H1):fW (Itl K a) (HY K 2 (wR (cJ 0) (wR (cJ 1) M0))) ti te (bZ 2 ci σ) fin H:=by
 have e0:bZ 2 ci σ=none::none::rest:=aA7 hr;rw[e0];have hlen:vs.length=xs.length:=Paired.length hv;refine k6 xs c P hm hn (fun i H1 s hi=>⟨vs,vs[i],s.seq hl,List.getElem?_eq_getElem (by lia)⟩) (fun H1 s=>⟨vs,s.seq hl,by lia⟩) (fun i x H1 hx s1 v H' y=> ?_) hf;obtain⟨rfl,e2⟩:=y;have ev:=e2 vs (s1.seq hl);obtain⟨q,rfl,hq⟩:∃q,v= .ref q/\H q=some (.tup [f1 x,f2 x]):=Paired.at2 hv ev hx;have hmem:=List.mem_of_getElem? hx;refine⟨Same.refl _,some (f1 x)::some (f2 x)::rest,rfl,fun j v hv=> ?_,fun R h=>⟨q,[f1 x,f2 x],rfl,.inl (.inl (s1 _ _ hq)),rfl,f1 x,[f2 x],rfl,f2 x,[],rfl,rfl,h⟩,fun R h=>ht x _ hmem s1 R h,fun hc H2 s2 R h=>he x H2 hmem hc (s1.trans s2) R h⟩
 match j,hv with
 | 0,hv=>cases hv
 | 1,hv=>cases hv
 | j+2,hv=>exact hv
end
section
variable {K:W.Frag}{ti:TT}{te:TE}{σ:St}{ci:List Nat}{rest:St}{fin:List V->Hp->Prop}{H:Hp}{a:Addr}
theorem VF {H:Hp}{q:Addr}{o:HO} (h:H q=none):Same H (upd H q o):=fun b u e=>by
 have:b≠q:=fun z=>by rw[z,h]at e;cases e
 rw[aK this];exact e
theorem P4 {kvs:List (Key×V)}{o:Obj} (c:Key×V->Bool) (P:Key×V->V->Hp->Prop) (hm:∀x y H1 H2,P x y H1->Same H1 H2->P x y H2) (hn:kvs.length<=sizeLine) (hr:ci.map (fun i=>(σ[i]?).join)=rest) (h0:H a=some (.frz o (.dK kvs)))
  (ht:∀x H1,x∈kvs->Same H H1->∀R:Bool->Hp->Prop,(∀H2,Same H1 H2->R (c x) H2)->ti (some (kV x.1)::rest) H1 R)
  (he:∀x H1,x∈kvs->c x=true->Same H H1->∀R:VK,(∀y H2,P x y H2->Same H1 H2->R y H2)->te (some (kV x.1)::rest) H1 R)
  (hf:∀ys H1,Same H H1->Paired (fun x y=>P x y H1) (kvs.filter c) ys->fin ys H1):fW (Itk a o kvs) (cJ 0) ti te (bZ 1 ci σ) fin H:=by
 rw[GF hr];refine k6 kvs c P hm hn (fun i H1 s hi=>⟨s _ _ h0,hi⟩) (fun H1 s=>⟨s _ _ h0,Nat.le_refl _⟩) (fun i x H1 hx s1 v H' y=> ?_) hf;obtain⟨rfl,k,u,e2,rfl⟩:=y;rw[hx]at e2;cases e2;have hmem:=List.mem_of_getElem? hx;refine⟨Same.refl _,some (kV k)::rest,rfl,fun j v hv=> ?_,fun R h=>h,fun R h=>ht _ _ hmem s1 R h,fun hc H2 s2 R h=>he _ H2 hmem hc (s1.trans s2) R h⟩;cases j with
 | zero=>cases hv
 | succ j=>exact hv
end
section
variable {σ:St}{H:Hp}{g:TG}{tb:TS}{nx bk ct:St->Hp->Prop}{rt:VK}
theorem UA {p:Addr}{o:Obj} (kvs:List (Key×V)) (Pv:Nat->St->Hp->Prop) (h0:Pv 0 σ H) (hl:∀i σ H,Pv i σ H->H p=some (.frz o (.dK kvs)))
  (hs:∀i k v σ H,kvs[i]? =some (k,v)->Pv i σ H->g (kV k) σ H fun σ2 H2=>tb ⟨Pv (i+1),rt,nx,Pv (i+1)⟩ σ2 H2)(hd:∀σ H,Pv kvs.length σ H->nx σ H):MW (Itk p o kvs) g tb ⟨nx,rt,bk,ct⟩ σ H:=by
 refine⟨fun i m σ H=>m=kvs.length - i/\i<=kvs.length/\Pv i σ H,⟨kvs.length,by simp,Nat.zero_le _,h0⟩,?_⟩;rintro i m σ H ⟨rfl,hi,q⟩
 by_cases hlt:i<kvs.length
 ·refine .inr ⟨⟨hl i σ H q,hlt⟩,Pv (i+1),fun σ' H' p'=>⟨kvs.length - (i+1),by lia,rfl,hlt,p'⟩,fun x H' y=> ?_⟩;obtain⟨rfl,k,v,e,rfl⟩:=y;exact hs i k v σ _ e q
 ·have e:i=kvs.length:=by lia
  subst e;exact .inl ⟨⟨hl _ σ H q,Nat.le_refl _⟩,hd σ H q⟩
end
def SU (R:It->Hp->Prop):VK:=fun x H1=>∃a kvs,x= .ref a/\H1 a=some (.dK kvs)/\∀o,R (Itk a o kvs) (upd H1 a (.frz o (.dK kvs)))
def aBk (Q:VK)(y:V):VK:=fun x H2=>∃a o,x= .ref a/\DGet H2 a y o/\Q (.bl o.isSome) H2
def LK (Q:VK)(y:V):VK:=fun x H2=>∃a o,x= .ref a/\DGet H2 a y o/\Q (.bl (!o.isSome)) H2
def P7 (σ:St)(ty tx:TE)(Q:VK):VK:=fun x H1=>∃a,x= .ref a/\IsD H1 a/\ty σ H1 fun y H2=>tx σ H2 fun z H3=>∃o,DGet H3 a y o/\Q (o.getD z) H3
def aBy (a:Addr)(Q:VK)(y:V):VK:=fun z H3=>∃o,DGet H3 a y o/\Q (o.getD z) H3
section
variable {K:W.Frag}{H:Hp}{Q:VK}{σ:St}{nx:St->Hp->Prop}{R:It->Hp->Prop}{td ty tx:TE}
theorem PY (h:td σ H (SU R)):QH td σ H R:=h
theorem yM {p:Addr}{kvs:List (Key×V)} (e:H p=some (.dK kvs)) (h:∀o H',SameBut p H H'->H' p=some (.frz o (.dK kvs))->R (Itk p o kvs) H'):SU R (.ref p) H:=⟨p,kvs,rfl,e,fun o=>h o _ SameBut.upd aY⟩
theorem aAX (h:ty σ H fun y H1=>td σ H1 (aBk Q y)):aCh ty td σ H Q:=h
theorem RP (h:ty σ H fun y H1=>td σ H1 (LK Q y)):K8 ty td σ H Q:=h
theorem Y9 {p:Addr}{z:Str}{kvs:List (Key×V)} (e:Rd H p (.dK kvs)) (h:Q (.bl (bA kvs (.inr z)).isSome) H):aBk Q (.str z) (.ref p) H:=⟨p,_,rfl,.inl ⟨kvs,.inr z,e,rfl,rfl⟩,h⟩
theorem sT {p:Addr}{z:Str}{kvs:List (Key×V)} (e:Rd H p (.dK kvs)) (h:Q (.bl (!(bA kvs (.inr z)).isSome)) H):LK Q (.str z) (.ref p) H:=⟨p,_,rfl,.inl ⟨kvs,.inr z,e,rfl,rfl⟩,h⟩
theorem yO {p:Addr}{v:V}{z:Str}{kvs:List (Key×V)} (e:H p=some (.dK kvs)) (hl:kvs.length<sizeLine) (h:∀H',SameBut p H H'->H' p=some (.dK (cH kvs (.inr z) v))->nx σ H'):MR nx σ (.ref p) v (.str z) H :=
 ⟨p,_,rfl,DPut.k (k:= .inr z) e hl,h _ SameBut.upd aY⟩
theorem oN {p:Addr}{v:V}{z:Str}{kvs:List (Key×V)} (e:Rd H p (.dK kvs)) (hv:bA kvs (.inr z)=some v) (h:Q v H):OY Q (.ref p) (.str z) H:=⟨p,v,rfl,.inl ⟨kvs,.inr z,e,rfl,hv.symm⟩,h⟩
theorem VX (h:∀p H',H p=none->Same H H'->H' p=some (.dK [])->Q (.ref p) H'):SS σ H Q:=eJ h
theorem WK (h:td σ H (P7 σ ty tx Q)):Q1 td ty tx σ H Q:=h
theorem jM {p:Addr}{kvs:List (List Key×V)} (e:H p=some (.dT kvs)) (h:ty σ H fun y H2=>tx σ H2 (aBy p Q y)):P7 σ ty tx Q (.ref p) H:=⟨p,rfl,.inr ⟨kvs,.inl e⟩,h⟩
theorem kU {p b:Addr}{z:V}{kvs:List (List Key×V)} (k:List Key) (e:H p=some (.dT kvs)) (eb:H b=some (.tup (k.map kV))) (h:Q ((bA kvs k).getD z) H):aBy p Q (.ref b) z H:=⟨_,DGet.t e eb,h⟩
theorem VI {p:Addr}{vs:List V}{ps:List (Key×V)} (e:H p=some (.lst vs)) (r:GA H vs ps) (h:∀l H',H l=none->Same H H'->H' l=some (.dK (jZ [] ps))->Q (.ref l) H'):Q4 [.ref p] H Q:=⟨p,vs,ps,rfl,.inl e,r,eJ h⟩
theorem TN {p:Addr}{vs:List V}{rs:List (List Key)}{sh:List Bool} (e:SqL K H p vs) (kr:KRows H vs rs) (hl:vs.length<64) (hs:∀r∈rs,r.map fA=sh) (hn:sh≠[]) (h:∀l ws H',H l=none->Same H H'->H' l=some (.lst ws)->KRows H' ws (wP rs)->Q (.ref l) H'):LY K [.ref p] H Q :=
 ⟨p,vs,rs,sh,rfl,e,kr,hl,hs,hn,eJ fun l H' n S e=>h l _ H' n S e ((OZ kr).same S)⟩
theorem zG {te:TE}{p:Addr}{u:HO} (e:H p=some u) (nf:∀o x,u≠ .frz o x) (h:te σ H fun x=>fU p (Q x)):W3 te σ H Q:=⟨p,fun o x z=>nf o x (by rw[e]at z;exact Option.some.inj z),h⟩
theorem U4 {ts:TS}{bk ct:St->Hp->Prop}{rt:VK}{p:Addr}{u:HO} (e:H p=some u) (nf:∀o x,u≠ .frz o x) (h:ts ⟨fun σ'=>fU p (nx σ'),fun v=>fU p (rt v),fun σ'=>fU p (bk σ'),fun σ'=>fU p (ct σ')⟩ σ H):W0 ts ⟨nx,rt,bk,ct⟩ σ H :=
 ⟨p,fun o x z=>nf o x (by rw[e]at z;exact Option.some.inj z),h⟩
theorem qO {p:Addr}{o:Obj}{u:HO}{R:Hp->Prop} (e:H p=some (.frz o u)) (h:∀H',SameBut p H H'->H' p=some u->R H'):fU p R H:=⟨o,u,e,h _ SameBut.upd aY⟩
theorem EX {H Hf H1 H2:Hp}{p:Addr}{u:HO} (e:H p=some u) (a:SameBut p H Hf) (b:SameBut p Hf H1) (c:SameBut p H1 H2) (e2:H2 p=some u):Same H H2:=fun x o z=>by
 by_cases hx:x=p
 ·subst hx;rw[e]at z;cases z;exact e2
 ·exact c x o (b x o (a x o z hx) hx) hx
end
section
variable {X:Cx}{K:W.Frag}
theorem rK {e:Expr}{ta:TE}{f:Str}{pos:Pos} (he:PE X e ta) (hb:attributeBase e f X.env (eval e X.env)=eval e X.env) (hK:X.K=K:=by rfl):PE X (.Attribute e f pos) (WA K ta f):=by
 subst hK;exact bK he hb
theorem OJ (hK:X.K=K:=by rfl):OpR X (compareOp .In) (rIn K false):=by
 subst hK;exact u8
end
section
variable {K:W.Frag}{ti:TT}{te:TE}{σ:St}{ci:List Nat}{rest:St}{fin:List V->Hp->Prop}{H:Hp}{a:Addr}{α:Type}
theorem cR {vs:List V}{xs:List α} (F:V->α->Prop) (c:α->Bool) (P:α->V->Hp->Prop) (hm:∀x y H1 H2,P x y H1->Same H1 H2->P x y H2) (hn:xs.length<=sizeLine) (hr:ci.map (fun i=>(σ[i]?).join)=rest) (hl:SqL K H a vs) (hv:Paired F vs xs)
  (ht:∀v x H1,F v x->x∈xs->Same H H1->∀R:Bool->Hp->Prop,(∀H2,Same H1 H2->R (c x) H2)->ti (some v::rest) H1 R)
  (he:∀v x H1,F v x->x∈xs->c x=true->Same H H1->∀R:VK,(∀y H2,P x y H2->Same H1 H2->R y H2)->te (some v::rest) H1 R)
  (hf:∀ys H1,Same H H1->Paired (fun x y=>P x y H1) (xs.filter c) ys->fin ys H1):fW (Itl K a) (cJ 0) ti te (bZ 1 ci σ) fin H:=by
 rw[GF hr];have hlen:vs.length=xs.length:=Paired.length hv;refine k6 xs c P hm hn (fun i H1 s hi=>⟨vs,vs[i],s.seq hl,List.getElem?_eq_getElem (by lia)⟩) (fun H1 s=>⟨vs,s.seq hl,by lia⟩) (fun i x H1 hx s1 v H' y=> ?_) hf;obtain⟨rfl,e2⟩:=y;have ev:=e2 vs (s1.seq hl);have hF:=Paired.at2 hv ev hx;have hmem:=List.mem_of_getElem? hx;refine⟨Same.refl _,some v::rest,rfl,fun j v hv=> ?_,fun R h=>h,fun R h=>ht v x _ hF hmem s1 R h,fun hc H2 s2 R h=>he v x H2 hF hmem hc (s1.trans s2) R h⟩;cases j with
 | zero=>cases hv
 | succ j=>exact hv
end
theorem dW {α:Type}{f:α->V}:∀{l:List α}{ys:List V},Paired (fun x y=>y=f x) l ys->ys=l.map f
 | _,_,.nil=>rfl
 | _,_,.cons h t=>by rw[h,dW t];rfl
theorem cZ {α:Type}(l:List α):l.filter (fun _=>true)=l:=by simp
theorem AV {K:W.Frag}{H:Hp}{Q:VK}{p:Addr}{z:Str}{ss:List Str} (e:SqL K H p (ss.map V.str)) (h:Q (.bl (decide (z∈ss))) H):rIn K false (.str z) (.ref p) H Q:=by
 refine⟨p,_,rfl,.inl e,rfl,?_,?_⟩
 ·rw[List.all_eq_true];intro x hx;obtain⟨y,_,rfl⟩:=List.mem_map.mp hx;rfl
 ·have e2:inV (.str z) (ss.map V.str)=decide (z∈ss):=by
   rw[Bool.eq_iff_iff,decide_eq_true_eq];unfold inV;rw[List.any_eq_true]
   constructor
   ·rintro ⟨x,hx,h⟩;obtain⟨y,hy,rfl⟩:=List.mem_map.mp hx;have:y=z:=by simpa [eqV] using h
    rw[←this];exact hy
   ·intro h;exact⟨.str z,List.mem_map.mpr ⟨z,h,rfl⟩,by simp[eqV]⟩
  show Q (.bl (inV (.str z) (ss.map V.str))) H;rw[e2];exact h
abbrev aT:=Int×Str×Int
def dM (t:Int)(n:Str):List Key:=[.inl t,.inr n]
def qN:V->Int
 | .int i=>i
 | _=>0
def DQ (kvs:List (List Key×V))(r:aT):List (List Key×V):=cH kvs (dM r.1 r.2.1) (.int (qN ((bA kvs (dM r.1 r.2.1)).getD (.int 0))+r.2.2))
def gE (rows:List aT):List (List Key×V):=rows.foldl DQ []
theorem fY (rows:List aT)(r:aT):gE (rows++[r])=DQ (gE rows) r:=by unfold gE;rw[List.foldl_append];rfl
def tW (rows:List aT)(t:Int)(n:Str):Int:=((rows.filter fun r=>decide (r.1=t)&&decide (r.2.1=n)).map (·.2.2)).sum
theorem OA (rows:List aT)(r:aT)(t:Int)(n:Str):tW (rows++[r]) t n=tW rows t n+if r.1=t/\r.2.1=n then r.2.2 else 0:=by
 unfold tW;rw[List.filter_append,List.map_append,List.sum_append]
 congr 1
 by_cases h:r.1=t/\r.2.1=n
 ·rw[if_pos h,List.filter_cons_of_pos (by simp[h])];simp
 ·rw[if_neg h,List.filter_cons_of_neg (by simpa using h)];simp
theorem HW {t t':Int}{n n':Str} (h:dM t n=dM t' n'):t=t'/\n=n':=by
 unfold dM at h;injection h with h1 h2;injection h2 with h2;exact⟨Sum.inl.inj h1,Sum.inr.inj h2⟩
theorem jL {α:Type}{P:List α->Prop} (h0:P []) (hs:∀l a,P l->P (l++[a])) (l:List α):P l:=by
 have:∀m:List α,P m.reverse:=fun m=>by
  induction m with
  | nil=>exact h0
  | cons a m ih=>rw[List.reverse_cons];exact hs _ _ ih
 rw[←List.reverse_reverse l];exact this _
theorem GV (t:Int)(n:Str)(rows:List aT):qN ((bA (gE rows) (dM t n)).getD (.int 0))=tW rows t n:=by
 induction rows using jL with
 | h0=>rfl
 | hs l r ih =>
  rw[fY,OA];unfold DQ;rw[kP]
  by_cases e:dM t n=dM r.1 r.2.1
  ·obtain⟨rfl,rfl⟩:=HW e;rw[if_pos rfl,if_pos ⟨rfl,rfl⟩,←ih];rfl
  ·rw[if_neg e,if_neg (fun h=>e (by rw[h.1,h.2])),ih];lia
theorem R3 {κ:Type}[DecidableEq κ]{kvs:List (κ×V)}{k:κ}{v:V} (nd:(kvs.map (·.1)).Nodup):((cH kvs k v).map (·.1)).Nodup:=by
 unfold cH
 split
 ·have e:(kvs.map fun kv=>if kv.1=k then (kv.1,v) else kv).map (·.1)=kvs.map (·.1):=by
   rw[List.map_map]
   apply List.map_congr_left
   intro x _;show (if x.1=k then (x.1,v) else x).1=x.1
   split<;>rfl
  rw[e];exact nd
 ·rename_i h;rw[List.map_append];refine L7 nd fun hk=>h ?_;obtain⟨x,hx,e⟩:=List.mem_map.mp hk;rw[List.any_eq_true];exact⟨x,hx,decide_eq_true e⟩
theorem jP {κ:Type}[DecidableEq κ]:∀{kvs:List (κ×V)}{e:κ×V},(kvs.map (·.1)).Nodup->e∈kvs->bA kvs e.1=some e.2
 | a::l,e,nd,h=>by
  have nd':=List.pairwise_cons.mp nd;rcases List.mem_cons.mp h with rfl|h
  ·exact dD rfl
  ·rw[cV (nd'.1 e.1 (List.mem_map.mpr ⟨e,h,rfl⟩))];exact jP nd'.2 h
theorem vG {κ:Type}[DecidableEq κ]{kvs:List (κ×V)}{k:κ}{v:V} (h:bA kvs k=some v):(k,v)∈kvs:=by
 unfold bA at h;obtain⟨x,hx,e⟩:=Option.map_eq_some_iff.mp h;have h1:=List.find?_some hx;have h2:=List.mem_of_find?_eq_some hx;have h3:x.1=k:=of_decide_eq_true h1;rw[←h3,←e];exact h2
def aDw (kvs:List (List Key×V)):Prop:=(kvs.map (·.1)).Nodup/\∀e∈kvs,∃t n i,e=(dM t n,.int i)
theorem l9 (rows:List aT):aDw (gE rows):=by
 induction rows using jL with
 | h0=>exact⟨List.nodup_nil,fun e h=>nomatch h⟩
 | hs l r ih =>
  rw[fY];refine⟨R3 ih.1,fun e he=> ?_⟩;rcases yT he with h|⟨h1,h2⟩
  ·exact ih.2 e h
  ·exact⟨_,_,_,Prod.ext h1 h2⟩
theorem TX (rows:List aT)(t:Int)(n:Str):∃i,(bA (gE rows) (dM t n)).getD (.int 0)= .int i:=by
 cases h:bA (gE rows) (dM t n) with
 | none=>exact⟨0,rfl⟩
 | some v =>
  obtain⟨t',n',i,e⟩:=(l9 rows).2 _ (vG h);cases e;exact⟨i,rfl⟩
theorem yW (rows:List aT):(gE rows).length<=rows.length:=by
 induction rows using jL with
 | h0=>exact Nat.le_refl _
 | hs l r ih =>
  rw[fY,List.length_append];exact Nat.le_trans (fL _ _ _) (by simp;lia)
theorem aAg:typeLookup (.type "dict") "__len__" =pure (some (.builtin "dict.__len__")):=by rw[typeLookup_type,builtinLookup_eq_fast];kernel_rfl
section
variable {prog:Program}{w:World}{A:Around}{E:Value->Shared->Prop}{s:Shared}{d:Addr}{κ:Type} [DecidableEq κ] {knd:KeyKind prog w κ}{ps:List (κ×Value)}{ep:Nat}
theorem QY (T:s.TypeIs (.ref d) "dict"){Q:Bool->Shared->Prop}(h:Q false s):wpAny (model prog w) A (Builtin.List.listLengthHint (.ref d)) Q E s:=by
 unfold Builtin.List.listLengthHint;refine wpAny_bind (wpAny_specialOf T aAg ?_);generalize q:("dict.__len__" :String)=i0
 wp_delta
 rw[show splitId i0=some ("dict","__len__") from by subst q;decide +kernel];subst q;refine wpAny_bind (wpAny_isInstance (T:= "dict") (b:=true) T (by rw[isSubtype_type];kernel_rfl) (wpAny_ite_split (fun z=>absurd z (by decide)) (fun _=>wpAny_ite_split (fun _=> ?_) (fun z=>absurd (by decide +kernel) z))));exact wpAny_bind (wpAny_typeOf T (wpAny_pure h))
theorem KM {R:Result->Shared->Prop}(hh:A.handled=none)(hm:s.heap.DictAt knd d ps ep)(hd0:(d==sysModules)=false)(S:Addr)(hSd:S≠d)(c0:Nat)(hS:s.heap.get? S=some { cls:= .type "list",data:= .seq #[] c0 })(hn:ps.length<=sizeLine)
  (k:∀h' tk acc c,(∀b o,b≠S->s.heap.get? b=some o->h'.get? b=some o)->h'.get? S=some { cls:= .type "list",dict:=none,data:= .seq acc c,slots:= #[] }->ItemsOf (fun i v=>∃k x,ps[i]? =some (k,x)/\knd.is k v=true) acc ps.length->R (.ok (.ret .none)) { s with heap:=h',toks:=tk }) :
  wpAny (model prog w) A.in1 (Builtin.List.listExtendWith (.ref S) (.ref d) .none) (fun fin s'=>match fin with| .done f=>R (.ok f) s'| .again c'=>c'.quiet=true/\codeAny (model prog w) A c' R s') (fun e s'=>R (.error e) s') s:=by
 obtain⟨o,es,ho,hc,hq,hk,hp,hnd⟩:=id hm;have T:s.TypeIs (.ref d) "dict" :=⟨o,ho,hc.1⟩
 have lS:S<s.heap.objs.size:=Heap.lt_size hS;have ld:d<s.heap.objs.size:=Heap.lt_size ho;have hsz:es.size=ps.length:=by rw[←hp.length];simp
 have W:=(Walks.dictKeys (prog:=prog) (w:=w) (knd:=knd) (A:=A.in1) hh s.heap.objs.size d (Nat.ne_of_lt ld) ps ep).toS;have run:∀(h:Heap) (c1 tk:Nat),h.IsKeyIter s.heap.objs.size d 0 ps.length ep->(∀b u,b≠S->s.heap.get? b=some u->h.get? b=some u)->h.get? S=some { cls:= .type "list",data:= .seq #[] c1 } →
   codeAny (model prog w) A (.builtin "list.extend.loop" ⟨[.ref S,.ref s.heap.objs.size,.none],[]⟩) R { s with heap:=h,toks:=tk }:=by
  intro h c1 tk hit kp hS1;refine codeAny_extend_loopS W hn S (by simp only[List.mem_cons,List.not_mem_nil,or_false,not_or];exact⟨Nat.ne_of_lt lS,hSd⟩) .none ps.length 0 _ #[] c1 rfl (Nat.zero_le _) ⟨hit,o,es,kp d o (Ne.symm hSd) ho,hc,hq,hk,hp,hnd⟩ hS1 (ItemsOf.nil _) fun s' acc c' mv hS2 hacc=> ?_;rw[Moved.eq_with mv];refine k s'.heap s'.toks acc c' (fun b u hb e=>mv.heap b u (fun z=> ?_) (kp b u hb e)) hS2 hacc;rcases List.mem_cons.mp z with z|z
  ·exact hb z
  ·have:=Heap.lt_size e;rw[List.mem_singleton.mp z]at this;exact Nat.lt_irrefl _ this
 unfold Builtin.List.listExtendWith;refine wpAny_bind (wpAny_typeOf (T:= "dict") T ?_);simp only[show Builtin.List.listSameRef (.ref S) (.ref d)=false by simp[Builtin.List.listSameRef,hSd],show (Value.type "dict" ==Value.type "list")=false by decide,show (Value.type "dict" ==Value.type "tuple")=false by decide,Bool.or_false,Bool.false_eq_true,if_false];refine wpAny_bind (zF hd0 ho hc hq ?_);have hS1:=Heap.get?_push_of_some { cls:= .type "dict_keyiterator",data:= .fields #[.ref d,.int 0 0,.int es.size 0,.int ep 0] } hS;refine wpAny_bind (wpAny_holding (QY ⟨o,Heap.get?_push_of_some _ ho,hc.1⟩ ?_));have hit:(s.heap.push { cls:= .type "dict_keyiterator",data:= .fields #[.ref d,.int 0 0,.int es.size 0,.int ep 0] }).IsKeyIter s.heap.objs.size d 0 ps.length ep:=⟨_,Heap.get?_push_size _ rfl,rfl,by rw[hsz];rfl⟩
 refine wpAny_ite_split (fun z=> ?_) (fun _=>wpAny_pure ⟨plainId_quiet F.plain_extend_loop _,run _ c0 _ hit (fun b u _ e=>Heap.get?_push_of_some _ e) hS1⟩);refine wpAny_bind (wpAny_rule (wpAny_bind ?_));show wpAny _ A.in1 (updateSeq S (·.push .none) >>= fun _=>updateSeq S (·.pop)) _ _ _;have u1:=Heap.get?_update_self (Obj.mapSeq (·.push Value.none)) hS1 rfl;have u2:=Heap.get?_update_self (Obj.mapSeq (·.pop)) u1 rfl;refine wpAny_bind (wpAny_updateSeq hS1 rfl (wpAny_updateSeq (hz:=by seq_fits) u1 rfl (wpAny_pure ⟨plainId_quiet F.plain_extend_loop _,run _ _ _ ?_ (fun b u hb e=> ?_) u2⟩)))
 ·exact hit.at fun u e=>(Heap.get?_update_other _ _ (Nat.ne_of_lt lS)).trans ((Heap.get?_update_other _ _ (Nat.ne_of_lt lS)).trans e)
 ·exact(Heap.get?_update_other _ _ (Ne.symm hb)).trans ((Heap.get?_update_other _ _ (Ne.symm hb)).trans (Heap.get?_push_of_some _ e))
theorem SX {Q:Value->Shared->Prop}(hh:A.handled=none)(hm:s.heap.DictAt knd d ps ep)(hd0:(d==sysModules)=false)(hn:ps.length<=sizeLine)
  (k:∀h' tk acc c,(∀b o,s.heap.get? b=some o->h'.get? b=some o)->h'.get? s.heap.objs.size=some { cls:= .type "list",dict:=none,data:= .seq acc c,slots:= #[] }->ItemsOf (fun i v=>∃k x,ps[i]? =some (k,x)/\knd.is k v=true) acc ps.length->Q (.ref s.heap.objs.size) { s with heap:=h',toks:=tk }) :
  wpAny (model prog w) A (call (.type "list") [.ref d]) Q E s:=by
 refine callType_codes (Q₁:=fun x s1=>x= .ref s.heap.objs.size/\s1={ s with heap:=s.heap.push { cls:= .type "list",data:= .seq #[] } }) F.called_list (F.typeCall_list_1 _) F.entry_list_init (code_list_new _ ⟨rfl,rfl⟩) ?_;rintro x s1 ⟨rfl,rfl⟩;have hS:(s.heap.push { cls:= .type "list",data:= .seq #[] }).get? s.heap.objs.size=some { cls:= .type "list",data:= .seq #[] }:=Heap.get?_push_size _ rfl;have hm1:(s.heap.push { cls:= .type "list",data:= .seq #[] }).DictAt knd d ps ep:=hm.at' fun o e=>Heap.get?_push_of_some _ e;have hdS:s.heap.objs.size≠d:=fun z=>by
  obtain⟨o,_,ho,_⟩:=hm;have:=Heap.lt_size ho;rw[←z]at this;exact Nat.lt_irrefl _ this
 refine⟨⟨_,hS,rfl⟩,F.args_list_init_2 _ _,?_⟩;show wpAny _ A.in1.in1 (Builtin.List.listItems (.ref s.heap.objs.size) >>= fun old=>Builtin.List.listUpdate (.ref s.heap.objs.size) (fun _=> #[]) >>= fun _=>letGo old.toList.reverse >>= fun _=>Builtin.List.listExtendWith (.ref s.heap.objs.size) (.ref d) .none) _ _ _;refine wpAny_bind ?_;unfold Builtin.List.listItems;refine wpAny_bind (wpAny_seqItems hS rfl (wpAny_pure ?_));show wpAny _ A.in1.in1 (updateSeq s.heap.objs.size (fun _=> #[]) >>= fun _=>letGo (#[]:Array Value).toList.reverse >>= fun _=>Builtin.List.listExtendWith (.ref s.heap.objs.size) (.ref d) .none) _ _ _;have u1:=Heap.get?_update_self (Obj.mapSeq (fun _=>(#[]:Array Value))) hS rfl;have kp:∀b o,b≠s.heap.objs.size->(s.heap.push { cls:= .type "list",data:= .seq #[] }).get? b=some o->((s.heap.push { cls:= .type "list",data:= .seq #[] }).update s.heap.objs.size (Obj.mapSeq (fun _=>(#[]:Array Value)))).get? b=some o:=fun b o hb e=>(Heap.get?_update_other _ _ (Ne.symm hb)).trans e;refine wpAny_bind (wpAny_updateSeq hS rfl (wpAny_bind (wpAny_letGo ?_)));refine KM (A:=A.in1) hh (hm1.at' fun o e=>kp d o (Ne.symm hdS) e) hd0 _ hdS _ u1 hn fun h' tk acc c kk hS' hacc=> ?_;exact⟨rfl,k h' tk acc c (fun b o e=>kk b o (Nat.ne_of_lt (Heap.lt_size e)) (kp b o (Nat.ne_of_lt (Heap.lt_size e)) (Heap.get?_push_of_some _ e))) hS' hacc⟩
end
section
variable {X:Cx}
def QP:List V->Hp->VK->Prop:=fun xs H Q=>∃p kvs,xs=[.ref p]/\Rd H p (.dK kvs)/\∀l,H l=none->Q (.ref l) (upd H l (.lst (kvs.map fun e=>kV e.1)))
theorem FU {P:Program}{w:World}{kvs:List (Key×V)}{rs:List (Key×Value)} (r:KV kvs rs) {acc:Array Value} (h:ItemsOf (fun i v=>∃k x,rs[i]? =some (k,x)/\(cB P w).is k v=true) acc rs.length):Vals (kvs.map fun e=>kV e.1) acc.toList:=by
 have e0:acc.toList.length=rs.length:=by rw[Array.length_toList];exact h.1
 refine IG (by rw[List.length_map,e0];exact r.length) fun i x u h1 h2=> ?_;obtain⟨k,y,e1,e2⟩:=h.2 i u (by simpa using h2);rw[List.getElem?_map]at h1;obtain⟨e,he,rfl⟩:=Option.map_eq_some_iff.mp h1;have hi:i<kvs.length:=(List.getElem?_eq_some_iff.mp he).1;obtain⟨k',v',u',f1,f2,f3⟩:=JE r hi;rw[he]at f1;cases f1;rw[e1]at f2;cases f2;exact L5 e2
theorem AZ (hc:X.calm=true):cS X (.type "list") QP:=by
 intro pins s σ H xs us Q I r h;obtain⟨p,kvs,rfl,hq,q⟩:=h;obtain⟨u,rfl,rx⟩:=jW r;cases rx;obtain⟨z,y,rs,kv,o,es,ep,h1,h2,h3,h4,h5,h6⟩:=lT I.hok hq;have hl:=kv.length;refine SX (knd:=cB X.prog X.w) (ps:=rs) (ep:=ep) (I.ok.hd hc) ⟨o,es,h1,h2,h3,h4,h5,h6⟩ y (by lia) fun h' tk acc c kp hS hacc=> ?_;exact⟨.ref _,_,I.laid (t':=tk) kp (Nat.le_refl _) (show ObjOk X.prog X.w _ h' _ (.lst (kvs.map fun e=>kV e.1)) from⟨by rw[List.length_map];exact z,acc.toList,c,FU kv hacc,by rw[Array.toArray_toList];exact hS⟩),rfl,q _ (I.hok.fresh (Nat.le_refl _))⟩
end
def wX (v d:Addr):HO:= .ext fun h=>h.IsValuesView v d
def NW (Q:VK):VK:=fun x H1=>∃a kvs,x= .ref a/\Rd H1 a (.dK kvs)/\∀v,H1 v=none->Q (.ref v) (upd H1 v (wX v a))
def XU (td:TE):TE:=fun σ H Q=>td σ H (NW Q)
section
variable {X:Cx}
theorem M3 {l:Expr}{td:TE}{apos cpos:Pos} (hl:PE X l td) (hbase:attributeBase l "values" X.env (eval l X.env)=eval l X.env:=by rfl) (hline:(apos.endLine==cpos.line)=true:=by rfl) :
  PE X (.Call (.Attribute l "values" apos) [] [] cpos) (XU td):=by
 intro pins s σ H Q I h;refine wpAny_Call_method0_late hbase hline (thn (hl pins s σ H _ I h) fun v s1 ⟨x,H1,I1,r1,q1⟩=> ?_);obtain⟨a,kvs,rfl,hq,q⟩:=q1;cases r1;obtain⟨t1,t2,_⟩:=RB I1 (.inl ⟨kvs,hq⟩);refine⟨"dict","dict.values",F.plainAttrs_dict,F.slot_dict_values,F.type_dict_values,t1,t2,Calls.callWith_builtin rfl (PySem.evalArgs_none ?_)⟩;obtain⟨z,y,vs,r,o,es,ep,h1,h2,h3,h4,h5,h6⟩:=lT I1.hok hq;refine call_meetsIn F.slot_dict_values t1 F.entry_dict_values (F.args_dict_values_1 _) (meets_dict_values (cB X.prog X.w) a y) ⟨⟨vs,o,es,ep,h1,h2,h3,h4,h5,h6⟩,?_⟩;have hv:(s1.heap.push { cls:= .type "dict_values",data:= .fields #[.ref a] }).IsValuesView s1.heap.objs.size a:=⟨_,Heap.get?_push_size _ rfl,rfl,rfl⟩
 refine⟨.ref s1.heap.objs.size,_,I1.laid (t':=s1.toks) (fun b u e=>Heap.get?_push_of_some _ e) (Nat.le_refl _) (show ObjOk X.prog X.w _ _ _ (wX s1.heap.objs.size a) from⟨hv,⟨_,Heap.get?_push_size _ rfl⟩,fun g1 g2 p k=> ?_⟩),rfl,q _ (I1.hok.fresh (Nat.le_refl _))⟩;obtain⟨o,e,c⟩:=p;exact⟨o,k o e,c⟩
theorem IV (ns:List Int):∀j,j<=ns.length->preSum (fun i=>ns.getD i 0) j=(ns.take j).sum
 | 0,_=>by simp[preSum]
 | j+1,h=>by
  rw[preSum,IV ns j (by lia),List.take_succ,List.getElem?_eq_getElem (by lia),List.sum_append];rw[List.getD_eq_getElem?_getD,List.getElem?_eq_getElem (by lia)];simp
theorem aAb (ns:List Int):preSum (fun i=>ns.getD i 0) ns.length=ns.sum:=by rw[IV ns _ (Nat.le_refl _),List.take_length]
def XF:List V->Hp->VK->Prop:=fun xs H Q=>∃(v d:Addr) (kvs:List (Key×V)) (ns:List Int),xs=[.ref v]/\H v=some (wX v d)/\Rd H d (.dK kvs)/\kvs.map (·.2)=ns.map V.int/\Q (.int ns.sum) H
theorem Q6 (hc:X.calm=true):cS X (.builtin "sum") XF:=by
 intro pins s σ H xs us Q I r h;obtain⟨v,d,kvs,ns,rfl,hv,hq,hns,q⟩:=h;obtain⟨u,rfl,rx⟩:=jW r;cases rx;obtain⟨hview,_,_⟩:=(show ObjOk X.prog X.w H s.heap v (wX v d) from I.hok v _ hv)
 have hview:s.heap.IsValuesView v d:=hview;obtain⟨z,y,rs,kv,o,es,ep,h1,h2,h3,h4,h5,h6⟩:=lT I.hok hq;have hl:=kv.length;have hln:kvs.length=ns.length:=by have:=congrArg List.length hns;rwa [List.length_map,List.length_map]at this
 have ld:d<s.heap.objs.size:=Heap.lt_size h1;have hm:s.heap.DictAt (cB X.prog X.w) d rs ep:=⟨o,es,h1,h2,h3,h4,h5,h6⟩
 refine call_sum_walkG (wpAny_pyIter_values hview hm ?_);refine⟨s.heap.objs.size,_,_,rs.length,_,_,fun i=>ns.getD i 0,rfl,Walks.dictValues (knd:=cB X.prog X.w) (show X.A.in1.handled=none from I.ok.hd hc) s.heap.objs.size d (Nat.ne_of_lt ld) rs ep,⟨⟨_,Heap.get?_push_size _ rfl,rfl,rfl⟩,hm.at' fun o e=>Heap.get?_push_of_some _ e⟩,?_,?_,?_⟩
 ·intro b hb;simp only[List.mem_cons,List.not_mem_nil,or_false]at hb;have hsz:(s.heap.push { cls:= .type "dict_valueiterator",data:= .fields #[.ref d,.int 0 0,.int rs.length 0,.int ep 0] }).objs.size=s.heap.objs.size+1:=by simp[Heap.push]
  rcases hb with rfl|rfl
  ·show s.heap.objs.size<_;rw[hsz];exact Nat.lt_succ_self _
  ·show b<_;rw[hsz];exact Nat.lt_succ_of_lt ld
 ·rintro i u ⟨kk,hk⟩;have hi:i<kvs.length:=by rw[hl];exact(List.getElem?_eq_some_iff.mp hk).1
  obtain⟨k',v',u',f1,f2,f3⟩:=JE kv hi;rw[hk]at f2;cases f2;have e1:(kvs.map (·.2))[i]? =some v':=by rw[List.getElem?_map,f1];rfl
  rw[hns,List.getElem?_map]at e1;obtain⟨n,hn,rfl⟩:=Option.map_eq_some_iff.mp e1;obtain⟨t,rfl⟩:=f3;refine⟨t,?_⟩;show Value.int n t=Value.int (ns.getD i 0) t;rw[List.getD_eq_getElem?_getD,hn];rfl
 ·intro h' tk t' hk;have e2:preSum (fun i=>ns.getD i 0) rs.length=ns.sum:=by
   rw[←hl,hln];exact aAb ns
  rw[e2];have I1:Inv X pins σ H { s with heap:=s.heap.push { cls:= .type "dict_valueiterator",data:= .fields #[.ref d,.int 0 0,.int rs.length 0,.int ep 0] },toks:=s.toks }:=I.kept fun b u e=>Heap.get?_push_of_some _ e;obtain⟨f0,f1,f2,f3,f4,f5⟩:=I.fpOk (Nat.le_refl _) (I.hok.fresh (Nat.le_refl _));exact⟨.int ns.sum,H,I1.turned (fun b o hb e=>hk b o (by simpa using hb) e) f0 f1 f3 f4 f5,⟨t',rfl⟩,q⟩
end
section
variable {X:Cx}{pins:List (Addr×Obj)}{σ:St}{H:Hp}{s:Shared}{h':Heap}
end
section
variable {X:Cx}
end
def aBJ (σ:St)(tv:TE)(rd:V->V->Hp->VK->Prop)(nx:St->Hp->Prop)(x:V):VK:=fun y H2=>∃a v,x= .ref a/\DGet H2 a y (some v)/\tv σ H2 fun y2 H3=>rd v y2 H3 fun z H4=>∃H5,DPut H4 a y z H5/\nx σ H5
def aAQ (σ:St)(p:Addr)(k:V)(nx:St->Hp->Prop):VK:=fun z H4=>∃H5,DPut H4 p k z H5/\nx σ H5
section
variable {K:W.Frag}{H:Hp}{Q:VK}{σ:St}{nx:St->Hp->Prop}{td ty tv:TE}{rd:V->V->Hp->VK->Prop}{rt:VK}{bk ct:St->Hp->Prop}{R:It->Hp->Prop}
theorem YK (h:td σ H fun x H1=>ty σ H1 (aBJ σ tv rd nx x)):W5 td ty tv rd ⟨nx,rt,bk,ct⟩ σ H:=h
theorem WN {p:Addr}{z:Str}{kvs:List (Key×V)}{v:V} (e:Rd H p (.dK kvs)) (hv:bA kvs (.inr z)=some v) (h:tv σ H fun y2 H3=>rd v y2 H3 (aAQ σ p (.str z) nx)):aBJ σ tv rd nx (.ref p) (.str z) H:=⟨p,v,rfl,.inl ⟨kvs,.inr z,e,rfl,hv.symm⟩,h⟩
theorem YG {p:Addr}{z:Str}{kvs:List (Key×V)}{v:V} (e:H p=some (.dK kvs)) (hl:kvs.length<sizeLine) (h:∀H',SameBut p H H'->H' p=some (.dK (cH kvs (.inr z) v))->nx σ H'):aAQ σ p (.str z) nx v H:=⟨_,DPut.k (k:= .inr z) e hl,h _ SameBut.upd aY⟩
theorem GU {p:Addr}{kvs:List (Key×V)} (e:Rd H p (.dK kvs)) (h:∀l H',H l=none->Same H H'->H' l=some (.lst (kvs.map fun e=>kV e.1))->Q (.ref l) H'):QP [.ref p] H Q:=⟨p,kvs,rfl,e,eJ h⟩
theorem QB {l b:Addr}{xs zs:List V} (e:H l=some (.lst xs)) (e2:H b=some (.lst zs)) (hz:xs.length+zs.length<=sizeLine) (h:∀H',SameBut l H H'->H' l=some (.lst (xs++zs))->Q .non H'):LR (.ref l) [.ref b] H Q:=⟨l,b,xs,zs,rfl,rfl,e,e2,hz,h _ SameBut.upd aY⟩
theorem ZD (h:td σ H (NW Q)):XU td σ H Q:=h
theorem V5 {a:Addr}{kvs:List (Key×V)} (e:Rd H a (.dK kvs)) (h:∀v H',H v=none->Same H H'->H' v=some (wX v a)->Q (.ref v) H'):NW Q (.ref a) H :=
 ⟨a,kvs,rfl,e,fun v hv=>h v _ hv (VF hv) aY⟩
theorem ZZ {v d:Addr}{kvs:List (Key×V)}{ns:List Int} (e:H v=some (wX v d)) (e2:Rd H d (.dK kvs)) (hn:kvs.map (·.2)=ns.map V.int) (h:Q (.int ns.sum) H):XF [.ref v] H Q:=⟨v,d,kvs,ns,rfl,e,e2,hn,h⟩
end
def bT (ps:List (Str×Int))(z:Str):Int:=((ps.filter fun p=>decide (p.1=z)).map (·.2)).sum
theorem u7 (ps:List (Str×Int))(p:Str×Int)(z:Str):bT (ps++[p]) z=bT ps z+if p.1=z then p.2 else 0:=by
 unfold bT;rw[List.filter_append,List.map_append,List.sum_append]
 congr 1
 by_cases h:p.1=z
 ·rw[if_pos h];simp[h]
 ·rw[if_neg h];simp[h]
end L2
namespace L2
open PySem PySem.W PyProof.Rows PySem.Calls
section
variable {prog:Program}{w:World}{A:Around}{E:Value->Shared->Prop}{s:Shared}{d v:Addr}{o:Obj}{es:Array DictEntry}{ep:Nat}
end
section
variable {X:Cx}
theorem GG {K:W.Frag}(h:X.K=K:=by rfl):IxR X (OL K):=by subst h;exact cW
end
section
variable {K:W.Frag}{H:Hp}{Q:VK}{σ:St}{td:TE}
end
end L2
namespace L2
open PySem PySem.W PyProof.Rows
section
variable {X:Cx}
end
section
variable {X:Cx}{P:Program}{w:World}{K:W.Frag}{mg:Str->Option Value}{base:Heap}{k':Nat}{o e:Expr}{es:List Expr}{m:Str}{ta:TE}{t:TA}{apos pos:Pos}
theorem uU (k:Nat){pl:Sem Bool}(hr:Room k' X.A)(ho:PE X o ta)(ha:PA X (e::es) t)(hk:k<=k':=by decide)(hst:starEach (e::es) X.env=(false,eval e X.env)::starEach es X.env:=by rfl)(hpl:(backTo pos (starEach es X.env)).any (·.1)=false:=by rfl)
  (ht:eval (.Call (.Attribute o m apos) (e::es) [] pos) X.env=(do let ov ←eval o X.env;standAt apos.atName;let (f,first) ←holding [ov] (getMethod ov m pl);callWith pos f first (backTo pos (starEach (e::es) X.env)) (backToKw pos (keywordEach [] X.env))):=by rfl)
  (h1:X.prog=P:=by rfl)(h2:X.w=w:=by rfl)(h3:X.K=K:=by rfl)(h4:X.mg=mg:=by rfl)(h5:X.base=base:=by rfl):PE X (.Call (.Attribute o m apos) (e::es) [] pos) (tMD (fun C sp=>Mc P w K mg base C m k sp) m ta t):=by
 subst h1 h2 h3 h4 h5;exact jY k hr ho ha hk hst hpl ht
end
theorem aBY {v:V}{H:Hp}{Q:VK}{a0 a1 a2 a3 a4 a5 a6 a7 a8 a9 a10 a11 a12:Option V}{l:St} (h:Q v H):c5 13 (a0::a1::a2::a3::a4::a5::a6::a7::a8::a9::a10::a11::a12::some v::l) H Q:=⟨v,rfl,h⟩
theorem aBE {v:V}{H:Hp}{q:St->Hp->Prop}{a0 a1 a2 a3 a4 a5 a6 a7 a8 a9 a10 a11 a12 a:Option V}{l:St} (h:q (a0::a1::a2::a3::a4::a5::a6::a7::a8::a9::a10::a11::a12::some v::l) H):cJ 13 v (a0::a1::a2::a3::a4::a5::a6::a7::a8::a9::a10::a11::a12::a::l) H q:=h
theorem aBn {v:V}{H:Hp}{Q:VK}{a0 a1 a2 a3 a4 a5 a6 a7 a8 a9 a10 a11 a12 a13:Option V}{l:St} (h:Q v H):c5 14 (a0::a1::a2::a3::a4::a5::a6::a7::a8::a9::a10::a11::a12::a13::some v::l) H Q:=⟨v,rfl,h⟩
theorem aAS {v:V}{H:Hp}{q:St->Hp->Prop}{a0 a1 a2 a3 a4 a5 a6 a7 a8 a9 a10 a11 a12 a13 a:Option V}{l:St} (h:q (a0::a1::a2::a3::a4::a5::a6::a7::a8::a9::a10::a11::a12::a13::some v::l) H):cJ 14 v (a0::a1::a2::a3::a4::a5::a6::a7::a8::a9::a10::a11::a12::a13::a::l) H q:=h
theorem aA6 {v:V}{H:Hp}{Q:VK}{a0 a1 a2 a3 a4 a5 a6 a7 a8 a9 a10 a11 a12 a13 a14:Option V}{l:St} (h:Q v H):c5 15 (a0::a1::a2::a3::a4::a5::a6::a7::a8::a9::a10::a11::a12::a13::a14::some v::l) H Q:=⟨v,rfl,h⟩
theorem aCo {v:V}{H:Hp}{q:St->Hp->Prop}{a0 a1 a2 a3 a4 a5 a6 a7 a8 a9 a10 a11 a12 a13 a14 a:Option V}{l:St} (h:q (a0::a1::a2::a3::a4::a5::a6::a7::a8::a9::a10::a11::a12::a13::a14::some v::l) H):cJ 15 v (a0::a1::a2::a3::a4::a5::a6::a7::a8::a9::a10::a11::a12::a13::a14::a::l) H q:=h
theorem aBc {v:V}{H:Hp}{Q:VK}{a0 a1 a2 a3 a4 a5 a6 a7 a8 a9 a10 a11 a12 a13 a14 a15:Option V}{l:St} (h:Q v H):c5 16 (a0::a1::a2::a3::a4::a5::a6::a7::a8::a9::a10::a11::a12::a13::a14::a15::some v::l) H Q:=⟨v,rfl,h⟩
theorem aAG {v:V}{H:Hp}{q:St->Hp->Prop}{a0 a1 a2 a3 a4 a5 a6 a7 a8 a9 a10 a11 a12 a13 a14 a15 a:Option V}{l:St} (h:q (a0::a1::a2::a3::a4::a5::a6::a7::a8::a9::a10::a11::a12::a13::a14::a15::some v::l) H):cJ 16 v (a0::a1::a2::a3::a4::a5::a6::a7::a8::a9::a10::a11::a12::a13::a14::a15::a::l) H q:=h
theorem Room.units9 {k:Nat}{A:Around} (r:Room k A):A.units+9<cLine:=by have:=r.un;have:cLine=9900:=rfl;lia
def DeepEq (K:W.Frag)(H:Hp):Nat->V->V->Prop
 | 0,x,y=>x=y/\tH x=true
 | n+1,x,y=>(x=y/\tH x=true)∨(∃a b xs ys,x= .ref a/\y= .ref b/\SqL K H a xs/\SqL K H b ys/\Paired (DeepEq K H n) xs ys)∨(∃a b xs ys,x= .ref a/\y= .ref b/\H a=some (.tup xs)/\H b=some (.tup ys)/\Paired (DeepEq K H n) xs ys)
theorem E1 {A:Around}{s:Shared}{x:V}{u v:Value} (h:tH x=true) (ru:RelV x u) (rv:RelV x v):SeqAt.EqAt A s u v true:=by
 have base:gJ x=true->SeqAt.EqAt A s u v true:=fun hx=>by
  have:=GY (A:=A) (s:=s) ru rv hx hx;rw[UX hx]at this;exact this
 cases x<;>first|(cases ru;cases rv;exact SeqAt.EqAt.same _)|exact base h
theorem oW {A:Around}{s:Shared}{F:V->V->Prop} (hF:∀x y u v,F x y->RelV x u->RelV y v->SeqAt.EqAt A s u v true):∀{xs ys:List V}{us ws:List Value},Paired F xs ys->Vals xs us->Vals ys ws->∀j (h1:j<us.length) (h2:j<ws.length),SeqAt.EqAt A s us[j] ws[j] true
 | _,_,_,_,.nil,.nil,.nil,j,h1,_=>absurd h1 (Nat.not_lt_zero _)
 | _,_,_,_,.cons h _,.cons r1 _,.cons r2 _,0,_,_=>hF _ _ _ _ h r1 r2
 | _,_,_,_,.cons _ t,.cons _ t1,.cons _ t2,j+1,h1,h2=>oW hF t t1 t2 j (Nat.lt_of_succ_lt_succ h1) (Nat.lt_of_succ_lt_succ h2)
section
variable {X:Cx}{pins:List (Addr×Obj)}{σ:St}{H:Hp}{s:Shared}
theorem wH (I:Inv X pins σ H s):∀(n:Nat) (A:Around),A.units+n<cLine->∀x y u v,DeepEq X.K H n x y->RelV x u->RelV y v->SeqAt.EqAt A s u v true
 | 0,A,hu,x,y,u,v,h,ru,rv=>by obtain⟨rfl,h⟩:=h;exact E1 h ru rv
 | n+1,A,hu,x,y,u,v,h,ru,rv=>by
  rcases h with⟨rfl,h⟩|⟨a,b,xs,ys,rfl,rfl,ha,hb,pr⟩|⟨a,b,xs,ys,rfl,rfl,ha,hb,pr⟩
  ·exact E1 h ru rv
  ·cases ru;cases rv
   by_cases hab:a=b
   ·subst hab;exact SeqAt.EqAt.same _
   ·obtain⟨its,r,pl,hz⟩:=I.list ha;obtain⟨its2,r2,pl2,_⟩:=I.list hb;have hl:its.length=its2.length:=by rw[←r.length,←r2.length];exact Paired.length pr
    have:=SeqAt.EqAt.of_refs hab (SeqAt.RcAt.lists (A:=A) (e:=fun _=>true) pl.isList pl2.isList (by simpa using hl) (by lia) fun j h1 h2=>by
     have h1':j<its.length:=by simpa using h1
     have h2':j<its2.length:=by simpa using h2
     have:=oW (A:=A.in1) (wH I n A.in1 (by show A.units+1+n<cLine;lia)) pr r r2 j h1' h2'
     simpa using this)
    rw[tV]at this;exact this
  ·cases ru;cases rv
   by_cases hab:a=b
   ·subst hab;exact SeqAt.EqAt.same _
   ·obtain⟨_,its,r,o1,g1,c1,n1,d1⟩:=(show ObjOk X.prog X.w H s.heap a (.tup xs) from I.hok a _ ha)
    obtain⟨_,its2,r2,o2,g2,c2,n2,d2⟩:=(show ObjOk X.prog X.w H s.heap b (.tup ys) from I.hok b _ hb)
    have hl:its.length=its2.length:=by rw[←r.length,←r2.length];exact Paired.length pr
    have:=SeqAt.EqAt.of_refs hab (SeqAt.RcAt.tuples (A:=A) (e:=fun _=>true) ⟨o1,g1,c1,n1,d1⟩ ⟨o2,g2,c2,n2,d2⟩ (by lia) fun j h1 h2=>by
     have h1':j<its.length:=by simpa using h1
     have h2':j<its2.length:=by simpa using h2
     have:=oW (A:=A.in1) (wH I n A.in1 (by show A.units+1+n<cLine;lia)) pr r r2 j h1' h2'
     simpa using this)
    simpa [tV,hl] using this
end
section
variable {X:Cx}
def P0 (K:W.Frag)(r:Bool):R2:=fun x y H Q=>∃a b xs ys,x= .ref a/\y= .ref b/\SqL K H a xs/\SqL K H b ys/\Paired (DeepEq K H 4) xs ys/\Q (.bl r) H
theorem aCj (hu:X.A.units+9<cLine):OpR X (compareOp .Eq) (P0 X.K true):=by
 intro pins s σ H x y v u Q I rx ry h;obtain⟨a,b,xs,ys,rfl,rfl,ha,hb,pr,q⟩:=h;cases rx;cases ry;obtain⟨its,r,pl,hz⟩:=I.list ha;obtain⟨its2,r2,pl2,_⟩:=I.list hb;have hl:its.length=its2.length:=by rw[←r.length,←r2.length];exact Paired.length pr
 refine SeqAt.eq_listAt (e:=fun _=>true) pl.isList pl2.isList (by simpa using hl) (by lia) (fun j h1 h2=> ?_) ⟨.bl true,H,I,by rw[tV];rfl,q⟩;have:=oW (A:=X.A.in1) (wH I 4 X.A.in1 (by show X.A.units+1+4<cLine;lia)) pr r r2 j (by simpa using h1) (by simpa using h2)
 simpa using this
def HU (K:W.Frag)(r:Bool):R2:=fun x y H Q=>∃a b xs ys,x= .ref a/\y= .ref b/\H a=some (.tup xs)/\H b=some (.tup ys)/\Paired (DeepEq K H 4) xs ys/\Q (.bl r) H
theorem YB (hu:X.A.units+9<cLine):OpR X (compareOp .NotEq) (HU X.K false):=by
 intro pins s σ H x y v u Q I rx ry h;obtain⟨a,b,xs,ys,rfl,rfl,ha,hb,pr,q⟩:=h;cases rx;cases ry;obtain⟨_,its,r,o1,g1,c1,n1,d1⟩:=(show ObjOk X.prog X.w H s.heap a (.tup xs) from I.hok a _ ha)
 obtain⟨_,its2,r2,o2,g2,c2,n2,d2⟩:=(show ObjOk X.prog X.w H s.heap b (.tup ys) from I.hok b _ hb)
 have hl:its.length=its2.length:=by rw[←r.length,←r2.length];exact Paired.length pr
 refine SeqAt.RcNeAt.tuples (e:=fun _=>true) ⟨o1,g1,c1,n1,d1⟩ ⟨o2,g2,c2,n2,d2⟩ (by lia) (fun j h1 h2=> ?_) X.prog X.w X.xe _ ⟨.bl false,H,I,(by
  have e:((List.range (min its.toArray.size its2.toArray.size)).all (fun _=>true)&&its.toArray.size==its2.toArray.size)=true:=by simp[tV,hl]
  rw[e];rfl),q⟩
 have:=oW (A:=X.A.in1) (wH I 4 X.A.in1 (by show X.A.units+1+4<cLine;lia)) pr r r2 j (by simpa using h1) (by simpa using h2)
 simpa using this
end
section
variable {K:W.Frag}{H H':Hp}{Q:VK}
theorem UE {a b:Addr}{xs ys:List V}{r:Bool} (ha:SqL K H a xs) (hb:SqL K H b ys) (pr:Paired (DeepEq K H 4) xs ys) (h:Q (.bl r) H):P0 K r (.ref a) (.ref b) H Q:=⟨a,b,xs,ys,rfl,rfl,ha,hb,pr,h⟩
theorem VV {a b:Addr}{xs ys:List V}{r:Bool} (ha:H a=some (.tup xs)) (hb:H b=some (.tup ys)) (pr:Paired (DeepEq K H 4) xs ys) (h:Q (.bl r) H):HU K r (.ref a) (.ref b) H Q:=⟨a,b,xs,ys,rfl,rfl,ha,hb,pr,h⟩
theorem DeepEq.self {n:Nat}{x:V} (h:tH x=true):DeepEq K H n x x:=by cases n with|zero=>exact⟨rfl,h⟩|succ n=>exact .inl ⟨rfl,h⟩
theorem DeepEq.lst {n:Nat}{a b:Addr}{xs ys:List V} (ha:SqL K H a xs) (hb:SqL K H b ys) (pr:Paired (DeepEq K H n) xs ys):DeepEq K H (n+1) (.ref a) (.ref b):= .inr (.inl ⟨a,b,xs,ys,rfl,rfl,ha,hb,pr⟩)
theorem tS {n:Nat}:∀{xs:List V},xs.all tH=true->Paired (DeepEq K H n) xs xs
 | [],_=> .nil
 | x::xs,h=>by
  rw[List.all_cons,Bool.and_eq_true]at h;exact .cons (DeepEq.self h.1) (tS h.2)
end
section
variable {H:Hp}{Q:VK}{σ:St}{ty tx:TE}
end
section
variable {H:Hp}{Q:VK}
end
end L2
namespace L2
open PySem PySem.Spec PyProof.Rows
section
variable {X:Cx}{args:Arguments}{body:Expr}{lsc:Scope}{pos:Pos}{y:Str}{c cL PL:Addr}
end
section
variable {K:W.Frag}{ti:TT}{te:TE}{σ:St}{ci:List Nat}{rest:St}{fin:List V->Hp->Prop}{H:Hp}{a:Addr}{α:Type}
end
end L2
namespace L2
open PySem PySem.W PyProof.Rows
section
variable {X:Cx}{pins:List (Addr×Obj)}{σ:St}{H:Hp}{s:Shared}
end
open Classical in
section
variable {X:Cx}{K:W.Frag}
open Classical in
open Classical in
open Classical in
end
section
variable {K:W.Frag}{ti:TT}{te:TE}{σ:St}{ci:List Nat}{rest:St}{fin:List V->Hp->Prop}{H:Hp}{a:Addr}
theorem aBP {kvs:List (List Key×V)}{o:Obj} (c:List Key×V->Bool) (P:List Key×V->V->Hp->Prop) (hm:∀x y H1 H2,P x y H1->Same H1 H2->P x y H2) (hk:∀e∈kvs,e.1.length=2) (hn:kvs.length<=sizeLine) (hr:ci.map (fun i=>(σ[i]?).join)=rest) (h0:H a=some (.frz o (.dT kvs)))
  (ht:∀k1 k2 v H1,([k1,k2],v)∈kvs->Same H H1->∀R:Bool->Hp->Prop,(∀H2,Same H1 H2->R (c ([k1,k2],v)) H2)->ti (some (kV k1)::some (kV k2)::rest) H1 R)
  (he:∀k1 k2 v H1,([k1,k2],v)∈kvs->c ([k1,k2],v)=true->Same H H1->∀R:VK,(∀y H2,P ([k1,k2],v) y H2->Same H1 H2->R y H2)->te (some (kV k1)::some (kV k2)::rest) H1 R)
  (hf:∀ys H1,Same H H1->Paired (fun x y=>P x y H1) (kvs.filter c) ys->fin ys H1):fW (Itq a o kvs) (HY K 2 (wR (cJ 0) (wR (cJ 1) M0))) ti te (bZ 2 ci σ) fin H:=by
 have e0:bZ 2 ci σ=none::none::rest:=aA7 hr;rw[e0];refine k6 kvs c P hm hn (fun i H1 s hi=>⟨s _ _ h0,hi⟩) (fun H1 s=>⟨s _ _ h0,Nat.le_refl _⟩) (fun i x H1 hx s1 v H' y=> ?_) hf;obtain⟨rfl,k,u,q,e2,rfl,hq⟩:=y;rw[hx]at e2;cases e2;have hmem:=List.mem_of_getElem? hx;have hl2:=hk _ hmem;obtain⟨k1,k2,rfl⟩:∃k1 k2,k=[k1,k2]:=by
  match k,hl2 with
  | [k1,k2],_=>exact⟨k1,k2,rfl⟩
 refine⟨Same.refl _,some (kV k1)::some (kV k2)::rest,rfl,fun j v hv=> ?_,fun R h=>⟨q,[kV k1,kV k2],rfl,.inl (.inl hq),rfl,kV k1,[kV k2],rfl,kV k2,[],rfl,rfl,h⟩,fun R h=>ht _ _ _ _ hmem s1 R h,fun hc H2 s2 R h=>he _ _ _ H2 hmem hc (s1.trans s2) R h⟩
 match j,hv with
 | 0,hv=>cases hv
 | 1,hv=>cases hv
 | j+2,hv=>exact hv
end
section
variable {X:Cx}
end
section
variable {X:Cx}{ek ev:Expr}{tk tv:TE}{pos:Pos}
end
structure FX (K:Frag)(nm qual:Str)(st:Stmt)(ps:List Str)(a:Addr) where
 d:FuncData
 F:FunV K nm qual st a d
 b:Binds K d ps []
inductive FnL (K:Frag)(nm qual:Str)(st:Stmt)(f:Addr):Prop
 | mk {oc:Value}{od an:Option Addr}{osl:Array (Option Value)}{kV doc pm cdv ct:Value} (l:K.lookup f=some ⟨oc,od,.func (fnOf nm qual (dP st) (cY st) (aG st) .none kV doc pm an cdv ct),osl⟩) (c:codeIn K cdv qual=true) (k:keepIn K (.ref f)=true):FnL K nm qual st f
section
variable {K:Frag}{x qual:Str}{st:Stmt}{f:Addr}
abbrev fnB (x qual:Str)(st:Stmt)(kV doc pm cdv ct:Value)(an:Option Addr)(us:List Value):Sem (List (Str×Value)):=bindArgs (fnOf x qual (dP st) (cY st) (aG st) .none kV doc pm an cdv ct) ⟨us,[]⟩
theorem FnL.ne {ps:List Str}(L:FnL K x qual st f)(h:∀kV doc pm cdv ct an (us:List Value),us.length=ps.length->fnB x qual st kV doc pm cdv ct an us=pure (ps.zip us)):Nonempty (FX K x qual st ps f):=by
 cases L with
 | mk l c k=>exact⟨⟨_,rM l c k,.all fun us hl=>h _ _ _ _ _ _ us hl⟩⟩
noncomputable def FnL.xn {ps:List Str} (L:FnL K x qual st f) (h:∀kV doc pm cdv ct an (us:List Value),us.length=ps.length->fnB x qual st kV doc pm cdv ct an us=pure (ps.zip us)):FX K x qual st ps f:=Classical.choice (L.ne h)
noncomputable def FnL.x1 {p1:Str} (L:FnL K x qual st f) (h:∀kV doc pm cdv ct an a,fnB x qual st kV doc pm cdv ct an [a]=pure [(p1,a)]):FX K x qual st [p1] f:=L.xn fun kV doc pm cdv ct an us hl=>by
 obtain _|⟨a,_|⟨b,us⟩⟩:=us
 ·cases hl
 ·exact h ..
 ·cases hl
noncomputable def FnL.x2 {p1 p2:Str} (L:FnL K x qual st f) (h:∀kV doc pm cdv ct an a b,fnB x qual st kV doc pm cdv ct an [a,b]=pure [(p1,a),(p2,b)]):FX K x qual st [p1,p2] f:=L.xn fun kV doc pm cdv ct an us hl=>by
 obtain _|⟨a,_|⟨b,_|⟨c,us⟩⟩⟩:=us
 ·cases hl
 ·cases hl
 ·exact h ..
 ·cases hl
noncomputable def FnL.x3 {p1 p2 p3:Str} (L:FnL K x qual st f) (h:∀kV doc pm cdv ct an a b c,fnB x qual st kV doc pm cdv ct an [a,b,c]=pure [(p1,a),(p2,b),(p3,c)]):FX K x qual st [p1,p2,p3] f:=L.xn fun kV doc pm cdv ct an us hl=>by
 obtain _|⟨a,_|⟨b,_|⟨c,_|⟨d,us⟩⟩⟩⟩:=us
 ·cases hl
 ·cases hl
 ·cases hl
 ·exact h ..
 ·cases hl
noncomputable def FnL.x4 {p1 p2 p3 p4:Str} (L:FnL K x qual st f) (h:∀kV doc pm cdv ct an a b c d,fnB x qual st kV doc pm cdv ct an [a,b,c,d]=pure [(p1,a),(p2,b),(p3,c),(p4,d)]):FX K x qual st [p1,p2,p3,p4] f:=L.xn fun kV doc pm cdv ct an us hl=>by
 obtain _|⟨a,_|⟨b,_|⟨c,_|⟨d,_|⟨e,us⟩⟩⟩⟩⟩:=us
 ·cases hl
 ·cases hl
 ·cases hl
 ·cases hl
 ·exact h ..
 ·cases hl
def noF (K:Frag)(C:Addr)(fs:List Str):Bool:=fs.all fun x=>(findIn K (.ref C) x).any (·.isNone)
theorem fH {C:Addr}{fs:List Str} (h:noF K C fs=true) (i:Nat) {x:Str} (e:fs[i]? =some x):NoAttr K C x:=by
 have h2:=List.all_eq_true.mp h x (List.mem_of_getElem? e);unfold NoAttr;cases h3:findIn K (.ref C) x with
 | none=>rw[h3]at h2;cases h2
 | some o =>
  rw[h3]at h2;cases o with
  | none=>rfl
  | some v=>cases h2
end
end L2
namespace L2
open PySem PySem.Spec PyProof.Rows PySem.W
section
variable {P:Program}{w:World}{A:Around}{E:Value->Shared->Prop}{h:Heap}{gs:Array GenState}{dr:Drawn}{tk:Nat}{os:OsState}
variable {nm qn:Str}{C N:Addr}{bs bm bmB:List Value}{hd:Bool}{sn:List Str}{sub:List Value}{ab:Bool}{col:Option Bool}{dd:Option Addr}{k0 k1 k2 k3 k5:Option Value}{B newId initId:String}
abbrev lU (h:Heap)(C:Addr)(us:List Value):Heap:=(h.push { cls:= .type "tuple",data:= .seq us.toArray }).push { cls:= .ref C,data:= .fields #[.ref h.objs.size,.none,.none,.none,.bool false,.none] }
theorem j4 {us:List Value}{b:Addr}{o:Obj} (q:h.get? b=some o):(lU h C us).get? b=some o:=Heap.get?_push_of_some _ (Heap.get?_push_of_some _ q)
theorem FF (Fx:ExcBaseFacts B newId initId bmB)(T:OwnTail h bmB bm){mN:Str->Option Value}{us:List Value}{fi:Addr}{ob:Obj}{Q:Fin->Shared->Prop}
  (hC:h.get? C=some (excClassObj nm qn C N bs bm hd sn sub ab col dd k0 k1 k2 k3 k5 newId))(hn:h.Ns N mN)(hi:mN "__init__" =some (.ref fi))(hf:h.get? fi=some ob)(hfc:ob.cls= .type "function")
  (k:wpAny (model P w) A (call (.ref fi) (.ref (h.objs.size+1)::us)) (fun r s'=>r= .none/\Q (.done (.ret (.ref (h.objs.size+1)))) s') E ⟨lU h C us,gs,dr,tk,os⟩)(hl:us.length<=sizeLine) :
  wpAny (model P w) A (Builtin.«type.__call__» ⟨.ref C::us,[]⟩) Q E ⟨h,gs,dr,tk,os⟩:=by
 repeat (first|with_reducible refine wpAny_loadPart_at hC ?_|with_reducible refine wpAny_madeBy_exc hC ?_|wp_step)
 refine codeAny_call_builtin_code (Code.quiet_builtin _ Fx.quiet) (wpAny_check_new_subT Fx T hC (codeAny_exc_new_subT Fx T hC ?_ hl));show wpAny _ _ _ _ _ _;have c1:(lU h C us).get? C=_:=j4 hC;have f1:(lU h C us).get? fi=_:=j4 hf;have n1:(lU h C us).Ns N mN:=hn.keeps fun b o q=>j4 q;have t1:OwnTail (lU h C us) bmB bm:=T.keeps fun b o q=>j4 q;have g1:(lU h C us).get? (h.objs.size+1)=some { cls:= .ref C,data:= .fields #[.ref h.objs.size,.none,.none,.none,.bool false,.none] }:=by heap_get
 have hcc:(Value.ref C::bm).contains (.ref C)=true:=by simp
 unfold isInstance
 repeat (first|with_reducible refine wpAny_loadPart_at g1 ?_|(with_reducible refine wpAny_isSubtype_exc c1 ?_;rw[hcc])|wp_step)
 show wpAny _ _ (typeLookup (.ref C) _) _ _ _;refine wpAny_typeLookup_tail c1 n1 t1 Fx.mroIs Fx.init.lookup ?_;rw[hi];refine wpAny_holding (wpAny_bind ?_);unfold bindSpecial;refine wpAny_bind (wpAny_typeOf (T:= "function") ⟨_,f1,hfc⟩ ?_);rw[if_pos (by decide)];refine wpAny_pure (wpAny_bind (wpAny_mono k (fun r s' ⟨hr,hQ⟩=> ?_) fun _ _ y=>y));subst hr
 wp_walk
 exact hQ
theorem U7 (Fx:ExcBaseFacts B newId initId bmB)(T:OwnTail h bmB bm){mN:Str->Option Value}{us:List Value}{fi:Addr}{ob:Obj}{Q:Value->Shared->Prop}
  (hC:h.get? C=some (excClassObj nm qn C N bs bm hd sn sub ab col dd k0 k1 k2 k3 k5 newId))(hn:h.Ns N mN)(hi:mN "__init__" =some (.ref fi))(hf:h.get? fi=some ob)(hfc:ob.cls= .type "function")
  (k:wpAny (model P w) (A.under (.builtin "type.__call__" ⟨.ref C::us,[]⟩)) (call (.ref fi) (.ref (h.objs.size+1)::us)) (fun r s'=>r= .none/\Q (.ref (h.objs.size+1)) s') E ⟨lU h C us,gs,dr,tk,os⟩)(hl:us.length<=sizeLine) :
  wpAny (model P w) A (call (.ref C) us) Q E ⟨h,gs,dr,tk,os⟩:=by
 have x1:=tc_lookup;have x2:=tc_bind (.ref C);have hT:(⟨h,gs,dr,tk,os⟩:Shared).TypeIs (.ref C) "type" :=⟨_,hC,rfl⟩
 refine wpAny_call (codeAny_of_tree ?_);show wpAny _ _ (callAny (.ref C) _) _ _ _
 repeat (any_goals (first|assumption|with_reducible refine wpAny_loadPart_at hC ?_|wp_step))
 exact⟨rfl,codeAny_call_builtin_at (Code.quiet_builtin _ (by decide +kernel)) entry_typeCall (wpAny_check_type_call_sub hC (FF Fx T hC hn hi hf hfc k hl))⟩
end
section
variable {P:Program}{w:World}{A:Around}{E:Value->Shared->Prop}{h:Heap}{g:Array GenState}{d:Drawn}{t:Nat}{os:OsState}{K:Frag}
abbrev wS (h:Heap)(e:Addr):Heap:=(h.push { cls:= .type "dict",data:= .dict #[] }).update e fun o=>{ o with dict:=some h.objs.size }
abbrev lZ (w:World)(h:Heap)(e:Addr)(nm:Str)(tk:Tok)(v:Value):Heap:=(wS h e).update h.objs.size (Obj.putName nm (PyData.keyHash w.params nm) (.str nm tk) v)
theorem R0 {e C:Addr}{vs:Array Value}{nm:Str}{tk:Tok}{v:Value}{b:Bool}{cd:ClassData}{Q:Fin->Shared->Prop} (X:K.In h) (hc:clsIn K C=some cd) (hdd:cd.hasDict=true) (hx:h.get? e=some { cls:= .ref C,data:= .fields vs })
  (hq:Q (.done (.ret .none)) ⟨lZ w h e nm t v,g,d,t+1,os⟩):wpAny (model P w) A (Builtin.ObjectAttr.storeInOwnDict (.ref e) (.ref C) (.str nm tk) nm v b) Q E ⟨h,g,d,t,os⟩:=by
 unfold Builtin.ObjectAttr.storeInOwnDict;have L1:=looks_clsIn (M:=model P w) X hc
 repeat (any_goals (first|assumption|(with_reducible refine wpAny_loadPart_at hx ?_)|(with_reducible refine L1.at ?_)|wp_step))
 have ne:e≠h.objs.size:=Nat.ne_of_lt (Heap.lt_size hx);have hd1:(wS h e).get? h.objs.size=some { cls:= .type "dict",data:= .dict #[] }:=by
  rw[Heap.get?_update_other _ _ ne];exact Heap.get?_push_at rfl rfl
 have hq':Q (.done (.ret .none)) ⟨(wS h e).update h.objs.size (Obj.putName nm (PyData.keyHash w.params nm) (.str nm t) v),g,d,t+1,os⟩:=hq;show wpAny _ _ ask _ _ ⟨wS h e,g,d,t,os⟩;generalize wS h e=h1 at hd1 hq' ⊢;refine wpAny_askSetting ?_
 repeat (any_goals (first|assumption|(with_reducible refine wpAny_loadPart_at hd1 ?_)|(with_reducible refine wpAny_updatePart' hd1 ?_)|wp_step))
end
end L2
namespace L2
open PySem PySem.Spec PyProof.Rows PySem.W Builtin Builtin.ObjectAttr
def F9:List Value->Bool
 | .ref _::r=>F9 r
 | l=>l==bmV
theorem OH (self:Value):refuseLoop self "__setattr__" bmV=pure ():=by kernel_rfl
theorem vR (self:Value):∀{l:List Value},F9 l=true->refuseLoop self "__setattr__" l=pure ()
 | .ref c::r,e=>by rw[refuseLoop_ref];exact vR self (l:=r) e
 | [],e=>by cases e
 | .none::r,e=>by cases e
 | .type n::r,e=>by
  have e:(Value.type n::r)=bmV:=beq_iff_eq.mp e;rw[e];exact OH self
theorem EZ:∀{l:List Value},F9 l=true->l.contains (.type "object")=true
 | .ref c::r,e=>by rw[List.contains_cons,EZ (l:=r) e,Bool.or_true]
 | [],e=>by cases e
 | .none::r,e=>by cases e
 | .type n::r,e=>by
  have e:(Value.type n::r)=bmV:=beq_iff_eq.mp e;rw[e];decide
def dQ (K:Frag)(C:Addr):Bool:=(clsIn K C).any fun cd=>F9 cd.mro&&cd.hasDict
section
variable {P:Program}{w:World}{A:Around}{E:Value->Shared->Prop}{h:Heap}{g:Array GenState}{d:Drawn}{t:Nat}{os:OsState}{K:Frag}
theorem Y2 {e C:Addr}{vs:Array Value}{nm:Str}{tk:Tok}{v:Value}{R:Result->Shared->Prop} (X:K.In h) (hf:dQ K C=true) (hn:findIn K (.ref C) nm=some none) (hx:h.get? e=some { cls:= .ref C,data:= .fields vs })
  (hq:R (.ok (.ret .none)) ⟨lZ w h e nm t v,g,d,t+1,os⟩) :
  codeAny (model P w) A (.call (.builtin "object.__setattr__") ⟨[.ref e,.str nm tk,v],[]⟩) R ⟨h,g,d,t,os⟩:=by
 have SF:=PySem.F.store_object;obtain⟨cd,hc,ho⟩:=any_some hf;obtain⟨h1,h2⟩:=(Bool.and_eq_true _ _).mp ho;have hne:cd.mro.isEmpty=false:=by
  cases q:cd.mro with
  | nil=>rw[q]at h1;cases h1
  | cons _ _=>rfl
 have ty:=fZ (M:=model P w) hx rfl rfl;have obj:Looks (model P w) h (isInstance (.ref e) (.type "object")) true:=ty.andThen (looks_mroIn X (by unfold mroIn;rw[hc,Option.bind_some,if_neg (by rw[hne];decide),EZ h1]));refine codeAny_call_builtin SF.slot.plain SF.entry (@check_slot (model P w) _ _ ⟨h,g,d,t,os⟩ "object.__setattr__" "object" "__setattr__" (.ref e) [.str nm tk,v] [] _ SF.kind SF.split obj (SF.args (.ref e) (.str nm tk) v) ?_);have mr:Looks (model P w) h (mroOf (.ref C)) cd.mro:=(looks_clsIn X hc).andThen .now;rw[osa_eq,refuse_eq];refine wpAny_bind (wpAny_bind (ty.here (wpAny_bind (mr.here ?_))));rw[vR _ h1];refine wpAny_pure (wpAny_bind (ty.here (wpAny_bind ((looks_findIn X hn).here (wpAny_bind ?_)))));exact wpAny_pure (R0 X hc h2 hx hq)
theorem WG {e C:Addr}{vs:Array Value}{nm:Str}{v:Value}{Q:Unit->Shared->Prop} (X:K.In h) (hf:dQ K C=true) (hn:findIn K (.ref C) nm=some none) (hs:findIn K (.ref C) "__setattr__" =some (some (.builtin "object.__setattr__")))
  (hx:h.get? e=some { cls:= .ref C,data:= .fields vs })(hq:Q () ⟨lZ w h e nm (t+1) v,g,d,t+2,os⟩):wpAny (model P w) A (setAttr (.ref e) nm v) Q E ⟨h,g,d,t,os⟩ :=
 set_plain (s:=⟨h,g,d,t,os⟩) X (⟨hx,rfl,rfl,trivial⟩:InstAt h e { cls:= .ref C,data:= .fields vs } C none) hs (Y2 X hf hn hx hq)
end
section
variable {P:Program}{w:World}{A:Around}{E:Value->Shared->Prop}{h:Heap}{g:Array GenState}{d:Drawn}{t:Nat}{os:OsState}{K:Frag}{a C dx:Addr}{o:Obj}{vs:Array Value}{nm:Str}{u:Value}{mA:Str->Option Value}
theorem KK {tk:Tok}{Q:Fin->Shared->Prop} (X:K.In h) (k:ExcK K C) (hf:dQ K C=true) (hn:findIn K (.ref C) nm=some none) (hx:h.get? a=some o) (hc:o.cls= .ref C) (hd:o.data= .fields vs) (hdx:o.dict=some dx) (hns:h.Ns dx mA) (hm:mA nm=some u) (hq:Q (.done (.ret u)) ⟨h,g,d,t,os⟩) :
  wpAny (model P w) A (Builtin.«object.__getattribute__» ⟨[.ref a,.str nm tk],[]⟩) Q E ⟨h,g,d,t,os⟩:=by
 obtain⟨cd,hcd,ho⟩:=any_some hf;obtain⟨_,hdd⟩:=(Bool.and_eq_true _ _).mp ho;have L3:=looks_clsIn (M:=model P w) X hcd;have L0:=fZ (M:=model P w) hx hc hd;have L1:=looks_findIn (M:=model P w) X hn;obtain⟨oc,od,oda,osl⟩:=o
 dsimp only at hc hd hdx
 subst hc hd hdx;have L2:Looks (model P w) h (inDict nm (some dx)) (some u):=by
  intro A' Q' E' s' kp q;show wpAny _ _ (nsGet dx nm) _ _ _;have hns':s'.heap.Ns dx mA:=hns.keeps kp;obtain⟨hh,g',d',t',os'⟩:=s';refine wpAny_nsGet hns' ?_;rw[hm];exact q
 repeat (any_goals (first|assumption|(with_reducible refine L0.at ?_)|(with_reducible refine L1.at ?_)|(with_reducible refine L2.at ?_)|(with_reducible refine L3.at ?_)|(with_reducible refine wpAny_loadPart_at hx ?_)|wp_step))
theorem OM {tk:Tok}{R:Result->Shared->Prop} (X:K.In h) (k:ExcK K C) (hf:dQ K C=true) (hn:findIn K (.ref C) nm=some none) (hx:h.get? a=some o) (hc:o.cls= .ref C) (hd:o.data= .fields vs) (hdx:o.dict=some dx) (hns:h.Ns dx mA) (hm:mA nm=some u) (hq:R (.ok (.ret u)) ⟨h,g,d,t,os⟩) :
  codeAny (model P w) A (.call (.builtin "BaseException.__getattribute__") ⟨[.ref a,.str nm tk],[]⟩) R ⟨h,g,d,t,os⟩ :=
 codeAny_call_builtin F.excAttr_ValueError.ga.plain F.entry_bexc_ga (uV X k hx hc hd (KK X k hf hn hx hc hd hdx hns hm hq))
theorem UT {tk:Tok}{fill expr:Bool}{Q:Value->Shared->Prop} (hu:∀id,u≠ .builtin id) (X:K.In h) (k:ExcK K C) (hf:dQ K C=true) (hn:findIn K (.ref C) nm=some none) (hx:h.get? a=some o) (hc:o.cls= .ref C) (hd:o.data= .fields vs) (hdx:o.dict=some dx) (hns:h.Ns dx mA) (hm:mA nm=some u) (hq:Q u ⟨h,g,d,t,os⟩) :
  wpAny (model P w) A (getAttrBy (.ref a) (.str nm tk) fill expr) Q E ⟨h,g,d,t,os⟩:=by
 have y0:=fZ (M:=model P w) hx hc hd;have y1:=looks_findIn (M:=model P w) X k.ga;have y2:=looks_findIn (M:=model P w) X k.gg;have y3:=F.excAttr_ValueError.ga.bind (.ref a);have z0:(expr&&onTheHeap (Value.builtin "BaseException.__getattribute__"))=false:=by cases expr<;>rfl
 have z2:(Value.builtin "BaseException.__getattribute__" ==Value.builtin "object.__getattribute__")=false:=by decide +kernel
 have z1:(onTheHeap (Value.ref C)&&Value.builtin "BaseException.__getattribute__" ==Value.builtin "object.__getattribute__")=false:=by rw[z2];rfl
 repeat (any_goals (first|assumption|(with_reducible refine y0.at ?_)|(with_reducible refine y1.at ?_)|(with_reducible refine y2.at ?_)|wp_step))
 refine OM X k hf hn hx hc hd hdx hns hm ?_
 repeat (any_goals (first|assumption|wp_step))
 cases u with
 | builtin id=>exact absurd rfl (hu id)
 | _=>exact wpAny_pure hq
theorem QN {b:Bool}{Q:Value->Shared->Prop} (hu:∀id,u≠ .builtin id) (X:K.In h) (k:ExcK K C) (hf:dQ K C=true) (hn:findIn K (.ref C) nm=some none) (hx:h.get? a=some o) (hc:o.cls= .ref C) (hd:o.data= .fields vs) (hdx:o.dict=some dx) (hns:h.Ns dx mA) (hm:mA nm=some u) (hq:Q u ⟨h,g,d,t+1,os⟩) :
  wpAny (model P w) A (getAttr (.ref a) nm b) Q E ⟨h,g,d,t,os⟩:=by
 unfold getAttr
 repeat (any_goals (first|assumption|with_reducible apply UT hu X k hf hn hx hc hd hdx hns hm|wp_step))
end
end L2
namespace L2
open PySem PySem.Spec PyProof.Rows PySem.W
section
variable {w:World}{h:Heap}{e C:Addr}{vs:Array Value}{nm:Str}{tk:Tok}{v:Value}
theorem M6 {b:Addr}(hb:b≠e)(hb':b≠h.objs.size){o:Obj}(q:h.get? b=some o):(lZ w h e nm tk v).get? b=some o:=by
 rw[Heap.get?_update_other _ _ (Ne.symm hb'),Heap.get?_update_other _ _ (Ne.symm hb)];exact Heap.get?_push_of_some _ q
theorem MT (hx:h.get? e=some { cls:= .ref C,data:= .fields vs }):(lZ w h e nm tk v).get? e=some { cls:= .ref C,dict:=some h.objs.size,data:= .fields vs }:=by
 rw[Heap.get?_update_other _ _ (Ne.symm (Nat.ne_of_lt (Heap.lt_size hx)))];exact Heap.get?_update_self _ (Heap.get?_push_of_some _ hx) rfl
theorem P3 (hx:h.get? e=some { cls:= .ref C,data:= .fields vs }):(lZ w h e nm tk v).Ns1 h.objs.size fun x=>if x=nm then some v else none:=by
 have hd1:(wS h e).get? h.objs.size=some (dictOf [] 0):=by
  rw[Heap.get?_update_other _ _ (Nat.ne_of_lt (Heap.lt_size hx))];exact Heap.get?_push_at rfl rfl
 have hp:=putName_dict nm (PyData.keyHash w.params nm) (.str nm tk) v [] 0;have hg:(lZ w h e nm tk v).get? h.objs.size=some (dictOf [⟨PyData.keyHash w.params nm,.str nm tk,v⟩] 1):=by
  rw[Heap.get?_update_self _ hd1 (by rw[hp];rfl),hp];rfl
 refine⟨_,_,_,hg,rfl,fun b hb=> ?_,List.pairwise_singleton _ _,fun x=> ?_⟩
 ·have hb:b=⟨PyData.keyHash w.params nm,.str nm tk,v⟩:=by simpa using hb
  subst hb;exact⟨nm,tk,rfl⟩
 ·unfold nsFind findBy
  by_cases hxn:x=nm
  ·subst hxn;simp[Value.isStr]
  ·simp[Value.isStr,hxn,Ne.symm hxn]
end
abbrev sU (e C:Addr)(vs:Array Value):Heap->Prop:=fun h=>h.get? e=some { cls:= .ref C,data:= .fields vs }
abbrev qJ (e C dx:Addr)(vs:Array Value):Heap->Prop:=fun h=>h.get? e=some { cls:= .ref C,dict:=some dx,data:= .fields vs }
section
variable {X:Cx}{pins:List (Addr×Obj)}{σ:St}{H:Hp}{s:Shared}{A:Around}{E:Value->Shared->Prop}{e C:Addr}{vs:Array Value}{nm:Str}{y:V}{u:Value}
theorem YI {Q:Unit->Shared->Prop}(I:Inv X pins σ H s)(he:H e=some (.ext (sU e C vs)))(hf:dQ X.K C=true)(hn:NoAttr X.K C nm)(hs:findIn X.K (.ref C) "__setattr__" =some (some (.builtin "object.__setattr__")))(ry:RelV y u)
  (k:∀dx s',H dx=none->dx≠e->Inv X pins σ (upd (upd H e (.ext (qJ e C dx vs))) dx (.xd [(nm,y)])) s'->Q () s'):wpAny (model X.prog X.w) A (setAttr (.ref e) nm u) Q E s:=by
 obtain⟨hx,_,_⟩:=I.hok e _ he;obtain⟨hh,g,d,t,os⟩:=s;have hx:hh.get? e=some { cls:= .ref C,data:= .fields vs }:=hx;have ne:hh.objs.size≠e:=Ne.symm (Nat.ne_of_lt (Heap.lt_size hx));refine WG I.kIn hf hn hs hx (k hh.objs.size _ (I.hok.fresh (Nat.le_refl _)) ne ?_);have hself:(hh.update e fun o=>{ o with dict:=some hh.objs.size }).get? e=some { cls:= .ref C,dict:=some hh.objs.size,data:= .fields vs }:=Heap.get?_update_self _ hx rfl;have I1:=I.write (x:=e) (e:=e) (o:= .ext (qJ e C hh.objs.size vs)) (h':=hh.update e fun o=>{ o with dict:=some hh.objs.size }) (t':=t) (by rw[he];trivial) (.inl rfl) (fun b o hb q=>by rw[Heap.get?_update_other _ _ (Ne.symm hb)];exact q) ⟨_,hself⟩
  ⟨hself,⟨_,hself⟩,fun h1 h2 q1 q2=>q2 _ q1⟩
 refine I1.laid (a:=hh.objs.size) (o:= .xd [(nm,y)]) (h':=lZ X.w hh e nm (t+1) u) (t':=t+2) (fun b o q=> ?_) (by rw[Heap.size_update];exact Nat.le_refl _) ⟨_,P3 hx,fun f=> ?_⟩
 ·by_cases hb:b=e
  ·subst hb;rw[hself]at q;cases q;exact MT hx
  ·rw[Heap.get?_update_other _ _ (Ne.symm hb)]at q;exact M6 hb (Nat.ne_of_lt (Heap.lt_size q)) q
 ·show RelO (List.lookup f [(nm,y)]) (if f=nm then some u else none)
  by_cases hfn:f=nm
  ·rw[if_pos hfn,hfn,List.lookup_cons,beq_self_eq_true];exact ry
  ·rw[if_neg hfn,List.lookup_cons,beq_false_of_ne hfn];exact True.intro
theorem RelV.noB {y:V}{u:Value} (r:RelV y u) (id:String):u≠ .builtin id:=fun z=>by
 subst z;cases y with
 | int i=>obtain⟨_,r⟩:=r;cases r
 | str x=>obtain⟨_,r⟩:=r;cases r
 | byt b=>obtain⟨_,r⟩:=r;cases r
 | flt b=>obtain⟨_,r⟩:=r;cases r
 | _=>cases (show _=_ from r)
theorem YR {b:Bool}{dx:Addr}{fs:List (Str×V)}{Q:Value->Shared->Prop} (I:Inv X pins σ H s) (he:H e=some (.ext (ExcDAt e C dx))) (hd:H dx=some (.xd fs)) (kx:ExcK X.K C) (hf:dQ X.K C=true) (hn:NoAttr X.K C nm) (l:fs.lookup nm=some y)
  (k:∀u s',Inv X pins σ H s'->RelV y u->Q u s'):wpAny (model X.prog X.w) A (getAttr (.ref e) nm b) Q E s:=by
 obtain⟨⟨ob,vs,hx,x1,x2,x3,_⟩,_,_⟩:=I.hok e _ he;obtain⟨mA,hns,r⟩:=I.hok dx _ hd;obtain⟨u,hu,ru⟩:=RelO.some_of (v:=y) (o:=mA nm) (by rw[←l];exact r nm);obtain⟨hh,g,d,t,os⟩:=s;exact QN ru.noB I.kIn kx hf hn hx x1 x3 x2 hns.ns hu (k u _ (I.tok _) ru)
end
structure oZ (K:Frag)(C:Addr):Prop where
 k:ExcK K C
 fi:dQ K C=true
 sa:findIn K (.ref C) "__setattr__" =some (some (.builtin "object.__setattr__"))
section
variable {X:Cx}{o e value:Expr}{f:Str}{pos pos':Pos}{ta tv:TE}
def XZ (K:Frag)(ta tv:TE)(f:Str):TS:=fun D σ H=>tv σ H fun y H1=>ta σ H1 fun x H2=>∃a C vs,x= .ref a/\H2 a=some (.ext (sU a C vs))/\oZ K C/\NoAttr K C f ∧
 ∀dx,H2 dx=none->dx≠a->D.nx σ (upd (upd H2 a (.ext (qJ a C dx vs))) dx (.xd [(f,y)]))
theorem CW (ha:PE X o ta)(hv:PE X value tv)(hs:swapsWith value (some (.Attribute o f pos')) pos.line X.env=pure false):PS X (.Assign [.Attribute o f pos'] value pos) (XZ X.K ta tv f):=by
 intro pins s σ H D I h;refine plainObj_wpAny_Assign_Attribute (thn (hv pins s σ H _ I h) fun u s1 ⟨y,H1,I1,ry,q⟩=>thn (ha pins s1 σ H1 _ I1 q) fun ov s2 ⟨x,H2,I2,rx,q2⟩=> ?_) hs;obtain⟨a,C,vs,ex,ea,c,n,q2⟩:=q2;subst ex;obtain rfl:ov=Value.ref a:=rx;exact YI I2 ea c.fi n c.sa ry fun dx s3 n1 n2 I3=>⟨σ,_,I3,q2 dx n1 n2⟩
def O0 (K:Frag)(ta:TE)(f:Str):TE:=fun σ H Q=>ta σ H fun x H1=>∃a C dx fs v,x= .ref a/\H1 a=some (.ext (ExcDAt a C dx))/\H1 dx=some (.xd fs)/\oZ K C/\NoAttr K C f/\fs.lookup f=some v/\Q v H1
theorem Y3 (he:PE X e ta)(hb:attributeBase e f X.env (eval e X.env)=eval e X.env):PE X (.Attribute e f pos) (O0 X.K ta f):=by
 intro pins s σ H Q I h;refine KW hb (thn (he pins s σ H _ I h) fun u s1 ⟨x,H1,I1,rx,q⟩=> ?_);obtain⟨a,C,dx,fs,v,ex,ea,ed,c,n,l,q⟩:=q;subst ex;obtain rfl:u=Value.ref a:=rx;exact YR I1 ea ed c.k c.fi n l fun u' s2 I2 ru=>⟨v,H1,I2,ru,q⟩
theorem Y5 {K:Frag}{f:Str}{i:Nat}{σ:St}{H:Hp}{Q:VK}{a C dx:Addr}{fs:List (Str×V)}{v:V} (ei:σ[i]? =some (some (.ref a))) (ea:H a=some (.ext (ExcDAt a C dx))) (ed:H dx=some (.xd fs)) (c:oZ K C) (n:NoAttr K C f) (l:fs.lookup f=some v) (h:Q v H):O0 K (c5 i) f σ H Q:=⟨_,ei,a,C,dx,fs,v,rfl,ea,ed,c,n,l,h⟩
theorem DR {K:Frag}{f:Str}{i j:Nat}{D:fM}{σ:St}{H:Hp}{a C:Addr}{vs:Array Value}{y:V} (ei:σ[i]? =some (some (.ref a))) (ej:σ[j]? =some (some y)) (ea:H a=some (.ext (sU a C vs))) (c:oZ K C) (n:NoAttr K C f) (h:∀dx,H dx=none->dx≠a->D.nx σ (upd (upd H a (.ext (qJ a C dx vs))) dx (.xd [(f,y)]))):XZ K (c5 i) (c5 j) f D σ H:=⟨_,ej,_,ei,a,C,vs,rfl,ea,c,n,h⟩
end
def tP (K:Frag)(C fi:Addr):Bool:=match K.lookup C with
 | some ⟨.type "type",_,.cls cd,sl⟩=>(match cd.mro,sl.toList with
  | .ref C'::bm,[_,_,_,_,some (.builtin n),_]=>C'==C&&(n== "ValueError.__new__" &&(!cd.hasDel&&(tailIn K bmV bm&&(nsOkIn K cd.ns&&(nsIn K cd.ns "__init__" ==some (some (.ref fi))&&typeIn K (.ref fi)==some (.type "function"))))))
  | _,_=>false)
 | _=>false
theorem aAR {K:Frag}{h:Heap}{N:Addr}{m:Str->Option Value}{n:Str}{v:Value} (X:K.In h) (G:h.Ns N m) (e:nsIn K N n=some (some v)):m n=some v:=by
 obtain⟨o,es,ep,ho,hd,_,hf⟩:=G;rw[←hf];unfold nsIn at e
 split at e
 ·rename_i q;have z:=X _ _ q;rw[ho]at z;injection z with z;subst z;injection hd with hd1 hd2;subst hd1
  split at e
  ·rename_i en he;injection e with e;injection e with e;subst e;unfold nsFind findBy;rw[←Array.find?_toList,he];rfl
  ·first|cases e|(split at e<;>cases e)
 ·cases e
theorem ZM {K:Frag}{h₀:Heap}{C fi:Addr} (X:K.In h₀) (q:tP K C fi=true) :
  ∃bm N nm q bs hdct sn sub ab col dd k0 k1 k2 k3 k5 mN ob,h₀.get? C=some (excClassObj nm q C N bs bm hdct sn sub ab col dd k0 k1 k2 k3 k5 "ValueError.__new__")/\h₀.Ns N mN/\mN "__init__" =some (.ref fi)/\OwnTail h₀ bmV bm/\h₀.get? fi=some ob/\ob.cls= .type "function" :=by
 unfold tP at q
 split at q
 ·rename_i dd cd sl ho
  split at q
  ·rename_i C' bm k0 k1 k2 k3 n k5 hm hs;simp only[Bool.and_eq_true,beq_iff_eq,Bool.not_eq_true']at q;obtain⟨rfl,rfl,hdel,ht,hok,hni,hty⟩:=q;obtain⟨nm,bs,mro,ns,qn,hd,sn,sub,ab,col,del⟩:=cd
   dsimp only at hm hdel hok hni
   subst hm hdel;have hsl:sl= #[k0,k1,k2,k3,some (.builtin "ValueError.__new__"),k5]:=by
    obtain⟨l⟩:=sl;simp only at hs;rw[hs]
   subst hsl;have hty:(K.lookup fi).map (·.cls)=some (.type "function"):=hty;obtain⟨ob,ho2,hc2⟩:=Option.map_eq_some_iff.mp hty;have N0:h₀.Ns ns (h₀.nsMap ns):= .of_isNs (isNs_of_in X hok);exact⟨bm,ns,nm,qn,bs,hd,sn,sub,ab,col,dd,k0,k1,k2,k3,k5,_,ob,X _ _ ho,N0,aAR X N0 hni,tail_of_in X ht,X _ _ ho2,hc2⟩
  ·cases q
 ·cases q
theorem N6 {M:Model}{A:Around}{E:Value->Shared->Prop}{env:Env}{s:Shared}{x:Sem Value}{Q:Flow->Shared->Prop}{nm q:Str}{C N:Addr}{bs bm:List Value}{hdct:Bool}{sn:List Str}{sub:List Value}{ab:Bool}{col:Option Bool}{dd:Option Addr}{k0 k1 k2 k3 k5:Option Value}{newId:String}
  (hb:bm.contains (.type "BaseException")=true)(hh:A.handled=none)
  (h:wpAny M A x (fun v s₁=>∃e ob vs,v= .ref e/\s₁.heap.get? C=some (excClassObj nm q C N bs bm hdct sn sub ab col dd k0 k1 k2 k3 k5 newId)/\s₁.heap.get? e=some ob/\ob.cls= .ref C/\ob.data= .fields vs/\vs[1]? =some .none/\E (.ref e) s₁) E s):wpAny M A (raiseStmt env (some x) none) Q E s:=by
 have hcB:(Value.ref C::bm).contains (.type "BaseException")=true:=by rw[List.contains_cons,hb,Bool.or_true]
 unfold raiseStmt;refine wpAny_bind (wpAny_mono h (fun v s₁ ⟨e,ob,vs,ev,hC,he,ec,ed,v1,hE⟩=> ?_) fun _ _ x=>x);subst ev;obtain⟨hp,g,d,tk,os⟩:=s₁;obtain⟨oc,od,odt,osl⟩:=ob
 dsimp only at ec ed
 subst ec ed
 repeat (first|with_reducible refine wpAny_loadPart_at he ?_|with_reducible refine wpAny_loadPart_at hC ?_|(with_reducible refine wpAny_isSubtype_exc hC ?_;rw[hcB])|wp_step)
 rw[v1]
 repeat (first|with_reducible exact wpAny_raiseNew_none hh hE|wp_step)
section
variable {P:Program}{w:World}
def lets0 (H:Hp)(c:Addr):Hp:=fun b=>if b=c then none else H b
theorem nX {H:Hp}{c:Addr}:lets0 H c c=none:=by unfold lets0;rw[if_pos rfl]
theorem zE {H:Hp}{c b:Addr} (h:b≠c):lets0 H c b=H b:=by unfold lets0;rw[if_neg h]
theorem nW {H:Hp}{c b:Addr} (h:H b=none):lets0 H c b=none:=by unfold lets0;split<;>first|rfl|exact h
theorem Inv.lets0 {X:Cx}{pins:List (Addr×Obj)}{σ:St}{H:Hp}{s:Shared}{e:Addr}{φ:Heap->Prop} (I:Inv X pins σ H s) (he:H e=some (.ext φ)):Inv X pins σ (L2.lets0 H e) s:=by
 have out:∀b u,H b=some u->(∀ψ,u≠ .ext ψ)->L2.lets0 H e b=some u:=fun b u q n=>by
  rw[zE];exact q;rintro rfl;rw[he]at q;cases q;exact n _ rfl
 refine⟨I.ok,I.os,I.bare,⟨I.base.keep,I.base.slot,fun b o q n hx=>nW (I.base.free b o q n hx),I.base.there,fun b xs q=>out _ _ (I.base.tups b xs q) (by intro ψ z;cases z),fun b o u q=> ?_,fun b ps q=> ?_⟩,I.loc,I.cell,nW I.free,fun x c q=>nW (I.freeC x c q),fun p hp=> ?_,fun b u q=> ?_,I.len⟩
 ·exact out _ _ (I.base.frzs b o u q) (by intro ψ z;cases z)
 ·obtain⟨m,z⟩:=I.base.tbls b ps q;exact⟨m,out _ _ z (by intro ψ z;cases z)⟩
 ·obtain⟨a1,a2,a3,a4,a5⟩:=I.pin p hp;exact⟨a1,nW a2,a3,a4,a5⟩
 ·have hb:b≠e:=by rintro rfl;rw[nX]at q;cases q
  rw[zE hb]at q;exact(I.hok b u q).stay (fun _ _ _ z=>z) (fun c z=>out _ _ z (by intro ψ z;cases z)) fun c xs z=>out _ _ z (by intro ψ z;cases z)
end
def LG (X:Cx)(E:XK):Prop:=∀(pins:List (Addr×Obj)) (σ:St) (H:Hp) (s:Shared) (e C dx:Addr) (vs:Array Value) (a0:Value),Inv X pins σ H s->H e=some (.ext (qJ e C dx vs))->X.s₀.heap.get? e=none->vs[0]? =some a0->vs[1]? =some .none/\vs[2]? =some .none->E (.ref C) (some dx) (lets0 H e)->X.xe (.ref e) s
theorem GN {P:Program}{w:World}{K:W.Frag}{mg:Str->Option Value}{base:Heap}{N:List Str}{qual:Str}{scope:Scope}{f:Addr}{cd:Value}{A:Around}{outer:List Env}{s₀:Shared}{H₀:Hp}{E:XK} :
  LG (dJ (CXE P w) P w K mg base N qual scope f cd A outer s₀ H₀ E) E:=by
 intro pins σ H s e C dx vs a0 I0 he new v0 v1 q;have I:=I0.lets0 he;obtain⟨go,_,_⟩:=I0.hok e _ he;have go:s.heap.get? e=some { cls:= .ref C,dict:=some dx,data:= .fields vs }:=go;generalize hX:dJ (CXE P w) P w K mg base N qual scope f cd A outer s₀ H₀ E=X at I I0 new ⊢;have there:∀b o,X.s₀.heap.get? b=some o->∃o',s.heap.get? b=some o':=fun b o e=>I.base.there b o e (fun z=>absurd (show b∈([]:List Addr) from by rw[←hX]at z;exact z) (by simp));have hin:∀env∈X.stack,∀b,env.frame=some b->b∈e::frs X.stack:=fun env he b hb=>List.mem_cons_of_mem _ (List.mem_filterMap.mpr ⟨env,he,hb⟩);have hk:(hideAll s.heap (e::frs X.stack)).StaysIn s.heap:=fun b o e=>of_hideAll _ e;have cov:∀b,(lets0 H e b≠none∨∃o,X.s₀.heap.get? b=some o)->b∉frs X.stack->∃o,(hideAll s.heap (e::frs X.stack)).get? b=some o:=fun b hb hs=>by
  have hbe:b≠e:=by
   rintro rfl;rcases hb with hb|⟨o,q⟩
   ·exact hb nX
   ·rw[new]at q;cases q
  have:∃o,s.heap.get? b=some o:=by
   rcases hb with hb|⟨o,q⟩
   ·cases e1:lets0 H e b with
    | none=>exact absurd e1 hb
    | some u=>exact(I.hok b u e1).there
   ·exact there b o q
  obtain⟨o,q⟩:=this;exact⟨o,hideAll_get _ q fun z=>(List.mem_cons.mp z).elim hbe hs⟩
 have ff:=funFrames_hide I.stack hin;have nb:(hideAll s.heap (e::frs X.stack)).get? e=none:=hideAll_none _ (List.mem_cons_self ..);subst hX;show wpAny _ _ (leaving _ _) _ _ _;refine vL (L:=_) (a0:=(a0,.none)) I.ok.frames ff rfl go hk nb rfl v1.1 ⟨v0,v1.2⟩ fun h2 hl=> ?_;obtain⟨x1,⟨_,_,x2⟩,x3,x4⟩:=hl;obtain⟨un2,hok2⟩:=MU (h2:=h2) I rfl x1 hk x4 cov rfl rfl;refine⟨e,.ref C,some dx,a0,lets0 H e,_,rfl,I.os,I.bare,un2,hok2,nX,new,⟨x1,nb,x2,x3⟩,fun b hb hs=>cov b hb fun z=> ?_,q⟩;rcases List.mem_cons.mp (I.stkSub b z) with e1|hb'
 ·rcases hb with hb|⟨o,e2⟩
  ·exact hb (by rw[e1];exact I.free)
  ·have e3:=Nat.lt_of_lt_of_le (Heap.lt_size e2) I.ok.above;rw[e1]at e3;exact Nat.lt_irrefl _ e3
 ·exact hs hb'
theorem wE {P:Program}{w:World}{K:W.Frag}{mg:Str->Option Value}{base:Heap}{N:List Str}{qual:Str}{scope:Scope}{f:Addr}{cd:Value}{A:Around}{outer:List Env}{s₀:Shared}{H₀:Hp}{E:XK} :
  PassesOwn (model P w) (dJ (CXE P w) P w K mg base N qual scope f cd A outer s₀ H₀ E).A (dJ (CXE P w) P w K mg base N qual scope f cd A outer s₀ H₀ E).env (dJ (CXE P w) P w K mg base N qual scope f cd A outer s₀ H₀ E).xe :=
 fun e s' h=>wpAny_leaving_again (SameStack.refl _) h
theorem U8 {X:Cx}{e:Expr}{f:Str}{pos:Pos}{ta:TE} (K:Frag) (hK:X.K=K) (he:PE X e ta) (hb:attributeBase e f X.env (eval e X.env)=eval e X.env):PE X (.Attribute e f pos) (O0 K ta f):=by
 subst hK;exact Y3 he hb
def spX (K:Frag)(C:Addr)(nm:Str):Sp:=fun vs H Q _=>∃e y fv,vs=[.ref e,y]/\H e=some (.ext (sU e C fv))/\oZ K C/\NoAttr K C nm/\∀dx,H dx=none->dx≠e->Q .non (upd (upd H e (.ext (qJ e C dx fv))) dx (.xd [(nm,y)]))
structure XcE (P:Program)(w:World)(K:W.Frag)(mg:Str->Option Value)(base:Heap)(x:Str)(C:Addr)(nm:Str):Prop where
 ex:∃f fd ps,mg x=some (.ref C)/\tP K C f=true/\oZ K C/\NoAttr K C nm/\Binds K fd ps []/\bD P w K mg base CX0 1 f fd ps (spX K C nm)
def KY (C:Addr)(nm:Str)(E:XK)(t:TE):TS:=fun _ σ H=>t σ H fun y H1=>∀dx,H1 dx=none->E (.ref C) (some dx) (upd H1 dx (.xd [(nm,y)]))
theorem vJ {C:Addr}{nm:Str}{E:XK}{t:TE}{D:fM}{σ:St}{H:Hp} (h:t σ H fun y H1=>∀dx,H1 dx=none->E (.ref C) (some dx) (upd H1 dx (.xd [(nm,y)]))):KY C nm E t D σ H:=h
section
variable {X:Cx}{E:XK}{x nm:Str}{C:Addr}{np cpos pos:Pos}{e:Expr}{t:TE}{k':Nat}
theorem uW (F:XcE X.prog X.w X.K X.mg X.base x C nm)(hr:Room k' X.A)(hx:LG X E)(ha:PE X e t)(hex:X.ex=[])(cm:X.calm=true:=by rfl)(hk:2<=k':=by decide)(hg:Gl X x:=by rfl)(hdb:(x==("__debug__" :Str))=false:=by decide)
  (he:starEach [e] X.env=[(false,eval e X.env)]:=by rfl) :
  PS X (.Raise (some (.Call (.Name x np) [e] [] cpos)) none pos) (KY C nm E t):=by
 intro pins s σ H D I h;obtain⟨fi,fd,ps,hm,hc,xf,na,hb,G⟩:=F.ex;obtain⟨tl,N,cn,q,bs,hdct,sn,sub,ab,col,dd,k0,k1,k2,k3,k5,mN,fo,hC,hN,hni,T,hf,hfc⟩:=ZM I.ok.mod.kin hc;have hbase:tl.contains (.type "BaseException")=true:=T.hasType PySem.F.excBase_ValueError.hasBase;rw[arm_exec_Raise];refine wpAny_bind (wpAny_standAt (N6 (C:=C) (nm:=cn) (q:=q) (N:=N) (bs:=bs) (bm:=tl) (hdct:=hdct) (sn:=sn) (sub:=sub) (ab:=ab) (col:=col) (dd:=dd) (k0:=k0) (k1:=k1) (k2:=k2) (k3:=k3) (k5:=k5) (newId:= "ValueError.__new__") hbase (I.ok.hd cm) ?_));refine wpAny_bind (wpAny_mono (wpAny_Call_ofName (gI I hg hm ?_ hdb)) (fun v s3 h3=>wpAny_bind (wpAny_standAt (wpAny_pure h3))) fun _ _ z=>z);unfold callWith;rw[he];have one:wpAny (model X.prog X.w) X.A (spliced (backTo cpos [(false,eval e X.env)])) (fun us s1=>∃u y H1,us=[u]/\RelV y u/\Inv X pins σ H1 s1/\∀dx,H1 dx=none->E (.ref C) (some dx) (upd H1 dx (.xd [(nm,y)]))) X.xe s:=by
  show wpAny _ _ (spliced ((false,eval e X.env)::backTo cpos [])) _ _ s;refine Calls.spliced_cons (thn (ha pins s σ H _ I h) fun u s1 ⟨y,H1,I1,ru,q1⟩=> ?_);exact Calls.spliced_nil ⟨u,y,H1,rfl,ru,I1,q1⟩
 refine wpAny_bind (wpAny_holding (Calls.evalArgs_plain (wpAny_mono one (fun us s2 ⟨u,y,H1,eu,ru,I1,q1⟩=>wpAny_bind (wpAny_standAt ?_)) fun _ _ z=>z)));subst eu;have kb:∀b o,X.base.get? b=some o->s2.heap.get? b=some o:=I1.bk;have hC2:=I1.bk _ _ hC;have new0:s2.heap.get? (s2.heap.objs.size+1)=none:=Heap.get?_none_of_le (Nat.le_succ _);have there:∀b o,X.s₀.heap.get? b=some o->∃o',s2.heap.get? b=some o':=fun b o q=>I1.base.there b o q (by rw[hex];simp);have newS:X.s₀.heap.get? (s2.heap.objs.size+1)=none:=by
  cases q:X.s₀.heap.get? (s2.heap.objs.size+1) with
  | none=>rfl
  | some o=>obtain⟨o',q'⟩:=there _ o q;rw[new0]at q';cases q'
 have J:Inv X pins σ (upd H1 (s2.heap.objs.size+1) (.ext (sU (s2.heap.objs.size+1) C #[.ref s2.heap.objs.size,.none,.none,.none,.bool false,.none]))) { s2 with heap:=lU s2.heap C [u] }:=by
  have hg:(lU s2.heap C [u]).get? (s2.heap.objs.size+1)=some { cls:= .ref C,data:= .fields #[.ref s2.heap.objs.size,.none,.none,.none,.bool false,.none] }:=by heap_get
  exact I1.laid (t':=s2.toks) (fun b o q=>j4 q) (Nat.le_succ _) ⟨hg,⟨_,hg⟩,fun g1 g2 q1 q2=>q2 _ q1⟩
 obtain⟨hp,g,d,tk,os⟩:=s2;refine wpAny_bind (wpAny_keeperOf_exc hC2 ?_);refine wpAny_bind (U7 PySem.F.excBase_ValueError (T.keeps I1.bk) hC2 (hN.keeps I1.bk) hni (I1.bk _ _ hf) hfc ?_ (by show 1<=sizeLine;decide));have want:spX X.K C nm [.ref (hp.objs.size+1),y] (upd H1 (hp.objs.size+1) (.ext (sU (hp.objs.size+1) C #[.ref hp.objs.size,.none,.none,.none,.bool false,.none]))) (fun v H2=>v= .non/\∃dx,H1 dx=none/\dx≠hp.objs.size+1/\H2=upd (upd (upd H1 (hp.objs.size+1) (.ext (sU (hp.objs.size+1) C #[.ref hp.objs.size,.none,.none,.none,.bool false,.none]))) (hp.objs.size+1) (.ext (qJ (hp.objs.size+1) C dx #[.ref hp.objs.size,.none,.none,.none,.bool false,.none]))) dx (.xd [(nm,y)])) E0 :=
  ⟨_,_,_,rfl,aY,xf,na,fun dx n1 n2=>⟨rfl,dx,by rw[aK n2]at n1;exact n1,n2,rfl⟩⟩
 have rr:Vals [V.ref (hp.objs.size+1),y] [Value.ref (hp.objs.size+1),u]:= .cons rfl (.cons ru .nil);have ln:[Value.ref (hp.objs.size+1),u].length=ps.length:=rr.length.symm.trans (G.len _ _ _ _ want);have go:=G.run _ X.stack _ _ ⟨[Value.ref (hp.objs.size+1),u],[]⟩ [Value.ref (hp.objs.size+1),u] _ _ E0 ((hr.mono hk).make C [u] []) (J.env0.make C [u] []) (by have z:=hb _ [Value.ref (hp.objs.size+1),u] J.kIn (by rw[List.append_nil];exact ln);rw[List.append_nil]at z;exact z) rr want;refine wpAny_call (codeAny_mono go fun res s' hq=> ?_)
 match res,hq with
 | .error e,hq=>exact False.elim hq
 | .ok .next,hq=>exact False.elim hq
 | .ok .brk,hq=>exact False.elim hq
 | .ok .cont,hq=>exact False.elim hq
 | .ok (.ret w'),hq =>
  obtain⟨v,H',I3,rv',ev,dx,n1,n2,eH⟩:=J.after hq;subst ev;refine⟨rv',?_⟩;refine wpAny_bind (wpAny_holding (wpAny_point (wpAny_pure ?_)));have hE:H' (hp.objs.size+1)=some (.ext (qJ (hp.objs.size+1) C dx #[.ref hp.objs.size,.none,.none,.none,.bool false,.none])):=by
   rw[eH,aK (Ne.symm n2),aY]
  have eL:lets0 H' (hp.objs.size+1)=upd H1 dx (.xd [(nm,y)]):=by
   funext b
   by_cases hb':b=hp.objs.size+1
   ·subst hb';rw[nX,aK (Ne.symm n2)];exact(I1.hok.fresh (Nat.le_succ _)).symm
   ·rw[zE hb',eH]
    by_cases hd':b=dx
    ·subst hd';rw[aY,aY]
    ·rw[aK hd',aK hb',aK hb',aK hd']
  obtain⟨gx,_,_⟩:=I3.hok _ _ hE;exact⟨_,_,_,rfl,I3.bk _ _ hC,gx,rfl,rfl,rfl,hx pins σ H' _ _ C dx _ _ I3 hE newS rfl ⟨rfl,rfl⟩ (by rw[eL];exact q1 dx n1)⟩
end
end L2
namespace L2
open PySem PySem.W PyProof.Rows
section
variable {prog:Program}{w:World}{A:Around}{E:Value->Shared->Prop}{s:Shared}{κ:SortKind}{D:Keyed->Prop}{ρ:Keyed->Int}{st:SortSt}
end
section
variable {ρ:Keyed->Int}
variable {all o p ra rb:List Keyed}
end
section
variable {prog:Program}{w:World}{A:Around}{E:Value->Shared->Prop}{s:Shared}{κ:SortKind}{D:Keyed->Prop}{ρ:Keyed->Int}{st:SortSt}
end
section
variable {prog:Program}{w:World}{A:Around}{E:Value->Shared->Prop}{s:Shared}{κ:SortKind}{D:Keyed->Prop}{ρ:Keyed->Int}{st:SortSt}
end
section
variable {prog:Program}{w:World}{A:Around}{E:Value->Shared->Prop}{s:Shared}{κ:SortKind}{D:Keyed->Prop}{ρ:Keyed->Int}{st:SortSt}
end
section
variable {prog:Program}{w:World}{A:Around}{E:Value->Shared->Prop}{s:Shared}{κ:SortKind}{D:Keyed->Prop}{ρ:Keyed->Int}{st:SortSt}
end
section
variable {prog:Program}{w:World}{A:Around}{E:Value->Shared->Prop}{s:Shared}{κ:SortKind}{D:Keyed->Prop}{ρ:Keyed->Int}{st:SortSt}
end
section
variable {prog:Program}{w:World}{A:Around}{E:Value->Shared->Prop}{s:Shared}{κ:SortKind}{D:Keyed->Prop}{ρ:Keyed->Int}{st:SortSt}{a₀:Array Keyed}
end
section
variable {prog:Program}{w:World}{A:Around}{E:Value->Shared->Prop}{s:Shared}{κ:SortKind}{D:Keyed->Prop}{ρ:Keyed->Int}{st:SortSt}{a₀:Array Keyed}
end
end L2
namespace L2
open PySem PySem.W PyProof.Rows PySem.Calls
section
variable {prog:Program}{w:World}{A:Around}{E:Value->Shared->Prop}{s:Shared}{α:Type}{f:Value->α}{lt:α->α->Bool}{d:α}{l:List α}
end
section
variable {X:Cx}{H:Hp}
end
end L2
namespace L2
open PySem PySem.W PyProof.Rows
section
variable {prog:Program}{w:World}{A:Around}{E:Value->Shared->Prop}{s:Shared}
end
open Sem (wp) in
open AutoSeq1 (wpAny_loadPart') in
section
variable {prog:Program}{w:World}{A:Around}{E:Value->Shared->Prop}{s:Shared}
end
section
variable {prog:Program}{w:World}{A:Around}{E:Value->Shared->Prop}{s:Shared}
end
section
variable {X:Cx}
end
section
variable {K:W.Frag}{H:Hp}{σ:St}{Q:VK}{R:It->Hp->Prop}{nx bk ct:St->Hp->Prop}{rt:VK}
end
section
variable {prog:Program}{w:World}{A:Around}{E:Value->Shared->Prop}{s:Shared}
variable {κ:Type}[DecidableEq κ]{knd:HeapKind prog w κ}
end
section
variable {A:Around}{s:Shared}
end
section
variable {prog:Program}{w:World}{A:Around}{E:Value->Shared->Prop}{s:Shared}
variable {κ:Type}[DecidableEq κ]{knd:HeapKind prog w κ}
end
section
variable {X:Cx}{pins:List (Addr×Obj)}{σ:St}{H:Hp}{s:Shared}
end
section
variable {X:Cx}
end
section
variable {X:Cx}
end
section
variable {X:Cx}
def unV:Value->V
 | .bool b=> .bl b
 | .int i _=> .int i
 | .str x _=> .str x
 | _=> .non
theorem LI {x:V}{u:Value} (h:gJ x=true) (r:RelV x u):unV u=x:=by
 cases x<;>first|(cases h;done)|(obtain⟨t,rfl⟩:=r;rfl)|(cases r;rfl)
end
end L2
set_option autoImplicit false
namespace L2
open PySem PySem.Spec PyProof.Rows
section
variable {σ:St}{H:Hp}{nx bk ct:St->Hp->Prop}{rt:VK}
end
section
variable {P:Program}{w:World}
end
section
variable {P:Program}{w:World}{K:W.Frag}{mg:Str->Option Value}{base:Heap}
end
section
variable {X:Cx}{args:Arguments}{body:Expr}{lsc:Scope}{pos:Pos}{cs:List (Str×Addr)}{cL PL:Addr}
end
section
variable {P:Program}{w:World}{K:W.Frag}{mg:Str->Option Value}{base:Heap}
end
end L2
namespace L2
open PySem PySem.W PyProof.Rows
section
variable {P:Program}{w:World}{K:W.Frag}{mg:Str->Option Value}{base:Heap}
end
end L2
namespace L2
open PySem PySem.W PyProof.Rows PySem.Calls
section
variable {X:Cx}
variable {H:Hp}{Q:VK}
end
end L2
namespace L2
open PySem PySem.W PyProof.Rows
section
variable {X:Cx}{rest a:List Stmt}{u v:fM->(St->V->Hp->Prop)->St->Hp->Prop}{c:Expr}{tc:TT}{pos:Pos}
end
end L2
namespace L2
open PySem PySem.W PyProof PyProof.Rows
section
variable {X:Cx}{pins:List (Addr×Obj)}{σ:St}{H:Hp}{s:Shared}{a:Addr}{k:Option Str}{v:V}{u r:Value}{A:Around}{E:Value->Shared->Prop}{kvs:List (Option Str×V)}
end
section
variable {X:Cx}{o i value:Expr}{pos pos':Pos}{td ty tv:TE}
end
section
variable {X:Cx}
end
section
variable {P:Program}{w:World}{H:Hp}{Q:VK}{σ:St}{nx bk ct:St->Hp->Prop}{rt:VK}{R:It->Hp->Prop}{td ty tv:TE}{p:Addr}{kvs:List (Option Str×V)}{v:V}
end
end L2
namespace L2
open PySem PySem.W PyProof.Rows PySem.Calls
section
variable {prog:Program}{w:World}{A:Around}{E:Value->Shared->Prop}{s:Shared}
variable {R:Result->Shared->Prop}
end
section
variable {prog:Program}{w:World}{A:Around}{E:Value->Shared->Prop}{s:Shared}
end
section
variable {prog:Program}{w:World}{A:Around}{E:Value->Shared->Prop}{s:Shared}{r:Addr}
variable {it a:Addr}{f:Value}{i n ep:Nat}{o:Obj}{es:Array (Int×Value)}{t:SetTable}
variable {tp:Addr}{ot:Obj}{ps:List Nat}{ec:Nat}
end
section
variable {prog:Program}{w:World}{A:Around}{E:Value->Shared->Prop}{s:Shared}{a:Addr}{o:Obj}
variable {es:Array (Int×Value)}{ep:Nat}{t:SetTable}
end
section
variable {prog:Program}{w:World}{A:Around}{E:Value->Shared->Prop}{s:Shared}{a:Addr}{o:Obj}{ss:List Str}
end
section
variable {X:Cx}
variable {H:Hp}{Q:VK}{w:World}
end
end L2
namespace L2
open PySem PySem.Spec PyProof.Rows
section
variable {M:Model}{A:Around}{E:Value->Shared->Prop}{s:Shared}
end
section
variable {X:Cx}{scope:Scope}{cl:List (Str×Addr)}{N:List Str}{nl:Nat}{ci:List Nat}{y0:Str}{pins:List (Addr×Obj)}{σ:St}{H2:Hp}{s2:Shared}{fp:List Addr}
end
section
variable {X:Cx}{scope:Scope}{cl:List (Str×Addr)}{N:List Str}{nl:Nat}{ci:List Nat}{y0:Str}{tg elt iter:Expr}{ifs:List Expr}{pos:Pos}{wi:TI}{g:TG}{ti:TT}{te:TE}
end
end L2
namespace L2
open PySem PySem.Spec PyProof.Rows PySem.W
section
variable {X:Cx}{E:XK}{scope:Scope}{cl:List (Str×Addr)}{N:List Str}{C:Addr}{s0 s:Shared}{H0 H:Hp}{fp:List Addr}{pins:List (Addr×Obj)}{σ:St}
end
section
variable {X:Cx}{scope:Scope}{cl:List (Str×Addr)}{N:List Str}{nl:Nat}{ci:List Nat}{tg elt iter:Expr}{ifs:List Expr}{pos:Pos}{wi:TI}{g:TG}{ti:TT}{te:TE}{E0x:XK}
end
section
variable {M:Model}{A:Around}{E:Value->Shared->Prop}{s:Shared}{env:Env}
end
section
variable {X:Cx}{pins:List (Addr×Obj)}{σ:St}{H:Hp}{s:Shared}{h2 B:Heap}
end
section
variable {X:Cx}{scope:Scope}{cl:List (Str×Addr)}{N:List Str}{nl:Nat}{ci:List Nat}{tg elt iter:Expr}{ifs:List Expr}{pos:Pos}{wi:TI}{g:TG}{ti:TT}{te:TE}{E0x:XK}
end
end L2
namespace L2
open PySem PySem.W PyProof.Rows PySem.Calls PySem.Builtin PySem.Builtin.Str
section
variable {X:Cx}
end
end L2
namespace L2
open PySem PySem.W PyProof.Rows PySem.Calls
section
variable {prog:Program}{w:World}{A:Around}{E:Value->Shared->Prop}{s:Shared}{it t:Addr}{i:Nat}{its:Array Value}
variable {z TI TO i1 i2 l2:Addr}{k1 k2:Nat}{ys:Array Value}{a b:Value}
end
section
variable {prog:Program}{w:World}{A:Around}{E:Value->Shared->Prop}{s:Shared}
end
section
variable {X:Cx}
end
section
variable {K:W.Frag}{ci:List Nat}{σ:St}{rest:List (Option V)}{H:Hp}{te:TE}{fin:List V->Hp->Prop}{t a:Addr}
theorem UM {H H':Hp}{t:Addr}{xs:List V} (e:Same H H') (h:SqT K H t xs):SqT K H' t xs:=by
 rcases h with h|h
 ·rcases h with h|⟨o,h⟩
  ·exact .inl (.inl (e _ _ h))
  ·exact .inl (.inr ⟨o,e _ _ h⟩)
 ·exact .inr h
end
end L2
namespace L2
open PySem PySem.W PyProof.Rows PySem.Calls PySem.NumText
end L2
namespace L2
open PySem PySem.W PyProof.Rows
section
variable {K:W.Frag}{te:TE}{σ:St}{ci:List Nat}{rest:St}{fin:List V->Hp->Prop}{H:Hp}{a:Addr}
theorem RA {xs:List V}(P:V->V->Hp->Prop)(hm:∀x y H1 H2,P x y H1->Same H1 H2->P x y H2)(hn:xs.length<=sizeLine)(hr:ci.map (fun i=>(σ[i]?).join)=rest)(hl:SqT K H a xs)
  (he:∀x H1,x∈xs->Same H H1->∀R:VK,(∀y H2,P x y H2->Same H1 H2->R y H2)->te (some x::rest) H1 R)
  (hf:∀ys H1,Same H H1->Paired (fun x y=>P x y H1) xs ys->fin ys H1):fW (Itt K a) (cJ 0) aB9 te (bZ 1 ci σ) fin H:=by
 rw[GF hr];refine k6 xs (fun _=>true) P hm hn (fun i H1 s hi=>⟨xs,xs[i],UM s hl,List.getElem?_eq_getElem hi⟩) (fun H1 s=>⟨xs,UM s hl,Nat.le_refl _⟩) (fun i x H1 hx s1 v H' y=> ?_) (fun ys H1 s p=>hf ys H1 s (by rw[List.filter_eq_self.mpr (fun _ _=>rfl)]at p;exact p));obtain⟨rfl,e2⟩:=y;have ev:=e2 xs (UM s1 hl);rw[hx]at ev;cases ev;have hmem:=List.mem_of_getElem? hx;refine⟨Same.refl _,some x::rest,rfl,fun j v hv=> ?_,fun R h=>h,fun R h=>h _ (Same.refl _),fun _ H2 s2 R h=>he x H2 hmem (s1.trans s2) R h⟩;cases j with
 | zero=>cases hv
 | succ j=>exact hv
end
section
variable {X:Cx}
def aB2:V->List V->Hp->VK->Prop:=fun x vs H Q=>∃(p:Addr) (z:Str) (ss:List Str) (j:Nat),x= .ref p/\vs=[.str z]/\H p=some (.lst (ss.map V.str))/\ss[j]? =some z/\z∉ss.take j/\ss.length<=1000000/\Q (.int j) H
theorem TU:MtR X "list.index" aB2:=by
 intro pins s σ H x xs v us Q I rx rs h;obtain⟨p,z,ss,j,rfl,rfl,hH,hj,hn,hl,q⟩:=h;obtain⟨u,rfl,ru⟩:=jW rs;cases rx;obtain⟨zz,its,n,r,hll,e⟩:=I.lstM hH;have hjs:j<ss.length:=(List.getElem?_eq_some_iff.mp hj).1;have hlen:its.length=ss.length:=by rw[←r.length,List.length_map]
 have hall:∀y∈ss.map V.str,gJ y=true:=fun y hy=>by
  obtain⟨t,_,rfl⟩:=List.mem_map.mp hy;rfl
 have hg:∀i (hi:i<its.length),MeetsSeq.EqGives its[i] u (eqV (unV its[i]) (.str z)):=fun i hi=>by
  obtain⟨y',e1,e2⟩:=r.get (List.getElem?_eq_getElem (show i<(ss.map V.str).length by rw[List.length_map];lia));rw[List.getElem?_eq_getElem hi]at e1;cases e1;have hf:=hall _ (List.getElem_mem (show i<(ss.map V.str).length by rw[List.length_map];lia));rw[LI hf e2];exact fun prog w' A E s Q hQ=>GY e2 ru hf rfl prog w' E Q hQ
 have hun:∀i (hi:i<its.length) (hs:i<ss.length),unV its[i]= .str ss[i]:=fun i hi hs=>by
  obtain⟨y',e1,e2⟩:=r.get (List.getElem?_eq_getElem (show i<(ss.map V.str).length by rw[List.length_map];lia));rw[List.getElem?_eq_getElem hi]at e1;cases e1;rw[List.getElem_map]at e2;exact LI rfl e2
 have hz:ss[j]=z:=(List.getElem?_eq_some_iff.mp hj).2;refine call_meets F.slot_list_index ⟨_,e,rfl⟩ F.entry_list_index (F.args_list_index_2 _ _) (MeetsSeq.list_index p its.toArray n u (fun y=>eqV (unV y) (.str z)) (fun y hy=> ?_) j (by simpa using (by lia:j<its.length)) (by lia) ?_ ?_) ⟨e,⟨.int j,H,I.tok _,⟨_,rfl⟩,q⟩⟩
 ·obtain⟨i,hi,rfl⟩:=List.getElem_of_mem (show y∈its by simpa using hy);exact hg i hi
 ·show eqV (unV its[j]) (.str z)=true;rw[hun j (by lia) hjs,hz];show (z==z)=true;simp
 ·intro m hm hmj;have hm':m<its.length:=by simpa using hm
  show eqV (unV its[m]) (.str z)=false;rw[hun m hm' (by lia)];show (ss[m]==z)=false;have hne:ss[m]≠z:=fun c=>hn (by
   rw[←c];exact List.mem_take_iff_getElem.mpr ⟨m,by lia,rfl⟩)
  simpa using hne
end
end L2
namespace L2
open PySem PySem.Spec PyProof.Rows PySem.W
theorem M9:entryFor table "proto.unchain" =some Builtin.«proto.unchain»:=entryFor_of_tree (by kernel_rfl)
def DH (ea:Addr)(h:Heap):Prop:=∃o vs,h.get? ea=some o/\o.data= .fields vs/\vs[2]? =some .none
theorem ExcU.un {a C:Addr}{h:Heap} (x:ExcU a C h):DH a h:=let ⟨o,vs,e,_,d,z⟩:=x;⟨o,vs,e,d,z⟩
theorem ExcDAt.un {a C dx:Addr}{h:Heap} (x:ExcDAt a C dx h):DH a h:=let ⟨o,vs,e,_,_,d,z⟩:=x;⟨o,vs,e,d,z⟩
section
variable {prog:Program}{w:World}{A:Around}{E:Value->Shared->Prop}{s:Shared}{ea:Addr}
theorem KJ {α:Type}{a:Addr}{oa:Obj}{va:Array Value}{Q:α->Shared->Prop} (hh:A.handled=some (.ref ea)) (hu:DH ea s.heap) (ha:s.heap.get? a=some oa) (da:oa.data= .fields va) (hz:2<va.size) (ne:ea≠a)
  (h:E (.ref a) { s with heap:=s.heap.update a (Obj.mapFields (·.setIfInBounds 2 (.ref ea))) }):wpAny (model prog w) A (raiseNew (.ref a):Sem α) Q E s:=by
 obtain⟨o,vs,ho,hd,h2⟩:=hu;unfold raiseNew;refine wpAny_bind (wpAny_handled ?_);rw[hh];show wpAny _ _ (if (Value.ref ea !=Value.ref a)=true then _ else _) _ _ s;rw[if_pos (by simpa using ne)];refine wpAny_bind (wpAny_holding (runValue_entry M9 ?_));unfold Builtin.«proto.unchain»;refine wpAny_bind (wpAny_field ho hd h2 ?_);show wpAny _ _ (if (Value.none==Value.none)=true then _ else _) _ _ s;rw[if_pos (by decide)];refine wpAny_pure ⟨_,rfl,?_⟩;show wpAny _ _ (setField (.ref a) 2 (.ref ea) >>= _) _ _ s;exact wpAny_bind (wpAny_setField ha da hz (wpAny_throw h))
theorem OX {it:Addr}{x left step:Int}{Q:Option Value->Shared->Prop} (hh:A.handled=some (.ref ea)) (hu:DH ea s.heap) (hit:IsRangeIter s.heap it x left step) (hleft:left<=0)
  (k:∀h',Heap.ExtBut it s.heap h'->Q none { s with heap:=h' }):wpAny (model prog w) A (pyNext (.ref it)) Q E s:=by
 have T:s.TypeIs (.ref it) "range_iterator" :=⟨_,hit,rfl⟩
 unfold pyNext;refine wpAny_bind (wpAny_attempt (wpAny_callSpecial?_slot (name:=Str.ofString "__next__") T F.slot_range_iterator_next (wpAny_call_entry F.slot_range_iterator_next T F.entry_range_iterator_next ?_ (F.args_range_iterator_next_1 _))));show wpAny _ _ (field (.ref it) 0 >>= _) _ _ s;refine wpAny_bind (wpAny_field hit rfl (x:=rawInt x) rfl ?_);show wpAny _ _ (field (.ref it) 1 >>= _) _ _ s;refine wpAny_bind (wpAny_field hit rfl (x:=rawInt left) rfl ?_);show wpAny _ _ (field (.ref it) 2 >>= _) _ _ s;refine wpAny_bind (wpAny_field hit rfl (x:=rawInt step) rfl ?_);show wpAny _ _ (if left<=0 then _ else _) _ _ s;rw[if_pos hleft];refine wpAny_bind (wpAny_rule (wpAny_bind ?_));show wpAny _ _ (newExc (.type "StopIteration") [] >>= _) _ _ _;refine wpAny_bind ?_;simp only[newExc,newTuple];refine wpAny_bind (wpAny_newObj_type (wpAny_bind (m:=firstArgMember _ _) (wpAny_of_eq (a:=Value.none) (by first|rfl|(simp only[firstArgMember];rfl)) (wpAny_newObj_type ?_ (by size_fits)))) (by size_fits));obtain⟨o,vs,ho,hd,h2⟩:=hu;have lt:=Heap.lt_size ho;refine KJ (ea:=ea) (show A.in1.handled=_ from hh) ⟨o,vs,Heap.get?_push_of_some _ (Heap.get?_push_of_some _ ho),hd,h2⟩ (Heap.get?_push_size _ rfl) rfl (by show 2<6;decide) (by rw[Heap.size_push];exact Nat.ne_of_lt (Nat.lt_succ_of_lt lt)) ?_;refine wpAny_bind (wpAny_isInstance (b:=true) (T:= "StopIteration") ⟨_,Heap.get?_update_self _ (Heap.get?_push_size _ rfl) rfl,rfl⟩ isSubtype_stop ?_);exact wpAny_pure (k _ fun b o' hb e=>by
  rw[Heap.get?_update_other _ _ (by rw[Heap.size_push];exact Nat.ne_of_gt (Nat.lt_succ_of_lt (Heap.lt_size e)))];exact Heap.get?_push_of_some _ (Heap.get?_push_of_some _ e))
end
end L2
namespace L2
open PySem PySem.Spec PyProof.Rows
structure OG (Pm:Cx->Prop)(P:Program)(w:World)(K:W.Frag)(tg:Expr)(J:It)(fp:List Addr)(it:Addr)(tn:Nat->Heap->Prop):Prop where
 mem:it∈fp
 obj:∀i h,tn i h->∀b∈fp,∃o,h.get? b=some o/\∀v,o.data≠ .cell v
 keep:∀i h h',tn i h->(∀b∈fp,∀o,h.get? b=some o->h'.get? b=some o)->tn i h'
 item:∀(X:Cx),X.prog=P->X.w=w->X.K=K->Pm X->∀(i:Nat) (pins:List (Addr×Obj)) (s:Shared) (σ:St) (H:Hp) (E:Value->Shared->Prop),Inv X pins σ H s->(∀b∈fp,gF X pins H b)->tn i s.heap->J.go i H →
  wpAny (model P w) X.A (pyNext (.ref it)) (fun r s1=>∃u,r=some u ∧
   wpAny (model P w) X.A (letOwnedTupleGo tg (.ref it) u) (fun _ s2=>∃x H',Inv X pins σ H' s2/\RelV x u/\J.yld i H x H'/\tn (i+1) s2.heap/\∀b∈fp,H' b=none) E s1) E s
 done:∀(X:Cx),X.prog=P->X.w=w->X.K=K->Pm X->∀(i:Nat) (pins:List (Addr×Obj)) (s:Shared) (σ:St) (H:Hp) (E:Value->Shared->Prop),Inv X pins σ H s->(∀b∈fp,gF X pins H b)->tn i s.heap->J.stop i H →
  wpAny (model P w) X.A (pyNext (.ref it)) (fun r s1=>r=none/\Inv X pins σ H s1) E s
 self:∀(A:Around) (i:Nat) (s:Shared) (Q:Value->Shared->Prop) (E:Value->Shared->Prop),tn i s.heap->Q (.ref it) s->wpAny (model P w) A (pyIter (.ref it)) Q E s
def aB8 (Pm:Cx->Prop)(X:Cx)(pins:List (Addr×Obj))(σ:St)(tg:Expr)(R:It->Hp->Prop)(itv:Value)(s2:Shared):Prop :=
 ∃(it:Addr) (fp:List Addr) (tn:Nat->Heap->Prop) (J:It) (H':Hp),itv= .ref it/\Inv X pins σ H' s2/\OG Pm X.prog X.w X.K tg J fp it tn/\tn 0 s2.heap/\(∀b∈fp,gF X pins H' b)/\R J H'
def PIP (Pm:Cx->Prop)(X:Cx)(tg iter:Expr)(wi:TI):Prop :=
 ∀(pins:List (Addr×Obj)) (s:Shared) (σ:St) (H:Hp) (R:It->Hp->Prop),Inv X pins σ H s->wi σ H R →
  wpAny (model X.prog X.w) X.A (eval iter X.env) (fun v s1=>wpAny (model X.prog X.w) X.A (pyIter v) (aB8 Pm X pins σ tg R) X.xe s1) X.xe s
section
variable {X:Cx}{scope:Scope}{cl:List (Str×Addr)}{N:List Str}{nl:Nat}{ci:List Nat}{tg elt iter:Expr}{ifs:List Expr}{pos:Pos}{wi:TI}{g:TG}{ti:TT}{te:TE}
theorem M7 {Pm:Cx->Prop}{pins:List (Addr×Obj)}{σ:St}{H2:Hp}{s2:Shared}{fp:List Addr}{it:Addr}{J:It}{tn:Nat->Heap->Prop}{E:Value->Shared->Prop}{RR:Value->Addr->Result->Shared->Prop}{fin:List V->Hp->Prop}
  (hc:∀C s0 H0 fp,Pm (aR X scope cl N C s0 H0 fp))(B:Blk X scope cl N nl ci)(hg:∀C s0 H0 fp,PG (aR X scope cl N C s0 H0 fp) tg g)(hi:∀C s0 H0 fp,PF (aR X scope cl N C s0 H0 fp) ifs ti)(he:∀C s0 H0 fp,PE (aR X scope cl N C s0 H0 fp) elt te)
  (I2:Inv X pins σ H2 s2)(T:OG Pm X.prog X.w X.K tg J fp it tn)(st2:tn 0 s2.heap)(f2:∀b∈fp,gF X pins H2 b)(hW:fW J g ti te (bZ nl ci σ) fin H2)
  (hfin:∀(D C:Addr) (s':Shared) (H':Hp) (ys:List V) (oC:Obj) (m:Str->Option Value),H' D=none->Inv X (pins++[(C,oC)]) σ (upd H' D (.lst ys)) s'->s'.heap.Ns C m->s2.heap.objs.size<=C->fin ys H'->RR (.ref D) C (.ok .next) s') :
  wpAny (model X.prog X.w) X.A (newList []) (fun acc s₃=>wpAny (model X.prog X.w) X.A (newFunctionEnv scope X.env.globals cl [] X.env.qual none .none (some X.env)) (fun cenv s₄ =>
   codeAny (model X.prog X.w) X.A (.compStart (.ListComp elt [⟨tg,iter,ifs,0⟩] scope pos) 0 (.ref it) acc { cenv with scope:=relabel scope X.env }) (RR acc cenv.locals) s₄) E s₃) E s2:=by
 obtain⟨W,⟨m0,w0⟩,turn⟩:=hW;refine wpAny_newObj_type (wpAny_newFunctionEnv B.nocell (by intro y hy;simp at hy) (fun h1 hns1 hsb1=> ?_) B.kind)
 dsimp only at hns1 hsb1 ⊢
 generalize hH2:s2.heap.push { cls:= .type "list",dict:=none,data:= .seq ([]:List Value).toArray }=G2 at hns1 hsb1 ⊢;have hCs:G2.objs.size=s2.heap.objs.size+1:=by rw[←hH2,Heap.size_push]
 generalize hCe:G2.objs.size=C at hns1 hsb1 hCs ⊢;have hDC:s2.heap.objs.size≠C:=by rw[hCs];exact Nat.ne_of_lt (Nat.lt_succ_self _)
 have hCle:s2.heap.objs.size<=C:=by rw[hCs];exact Nat.le_succ _
 have old:∀b o,s2.heap.get? b=some o->h1.get? b=some o:=fun b o e=>hsb1.extBut b o (by rw[hCs];exact Nat.ne_of_lt (Nat.lt_succ_of_lt (Heap.lt_size e))) (Heap.get?_push_of_some _ (hH2▸Heap.get?_push_of_some _ e));have hacc:h1.get? s2.heap.objs.size=some { cls:= .type "list",data:= .seq ([]:List Value).toArray 0 }:=hsb1.extBut _ _ hDC (Heap.get?_push_of_some _ (hH2▸Heap.get?_push_size _ rfl));have fo:∀b∈fp,∃o,s2.heap.get? b=some o:=fun b hb=>let ⟨o,e,_⟩:=T.obj 0 _ st2 b hb;⟨o,e⟩;have lt2:∀b∈fp,b<s2.heap.objs.size:=fun b hb=>let ⟨o,e⟩:=fo b hb;Heap.lt_size e;have hDfp:s2.heap.objs.size∉fp:=fun z=>Nat.lt_irrefl _ (lt2 _ z);have hCfp:C∉fp:=fun z=>Nat.lt_irrefl _ (Nat.lt_of_lt_of_le (lt2 _ z) hCle);generalize hDe:s2.heap.objs.size=D at hCs hDC hCle hacc hDfp lt2;have loop:∀s3:Shared,s3={ s2 with heap:=h1,toks:=s2.toks+([]:List (Str×Value)).length } →
   codeAny (model X.prog X.w) X.A (.compLoop (.ListComp elt [⟨tg,iter,ifs,0⟩] scope pos) 0 (.ref it) (.ref D) (compEnvC scope cl C X.env)) (RR (.ref D) C) s3:=by
  rintro s3 rfl;have I4:Inv (aR X scope cl N C s2 H2 fp) [] (bZ nl ci σ) H2 { s2 with heap:=h1,toks:=s2.toks+([]:List (Str×Value)).length }:=yH B I2 f2 fo (by rw[hDe];exact hCle) hns1 old;have fpk:∀{H':Hp},(∀b∈fp,H' b=none)->∀b∈fp,gF (aR X scope cl N C s2 H2 fp) [] H' b:=fun hn b hb =>
   ⟨hn b hb,(I4.ok.exf b hb).1,I4.ok.exfs b hb,.inl hb,(I4.ok.exf b hb).2,fun p hp=>by cases hp⟩
  have hDX:∀x c,(aR X scope cl N C s2 H2 fp).env.cells.lookup x=some c->c≠D:=fun x c e=>by
   obtain⟨v,o,ho,_⟩:=I2.cell x c (B.sub x c e);rw[←hDe];exact Nat.ne_of_lt (Heap.lt_size ho)
  have hDL:D≠(aR X scope cl N C s2 H2 fp).env.locals:=hDC;have hDf:D∉(aR X scope cl N C s2 H2 fp).fs:=fun z=>by
   rcases List.mem_cons.mp (I2.stkSub D z) with q|q
   ·exact Nat.lt_irrefl _ (by have:=I2.lt;rw[hDe,←q]at this;exact this)
   ·exact I2.nofs (by rw[hDe];exact Nat.le_refl _) q
  refine yF (fun n s'=>∃i ys its k H',W i n ys H'/\Inv (aR X scope cl N C s2 H2 fp) [] (bZ nl ci σ) H' s'/\tn i s'.heap/\(∀b∈fp,H' b=none)/\H' D=none ∧
   s'.heap.get? D=some { cls:= .type "list",data:= .seq its.toArray k }/\Vals ys its/\ys.length<=sizeLine) ?_ m0 ?_
  ·rintro n s' ⟨i,ys,its,k,H',w',I',st',fr',hD',eD,rv,hz⟩;have IP:Inv (aR X scope cl N C s2 H2 fp) [(D,{ cls:= .type "list",data:= .seq its.toArray k })] (bZ nl ci σ) H' s':=I'.pins_of fun p hp=>by
    obtain rfl:p=_:=by simpa using hp
    exact⟨eD,hD',hDL,hDf,fun v z=>by cases z⟩
   have fpD:∀{H'':Hp},(∀b∈fp,H'' b=none)->∀b∈fp,gF (aR X scope cl N C s2 H2 fp) [(D,{ cls:= .type "list",data:= .seq its.toArray k })] H'' b:=fun hn b hb =>
    ⟨hn b hb,(I4.ok.exf b hb).1,I4.ok.exfs b hb,.inl hb,(I4.ok.exf b hb).2,fun p hp=>by
     obtain rfl:p=_:=by simpa [aR] using hp
     exact fun z=>hDfp ((show D=b from z)▸hb)⟩
   rcases turn i n ys H' w' with⟨stop,q⟩|⟨go,step⟩
   ·refine thn (T.done (aR X scope cl N C s2 H2 fp) rfl rfl rfl (hc _ _ _ _) i _ s' (bZ nl ci σ) H' _ IP (fpD fr') st' stop) fun r s'' ⟨hr,I''⟩=> ?_;subst hr;have eD2:=(I''.pin (D,_) (List.mem_append_right _ List.mem_cons_self)).1;have J1:Inv (aR X scope cl N C s2 H2 fp) [] (bZ nl ci σ) (upd H' D (.lst ys)) s'' :=
     (I''.pins_of (pins':=[]) fun p hp=>by cases hp).track hD' eD2 rv hz (by show s2.heap.objs.size<=D;rw[hDe];exact Nat.le_refl _) hDL hDX fun p hp=>by cases hp
    have K1:Inv X pins σ (upd H' D (.lst ys)) s'':=E5 I2 f2 J1;obtain⟨mC,nsC,_⟩:=J1.loc;obtain⟨oC,es,ep,hoC,hdC,rC⟩:=id nsC;refine hfin D C s'' H' ys oC mC hD' (K1.pins_of fun p hp=> ?_) nsC (by rw[hDe];exact hCle) q;rcases List.mem_append.mp hp with hp|hp
    ·exact K1.pin p (List.mem_append_right _ hp)
    ·obtain rfl:p=(C,oC):=by simpa using hp
     refine⟨hoC,J1.free,Nat.ne_of_gt (Nat.lt_of_lt_of_le I2.lt (by rw[hDe];exact hCle)),I2.nofs (by rw[hDe];exact hCle),fun v z=> ?_⟩;rw[hdC]at z;cases z
   ·refine thn (T.item (aR X scope cl N C s2 H2 fp) rfl rfl rfl (hc _ _ _ _) i _ s' (bZ nl ci σ) H' _ IP (fpD fr') st' go) fun r s4 ⟨u,hr,h4⟩=> ?_;subst hr;refine thn h4 fun _ s5 ⟨x,H5,I5,r5,y5,st5,fr5⟩=> ?_;have I5':=I5.pinned (fpD fr5) (T.obj _ _ st5);refine wpAny_mono (hg C s2 H2 fp _ s5 (bZ nl ci σ) H5 x u _ I5' r5 (step x H5 y5)) (fun _ s6 ⟨σ6,H6,I6,⟨hl6,hk6⟩,q6⟩=> ?_) fun _ _ f=>f.elim;refine wpAny_mono (hi C s2 H2 fp _ s6 σ6 H6 _ I6 q6) (fun b s7 ⟨H7,I7,q7⟩=> ?_) fun _ _ f=>f.elim;have pinD:∀{pp:List (Addr×Obj)}{σx:St}{Hx:Hp}{sx:Shared},Inv (aR X scope cl N C s2 H2 fp) ([(D,({ cls:= .type "list",data:= .seq its.toArray k }:Obj))]++fI fp s5.heap) σx Hx sx →
      sx.heap.get? D=some { cls:= .type "list",data:= .seq its.toArray k }/\Hx D=none/\tn (i+1) sx.heap/\(∀b∈fp,Hx b=none):=fun {pp σx Hx sx} Ix=>by
     refine⟨(Ix.pin (D,_) (List.mem_append_right _ (List.mem_append_left _ List.mem_cons_self))).1,(Ix.pin (D,_) (List.mem_append_right _ (List.mem_append_left _ List.mem_cons_self))).2.1,T.keep _ _ _ st5 fun b hb o e=>(Ix.pin (b,o) (List.mem_append_right _ (List.mem_append_right _ (dU hb e)))).1,fun b hb=> ?_⟩;obtain⟨o,e,d⟩:=T.obj _ _ st5 b hb;exact(Ix.pin (b,o) (List.mem_append_right _ (List.mem_append_right _ (dU hb e)))).2.1
    cases b with
    | false =>
     rw[if_neg Bool.false_ne_true]at q7 ⊢;obtain⟨m',hm',w7⟩:=q7;obtain⟨e7,n7,st7,fr7⟩:=pinD (pp:=[]) I7;exact⟨m',hm',i+1,ys,its,k,H7,w7,(I7.pins_of (pins':=[]) fun p hp=>by cases hp).weak hl6.symm hk6,st7,fr7,n7,e7,rv,hz⟩
    | true =>
     rw[if_pos rfl]at q7 ⊢;refine wpAny_mono (he C s2 H2 fp _ s7 σ6 H7 _ I7 q7) (fun y' s8 ⟨y,H8,I8,r8,hlt,m',hm',w8⟩=> ?_) fun _ _ f=>f.elim;obtain⟨e8,n8,st8,fr8⟩:=pinD (pp:=[]) I8;have I8f:Inv (aR X scope cl N C s2 H2 fp) (fI fp s5.heap) σ6 H8 s8:=I8.pins_of fun p hp=>I8.pin p (List.mem_append_right _ (List.mem_append_right _ hp));have I8t:=I8f.track n8 e8 rv hz (by show s2.heap.objs.size<=D;rw[hDe];exact Nat.le_refl _) hDL hDX fun p hp=>by
      have hp':p∈fI fp s5.heap:=by simpa [aR] using hp
      exact fun z=>hDfp (z▸(vF hp').1)
     refine wpAny_mono (jO (X:=aR X scope cl N C s2 H2 fp) (fI fp s5.heap) s8 σ6 _ (.ref D) [y] (.ref D) [y'] (fun _ H9=>H9=upd H8 D (.lst (ys++[y]))) I8t rfl (.cons r8 .nil)
      ⟨D,ys,y,rfl,rfl,aY,hlt,L8⟩) (fun _ s9 ⟨_,H9,I9,_,e9⟩=> ?_) fun _ _ f=>f.elim
     subst e9;obtain⟨hz9,its9,k9,rv9,e9⟩:=I9.hok D _ aY;have I9u:=I9.untrack n8;refine⟨m',hm',i+1,ys++[y],its9,k9,H8,w8,(I9u.pins_of (pins':=[]) fun p hp=>by cases hp).weak hl6.symm hk6,?_,fr8,n8,e9,rv9,hz9⟩;exact T.keep _ _ _ st5 fun b hb o e=>(I9u.pin (b,o) (List.mem_append_right _ (dU hb e))).1
  ·exact⟨0,[],[],0,H2,w0,I4,T.keep _ _ _ st2 fun b hb o e=>old b o e,fun b hb=>(f2 b hb).1,I2.hok.fresh (by rw[hDe];exact Nat.le_refl _),hacc,.nil,Nat.zero_le _⟩
 exact codeAny_compStart_list (loop _ rfl) (T.self _ 0 _ _ _ (T.keep _ _ _ st2 fun b hb o e=>old b o e) (loop _ rfl))
theorem J8 {Pm:Cx->Prop}{i:Nat}{x:Str}{pos' spos:Pos} (hN:X.N.Nodup) (hix:X.N[i]? =some x) (hx:Loc X.env.scope x) (hc:∀C s0 H0 fp,Pm (aR X scope cl N C s0 H0 fp)) (B:Blk X scope cl N nl ci) (hp:PIP Pm X tg iter wi) (hg:∀C s0 H0 fp,PG (aR X scope cl N C s0 H0 fp) tg g)
  (hi:∀C s0 H0 fp,PF (aR X scope cl N C s0 H0 fp) ifs ti)(he:∀C s0 H0 fp,PE (aR X scope cl N C s0 H0 fp) elt te)
  (hsw:swapsWith (.ListComp elt [⟨tg,iter,ifs,0⟩] scope pos) (some (.Name x pos')) spos.line X.env=pure true:=by rfl)(hs:∀x,foldedSetIterable iter X.env x=pure x:=by intro _;rfl)
  (hf:X.fn x=true∨X.env.scope.names.lookup x=some .local:=by first|exact .inl rfl|exact .inr rfl|assumption) :
  PS X (.Assign [.Name x pos'] (.ListComp elt [⟨tg,iter,ifs,0⟩] scope pos) spos) (NC (F8 wi nl ci g ti te) (cJ i)):=by
 intro pins s σ H D I h;rw[exec_Assign_Name_used _ _ _ _ hsw];refine wpAny_bind (wpAny_standAt (wpAny_bind ?_));show wpAny _ X.A (do let _ ←comprehension (.ListComp elt [⟨tg,iter,ifs,0⟩] scope pos) scope X.env _ (newList []) false (eval iter X.env) (some (assign (.Name x pos') X.env))) _ _ s;refine wpAny_bind (wpAny_mono (wpAny_comprehension_free (use:=some (assign (.Name x pos') X.env)) (Q:=fun _ s'=>SP X pins D .next s') rfl hs B.clos B.kind B.names
  (thn (hp pins s σ H _ I h) fun v s1 h1=>thn h1 fun itv s2 h2=> ?_)) (fun _ s' hq=>wpAny_pure (wpAny_pure hq)) fun _ _ e=>e)
 obtain⟨it,fp,tn,J,H2,e,I2,T,st2,f2,hW⟩:=h2;subst e;refine M7 (RR:=fun acc C=>compPost (model X.prog X.w) X.A X.xe (some (assign (.Name x pos') X.env)) (fun _ s'=>SP X pins D .next s') acc C) hc B hg hi he I2 T st2 f2 hW ?_;intro Dd C s' H' ys oC m hD K1 hn hC q;show wpAny _ X.A (assign (.Name x pos') X.env (.ref Dd)) _ _ _;refine thn (aL (i:=i) hN hix hx hf (pins++[(C,oC)]) s' σ (upd H' Dd (.lst ys)) (.ref Dd) (.ref Dd) (fun σ' H''=>D.nx σ' H'') K1 rfl (q Dd hD)) fun _ s'' ⟨σ',H'',K2,q2⟩=> ?_;have eC:=K2.pin (C,oC) (by simp);obtain⟨oC',es,ep,hoC,hdC,rC⟩:=id hn;have eo:oC'=oC:=by
  have:=(K1.pin (C,oC) (by simp)).1;rw[hoC]at this;exact Option.some.inj this
 subst eo;refine⟨m,⟨oC',es,ep,eC.1,hdC,rC⟩,fun h' hs'=> ?_⟩;have hL:C≠X.env.locals:=eC.2.2.1;have I9:Inv X pins σ' H'' { s'' with heap:=h',toks:=s''.toks }:=K2.unpinned.turned (t':=s''.toks) (it:=C) (fun b o hb e=>hs'.extBut b o hb e) eC.2.1 hL (.inr (Nat.le_trans I2.sz hC)) (fun x c e z=> ?_) fun p hp z=> ?_
 ·exact⟨σ',H'',I9,q2⟩
 ·obtain⟨v,o,ho,_⟩:=I2.cell x c e;exact absurd (Nat.lt_of_lt_of_le (Heap.lt_size ho) (z▸hC)) (Nat.lt_irrefl _)
 ·exact absurd (Nat.lt_of_lt_of_le (Heap.lt_size (I2.pin p hp).1) (z▸hC)) (Nat.lt_irrefl _)
end
def HdU (ea:Addr)(X:Cx):Prop:=X.A.handled=some (.ref ea)
def HX (ea:Addr)(H:Hp):Prop:=∃φ,H ea=some (.ext φ)/\∀h,φ h->DH ea h
def WH (ea:Addr)(lo:Int)(n:Nat):It:=⟨fun i _=>i<n,fun i H x H'=>H'=H/\x= .int (lo+i),fun i H=>n<=i/\HX ea H⟩
theorem KF {P:Program}{w:World}{K:W.Frag}{tg:Expr}{ea:Addr} (it:Addr) (lo:Int) (n:Nat):OG (HdU ea) P w K tg (WH ea lo n) [it] it (fun i h=>IsRangeIter h it (lo+(i:Nat) * 1) ((n:Int) - (i:Nat)) 1) where
 mem:=by simp
 obj:=fun i h st b hb=>by
  obtain rfl:b=it:=by simpa using hb
  exact⟨_,st,fun v z=>by
   have z':Data.fields _=Data.cell v:=z;cases z'⟩
 keep:=fun i h h' st k=>k it (by simp) _ st
 item:=by
  intro X hP hw hK hc i pins s σ H E I hf st hg;subst hP hw hK;obtain⟨f0,f1,f2,f3,f4,f5⟩:=hf it (by simp);refine wpAny_pyNext_range_item st (by have:i<n:=hg;lia) fun h' st' sb=> ?_;have e1:lo+((i+1:Nat):Int) * 1=lo+(i:Nat) * 1+1:=by lia
  have e2:(n:Int) - ((i+1:Nat):Int)=(n:Int) - (i:Nat) - 1:=by lia
  refine⟨_,rfl,AT (s:={ s with heap:=h',toks:=s.toks+1 }) (n:= "range_iterator") st' rfl rfl (by decide) ⟨.int (lo+i),H,I.turned (t':=s.toks+1) (fun b o hb e=>sb.extBut b o hb e) f0 f1 f3 f4 f5,⟨s.toks,?_⟩,⟨rfl,rfl⟩,?_,fun b hb=>(hf b hb).1⟩⟩
  ·rw[Int.mul_one]
  ·rw[e1,e2];exact st'
 done:=by
  intro X hP hw hK hc i pins s σ H E I hf st ⟨hg,φ,hx,hu⟩;subst hP hw hK;obtain⟨f0,f1,f2,f3,f4,f5⟩:=hf it (by simp);exact OX hc (hu _ (I.hok ea _ hx).1) st (by lia) fun h' eb=>⟨rfl,I.turned (t':=s.toks) (fun b o hb e=>eb b o hb e) f0 f1 f3 f4 f5⟩
 self:=fun _ _ _ _ _ st h=>wpAny_pyIter_rangeiter st h
section
variable {X:Cx}
theorem QL {ea:Addr}{tg:Expr}{pins:List (Addr×Obj)}{σ:St}{H:Hp}{s:Shared}{R:It->Hp->Prop}{E:Value->Shared->Prop}{lo hi:Int}{t u v:Tok}{tk:Nat} (I:Inv X pins σ H s) (h1: -(2^62)<=lo) (h2:lo<2^62) (h3: -(2^62)<=hi) (h4:hi<2^62)
  (q:R (WH ea lo (hi - lo).toNat) H):wpAny (model X.prog X.w) X.A (pyIter (.ref s.heap.objs.size)) (aB8 (HdU ea) X pins σ tg R) E { s with heap:=s.heap.push { cls:= .type "range",data:= .fields #[.int lo t,.int hi u,.int 1 v] },toks:=tk }:=by
 refine wpAny_pyIter_range (IsRange.new ..) (small_one h1 h2 h3 h4) ?_;have I1:Inv X pins σ H { s with heap:=s.heap.push { cls:= .type "range",data:= .fields #[.int lo t,.int hi u,.int 1 v] },toks:=tk }:=I.kept fun b o e=>Heap.get?_push_of_some _ e;refine⟨(s.heap.push { cls:= .type "range",data:= .fields #[.int lo t,.int hi u,.int 1 v] }).objs.size,[(s.heap.push { cls:= .type "range",data:= .fields #[.int lo t,.int hi u,.int 1 v] }).objs.size],_,_,H,rfl,
  I1.kept (t':=tk) fun b o e=>Heap.get?_push_of_some _ e,KF _ lo (hi - lo).toNat,?_,fun b hb=> ?_,q⟩
 ·have e1:lo+((0:Nat):Int) * 1=lo:=by simp
  have e2:(((hi - lo).toNat:Nat):Int) - ((0:Nat):Int)=Builtin.Range.rangeSize lo hi 1:=by rw[rangeSize_one];split<;>lia
  show IsRangeIter _ _ (lo+((0:Nat):Int) * 1) ((((hi - lo).toNat:Nat):Int) - ((0:Nat):Int)) 1;rw[e1,e2];exact Heap.get?_push_size _ rfl
 ·have e:b=(s.heap.push { cls:= .type "range",data:= .fields #[.int lo t,.int hi u,.int 1 v] }).objs.size:=by simpa using hb
  subst e;exact I1.fpOk (Nat.le_refl _) (I1.hok.fresh (Nat.le_refl _))
def aCi (ea:Addr)(ta:TA):TI:=fun σ H R=>ta σ H fun vs H1=>∃j:Int,vs=[.int j]/\ -(2^62)<=j/\j<2^62/\R (WH ea 0 j.toNat) H1
theorem OO {ea:Addr}{tg:Expr}{a:Expr}{ta:TA}{p pos:Pos} (hg:Gl X "range") (hm:X.mg "range" =none) (ha:PA X [a] ta) (hs:starEach [a] X.env=[(false,eval a X.env)]:=by rfl):PIP (HdU ea) X tg (.Call (.Name "range" p) [a] [] pos) (aCi ea ta):=by
 intro pins s σ H R I h;refine Call_ (rZ I hg hm boot_range (PyProof.Rows.callWith_type1 (thn (ha pos pins s σ H _ I h) fun us s1 ⟨vs,H1,I1,r1,q1⟩=> ?_) hs rfl));obtain⟨j,e,q1,q2,q⟩:=q1;subst e;cases r1 with
 | cons r rr =>
  cases rr;obtain⟨t,rfl⟩:=r;exact call_range_1 (QL I1 (by lia) (by lia) q1 q2 (by simpa using q))
end
end L2
namespace L2
open PySem PySem.Spec PyProof.Rows PySem.W
structure RoomU (k:Nat)(A:Around):Prop where
 rm:Room k { A with handled:=none }
theorem Room.u {k:Nat}{A:Around} (r:Room k A) (h:Option Value):RoomU k (A.mark h):=⟨⟨rfl,r.dp,r.un⟩⟩
theorem RoomU.deeper {k:Nat}{A:Around} (r:RoomU (k+1) A) (env:Env):RoomU k (A.deeper env):=⟨⟨rfl,(r.rm.deeper env).dp,(r.rm.deeper env).un⟩⟩
def cxU (P:Program)(w:World)(K:Frag)(mg:Str->Option Value)(base:Heap)(N:List Str)(qual:Str)(scope:Scope)(f:Addr)(cd:Value)(A:Around)(outer:List Env)(s:Shared)(H:Hp):Cx :=
 { dJ CX0 P w K mg base N qual scope f cd A outer s H E0 with calm:=false,xe:=fun _ _=>False }
structure MY (P:Program)(w:World)(K:Frag)(mg:Str->Option Value)(base:Heap)(ea:Addr)(k:Nat)(f:Addr)(fd:FuncData)(ps:List Str)(sp:Sp):Prop where
 len:∀vs H Q E,sp vs H Q E->vs.length=ps.length
 run:∀(A:Around) (outer:List Env) (s:Shared) (H:Hp) (args:Args) (us:List Value) (vs:List V) (Q:VK),RoomU k A->A.handled=some (.ref ea)->Env0 P w K mg base A outer s H->BindsTo s fd args (ps.zip us)->Vals vs us->sp vs H Q E0 →
  codeAny (model P w) A (.call (.ref f) args) (CR CX0 outer P w H s Q E0) s
section
variable {P:Program}{w:World}{K:Frag}{mg:Str->Option Value}{base:Heap}{ea:Addr}
theorem FunV.okU {x qual:Str}{st:Stmt}{f:Addr}{fd:FuncData}{N ps:List Str}{k:Nat}{sp:Sp} (F:FunV K x qual st f fd) (S:aO N ps (aG st)) (len:∀vs H Q E,sp vs H Q E->vs.length=ps.length)
  (hbody:∀(cdv:Value) (A:Around) (outer:List Env) (s:Shared) (H:Hp) (vs:List V) (Q:VK),RoomU k (A.deeper (envOfC qual (aG st) s.heap.objs.size f cdv))->A.handled=some (.ref ea)->sp vs H Q E0 →
   ∃t,PSs (cxU P w K mg base N qual (aG st) f cdv A outer s H) (cY st) t/\t { nx:=fun _ H'=>Q .non H',rt:=Q } (fO N vs) H):MY P w K mg base ea (k+1) f fd ps sp:=by
 obtain⟨oc,od,dV,kV,doc,pm,an,cdv,ct,osl,rfl,lk,hcd⟩:=F.ex;refine⟨len,fun A outer s H args us vs Q hr hh e0 hb r hsp=> ?_⟩;have hl:=len _ _ _ _ hsp;have KX:K.In s.heap:=e0.mod.kin.keeps fun b o e=>(e0.bs b o e).1;have lim:s.heap.NoLimit:=e0.mod.nolimit.keeps fun b o e=>(e0.bs b o e).1;have hk:∀y∈ps.zip us,(aG st).names.lookup y.1=some .local∨((aG st).names.lookup y.1=some .cell/\((cellsFrom (s.heap.objs.size+1) (aG st).names []).lookup y.1).isSome=true):=fun⟨n,v⟩ hy=>by
  rcases S.par n (List.of_mem_zip hy).1 with q|q
  ·exact .inl q
  ·exact .inr ⟨q,cellsFrom_some _ _ _ (.inl q)⟩
 refine codeAny_call_function hr.rm.depth (KX _ _ lk) rfl S.co S.gen rfl (codeRec_of KX hcd) (hb _ _ _ _ (wpAny_newFunctionEnv_cells S.kind hk fun env he s1 x=> ?_));subst he;refine⟨lim.keeps x.toInCall.keep,codeAny_func ?_⟩;obtain⟨t,ht,hq⟩:=hbody cdv A outer s H vs Q (hr.deeper _) hh hsp;have e1:Env0 P w K mg base { A with handled:=none } outer s H:=⟨e0.frames,e0.mod,e0.bs,e0.bsz,e0.funs,e0.frf,e0.hok,e0.bare⟩
 have I0:=EM (CX:=CX0) (E:=E0) S rfl e1 hl r x;have ok:=I0.ok;have I:Inv (cxU P w K mg base N qual (aG st) f cdv A outer s H) [] (fO N vs) H s1 :=
  ⟨⟨ok.mod,ok.kind,ok.glob,ok.blt,ok.above,ok.inj,ok.has,ok.cab,(fun z=>by cases z),Around.frames_deeper e0.frames,ok.stk,ok.exf,ok.bs,ok.bsz,ok.noex,ok.exfs,ok.funs,ok.frf⟩,I0.os,I0.bare,I0.base,I0.loc,I0.cell,I0.free,I0.freeC,I0.pin,I0.hok,I0.len⟩
 refine wpAny_mono (ht [] s1 (fO N vs) H _ I hq) (fun fl s' hs=> ?_) fun e s' hs=>False.elim hs;have fin:∀{σ':St}{H':Hp}{v:V}{u:Value},Inv (cxU P w K mg base N qual (aG st) f cdv A outer s H) [] σ' H' s'->RelV v u->Q v H'->CE outer P w H s Q u s' :=
  fun {σ' H' v u} J rv q=>⟨v,H',J.os,J.bare,J.base,J.hok,rv,q⟩
 cases fl with
 | ret u=>obtain⟨v,σ',H',J,rv,q⟩:=hs;exact fin J rv q
 | next=>obtain⟨σ',H',J,q⟩:=hs;exact fin (v:=V.non) (u:=Value.none) J rfl q
 | brk=>obtain⟨_,_,_,q⟩:=hs;exact False.elim q
 | cont=>obtain⟨_,_,_,q⟩:=hs;exact False.elim q
structure FcU (P:Program)(w:World)(K:Frag)(mg:Str->Option Value)(base:Heap)(x:Str)(k:Nat)(ps:List Str)(sp:Addr->Sp):Prop where
 ex:∃f fd,mg x=some (.ref f)/\keepIn K (.ref f)=true/\Binds K fd ps []/\∀ea,MY P w K mg base ea k f fd ps (sp ea)
theorem aCA {X:Cx}{x:Str}{k k':Nat}{ps:List Str}{sp:Addr->Sp}{e:Expr}{es:List Expr}{t:TA}{p pos:Pos} (F:FcU X.prog X.w X.K X.mg X.base x k ps sp) (hr:Room k' X.A) (ha:PA (X.inx ea) (e::es) t) (hk:k<=k':=by decide) (hg:Gl X x:=by rfl)
  (hdb:(x==("__debug__" :Str))=false:=by decide)(he:starEach (e::es) X.env=(false,eval e X.env)::starEach es X.env:=by rfl)(hpl:(backTo pos (starEach es X.env)).any (·.1)=false:=by rfl) :
  PE (X.inx ea) (.Call (.Name x p) (e::es) [] pos) (nY (sp ea) [] E0 t):=by
 intro pins s σ H Q I h;obtain⟨f,fd,hm,kp,b,G⟩:=F.ex;refine wpAny_Call_Name_kw (gI I hg hm ?_ hdb);refine callWith_K (h₀:=X.base) I.ok.mod.kin kp (thn (ha pos pins s σ H _ I h) fun us s1 ⟨vs,H1,I1,r,q⟩=>⟨I1.kIn,?_⟩) he hpl;have r2:Vals (vs++[]) (us++[]):=r.append .nil;have hl:(us++[]).length=ps.length:=by rw[←r2.length];exact(G ea).len _ _ _ _ q
 refine wpAny_call (codeAny_mono ((G ea).run (X.inx ea).A X.stack s1 H1 ⟨us,[]⟩ (us++[]) (vs++[]) Q ((hr.mono hk).u _) rfl I1.env0 (b s1 us I1.kIn hl) r2 q) fun r s' hq=> ?_);cases r with
 | error e=>exact False.elim hq
 | ok fl =>
  cases fl with
  | ret u=>exact I1.after hq
  | next=>exact False.elim hq
  | brk=>exact False.elim hq
  | cont=>exact False.elim hq
end
section
variable {X:Cx}{i:Nat}{n x:Str}{T:Addr}{np hpos pos epos:Pos}{e:Expr}{tc:XK->TE}{b₀:Stmt}{suite:List Stmt}
def RI (K:W.Frag)(T:Addr)(i:Nat)(ts:Addr->TS)(D:fM)(σ:St):XK:=fun cls dd H1=>∃C,cls= .ref C/\W.exmOne K (.ref C) (.ref T)=some true ∧
 ∀ea,H1 ea=none->ts ea { nx:=fun σ' H'=>D.nx (σ'.set i none) H',rt:=D.rt,bk:=fun σ' H'=>D.bk (σ'.set i none) H',ct:=fun σ' H'=>D.ct (σ'.set i none) H' } (σ.set i (some (.ref ea))) (upd H1 ea (tD ea C dd))
theorem UK {ts:Addr->TS}{body:List Stmt}{tb:XK->TS} (hN:X.N.Nodup) (hi:X.N[i]? =some n) (hk:X.env.scope.names.lookup n=some .local) (hst:X.stack=X.env::X.outer) (hfr:X.env.frame=some X.env.locals) (hm:X.mg x=some (.ref T)) (he:PXs X body tb) (hs:∀ea,PSs (X.inx ea) (b₀::suite) (ts ea))
  (hg:Gl X x:=by rfl)(hdb:(x==("__debug__" :Str))=false:=by decide) :
  PS X (.Try body [.ExceptHandler (some (.Name x np)) (some n) (b₀::suite) hpos] [] [] pos) (fun D σ H=>tb (RI X.K T i ts D σ) D σ H):=by
 intro pins s σ H D I h;refine wpAny_Try_except ?_;refine wpAny_mono (he _ pins s σ H _ I h) (fun f s1 q=> ?_) fun ev s' hx=> ?_
 ·cases f with
  | next=>exact wpAny_execs_nil q
  | ret v=>exact q
  | brk=>exact q
  | cont=>exact q
 obtain⟨H1,s1,I1,ea,cls,dd,a0,H',B,rfl,os,bare,un,hok,hn,new,fl,cov,C,rfl,hex,hq⟩:=hx;have frms:∀b∈frs X.stack,H' b=none:=fun b hb=>by
  obtain⟨_,o,ho,_⟩:=I1.stack.mem hb;exact un.free b o ho (I1.stkFree b hb) (by simp)
 have fl0:=fl;rw[hst]at fl0;refine RY (by rw[I.ok.frames,hst]) hfr fl0 fun h4 ⟨k1,k2,k3,up4⟩=> ?_;refine RU k1 fl.2.1 k2 k3 fun h5 hfl5 up5=> ?_;have step:∀h6,FlyD B (X.env::X.outer) ea (.ref C) dd (a0,.none) h6->s'.heap.UpToSlots h6->Inv X pins σ (upd H' ea (tD ea C dd)) { s' with heap:=h6 }:=fun h6 f6 up6=>by
  obtain⟨un2,hok2⟩:=Z3 un hok cov fl.1 f6.1 up6 fun b hb=>⟨frms b hb,(fl.2.2.1.mem hb).2⟩
  obtain⟨oe,vs,q1,q2,q3,q4,q5⟩:=f6.there;obtain⟨un3,hok3⟩:=X6 (C:=C) un2 hok2 new hn q1 q2 q3 q4 q5;exact I1.call' (s':={ s' with heap:=h6 }) (ch:=[]) os un3 hok3 bare fun b z=>absurd z (by simp)
 have I5:=step h5 hfl5 (up4.trans up5);obtain⟨ob,_,hob,hobc,_⟩:=hfl5.there;have LT:Looks (model X.prog X.w) h5 (typeOf (.ref ea)) (.ref C):=by
  rw[←hobc];exact(Looks.ld hob).andThen .now
 refine wpAny_handleBy_cons (codeAny_handlers_test ?_) (by intro q;cases q);refine gI (X:=X.inx ea) (I5.inx ea) hg hm ?_ hdb;refine(W.exm_one I5.kIn LT hex).here ?_;show codeAny _ _ _ _ _;refine codeAny_handlers_suite_as ?_;obtain⟨l1,l2,l3,l4⟩:=hfl5;refine RU l1 l2 l3 l4 fun h6 hfl6 up6=> ?_;have I6:=step h6 hfl6 ((up4.trans up5).trans up6);refine yK (X:=X.inx ea) (v:= .ref ea) (I6.inx ea) hN hi (.inl hk) rfl (fun s7 I7=> ?_) (.inr hk);refine wpAny_mono (hs ea pins s7 _ _ _ I7 (hq ea hn)) (fun f s8 hsp=> ?_) fun _ _ z=>False.elim z;cases f with
 | next =>
  obtain⟨σ',H8,I8,q8⟩:=hsp;exact qL (I8.outx I.ok) hN hi hk fun s9 I9=>⟨_,H8,I9,q8⟩
 | brk =>
  obtain⟨σ',H8,I8,q8⟩:=hsp;exact qL (I8.outx I.ok) hN hi hk fun s9 I9=>⟨_,H8,I9,q8⟩
 | cont =>
  obtain⟨σ',H8,I8,q8⟩:=hsp;exact qL (I8.outx I.ok) hN hi hk fun s9 I9=>⟨_,H8,I9,q8⟩
 | ret u =>
  obtain⟨v,σ',H8,I8,r8,q8⟩:=hsp;exact qL (I8.outx I.ok) hN hi hk fun s9 I9=>⟨v,_,H8,I9,r8,q8⟩
end
end L2
namespace L2
def aBo {α:Type}:Nat->(List α->Prop)->Prop
 | 0,p=>p []
 | n+1,p=>∀a,aBo n (fun l=>p (a::l))
theorem ZB {α:Type}:∀(n:Nat) (p:List α->Prop),aBo n p->∀us:List α,us.length=n->p us
 | 0,_,h,[],_=>h
 | n+1,_,h,a::us,e=>ZB n _ (h a) us (by simpa using e)
 | 0,_,_,_::_,e=>by simp at e
 | _+1,_,_,[],e=>by simp at e
end L2
namespace Prf
open PySem L2
set_option hygiene false
local macro_rules| `(tactic| walk_at"fs")=> `(tactic| exact⟨rfl,rfl,rfl,by decide +kernel,rfl,by decide +kernel,by decide +kernel⟩)
local macro_rules| `(tactic| walk_at"hu")=> `(tactic| (have hu0:=Room.units0 hr;have hu1:=Room.units1 hr;have hu9:=Room.units9 hr))
set_option hygiene true
def top (i:Nat):Stmt:=PySem.Challenge.pw_firstout_k63_anew_refused.main.body.getD i (.Pass ⟨0,0,0,0⟩)
abbrev iW:Stmt:=cN (top 8) 0
theorem sc_Twice___init__:aO ["self","name"] ["self","name"] (aG iW):=by walk_at"fs"
abbrev gY:Stmt:=cN (top 9) 0
theorem sc_NoRoom___init__:aO ["self","name"] ["self","name"] (aG gY):=by walk_at"fs"
abbrev gD:Stmt:=cN (top 10) 0
theorem sc_Unknown___init__:aO ["self","name"] ["self","name"] (aG gD):=by walk_at"fs"
abbrev tO:Stmt:=top 12
theorem sc_is_whole:aO ["thing"] ["thing"] (aG tO):=by walk_at"fs"
abbrev uX:Stmt:=top 15
theorem sc_is_name:aO ["thing"] ["thing"] (aG uX):=by walk_at"fs"
abbrev qT:Stmt:=top 16
theorem sc_need_name:aO ["part","thing"] ["part","thing"] (aG qT):=by walk_at"fs"
abbrev o6:Stmt:=top 17
theorem sc_need_whole:aO ["part","thing","least"] ["part","thing","least"] (aG o6):=by walk_at"fs"
abbrev dS:Stmt:=cN (top 18) 0
theorem sc_Door___init__:aO ["self","name","start","end","wide"] ["self","name","start","end","wide"] (aG dS):=by walk_at"fs"
abbrev qW:Stmt:=cN (top 18) 1
theorem sc_Door_lets:aO ["self","turn"] ["self","turn"] (aG qW):=by walk_at"fs"
abbrev kX:Stmt:=cN (top 18) 2
theorem sc_Door_is_exit:aO ["self"] ["self"] (aG kX):=by walk_at"fs"
abbrev jV:Stmt:=cN (top 19) 0
theorem sc_Shut___init__:aO ["self","door","turn"] ["self","door","turn"] (aG jV):=by walk_at"fs"
abbrev i9:Stmt:=cN (top 20) 0
theorem sc_Wider___init__:aO ["self","door","turn","more"] ["self","door","turn","more"] (aG i9):=by walk_at"fs"
abbrev oR:Stmt:=top 22
theorem sc_need_turns:aO ["first","last"] ["first","last"] (aG oR):=by walk_at"fs"
abbrev iZ:Stmt:=top 23
theorem sc_need_each_once:aO ["names","seen","name"] ["names"] (aG iZ):=by walk_at"fs"
abbrev g0:Stmt:=top 24
theorem sc_rooms_spoken_of:aO ["doors","people","names","door"] ["doors","people"] (aG g0):=by walk_at"fs"
abbrev oJ:Stmt:=top 25
theorem sc_need_rooms:aO ["names","sizes","name"] ["names","sizes"] (aG oJ):=by walk_at"fs"
abbrev kS:Stmt:=top 26
theorem sc_added_people:aO ["sizes","people","inside","room","number"] ["sizes","people"] (aG kS):=by walk_at"fs"
abbrev oQ:Stmt:=top 27
theorem sc_need_space:aO ["sizes","people","inside"] ["sizes","people"] (aG oQ):=by walk_at"fs"
abbrev dL:Stmt:=cN (top 28) 0
theorem sc_House___init__:aO ["self","rooms","doors","people","last","first","sizes","door"] ["self","rooms","doors","people","last","first"] (aG dL):=by walk_at"fs"
abbrev mS:Stmt:=cN (top 28) 1
theorem sc_House_rooms:aO ["self"] ["self"] (aG mS):=by walk_at"fs"
abbrev mK:Stmt:=cN (top 28) 2
theorem sc_House_doors:aO ["self"] ["self"] (aG mK):=by walk_at"fs"
abbrev g4:Stmt:=cN (top 28) 3
theorem sc_House_need_room:aO ["self","room"] ["self","room"] (aG g4):=by walk_at"fs"
abbrev mL:Stmt:=cN (top 28) 4
theorem sc_House_holds:aO ["self","room"] ["self","room"] (aG mL):=by walk_at"fs"
abbrev mI:Stmt:=cN (top 28) 5
theorem sc_House_found:aO ["self","room"] ["self","room"] (aG mI):=by walk_at"fs"
abbrev oX:Stmt:=cN (top 28) 8
theorem sc_House_door:aO ["self","name"] ["self","name"] (aG oX):=by walk_at"fs"
abbrev oV:Stmt:=cN (top 28) 9
theorem sc_House_lets:aO ["self","name","turn","door"] ["self","name","turn"] (aG oV):=by walk_at"fs"
abbrev mO:Stmt:=cN (top 28) 10
theorem sc_House_total:aO ["self"] ["self"] (aG mO):=by walk_at"fs"
abbrev mT:Stmt:=cN (top 28) 11
theorem sc_House_pairs:aO ["self","pairs","turn"] ["self"] (aG mT):=by walk_at"fs"
abbrev tL:Stmt:=top 30
theorem sc_added_up:aO ["plan","going","turn","name","number"] ["plan"] (aG tL):=by walk_at"fs"
abbrev gZ:Stmt:=top 31
theorem sc_rows_that_count:aO ["house","plan","doors"] ["house","plan"] (aG gZ):=by walk_at"fs"
abbrev u9:Stmt:=top 32
theorem sc_leaving:aO ["house","plan","numbers","turn","name","number","pair"] ["house","plan"] (aG u9):=by walk_at"fs"
abbrev zI:Stmt:=top 33
theorem sc_coming:aO ["house","plan","numbers","turn","name","number","door","pair"] ["house","plan"] (aG zI):=by walk_at"fs"
abbrev DT:Stmt:=top 34
theorem sc_there:aO ["house","plan","leave","come","inside","room","turn","before"] ["house","plan"] (aG DT):=by walk_at"fs"
abbrev kY:Stmt:=top 35
theorem sc_most_through:aO ["house","turn","name"] ["house","turn","name"] (aG kY):=by walk_at"fs"
abbrev mR:Stmt:=top 36
theorem sc_door_faults:aO ["house","plan","going"] ["house","plan"] (aG mR):=by walk_at"fs"
abbrev kT:Stmt:=top 37
theorem sc_leave_faults:aO ["house","plan","inside","leave","below_last"] ["house","plan","inside"] (aG kT):=by walk_at"fs"
abbrev mM:Stmt:=top 38
theorem sc_full_faults:aO ["house","inside"] ["house","inside"] (aG mM):=by walk_at"fs"
abbrev zJ:Stmt:=top 39
theorem sc_faults:aO ["house","plan","inside"] ["house","plan"] (aG zJ):=by walk_at"fs"
abbrev mQ:Stmt:=top 40
theorem sc_need_lawful:aO ["house","plan"] ["house","plan"] (aG mQ):=by walk_at"fs"
abbrev tR:Stmt:=top 42
theorem sc_place_of:aO ["doors","name","names"] ["doors","name"] (aG tR):=by walk_at"fs"
abbrev lA:Stmt:=top 43
theorem sc_changed_door:aO ["door","happening"] ["door","happening"] (aG lA):=by walk_at"fs"
abbrev mP:Stmt:=top 44
theorem sc_doors_after:aO ["doors","happening","place"] ["doors","happening"] (aG mP):=by walk_at"fs"
abbrev u6:Stmt:=top 45
theorem sc_anew:aO ["house","plan","turn","happenings","happened","doors","happening","inside","people"] ["house","plan","turn","happenings"] (aG u6):=by walk_at"fs"
abbrev kO:Stmt:=top 47
theorem sc__law_cell_at:aO ["_law_script","_law_k"] ["_law_script","_law_k"] (aG kO):=by walk_at"fs"
abbrev oT:Stmt:=top 48
theorem sc__law_drawn:aO ["_law_cell","_law_k","_law_number_here"] ["_law_cell","_law_k"] (aG oT):=by walk_at"fs"
abbrev i8:Stmt:=top 49
theorem sc__law_happening:aO ["_law_cell","_law_house","_law_names","_law_way","_law_name","_law_room","_law_turn","_law_odd","_law_some"] ["_law_cell","_law_house","_law_names"] (aG i8):=by walk_at"fs"
abbrev mJ:Stmt:=top 50
theorem sc__law_number:aO ["_law_thing"] ["_law_thing"] (aG mJ):=by walk_at"fs"
abbrev kB:Stmt:=top 51
theorem sc__law_by_doors:aO ["_law_happenings","_law_names","_law_known","_law_happening_here"] ["_law_happenings","_law_names"] (aG kB):=by walk_at"fs"
abbrev jR:Stmt:=top 52
theorem sc__law_by_house:aO ["_law_house","_law_happenings","_law_rooms","_law_names","_law_fresh","_law_door","_law_strange","_law_name","_law_room","_law_some"] ["_law_house","_law_happenings","_law_rooms"] (aG jR):=by walk_at"fs"
abbrev qV:Stmt:=top 53
theorem sc__law_word:aO ["_law_e","_law_kinds","_law_words","_law_found"] ["_law_e"] (aG qV):=by walk_at"fs"
abbrev qS:Stmt:=top 54
theorem sc__law_told:aO ["_law_house","_law_plan","_law_turn","_law_happenings","_law_found","_law_e"] ["_law_house","_law_plan","_law_turn","_law_happenings"] (aG qS):=by walk_at"fs"
abbrev qM:Stmt:=top 55
theorem sc_law:aO ["_law_script","_law_cell","_law_first","_law_rooms","_law_holds","_law_names","_law_doors","_law_k","_law_number_here","_law_end","_law_people","_law_house","_law_plan","_law_turn","_law_happenings","_law_due","_law_before"] ["_law_script"] (aG qM):=by walk_at"fs"
theorem VU:("shut" :Str).length=4:=by rw[bC];rfl
theorem WO:("found" :Str).length=5:=by rw[bC];rfl
theorem T0:("door" :Str).length=4:=by rw[bC];rfl
theorem UW:("plan" :Str).length=4:=by rw[bC];rfl
theorem V1:("turn" :Str).length=4:=by rw[bC];rfl
theorem VE:("unknown" :Str).length=7:=by rw[bC];rfl
theorem U6:("twice" :Str).length=5:=by rw[bC];rfl
theorem WI:("room" :Str).length=4:=by rw[bC];rfl
theorem UH:("house" :Str).length=5:=by rw[bC];rfl
theorem U5:("text" :Str).length=4:=by rw[bC];rfl
theorem NU:("name" :Str).length=4:=by rw[bC];rfl
theorem MN:("start" :Str).length=5:=by rw[bC];rfl
theorem MO:("wide" :Str).length=4:=by rw[bC];rfl
theorem N9:("more" :Str).length=4:=by rw[bC];rfl
theorem NE:("the first turn is below 0" :Str).length=25:=by rw[bC];rfl
theorem NN:("the last turn is below the first one" :Str).length=36:=by rw[bC];rfl
theorem MM:("a row of people is below 0" :Str).length=26:=by rw[bC];rfl
theorem NI:("more are in a room than it holds" :Str).length=32:=by rw[bC];rfl
theorem O6:("leave" :Str).length=5:=by rw[bC];rfl
theorem ME:("full" :Str).length=4:=by rw[bC];rfl
theorem M4:("the plan has faults" :Str).length=19:=by rw[bC];rfl
theorem NA:("the house has no such turn" :Str).length=26:=by rw[bC];rfl
theorem NM:("2" :Str).length=1:=by rw[bC];rfl
theorem OS:("wider" :Str).length=5:=by rw[bC];rfl
theorem OF:("strange" :Str).length=7:=by rw[bC];rfl
theorem NJ:("none" :Str).length=4:=by rw[bC];rfl
theorem O1:("hall" :Str).length=4:=by rw[bC];rfl
theorem OI:("yard" :Str).length=4:=by rw[bC];rfl
theorem OC:("attic" :Str).length=5:=by rw[bC];rfl
theorem OT:("gate" :Str).length=4:=by rw[bC];rfl
theorem MQ:("hatch" :Str).length=5:=by rw[bC];rfl
theorem MG:("a" :Str).length=1:=by rw[bC];rfl
theorem N3:("stair" :Str).length=5:=by rw[bC];rfl
theorem OD:("strong" :Str).length=6:=by rw[bC];rfl
theorem O8:(" is no name" :Str).length=11:=by rw[bC];rfl
theorem O3:(" is no whole number from " :Str).length=25:=by rw[bC];rfl
theorem O5:(" on" :Str).length=3:=by rw[bC];rfl
theorem N7:("end" :Str).length=3:=by rw[bC];rfl
theorem MD:("nowhere" :Str).length=7:=by rw[bC];rfl
theorem N2:("z" :Str).length=1:=by rw[bC];rfl
theorem NF:("fresh" :Str).length=5:=by rw[bC];rfl
abbrev aDq:List Str:=["name","start","end","wide","inner","turn","more","first","last","sizes","people","named_doors"]
structure DCls (K:W.Frag)(C:Addr):Prop where
 ic:ICls K C
 nf:noF K C aDq=true
theorem DCls.n_name {K:W.Frag}{C:Addr} (d:DCls K C):NoAttr K C "name" :=fH d.nf 0 rfl
theorem DCls.n_start {K:W.Frag}{C:Addr} (d:DCls K C):NoAttr K C "start" :=fH d.nf 1 rfl
theorem DCls.n_end {K:W.Frag}{C:Addr} (d:DCls K C):NoAttr K C "end" :=fH d.nf 2 rfl
theorem DCls.n_wide {K:W.Frag}{C:Addr} (d:DCls K C):NoAttr K C "wide" :=fH d.nf 3 rfl
theorem DCls.n_inner {K:W.Frag}{C:Addr} (d:DCls K C):NoAttr K C "inner" :=fH d.nf 4 rfl
theorem DCls.n_turn {K:W.Frag}{C:Addr} (d:DCls K C):NoAttr K C "turn" :=fH d.nf 5 rfl
theorem DCls.n_more {K:W.Frag}{C:Addr} (d:DCls K C):NoAttr K C "more" :=fH d.nf 6 rfl
theorem DCls.n_first {K:W.Frag}{C:Addr} (d:DCls K C):NoAttr K C "first" :=fH d.nf 7 rfl
theorem DCls.n_last {K:W.Frag}{C:Addr} (d:DCls K C):NoAttr K C "last" :=fH d.nf 8 rfl
theorem DCls.n_sizes {K:W.Frag}{C:Addr} (d:DCls K C):NoAttr K C "sizes" :=fH d.nf 9 rfl
theorem DCls.n_people {K:W.Frag}{C:Addr} (d:DCls K C):NoAttr K C "people" :=fH d.nf 10 rfl
theorem DCls.n_named_doors {K:W.Frag}{C:Addr} (d:DCls K C):NoAttr K C "named_doors" :=fH d.nf 11 rfl
set_option genInjectivity false in set_option genSizeOf false in structure M (K:W.Frag) (mg:Str->Option Value) where
 uB:Addr
 oB:FX K "is_whole" "is_whole" tO ["thing"] uB
 v6:Addr
 qP:FX K "is_name" "is_name" uX ["thing"] v6
 rA:Addr
 lY:FX K "need_name" "need_name" qT ["part","thing"] rA
 kE:Addr
 c9:FX K "need_whole" "need_whole" o6 ["part","thing","least"] kE
 pG:Addr
 kC:FX K "need_turns" "need_turns" oR ["first","last"] pG
 jG:Addr
 fD:FX K "need_each_once" "need_each_once" iZ ["names"] jG
 iA:Addr
 d3:FX K "rooms_spoken_of" "rooms_spoken_of" g0 ["doors","people"] iA
 kG:Addr
 c8:FX K "need_rooms" "need_rooms" oJ ["names","sizes"] kG
 lQ:Addr
 gU:FX K "added_people" "added_people" kS ["sizes","people"] lQ
 pO:Addr
 kK:FX K "need_space" "need_space" oQ ["sizes","people"] pO
 uK:Addr
 oA:FX K "added_up" "added_up" tL ["plan"] uK
 hV:Addr
 d6:FX K "rows_that_count" "rows_that_count" gZ ["house","plan"] hV
 vT:Addr
 qR:FX K "leaving" "leaving" u9 ["house","plan"] vT
 z6:Addr
 uG:FX K "coming" "coming" zI ["house","plan"] z6
 D9:Addr
 wY:FX K "there" "there" DT ["house","plan"] D9
 lO:Addr
 gR:FX K "most_through" "most_through" kY ["house","turn","name"] lO
 nB:Addr
 iP:FX K "door_faults" "door_faults" mR ["house","plan"] nB
 lK:Addr
 gW:FX K "leave_faults" "leave_faults" kT ["house","plan","inside"] lK
 nH:Addr
 iO:FX K "full_faults" "full_faults" mM ["house","inside"] nH
 z8:Addr
 uL:FX K "faults" "faults" zJ ["house","plan"] z8
 mV:Addr
 iR:FX K "need_lawful" "need_lawful" mQ ["house","plan"] mV
 uC:Addr
 oE:FX K "place_of" "place_of" tR ["doors","name"] uC
 lP:Addr
 gX:FX K "changed_door" "changed_door" lA ["door","happening"] lP
 mY:Addr
 iS:FX K "doors_after" "doors_after" mP ["doors","happening"] mY
 J0:Addr
 CI:FuncData
 CJ:FunV K "anew" "anew" u6 J0 CI
 aCr:Binds K CI ["house","plan","turn","happenings"] []
 lL:Addr
 gS:FX K "_law_cell_at" "_law_cell_at" kO ["_law_script","_law_k"] lL
 pK:Addr
 kM:FX K "_law_drawn" "_law_drawn" oT ["_law_cell","_law_k"] pK
 jE:Addr
 fC:FX K "_law_happening" "_law_happening" i8 ["_law_cell","_law_house","_law_names"] jE
 mU:Addr
 iQ:FX K "_law_number" "_law_number" mJ ["_law_thing"] mU
 kF:Addr
 fR:FX K "_law_by_doors" "_law_by_doors" kB ["_law_happenings","_law_names"] kF
 kI:Addr
 fP:FX K "_law_by_house" "_law_by_house" jR ["_law_house","_law_happenings","_law_rooms"] kI
 q0:Addr
 lX:FX K "_law_word" "_law_word" qV ["_law_e"] q0
 rD:Addr
 lW:FX K "_law_told" "_law_told" qS ["_law_house","_law_plan","_law_turn","_law_happenings"] rD
 PR:Addr
 PQ:FuncData
 aDh:FunV K "law" "law" qM PR PQ
 aDy:Binds K PQ ["_law_script"] []
 jD:Addr
 jF:FX K "__init__" "Twice.__init__" iW ["self","name"] jD
 g9:Addr
 iB:FX K "__init__" "NoRoom.__init__" gY ["self","name"] g9
 gG:Addr
 gH:FX K "__init__" "Unknown.__init__" gD ["self","name"] gG
 fQ:Addr
 dZ:FuncData
 qQ:FunV K "__init__" "Door.__init__" dS fQ dZ
 CG:Binds K dZ ["self","name","start","end","wide"] []
 rB:Addr
 qZ:FX K "lets" "Door.lets" qW ["self","turn"] rB
 eO:Addr
 eM:FX K "is_exit" "Door.is_exit" kX ["self"] eO
 kJ:Addr
 kH:FX K "__init__" "Shut.__init__" jV ["self","door","turn"] kJ
 jJ:Addr
 jC:FX K "__init__" "Wider.__init__" i9 ["self","door","turn","more"] jJ
 jI:Addr
 fB:FuncData
 zT:FunV K "__init__" "House.__init__" dL jI fB
 z5:Binds K fB ["self","rooms","doors","people","last","first"] []
 nF:Addr
 nR:FX K "rooms" "House.rooms" mS ["self"] nF
 nM:Addr
 nO:FX K "doors" "House.doors" mK ["self"] nM
 hJ:Addr
 hZ:FX K "need_room" "House.need_room" g4 ["self","room"] hJ
 nQ:Addr
 mW:FX K "holds" "House.holds" mL ["self","room"] nQ
 mX:Addr
 nS:FX K "found" "House.found" mI ["self","room"] mX
 pU:Addr
 pM:FX K "door" "House.door" oX ["self","name"] pU
 pT:Addr
 pJ:FX K "lets" "House.lets" oV ["self","name","turn"] pT
 nP:Addr
 mZ:FX K "total" "House.total" mO ["self"] nP
 m8:Addr
 nK:FX K "pairs" "House.pairs" mT ["self"] m8
 PK:mg "is_whole" =some (.ref uB)
 TD:mg "is_name" =some (.ref v6)
 KQ:mg "need_name" =some (.ref rA)
 v4:mg "need_whole" =some (.ref kE)
 JZ:mg "need_turns" =some (.ref pG)
 AF:mg "need_each_once" =some (.ref jG)
 xK:mg "rooms_spoken_of" =some (.ref iA)
 wA:mg "need_rooms" =some (.ref kG)
 EA:mg "added_people" =some (.ref lQ)
 JT:mg "need_space" =some (.ref pO)
 PH:mg "added_up" =some (.ref uK)
 xP:mg "rows_that_count" =some (.ref hV)
 TC:mg "leaving" =some (.ref vT)
 WS:mg "coming" =some (.ref z6)
 aAm:mg "there" =some (.ref D9)
 D5:mg "most_through" =some (.ref lO)
 F3:mg "door_faults" =some (.ref nB)
 EE:mg "leave_faults" =some (.ref lK)
 F1:mg "full_faults" =some (.ref nH)
 WU:mg "faults" =some (.ref z8)
 F2:mg "need_lawful" =some (.ref mV)
 PM:mg "place_of" =some (.ref uC)
 EB:mg "changed_door" =some (.ref lP)
 FZ:mg "doors_after" =some (.ref mY)
 aCu:mg "anew" =some (.ref J0)
 D6:mg "_law_cell_at" =some (.ref lL)
 JS:mg "_law_drawn" =some (.ref pK)
 zX:mg "_law_happening" =some (.ref jE)
 F4:mg "_law_number" =some (.ref mU)
 BW:mg "_law_by_doors" =some (.ref kF)
 BU:mg "_law_by_house" =some (.ref kI)
 KP:mg "_law_word" =some (.ref q0)
 KO:mg "_law_told" =some (.ref rD)
 aDz:mg "law" =some (.ref PR)
 aDi:∃ds,Vals [.non] ds/\Binds K CI ["house","plan","turn","happenings"] ds
 mH:∃ds,Vals [.int 1] ds/\Binds K dZ ["self","name","start","end","wide"] ds
 vV:∃ds,Vals [.non,.int 1] ds/\Binds K dZ ["self","name","start","end","wide"] ds
 PU:∃ds,Vals [.int 0] ds/\Binds K fB ["self","rooms","doors","people","last","first"] ds
 dN:Addr
 B0:mg "Door" =some (.ref dN)
 sJ:Addr
 aCs:mg "Shut" =some (.ref sJ)
 oI:Addr
 aAp:mg "Wider" =some (.ref oI)
 aI:Addr
 aAn:mg "House" =some (.ref aI)
 dH:Addr
 PD:mg "OutError" =some (.ref dH)
 bB:Addr
 JY:mg "NoDoor" =some (.ref bB)
 bF:Addr
 vU:mg "NoHouse" =some (.ref bF)
 bQ:Addr
 JV:mg "NoPlan" =some (.ref bQ)
 bO:Addr
 uD:mg "NoTurn" =some (.ref bO)
 dO:Addr
 WT:mg "NoText" =some (.ref dO)
 bP:Addr
 L9:mg "Twice" =some (.ref bP)
 bH:Addr
 JR:mg "NoRoom" =some (.ref bH)
 aZ:Addr
 FC:mg "Unknown" =some (.ref aZ)
 lN:DCls K dN
 EF:Mk K dN fQ
 J2:Meth K dN "lets" rB
 BS:Meth K dN "is_exit" eO
 MA:DCls K sJ
 aAo:Mk K sJ kJ
 BZ:Meth K sJ "is_exit" eO
 JU:DCls K oI
 WZ:Mk K oI jJ
 AL:Meth K oI "is_exit" eO
 bN:DCls K aI
 WY:Mk K aI jI
 EG:Meth K aI "rooms" nF
 EH:Meth K aI "doors" nM
 vX:Meth K aI "need_room" hJ
 D7:Meth K aI "holds" nQ
 EI:Meth K aI "found" mX
 F0:Meth K aI "door" pU
 FY:Meth K aI "lets" pT
 EC:Meth K aI "total" nP
 D8:Meth K aI "pairs" m8
 jH:W.specialIn K (.ref dN) "__getattribute__" =some (some (.builtin "type.__getattribute__"))/\W.readsIn K dN (.type "type")=true/\W.findCls K (.ref dN) (.type "type") "__init__" =some (.val (.ref fQ))
 zN:IL K bO
 TB:ExcK K bO
 FD:IL K bF
 PN:ExcK K bF
 WV:IL K bB
 TF:ExcK K bB
 WQ:IL K bQ
 TK:ExcK K bQ
 WW:tP K bP jD=true
 AH:oZ K bP
 JW:NoAttr K bP "name"
 TH:tP K bH g9=true
 v9:oZ K bH
 FE:NoAttr K bH "name"
 PP:tP K aZ gG=true
 uE:oZ K aZ
 CH:NoAttr K aZ "name"
 v8:W.exmOne K (.ref bQ) (.ref dH)=some true
 v3:W.exmOne K (.ref bO) (.ref dH)=some true
 uR:W.exmOne K (.ref aZ) (.ref dH)=some true
 vY:W.exmOne K (.ref bB) (.ref dH)=some true
 xF:W.exmOne K (.ref bP) (.ref dH)=some true
 v5:W.exmOne K (.ref bH) (.ref dH)=some true
 uT:W.exmOne K (.ref bF) (.ref dH)=some true
 AI:W.kitOne K (.ref bQ) (.ref bQ)=some true
 z4:W.kitOne K (.ref bQ) (.ref bO)=some false
 xM:W.kitOne K (.ref bQ) (.ref aZ)=some false
 zP:W.kitOne K (.ref bQ) (.ref bB)=some false
 CA:W.kitOne K (.ref bQ) (.ref bP)=some false
 zS:W.kitOne K (.ref bQ) (.ref bH)=some false
 xU:W.kitOne K (.ref bQ) (.ref bF)=some false
 AC:W.kitOne K (.ref bQ) (.ref dO)=some false
 uJ:W.kitOne K (.ref bQ) (.type "ValueError")=some true
 zW:W.kitOne K (.ref bO) (.ref bQ)=some false
 AD:W.kitOne K (.ref bO) (.ref bO)=some true
 xC:W.kitOne K (.ref bO) (.ref aZ)=some false
 zM:W.kitOne K (.ref bO) (.ref bB)=some false
 BV:W.kitOne K (.ref bO) (.ref bP)=some false
 AJ:W.kitOne K (.ref bO) (.ref bH)=some false
 xT:W.kitOne K (.ref bO) (.ref bF)=some false
 zZ:W.kitOne K (.ref bO) (.ref dO)=some false
 uI:W.kitOne K (.ref bO) (.type "ValueError")=some true
 xD:W.kitOne K (.ref aZ) (.ref bQ)=some false
 xW:W.kitOne K (.ref aZ) (.ref bO)=some false
 v7:W.kitOne K (.ref aZ) (.ref aZ)=some true
 xR:W.kitOne K (.ref aZ) (.ref bB)=some false
 zO:W.kitOne K (.ref aZ) (.ref bP)=some false
 xE:W.kitOne K (.ref aZ) (.ref bH)=some false
 wB:W.kitOne K (.ref aZ) (.ref bF)=some false
 xS:W.kitOne K (.ref aZ) (.ref dO)=some false
 sI:W.kitOne K (.ref aZ) (.type "ValueError")=some true
 AG:W.kitOne K (.ref bB) (.ref bQ)=some false
 AK:W.kitOne K (.ref bB) (.ref bO)=some false
 xH:W.kitOne K (.ref bB) (.ref aZ)=some false
 zQ:W.kitOne K (.ref bB) (.ref bB)=some true
 BT:W.kitOne K (.ref bB) (.ref bP)=some false
 zU:W.kitOne K (.ref bB) (.ref bH)=some false
 xJ:W.kitOne K (.ref bB) (.ref bF)=some false
 z7:W.kitOne K (.ref bB) (.ref dO)=some false
 uF:W.kitOne K (.ref bB) (.type "ValueError")=some true
 BY:W.kitOne K (.ref bP) (.ref bQ)=some false
 BR:W.kitOne K (.ref bP) (.ref bO)=some false
 zV:W.kitOne K (.ref bP) (.ref aZ)=some false
 BX:W.kitOne K (.ref bP) (.ref bB)=some false
 ED:W.kitOne K (.ref bP) (.ref bP)=some true
 CF:W.kitOne K (.ref bP) (.ref bH)=some false
 AE:W.kitOne K (.ref bP) (.ref bF)=some false
 CD:W.kitOne K (.ref bP) (.ref dO)=some false
 uS:W.kitOne K (.ref bP) (.type "ValueError")=some true
 zR:W.kitOne K (.ref bH) (.ref bQ)=some false
 AA:W.kitOne K (.ref bH) (.ref bO)=some false
 xG:W.kitOne K (.ref bH) (.ref aZ)=some false
 zY:W.kitOne K (.ref bH) (.ref bB)=some false
 CB:W.kitOne K (.ref bH) (.ref bP)=some false
 AB:W.kitOne K (.ref bH) (.ref bH)=some true
 xN:W.kitOne K (.ref bH) (.ref bF)=some false
 z9:W.kitOne K (.ref bH) (.ref dO)=some false
 uH:W.kitOne K (.ref bH) (.type "ValueError")=some true
 xV:W.kitOne K (.ref bF) (.ref bQ)=some false
 xI:W.kitOne K (.ref bF) (.ref bO)=some false
 vZ:W.kitOne K (.ref bF) (.ref aZ)=some false
 xO:W.kitOne K (.ref bF) (.ref bB)=some false
 AM:W.kitOne K (.ref bF) (.ref bP)=some false
 xQ:W.kitOne K (.ref bF) (.ref bH)=some false
 vW:W.kitOne K (.ref bF) (.ref bF)=some true
 xL:W.kitOne K (.ref bF) (.ref dO)=some false
 sL:W.kitOne K (.ref bF) (.type "ValueError")=some true
 J3:mg "ValueError" =none
 X2:mg "any" =none
 WX:mg "sorted" =none
 JX:mg "list" =none
 D4:mg "range" =none
 cA:mg "isinstance" =none
 X3:mg "int" =none
 aDg:mg "str" =none
 X0:mg "all" =none
 aCt:mg "dict" =none
 X1:mg "sum" =none
 nZ:mg "len" =none
 aDf:mg "max" =none
 SZ:mg "bool" =none
 lM:∃t:Tok,mg "LONGEST_NAME" =some (.int 8 t)
theorem gl_ {G:Prop}(h:∀G':Prop,G'=G->G'):G:=h G rfl
set_option hygiene false
local macro_rules| `(tactic| walk_at"g1")=> `(tactic| (refine gl_ ?_;intro G_ hG_))
local macro_rules| `(tactic| walk_at"g2")=> `(tactic| subst hG_)
local macro_rules| `(tactic| walk_at"cx")=> `(tactic| try dsimp only[cxK,cxP,cxW,cxM,cxB])
set_option hygiene true
local macro_rules| `(tactic| walk_at"hp")=> `(tactic| first|assumption|(refine' Same.at ?s ?h;(case s=>assumption);(case h=>walk_at"hp"))|(refine' SqL.of ?h;(case h=>walk_at"hp"))|(refine' SqT.of ?h;(case h=>walk_at"hp"))|(refine' Same.seq ?s ?h;(case s=>assumption);(case h=>walk_at"hp"))|(refine' Same.sqT ?s ?h;(case s=>assumption);(case h=>walk_at"hp")))
local macro_rules| `(tactic| walk_at"sm")=> `(tactic| first|assumption|exact Same.refl _|(refine' Same.snoc ?s ?h;(case s=>assumption);(case h=>walk_at"sm")))
local macro_rules| `(tactic| walk_at"sb")=> `(tactic| first|assumption|exact SameBut.refl|(refine' SameBut.snoc ?s ?h;(case s=>assumption);(case h=>walk_at"sb"))|(refine' SameBut.snocS ?s ?h;(case s=>assumption);(case h=>walk_at"sb")))
local macro_rules| `(tactic| walk_at"lk")=> `(tactic| first|assumption|(with_reducible exact RW)|(with_reducible exact ZK)|(refine' aC6 ?d ?h;(case d=>decide +kernel);(case h=>walk_at"lk"))|exact RW)
local macro_rules| `(tactic| walk_at"sz")=> `(tactic| first|with_reducible assumption|lia|omega|(simp only[qX,DF,VU,WO,T0,UW,V1,VE,U6,WI,UH,U5,NU,MN,MO,N9,NE,NN,MM,NI,O6,ME,M4,NA,NM,OS,OF,NJ,O1,OI,OC,OT,MQ,MG,N3,OD,O8,O3,O5,N7,MD,N2,NF,sizeLine_eq,List.length_cons,List.length_nil,List.length_append,List.length_map];done)|(simp only[qX,DF,VU,WO,T0,UW,V1,VE,U6,WI,UH,U5,NU,MN,MO,N9,NE,NN,MM,NI,O6,ME,M4,NA,NM,OS,OF,NJ,O1,OI,OC,OT,MQ,MG,N3,OD,O8,O3,O5,N7,MD,N2,NF,sizeLine_eq,List.length_cons,List.length_nil,List.length_append,List.length_map];omega)|(simp only[qX,DF,VU,WO,T0,UW,V1,VE,U6,WI,UH,U5,NU,MN,MO,N9,NE,NN,MM,NI,O6,ME,M4,NA,NM,OS,OF,NJ,O1,OI,OC,OT,MQ,MG,N3,OD,O8,O3,O5,N7,MD,N2,NF,sizeLine_eq,List.length_cons,List.length_nil,List.length_append,List.length_map]at *;omega))
local macro_rules| `(tactic| walk_at"sd")=> `(tactic| first|with_reducible assumption|lia|omega|decide)
local macro_rules| `(tactic| walk_at"dc")=> `(tactic| first|((with_reducible refine ICls.cl (DCls.ic ?_));assumption)|((with_reducible refine DCls.ic ?_);assumption)|((with_reducible refine DCls.n_name ?_);assumption)|((with_reducible refine DCls.n_start ?_);assumption)|((with_reducible refine DCls.n_end ?_);assumption)|((with_reducible refine DCls.n_wide ?_);assumption)|((with_reducible refine DCls.n_inner ?_);assumption)|((with_reducible refine DCls.n_turn ?_);assumption)|((with_reducible refine DCls.n_more ?_);assumption)|((with_reducible refine DCls.n_first ?_);assumption)|((with_reducible refine DCls.n_last ?_);assumption)|((with_reducible refine DCls.n_sizes ?_);assumption)|((with_reducible refine DCls.n_people ?_);assumption)|((with_reducible refine DCls.n_named_doors ?_);assumption))
local macro_rules| `(tactic| walk_at"rd1")=> `(tactic| first|(with_reducible first|refine aAY ?_|refine aCe ?_|refine aDx ?_|refine aCN ?_|refine aC5 ?_|refine aCM ?_|refine aCU ?_|refine aCJ ?_|refine aCT ?_|refine aDd ?_|refine aC3 ?_|refine aC0 ?_|refine aC8 ?_|refine aCx ?_|refine aBt ?_|refine aAT ?_|refine aCg ?_|refine aAl ?_|refine aAK ?_|refine aCS ?_|refine aCX ?_|refine ZS ?_|refine aCR ?_|refine aBd ?_|refine Z9 ?_|refine aCK ?_|refine aAV ?_|refine aDa ?_|refine JA ?_|refine IX ?_|refine Y7 ?_|refine ZO ?_|refine rd_s0 ?_|refine aCZ ?_|refine aCD ?_|refine aCP ?_|refine aDb ?_|refine aCY ?_|refine aCw ?_|refine aCF ?_|refine aDc ?_|refine aDe ?_|refine aAU ?_|refine aBl ?_|refine aA3 ?_|refine aAW ?_|refine YU ?_|refine YJ ?_|refine rd_retN ?_|refine aBK ?_|refine aCn ?_|refine aCO ?_|refine ZX ?_|refine rd_orV ?_|refine aAf ?_|refine aAZ ?_|refine VY ?_|refine aCy ?_|refine aDr ?_|refine aBa ?_|refine rd_eqB ?_|refine aB5 ?_|refine rd_eqSN ?_|refine rd_eqNS ?_|refine rd_eqNN ?_|refine aCb ?_|refine rd_neB ?_|refine aBS ?_|refine rd_neNN ?_|refine YW ?_|refine rd_isNS ?_|refine rd_isNI ?_|refine ZG ?_|refine aAc ?_|refine aAi ?_|refine rd_ntNI ?_|refine rd_ntNR ?_|refine Z0 ?_|refine YD ?_|refine aBf ?_|refine aAv ?_|refine ZI ?_|refine YV ?_|refine Y6 ?_|refine aCL ?_|refine aC4 ?_|refine rd_bm0 ?_|refine rd_bmS ?_|refine rd_bm0I ?_|refine WC ?_|refine WM ?_|refine WF ?_|refine V2 ?_|refine rd_isiSS ?_|refine rd_isiNS ?_|refine ZP ?_|refine rd_min2 ?_|refine rd_intB ?_|refine rd_intI ?_|refine R4 ?_|refine ZH ?_|refine aCa ?_|refine rd_gsub ?_|refine YZ ?_|refine UF ?_|refine aAN ?_|refine VA ?_|refine Z1 ?_|refine UO ?_|refine WB ?_|refine rd_iStr ?_|refine rd_iStrV ?_|refine rd_break ?_|refine rd_cont ?_|refine rd_aug ?_)|((with_reducible refine' aBW ?s ?_);(case s=>decide))|((with_reducible refine' YA ?s ?_);(case s=>walk_at"sd");intro h0' h1')|((with_reducible refine' rd_repL ?e ?a ?b ?s ?_);(case e=>walk_at"hp");(case a=>decide);(case b=>decide);(case s=>first|(simp;done)|(simp[sizeLine_eq];done)|walk_at"sz");intro p' H' n' S' e')|((with_reducible refine' aA5 ?s ?r ?_);(case s=>walk_at"sd");(case r=>walk_at"sd"))|((with_reducible refine' Y8 ?s ?r ?_);(case s=>walk_at"sd");(case r=>walk_at"sd"))|((with_reducible refine' aAh ?s ?r ?_);(case s=>walk_at"sd");(case r=>walk_at"sd"))|((with_reducible refine' ZR ?s ?_);(case s=>walk_at"sz");intro p' H' n' S' e')|((with_reducible refine' Z5 ?s ?_);(case s=>walk_at"sz");intro p' H' n' S' e')|((with_reducible refine aAj ?_);intro p' H' n' S' e')|((with_reducible refine' YY ?e ?c ?n ?l ?_);(case e=>walk_at"hp");(case c=>walk_at"dc");(case n=>walk_at"dc");(case l=>walk_at"lk"))|((with_reducible refine' V4 ?e ?c ?n ?l ?_);(case e=>walk_at"hp");(case c=>walk_at"dc");(case n=>walk_at"dc");(case l=>kernel_rfl);intro H' B' e')|((with_reducible refine' aB1 ?e ?l ?F ?_);(case e=>walk_at"hp");(case l=>walk_at"lk");(case F=>assumption))|((with_reducible refine' rd_isiC ?e ?i ?k ?_);(case e=>walk_at"hp");(case i=>walk_at"dc");(case k=>assumption))|((with_reducible refine' aAC ?e ?l ?_);(case e=>walk_at"hp");(case l=>rfl))|((with_reducible refine' rd_ix2i ?e ?s ?r ?_);(case e=>walk_at"hp");(case s=>walk_at"sd");(case r=>walk_at"sd");intro v' hv')|((with_reducible refine' rd_ix3i ?e ?s ?r ?_);(case e=>walk_at"hp");(case s=>walk_at"sd");(case r=>walk_at"sd");intro v' hv')|((with_reducible refine' rd_setLm ?e ?l ?_);(case e=>walk_at"hp");(case l=>rfl);intro H' B' e')|((with_reducible refine' aAe ?e ?_);(case e=>walk_at"hp"))|((with_reducible refine' rd_lenS ?e ?_);(case e=>walk_at"sz"))|((with_reducible refine' rd_addS ?e ?_);(case e=>walk_at"sz"))|((with_reducible refine' rd_slS ?e ?_);(case e=>walk_at"sz");intro hl')|((with_reducible refine' aAH ?e ?_);(case e=>walk_at"hp");intro p' H' n' S' e')|((with_reducible refine' QV ?e ?_);(case e=>walk_at"hp");intro p' H' n' S' e')|((with_reducible refine' rF ?e ?f ?s ?_);(case e=>walk_at"hp");(case f=>walk_at"hp");(case s=>walk_at"sz");intro p' H' n' S' e')|((with_reducible refine' RF ?e ?_);(case e=>walk_at"hp");intro p' H' n' S' e')|((with_reducible refine' aBL ?e ?_);(case e=>walk_at"hp"))|((with_reducible refine' E4 ?e ?_);(case e=>walk_at"hp"))|((with_reducible refine' EO ?s ?r ?_);(case s=>walk_at"sd");(case r=>walk_at"sd"))|((with_reducible refine' Q5 ?s ?r ?t ?u ?_);(case s=>walk_at"sd");(case r=>walk_at"sd");(case t=>walk_at"sd");(case u=>walk_at"sd"))|((with_reducible refine' rd_str ?s ?r ?_);(case s=>walk_at"sd");(case r=>walk_at"sd");intro hl')|((with_reducible refine' rd_gtupL ?e ?l ?_);(case e=>walk_at"hp");(case l=>rfl))|((with_reducible refine' aAk ?e ?l ?_);(case e=>walk_at"hp");(case l=>rfl))|((with_reducible refine' aBx ?s ?_);(case s=>walk_at"sd"))|((with_reducible refine' aBU ?s ?_);(case s=>walk_at"sd"))|((with_reducible refine' YO ?s ?_);(case s=>walk_at"sd"))|((with_reducible refine' Z8 ?s ?_);(case s=>walk_at"sd")))
local macro_rules| `(tactic| walk_at"go")=> `(tactic| repeat walk_at"rd1")
local macro_rules| `(tactic| walk_at"gs")=> `(tactic| repeat ((fail_if_success (with_reducible refine VZ ?_));walk_at"rd1"))
local macro_rules| `(tactic| walk_at"nn")=> `(tactic| repeat first|exact nn_nil|refine nn_app ?_ ?_|refine nn_cons (by omega) ?_|exact nn_map (fun n=>by omega))
section
variable {P:Program}{w:World}{K:W.Frag}{mg:Str->Option Value}{base:Heap}
def SY:V->Bool
 | .int _=>true
 | _=>false
def zD (K:W.Frag):Sp:=fun vs H Q _=>∃x n,vs=[x]/\BTy K H x n/\Q (.bl (SY x)) H
theorem V8 {H:Hp}{Q:VK}{E:XK}{i:Int} (h:Q (.bl true) H):zD K [.int i] H Q E:=⟨_,_,rfl,.int i,h⟩
theorem KN (m:M K mg):bD P w K mg base CX0 1 m.uB m.oB.d ["thing"] (zD K):=by
 refine m.oB.F.ok sc_is_whole (fun vs H Q E h=> ?_) (fun cdv A outer s H vs Q E hr h=> ?_)
 ·walk_at"g1";obtain⟨x,n,rfl,b,k⟩:=h;walk_at"g2";rfl
 ·walk_at"g1";obtain⟨x,n,rfl,b,k⟩:=h;walk_at"g2";have nd:=sc_is_whole.nd;walk_at"hu";refine⟨_,(aD (aW (BQ (bM oK rfl m.cA bX (aA (pv 0) (aA (wC rfl m.X3 P6) aB))) (IZ (PX (bM oK rfl m.cA bX (aA (pv 0) (aA (wC rfl m.SZ LQ) aB)))))))),?_⟩;refine aM (σ:=[some (x)]) rfl ?_;walk_at"cx";refine⟨_,rfl,_,_,_,_,_,rfl,b.ty,rfl,GD b "int" (.inl rfl),_,rfl,?_⟩;refine DK (fun h1=>⟨_,rfl,_,_,_,_,_,rfl,b.ty,rfl,GD b "bool" (.inr (.inl rfl)),_,rfl,?_⟩) (fun h1=> ?_)
  ·cases b<;>first|exact k|exact absurd h1 (by decide)
  ·cases b<;>first|exact k|exact absurd (by decide) h1
theorem xY (m:M K mg):Fc P w K mg base "is_whole" 1 ["thing"] (zD K):=⟨_,_,m.PK,m.oB.F.kp,m.oB.b,KN m⟩
def nmB:V->Bool
 | .str z=>cD z
 | _=>false
def D1 (K:W.Frag):Sp:=fun vs H Q _=>∃x n,vs=[x]/\BTy K H x n/\(∀z,x= .str z->z.length<=1000)/\∀H',Same H H'->Q (.bl (nmB x)) H'
theorem YM {H:Hp}{Q:VK}{E:XK}{z:Str} (hz:cD z=true) (h:∀H',Same H H'->Q (.bl true) H'):D1 K [.str z] H Q E :=
 ⟨_,_,rfl,.str z,fun y e=>by cases e;exact Nat.le_trans (R9 hz) (by decide),fun H' s=>by rw[show nmB (.str z)=true from hz];exact h H' s⟩
theorem le1 (a c:Nat):(!decide ([c]<[a]))=decide (a<=c):=by
 have:([c]<[a])↔c<a:=by
  constructor
  ·intro h;cases h with
   | rel h=>exact h
   | cons h=>cases h
  ·exact fun h=> .rel h
 by_cases h:c<a
 ·rw[decide_eq_true (this.mpr h),decide_eq_false (by lia)];rfl
 ·rw[decide_eq_false (fun z=>h (this.mp z)),decide_eq_true (by lia)];rfl
theorem aC2:("a" :Str).cps.toList=[97]:=by decide +kernel
theorem aC9:("z" :Str).cps.toList=[122]:=by decide +kernel
theorem E8 {α:Type}(p:α->Bool)(d:α):∀l:List α,((List.range l.length).map fun i=>p (l.getD i d)).all id=l.all p
 | []=>rfl
 | a::l=>by
  rw[List.length_cons,List.range_succ_eq_map,List.map_cons,List.all_cons,List.map_map,List.all_cons,←E8 p d l];rfl
theorem tE {H:Hp}{p:Addr}{o:HO} (h:H p=none):Same H (upd H p o):=fun b u e=>by rw[aK (aN e h)];exact e
theorem MK (m:M K mg):bD P w K mg base CX0 1 m.v6 m.qP.d ["thing"] (D1 K):=by
 refine m.qP.F.ok sc_is_name (fun vs H Q E h=> ?_) (fun cdv A outer s H vs Q E hr h=> ?_)
 ·walk_at"g1";obtain⟨x,n,rfl,b,hz,k⟩:=h;walk_at"g2";rfl
 ·walk_at"g1";obtain⟨x,n,rfl,b,hz,k⟩:=h;walk_at"g2";have nd:=sc_is_name.nd;walk_at"hu";obtain⟨tok_LONGEST_NAME,lM⟩:=m.lM;refine⟨_,(aC (bV (mD (fV (bM oK rfl m.cA bX (aA (pv 0) (aA (wC rfl m.aDg aB6) aB))))) (aD (aW F5)) bJ)
   (aD (aW (BQ (JH MB MB aE (bM SM rfl m.nZ j2 (aA (pv 0) aB)) (X8 rfl lM)) (IZ (bM (IC rfl) rfl m.X0 RT (aA (cI (N:=["sign"]) (nl:=1) (ci:=[]) rfl (blk (s.heap.objs.size+1) rfl rfl rfl (by kernel_rfl)) (aAw (pv 0)) (fun _ _ _ _=>(aL (i:=0) (show (["sign"]:List Str).Nodup by decide +kernel) rfl (by walk_at"oi"))) (fun _ _ _ _=>dF) (fun _ _ _ _=>(JH QS QS aJ (pv 0) aJ))) aB))))))),?_⟩
  refine aM (σ:=[some (x)]) rfl ?_;walk_at"cx";refine⟨_,rfl,_,_,_,_,_,rfl,b.ty,rfl,GD b "str" (.inr (.inr rfl)),_,rfl,?_⟩;refine DK (fun h1=> ?_) (fun h1=> ?_)
  ·show Q (.bl false) H;cases b<;>first|exact k H (Same.refl H)|exact absurd h1 (by decide)
  ·have hs:∃z,x= .str z:=by
    cases b<;>first|exact⟨_,rfl⟩|exact absurd (by decide) h1
   obtain⟨z,rfl⟩:=hs;have hl:=hz z rfl;have hl':z.length<=sizeLine:=Nat.le_of_lt (vC hl);refine⟨_,rfl,z,rfl,hl',_,_,rfl,rfl,_,rfl,?_⟩;refine DK (fun h2=>⟨_,_,rfl,rfl,_,rfl,?_⟩) (fun h2=>⟨_,rfl,?_⟩)
   ·refine DK (fun h3=> ?_) (fun h3=> ?_)
    ·refine⟨_,rfl,z,rfl,?_⟩;refine Z6 z.cps.size (fun i=> .bl (sgB (z.cps.toList.getD i 0))) hl' (fun H'=>H'=H) rfl (fun _ _=>rfl) (fun i _ hi _=>hi) ?_ ?_ ?_ ?_ ?_
     ·rintro i _ x H' hi rfl hq_;walk_at"g1";obtain⟨rfl,c,hc,rfl⟩:=hq_;walk_at"g2";refine⟨⟨rfl,fun j v hv=> ?_⟩,rfl,?_⟩
      ·match j,hv with
       | 0,hv=>cases hv
       | j+1,hv=>cases hv
      ·have hc':z.cps.toList.getD i 0=c:=by
        rw[List.getD_eq_getElem?_getD,Array.getElem?_toList,hc];rfl
       refine⟨_,rfl,_,_,rfl,rfl,_,rfl,?_⟩;rw[aC2,hc'];refine DK (fun h4=>⟨_,_,rfl,rfl,?_,rfl⟩) (fun h4=>⟨?_,rfl⟩)
       ·have h4':97<=c:=by rw[show (⟨#[c]⟩:Str).cps.toList=[c] from rfl,le1]at h4;exact of_decide_eq_true h4
        rw[aC9,show (⟨#[c]⟩:Str).cps.toList=[c] from rfl,le1];unfold sgB;rw[decide_eq_true h4',Bool.true_and]
       ·have h4':¬97<=c:=by rw[show (⟨#[c]⟩:Str).cps.toList=[c] from rfl,le1]at h4;exact fun z=>h4 (decide_eq_true z)
        unfold sgB;rw[decide_eq_false h4',Bool.false_and]
     ·exact fun _ _ _ _ f q=>f _ _ q
     ·rintro σ H Q Q' f hq_;walk_at"g1";obtain⟨v,e,i,j,e1,e2,k,e3,q⟩:=hq_;walk_at"g2";refine⟨v,e,i,j,e1,e2,k,e3,?_⟩;revert q
      split
      ·rintro hq_;walk_at"g1";obtain⟨i,j,e1,e2,q⟩:=hq_;walk_at"g2";exact⟨i,j,e1,e2,f _ _ q⟩
      ·exact fun q=>f _ _ q
     ·exact fun _ _ _ _ _ f q=>f _ _ q
     ·rintro _ rfl p hp;refine⟨p,(List.range z.cps.size).map (fun i=>sgB (z.cps.toList.getD i 0)),rfl,SqL.of ?_,?_⟩
      ·rw[aY,List.map_map];rfl
      ·have e:=E8 sgB 0 z.cps.toList;rw[Array.length_toList]at e;rw[e];have e2:nmB (.str z)=z.cps.toList.all sgB:=by
        show cD z=_;unfold cD;rw[show decide (1<=(z.length:Int))=true from h2,show decide ((z.length:Int)<=8)=true from h3];rfl
       rw[←e2];exact k _ (tE hp)
    ·have e2:nmB (.str z)=false:=by
      show cD z=_;unfold cD;rw[show decide ((z.length:Int)<=8)=false from by simpa using h3];simp
     have:=k H (Same.refl H);rw[e2]at this;exact this
   ·have e2:nmB (.str z)=false:=by
     show cD z=_;unfold cD;rw[show decide (1<=(z.length:Int))=false from by simpa using h2];simp
    have:=k H (Same.refl H);rw[e2]at this;exact this
theorem ML (m:M K mg):Fc P w K mg base "is_name" 1 ["thing"] (D1 K):=⟨_,_,m.TD,m.qP.F.kp,m.qP.b,MK m⟩
local macro_rules| `(tactic| walk_at"rd1")=> `(tactic| first|(with_reducible refine V8 ?_)|((with_reducible refine' YM ?s ?_);(case s=>assumption);intro H' S'))
inductive j3 (K:W.Frag)(vs:List V)(H:Hp)(Q:VK)(E:XK):Prop
 | mk (part z:Str) (_:vs=[.str part,.str z]) (_:cD z=true) (_:∀H',Same H H'->Q .non H'):j3 K vs H Q E
theorem KD {H:Hp}{Q:VK}{E:XK}{part z:Str} (hz:cD z=true) (h:∀H',Same H H'->Q .non H'):j3 K [.str part,.str z] H Q E:=⟨_,_,rfl,hz,h⟩
theorem JO (m:M K mg):bD P w K mg base CX0 2 m.rA m.lY.d ["part","thing"] (j3 K):=by
 refine m.lY.F.ok sc_need_name (fun vs H Q E h=> ?_) (fun cdv A outer s H vs Q E hr h=> ?_)
 ·walk_at"g1";obtain⟨part,z,rfl,hz,k⟩:=h;walk_at"g2";rfl
 ·walk_at"g1";obtain⟨part,z,rfl,hz,k⟩:=h;walk_at"g2";have nd:=sc_need_name.nd;walk_at"hu";have F_is_name:= @ML P w K mg base m;refine⟨_,(aD (bV (mD (fV (b9 F_is_name hr (aA (pv 1) aB)))) (aD tU) bJ)),?_⟩;refine aM (σ:=[some (.str part),some (.str z)]) rfl ?_;walk_at"cx";walk_at"go";exact k _ (by walk_at"sm")
theorem IF (m:M K mg):Fc P w K mg base "need_name" 2 ["part","thing"] (j3 K):=⟨_,_,m.KQ,m.lY.F.kp,m.lY.b,JO m⟩
inductive iL (K:W.Frag)(vs:List V)(H:Hp)(Q:VK)(E:XK):Prop
 | mk (part:Str) (i l:Int) (_:vs=[.str part,.int i,.int l]) (_:l<=i) (_:Q .non H):iL K vs H Q E
theorem GT {H:Hp}{Q:VK}{E:XK}{part:Str}{i l:Int} (hz:l<=i) (h:Q .non H):iL K [.str part,.int i,.int l] H Q E:=⟨_,_,_,rfl,hz,h⟩
theorem FN (m:M K mg):bD P w K mg base CX0 2 m.kE m.c9.d ["part","thing","least"] (iL K):=by
 refine m.c9.F.ok sc_need_whole (fun vs H Q E h=> ?_) (fun cdv A outer s H vs Q E hr h=> ?_)
 ·walk_at"g1";obtain⟨part,i,l,rfl,hz,k⟩:=h;walk_at"g2";rfl
 ·walk_at"g1";obtain⟨part,i,l,rfl,hz,k⟩:=h;walk_at"g2";have nd:=sc_need_whole.nd;walk_at"hu";have F_is_whole:= @xY P w K mg base m;refine⟨_,(aD (bV (PW.pt (tT (mD (fV (b9 F_is_whole hr (aA (pv 1) aB)))) (oP (aV iK (pv 1) (pv 2) (bL _))))) (aD tU) bJ)),?_⟩;refine aM (σ:=[some (.str part),some (.int i),some (.int l)]) rfl ?_;walk_at"cx";walk_at"go";exact k
theorem FW (m:M K mg):Fc P w K mg base "need_whole" 2 ["part","thing","least"] (iL K):=⟨_,_,m.v4,m.c9.F.kp,m.c9.b,FN m⟩
local macro_rules| `(tactic| walk_at"rd1")=> `(tactic| first|((with_reducible refine' KD ?s ?_);(case s=>assumption);intro H' S')|((with_reducible refine' GT ?s ?_);(case s=>walk_at"sd")))
abbrev oO (n s e w:V):List (Str×V):=cM "wide" w (cM "end" e (cM "start" s (cM "name" n [])))
def sN (e:V):Prop:=e= .non∨∃z,e= .str z/\cD z=true
inductive cO (K:W.Frag)(vs:List V)(H:Hp)(Q:VK)(E:XK):Prop
 | mk (p C dx:Addr) (n s:Str) (e:V) (wd:Int) (_:vs=[.ref p,.str n,.str s,e,.int wd]) (_:DCls K C) (_:H p=some (.ins C dx [])) (_:cD n=true) (_:cD s=true) (_:sN e) (_:0<=wd) (_:∀H',SameBut p H H'->H' p=some (.ins C dx (oO (.str n) (.str s) e (.int wd)))->Q .non H'):cO K vs H Q E
theorem qY {H:Hp}{Q:VK}{E:XK}{p C dx:Addr}{n s:Str}{e:V}{wd:Int} (dc:DCls K C) (hp:H p=some (.ins C dx [])) (hn:cD n=true) (hs:cD s=true) (he:sN e) (hw:0<=wd)
  (k:∀H',SameBut p H H'->H' p=some (.ins C dx (oO (.str n) (.str s) e (.int wd)))->Q .non H'):cO K [.ref p,.str n,.str s,e,.int wd] H Q E:=⟨_,_,_,_,_,_,_,rfl,dc,hp,hn,hs,he,hw,k⟩
theorem eZ (m:M K mg):bD P w K mg base CX0 3 m.fQ m.dZ ["self","name","start","end","wide"] (cO K):=by
 refine m.qQ.ok sc_Door___init__ (fun vs H Q E h=> ?_) (fun cdv A outer s H vs Q E hr h=> ?_)
 ·walk_at"g1";obtain⟨p,C,dx,n,st,e,wd,rfl,dc,hp,hn,hs,he,hw,k⟩:=h;walk_at"g2";rfl
 ·walk_at"g1";obtain⟨p,C,dx,n,st,e,wd,rfl,dc,hp,hn,hs,he,hw,k⟩:=h;walk_at"g2";have nd:=sc_Door___init__.nd;walk_at"hu";have F_need_name:= @IF P w K mg base m;have F_need_whole:= @FW P w K mg base m;refine⟨_,(aC (cC (b9 F_need_name hr (aA aJ (aA (pv 1) aB))))
   (aC (cC (b9 F_need_name hr (aA aJ (aA (pv 2) aB))))
   (aC (bV (aV LP (pv 3) dG (bL _)) (aD (cC (b9 F_need_name hr (aA aJ (aA (pv 3) aB))))) bJ)
   (aC (cC (b9 F_need_whole hr (aA aJ (aA (pv 4) (aA aE aB)))))
   (aC (dY (pv 0) (pv 1) rfl)
   (aC (dY (pv 0) (pv 2) rfl)
   (aC (dY (pv 0) (pv 3) rfl)
   (aD (dY (pv 0) (pv 4) rfl))))))))),?_⟩
  refine aM (σ:=[some (.ref p),some (.str n),some (.str st),some (e),some (.int wd)]) rfl ?_;walk_at"cx";rcases he with rfl|⟨z,rfl,hz⟩
  ·walk_at"go";exact k _ (by walk_at"sb") (by assumption)
  ·walk_at"go";exact k _ (by walk_at"sb") (by assumption)
theorem Q3 (m:M K mg):Kc P w K mg base "Door" m.dN 3 [] (cO K):=⟨_,_,_,_,m.B0,m.EF,.nil,m.CG,eZ m⟩
theorem RS (m:M K mg):Kc P w K mg base "Door" m.dN 3 [.int 1] (cO K):=by
 obtain⟨ds,h1,h2⟩:=m.mH;exact⟨_,_,_,_,m.B0,m.EF,h1,h2,eZ m⟩
theorem RM (m:M K mg):Kc P w K mg base "Door" m.dN 3 [.non,.int 1] (cO K):=by
 obtain⟨ds,h1,h2⟩:=m.vV;exact⟨_,_,_,_,m.B0,m.EF,h1,h2,eZ m⟩
theorem iE (m:M K mg):DcD P w K mg base "Door" "__init__" 3 [.int 1] (cO K):=by
 obtain⟨ds,h1,h2⟩:=m.mH;exact⟨_,_,_,_,_,m.B0,m.jH.1,m.jH.2.1,m.jH.2.2,m.qQ.kp,h1,h2,eZ m⟩
theorem V9 {H:Hp}{Q:VK}{E:XK}{C:Addr}{vs dvs:List V}{n s:Str}{e:V}{wd:Int} (ev:vs++dvs=[.str n,.str s,e,.int wd]) (dc:DCls K C) (hn:cD n=true) (hs:cD s=true) (he:sN e) (hw:0<=wd)
  (k:∀p dx H',H p=none->Same H H'->H' p=some (.ins C dx (oO (.str n) (.str s) e (.int wd)))->Q (.ref p) H'):wK C (cO K) dvs E Q vs H :=
 WJ (fun p dx H0 Q' h k' s0=>by rw[ev];exact qY dc h hn hs he hw k') k
local macro_rules| `(tactic| walk_at"rd1")=> `(tactic| ((with_reducible refine' V9 ?v ?d ?hn ?hs ?he ?hw ?_);(case v=>rfl);(case d=>assumption);(case hn=>assumption);(case hs=>assumption);(case he=>first|assumption|exact .inl rfl|exact .inr ⟨_,rfl,by assumption⟩);(case hw=>walk_at"sd");intro p' dx' H' n' S' e'))
inductive gO (K:W.Frag)(vs:List V)(H:Hp)(Q:VK)(E:XK):Prop
 | mk (p C dx:Addr) (fs:List (Str×V)) (e:V) (_:vs=[.ref p]) (_:DCls K C) (_:H p=some (.ins C dx fs)) (_:fs.lookup ("end" :Str)=some e) (_:Q (.bl (decide (e= .non))) H):gO K vs H Q E
theorem ZU {H:Hp}{Q:VK}{E:XK}{p C dx:Addr}{fs:List (Str×V)} (hp:H p=some (.ins C dx fs)) (dc:DCls K C) (l:fs.lookup ("end" :Str)=some .non) (k:Q (.bl true) H):gO K [.ref p] H Q E:=⟨_,_,_,_,_,rfl,dc,hp,l,k⟩
theorem YX {H:Hp}{Q:VK}{E:XK}{p C dx:Addr}{fs:List (Str×V)}{z:Str} (hp:H p=some (.ins C dx fs)) (dc:DCls K C) (l:fs.lookup ("end" :Str)=some (.str z)) (k:Q (.bl false) H):gO K [.ref p] H Q E :=
 ⟨_,_,_,_,_,rfl,dc,hp,l,by rw[decide_eq_false (fun z=>by cases z)];exact k⟩
theorem jS (m:M K mg):bD P w K mg base CX0 1 m.eO m.eM.d ["self"] (gO K):=by
 refine m.eM.F.ok sc_Door_is_exit (fun vs H Q E h=> ?_) (fun cdv A outer s H vs Q E hr h=> ?_)
 ·walk_at"g1";obtain⟨p,C,dx,fs,e,rfl,dc,hp,l,k⟩:=h;walk_at"g2";rfl
 ·walk_at"g1";obtain⟨p,C,dx,fs,e,rfl,dc,hp,l,k⟩:=h;walk_at"g2";have nd:=sc_Door_is_exit.nd;walk_at"hu";refine⟨_,(aD (aW (rV IK (bK (pv 0) rfl) dG (bL _)))),?_⟩;refine aM (σ:=[some (.ref p)]) rfl ?_;walk_at"cx";walk_at"go";exact k
theorem qC (m:M K mg):Mc P w K mg base m.dN "is_exit" 1 (gO K):=⟨_,_,_,m.lN.ic.cl,m.BS,m.eM.b,jS m⟩
theorem AS (m:M K mg):Mc P w K mg base m.sJ "is_exit" 1 (gO K):=⟨_,_,_,m.MA.ic.cl,m.BZ,m.eM.b,jS m⟩
theorem zL (m:M K mg):Mc P w K mg base m.oI "is_exit" 1 (gO K):=⟨_,_,_,m.JU.ic.cl,m.AL,m.eM.b,jS m⟩
local macro_rules| `(tactic| walk_at"rd1")=> `(tactic| first|((with_reducible refine' ZU ?e ?d ?l ?_);(case e=>walk_at"hp");(case d=>assumption);(case l=>walk_at"lk"))|((with_reducible refine' YX ?e ?d ?l ?_);(case e=>walk_at"hp");(case d=>assumption);(case l=>walk_at"lk")))
inductive j9 (K:W.Frag)(vs:List V)(H:Hp)(Q:VK)(E:XK):Prop
 | mk (p C dx:Addr) (fs:List (Str×V)) (t wd:Int) (_:vs=[.ref p,.int t]) (_:DCls K C) (_:H p=some (.ins C dx fs)) (_:fs.lookup ("wide" :Str)=some (.int wd)) (_:Q (.int wd) H):j9 K vs H Q E
theorem KA {H:Hp}{Q:VK}{E:XK}{p C dx:Addr}{fs:List (Str×V)}{t wd:Int} (hp:H p=some (.ins C dx fs)) (dc:DCls K C) (l:fs.lookup ("wide" :Str)=some (.int wd)) (k:Q (.int wd) H):j9 K [.ref p,.int t] H Q E:=⟨_,_,_,_,_,_,rfl,dc,hp,l,k⟩
theorem GL (m:M K mg):bD P w K mg base CX0 1 m.rB m.qZ.d ["self","turn"] (j9 K):=by
 refine m.qZ.F.ok sc_Door_lets (fun vs H Q E h=> ?_) (fun cdv A outer s H vs Q E hr h=> ?_)
 ·walk_at"g1";obtain⟨p,C,dx,fs,t,wd,rfl,dc,hp,l,k⟩:=h;walk_at"g2";rfl
 ·walk_at"g1";obtain⟨p,C,dx,fs,t,wd,rfl,dc,hp,l,k⟩:=h;walk_at"g2";have nd:=sc_Door_lets.nd;walk_at"hu";refine⟨_,(aD (aW (bK (pv 0) rfl))),?_⟩;refine aM (σ:=[some (.ref p),some (.int t)]) rfl ?_;walk_at"cx";walk_at"go";exact k
theorem ID (m:M K mg):Mc P w K mg base m.dN "lets" 1 (j9 K):=⟨_,_,_,m.lN.ic.cl,m.J2,m.qZ.b,GL m⟩
local macro_rules| `(tactic| walk_at"rd1")=> `(tactic| ((with_reducible refine' qY ?d ?e ?hn ?hs ?he ?hw ?_);(case d=>assumption);(case e=>walk_at"hp");(case hn=>assumption);(case hs=>assumption);(case he=>assumption);(case hw=>walk_at"sd");intro H' B' e'))
abbrev aF:=Str×Str×V×(Int->Int)
def TL:HO->Prop
 | .lst _=>True
 | .dK _=>True
 | .dT _=>True
 | .tbl _=>True
 | .ins _ _ fs=>fs=[]
 | _=>False
structure aS where
 at':Hp->V->aF->Prop
 same:∀{H H' v d},at' H v d->Same H H'->at' H' v d
 but:∀{H H' v d p o},at' H v d->H p=some o->TL o->SameBut p H H'->at' H' v d
def W2 (P:Program)(w:World)(K:W.Frag)(mg:Str->Option Value)(base:Heap)(kL:Option Nat)(p C dx:Addr)(fs:List (Str×V))(fp:List (Addr×HO))(lt:Int->Int):Prop:=∀kl,kL=some kl →
 ∃sp,Mc P w K mg base C "lets" kl sp/\∀(H':Hp) (t:Int) (Q:VK),H' p=some (.ins C dx fs)->(∀x∈fp,H' x.1=some x.2)->0<=t->(∀H'',Same H' H''->Q (.int (lt t)) H'')->sp [.ref p,.int t] H' Q E0
inductive DoorAt (P:Program)(w:World)(K:W.Frag)(mg:Str->Option Value)(base:Heap)(kL:Option Nat)(H:Hp)(v:V)(d:aF):Prop
 | mk (p C dx:Addr) (fs:List (Str×V)) (fp:List (Addr×HO)) (_:v= .ref p) (_:H p=some (.ins C dx fs)) (_:DCls K C) (_:fs.lookup ("name" :Str)=some (.str d.1)) (_:fs.lookup ("start" :Str)=some (.str d.2.1)) (_:fs.lookup ("end" :Str)=some d.2.2.1) (_:fs.lookup ("is_exit" :Str)=none) (_:fs.lookup ("lets" :Str)=none) (_:Mc P w K mg base C "is_exit" 1 (gO K)) (_:∀x∈fp,H x.1=some x.2/\¬TL x.2) (_:W2 P w K mg base kL p C dx fs fp d.2.2.2):DoorAt P w K mg base kL H v d
inductive W1 (P:Program)(w:World)(K:W.Frag)(mg:Str->Option Value)(base:Heap)(kL:Option Nat)(H:Hp)(v:V)(n st:Str)(e:V)(lt:Int->Int):Prop
 | mk (p C dx:Addr) (fs:List (Str×V)) (fp:List (Addr×HO)) (_:v= .ref p) (_:H p=some (.ins C dx fs)) (_:DCls K C) (_:fs.lookup ("name" :Str)=some (.str n)) (_:fs.lookup ("start" :Str)=some (.str st)) (_:fs.lookup ("end" :Str)=some e) (_:fs.lookup ("is_exit" :Str)=none) (_:fs.lookup ("lets" :Str)=none) (_:Mc P w K mg base C "is_exit" 1 (gO K)) (_:∀x∈fp,H x.1=some x.2/\¬TL x.2) (_:W2 P w K mg base kL p C dx fs fp lt):W1 P w K mg base kL H v n st e lt
theorem DoorAt.ex {kL:Option Nat}{H:Hp}{v:V}{n st:Str}{e:V}{lt:Int->Int} (h:DoorAt P w K mg base kL H v (n,st,e,lt)):W1 P w K mg base kL H v n st e lt:=by
 walk_at"g1";obtain⟨p,C,dx,fs,fp,h1,h2,h3,h4,h5,h6,h7,h8,h9,h10,h11⟩:=h;walk_at"g2";exact⟨p,C,dx,fs,fp,h1,h2,h3,h4,h5,h6,h7,h8,h9,h10,h11⟩
def aH (P:Program)(w:World)(K:W.Frag)(mg:Str->Option Value)(base:Heap)(kL:Option Nat):aS where
 at':=DoorAt P w K mg base kL
 same:=fun⟨p,C,dx,fs,fp,e,hp,dc,l1,l2,l3,l4,l5,mc,hf,lt⟩ s=>⟨p,C,dx,fs,fp,e,s _ _ hp,dc,l1,l2,l3,l4,l5,mc,fun x hx=>⟨s _ _ (hf x hx).1,(hf x hx).2⟩,lt⟩
 but:=fun {H H' v d q o} ⟨p,C,dx,fs,fp,e,hp,dc,l1,l2,l3,l4,l5,mc,hf,lt⟩ ho so sb=>⟨p,C,dx,fs,fp,e,sb _ _ hp (fun z=>by
   rw[z,ho]at hp;cases hp;have h:fs=[]:=so;rw[h]at l1;cases l1),dc,l1,l2,l3,l4,l5,mc,fun x hx=>⟨sb _ _ (hf x hx).1 (fun z=>by
   have h:=(hf x hx).1;rw[z,ho]at h;cases h;exact(hf x hx).2 so),(hf x hx).2⟩,lt⟩
local macro_rules| `(tactic| walk_at"rd1")=> `(tactic| first|(with_reducible refine ZE ?_)|(with_reducible refine ZL ?_)|(with_reducible refine aAX ?_)|(with_reducible refine RP ?_)|(with_reducible refine PY ?_)|(with_reducible refine rd_iItemsK ?_)|(with_reducible refine rd_iItemsT ?_)|(with_reducible refine WK ?_)|((with_reducible refine VX ?_);intro p' H' n' S' e')|((with_reducible refine VR ?_);intro p' H' n' S' e'))
theorem l6 {H:Hp}{Q:VK}{l:Addr}{xs:List V}{y:V} (e:H l=some (.lst xs)) (hz:xs.length<sizeLine) (h:∀H',SameBut l H H'->H' l=some (.lst (xs++[y]))->Q .non H'):KS (.ref l) [y] H Q :=
 ⟨l,xs,y,rfl,rfl,e,hz,h _ SameBut.upd aY⟩
theorem k8 {α:Type}{ss:List α} (nd:ss.Nodup) {i:Nat}{z:α} (hz:ss[i]? =some z):z∉ss.take i:=fun h=>by
 obtain⟨hi,e⟩:=List.getElem?_eq_some_iff.mp hz;obtain⟨j,hj,ej⟩:=List.getElem_of_mem h;rw[List.length_take]at hj;rw[List.getElem_take]at ej;exact(List.pairwise_iff_getElem.mp nd) j i (by lia) hi (by lia) (ej.trans e.symm)
theorem bR {α:Type}{ss:List α}{i:Nat}{z:α} (hz:ss[i]? =some z):ss.take (i+1)=ss.take i++[z]:=by rw[List.take_succ,hz];rfl
def iI (rs:List Str)(d:aF):Prop:=d.2.1∈rs/\(d.2.2.1= .non∨∃z,d.2.2.1= .str z/\z∈rs)
def b5 (H:Hp)(v:V)(p:Str×Int):Prop:=∃q,v= .ref q/\H q=some (.tup [.str p.1,.int p.2])
theorem iD {H H':Hp}{vs:List V}{ps:List (Str×Int)} (h:Paired (b5 H) vs ps) (s:Same H H'):Paired (b5 H') vs ps:=Paired.imp' (fun v z ⟨q,e,h⟩=>⟨q,e,s _ _ h⟩) h
inductive sO (K:W.Frag)(vs:List V)(H:Hp)(Q:VK)(E:XK):Prop
 | mk (a b:Addr) (ss:List Str) (kvs:List (Key×V)) (_:vs=[.ref a,.ref b]) (_:SqL K H a (ss.map V.str)) (_:Rd H b (.dK kvs)) (_:(∀z∈ss,(bA kvs (.inr z)).isSome=true)) (_:∀H',Same H H'->Q .non H'):sO K vs H Q E
theorem aAa {H:Hp}{Q:VK}{E:XK}{a b:Addr}{ss:List Str}{kvs:List (Key×V)} (hS:SqL K H a (ss.map V.str)) (hb:Rd H b (.dK kvs)) (hk:∀z∈ss,(bA kvs (.inr z)).isSome=true) (h:∀H',Same H H'->Q .non H'):sO K [.ref a,.ref b] H Q E:=⟨_,_,_,_,rfl,hS,hb,hk,h⟩
theorem LX {H H':Hp}{a:Addr}{u:HO} (s:Same H H') (r:Rd H a u):Rd H' a u:=r.elim (fun e=> .inl (s _ _ e)) fun⟨o,e⟩=> .inr ⟨o,s _ _ e⟩
theorem FQ (m:M K mg):bD P w K mg base CX0 1 m.kG m.c8.d ["names","sizes"] (sO K):=by
 refine m.c8.F.ok sc_need_rooms (fun vs H Q E h=> ?_) (fun cdv A outer s H vs Q E hr h=> ?_)
 ·walk_at"g1";obtain⟨a,b,ss,kvs,rfl,hS,hb,hk,k⟩:=h;walk_at"g2";rfl
 ·walk_at"g1";obtain⟨a,b,ss,kvs,rfl,hS,hb,hk,k⟩:=h;walk_at"g2";have nd:=sc_need_rooms.nd;walk_at"hu";refine⟨_,(aD (cU PassesOwn.never rfl (bG (pv 0)) (aL (i:=2) nd rfl (by walk_at"oi")) (aD (bV (BI (u3 hu1 (pv 2) (pv 1)) (by with_unfolding_all rfl)) (aD tU) bJ)))),?_⟩;refine aM (σ:=[some (.ref a),some (.ref b),none]) rfl ?_;walk_at"cx";walk_at"go";let Pv1:Nat->St->Hp->Prop:=fun i σ' H'=>Same H H'/\∃x,σ'=[some (.ref a),some (.ref b),x];refine cX (ss.map V.str) Pv1 ⟨Same.refl _,_,rfl⟩ (fun i σ' H' _ q=>q.1.seq hS) ?_ ?_
  ·rintro i x _ H' hx ⟨s1,y,rfl⟩;rw[List.getElem?_map]at hx;obtain⟨z,hz,rfl⟩:=Option.map_eq_some_iff.mp hx;have hz':=hk z (List.mem_of_getElem? hz);walk_at"go";refine sT (LX s1 hb) ?_;rw[hz'];walk_at"go";exact⟨s1,_,rfl⟩
  ·rintro _ H' ⟨s1,y,rfl⟩;exact k _ s1
theorem FI (m:M K mg):Fc P w K mg base "need_rooms" 1 ["names","sizes"] (sO K):=⟨_,_,m.wA,m.c8.F.kp,m.c8.b,FQ m⟩
theorem TQ {H:Hp}{Q:VK}{i j:Int} (h:Q (.int (i+j)) H):aAu (.int i) (.int j) H Q:=by
 first|exact h|exact⟨_,_,rfl,rfl,h⟩|exact .inl ⟨_,_,rfl,rfl,h⟩
theorem JF {H H':Hp}{p c:Addr}{kvs:List (Key×V)}{xs:List V} (h:SqL K H c xs) (hp:H p=some (.dK kvs)) (sb:SameBut p H H'):SqL K H' c xs:=by
 rcases h with (h|⟨o,h⟩)|h
 ·exact .inl (.inl (sb _ _ h fun z=>by rw[z,hp]at h;cases h))
 ·exact .inl (.inr ⟨o,sb _ _ h fun z=>by rw[z,hp]at h;cases h⟩)
 ·exact .inr h
def szK (rz:List (Str×Int)):List (Key×V):=rz.map fun e=>((.inr e.1:Key),V.int e.2)
theorem D2 (rz:List (Str×Int)):(szK rz).map (·.1)=(rz.map (·.1)).map (Sum.inr:Str->Key):=by unfold szK;rw[List.map_map,List.map_map];rfl
theorem vB {rs:List Str}(nd:rs.Nodup):(rs.map (Sum.inr:Str->Key)).Nodup:=by
 rw[List.Nodup,List.pairwise_map];exact List.Pairwise.imp (fun h z=>h (Sum.inr.inj z)) nd
theorem yN {rz:List (Str×Int)}(nd:(rz.map (·.1)).Nodup):((szK rz).map (·.1)).Nodup:=by rw[D2];exact vB nd
theorem DA {rz:List (Str×Int)}(nd:(rz.map (·.1)).Nodup){e:Str×Int}(h:e∈rz):bA (szK rz) (.inr e.1)=some (.int e.2) :=
 jP (e:=((.inr e.1:Key),V.int e.2)) (yN nd) (List.mem_map.mpr ⟨e,h,rfl⟩)
theorem IS {rz:List (Str×Int)}(nd:(rz.map (·.1)).Nodup){z:Str}(h:z∈rz.map (·.1)):∃i,(z,i)∈rz/\bA (szK rz) (.inr z)=some (.int i):=by
 obtain⟨e,he,rfl⟩:=List.mem_map.mp h;exact⟨e.2,he,DA nd he⟩
theorem vO {kvs:List (Key×V)}{k:Key} (h:∀e∈kvs,e.1≠k):bA kvs k=none:=by
 induction kvs with
 | nil=>rfl
 | cons a l ih =>
  rw[cV (h a (.head _))];exact ih fun e he=>h e (List.mem_cons_of_mem _ he)
theorem EQ:∀(ps kvs:List (Key×V)),(ps.map (·.1)).Nodup->(∀e∈kvs,∀q∈ps,e.1≠q.1)->jZ kvs ps=kvs++ps
 | [],kvs,_,_=>(List.append_nil _).symm
 | (k,v)::ps,kvs,nd,h=>by
  have nd':=List.pairwise_cons.mp nd;show jZ (cH kvs k v) ps=_;rw[oS v (vO fun e he=>h e he _ (.head _)),EQ ps _ nd'.2,List.append_assoc]
  ·rfl
  ·intro e he q hq;rcases List.mem_append.mp he with he|he
   ·exact h e he q (List.mem_cons_of_mem _ hq)
   ·cases List.mem_singleton.mp he;exact nd'.1 q.1 (List.mem_map.mpr ⟨q,hq,rfl⟩)
theorem T4 {rz:List (Str×Int)}(nd:(rz.map (·.1)).Nodup):jZ [] (szK rz)=szK rz:=by
 rw[EQ _ _ (yN nd) (fun e he=>absurd he (List.not_mem_nil))];rfl
theorem MH {kvs:List (Key×V)}:∀(o:Obj) (x:HO),HO.dK kvs≠ .frz o x:=fun _ _ z=>by cases z
def u4 (rz:List (Str×Int))(ps:List (Str×Int))(kvs:List (Key×V)):Prop:=∀z∈rz.map (·.1),bA kvs (.inr z)=some (.int (bT ps z))
inductive tK (K:W.Frag)(vs:List V)(H:Hp)(Q:VK)(E:XK):Prop
 | mk (a b:Addr) (rz:List (Str×Int)) (ws:List V) (ps:List (Str×Int)) (_:vs=[.ref a,.ref b]) (_:H a=some (.dK (szK rz))) (_:SqL K H b ws) (_:Paired (b5 H) ws ps) (_:(∀p∈ps,p.1∈rz.map (·.1))) (_:(rz.map (·.1)).Nodup) (_:rz.length<=100) (_:∀p H' kvs,H p=none->Same H H'->H' p=some (.dK kvs)->kvs.map (·.1)=(szK rz).map (·.1)->u4 rz ps kvs->Q (.ref p) H'):tK K vs H Q E
theorem K6 {H:Hp}{Q:VK}{E:XK}{a b:Addr}{rz:List (Str×Int)}{ws:List V}{ps:List (Str×Int)} (ha:H a=some (.dK (szK rz))) (hb:SqL K H b ws) (hw:Paired (b5 H) ws ps) (hwr:∀p∈ps,p.1∈rz.map (·.1)) (nd:(rz.map (·.1)).Nodup) (hl:rz.length<=100) (h:∀p H' kvs,H p=none->Same H H'->H' p=some (.dK kvs)->kvs.map (·.1)=(szK rz).map (·.1)->u4 rz ps kvs->Q (.ref p) H'):tK K [.ref a,.ref b] H Q E:=⟨_,_,_,_,_,rfl,ha,hb,hw,hwr,nd,hl,h⟩
theorem VS {kvs:List (Key×V)}{k:Key}{v:V} (h:(bA kvs k).isSome=true):(cH kvs k v).map (·.1)=kvs.map (·.1):=by
 unfold cH;rw[iV,if_pos h,List.map_map]
 apply List.map_congr_left
 intro x _;show (if x.1=k then (x.1,v) else x).1=x.1
 split<;>rfl
theorem A3 (m:M K mg):bD P w K mg base CX0 1 m.lQ m.gU.d ["sizes","people"] (tK K):=by
 refine m.gU.F.ok sc_added_people (fun vs H Q E h=> ?_) (fun cdv A outer s H vs Q E hr h=> ?_)
 ·walk_at"g1";obtain⟨a,b,rz,ws,ps,rfl,ha,hb,hw,hwr,ndz,hlen,k⟩:=h;walk_at"g2";rfl
 ·walk_at"g1";obtain⟨a,b,rz,ws,ps,rfl,ha,hb,hw,hwr,ndz,hlen,k⟩:=h;walk_at"g2";have nd:=sc_added_people.nd;walk_at"hu";refine⟨_,(aC (aP (i:=2) nd rfl (by walk_at"oi") yR)
   (aC (ZW (cU PassesOwn.never rfl (yU (pv 0)) (aL (i:=3) nd rfl (by walk_at"oi")) (aD (jQ hu1 (pv 2) (pv 3) aE rfl))))
   (aC (cU PassesOwn.never rfl (bG (pv 1)) (rJ (n:=2) rfl (bU (aL (i:=3) nd rfl (by walk_at"oi")) (bU (aL (i:=4) nd rfl (by walk_at"oi")) eK))) (aD (aAd hu1 (pv 2) (pv 3) (pv 4) aA2 (fun _ _ _=>rfl))))
   (aD (aW (pv 2)))))),?_⟩
  refine aM (σ:=[some (.ref a),some (.ref b),none,none,none]) rfl ?_;walk_at"cx";walk_at"go";rename_i p H1 n1 S1 e1;have hap:a≠p:=fun z=>by rw[z,n1]at ha;cases ha
  have ha1:=S1 _ _ ha;have hl2:(szK rz).length=rz.length:=by unfold szK;rw[List.length_map]
  refine U4 ha1 MH ?_;walk_at"go";refine yM ha1 fun o H2 B2 e2=> ?_;have ep2:H2 p=some (.dK []):=B2 _ _ e1 (Ne.symm hap);have hwl:ws.length=ps.length:=Paired.length hw;let Pv1:Nat->St->Hp->Prop:=fun i σ' H'=>SameBut p H2 H'/\H' p=some (.dK ((rz.take i).map fun e=>((.inr e.1:Key),V.int 0)))/\∃x,σ'=[some (.ref a),some (.ref b),some (.ref p),x,none];refine UA (szK rz) Pv1 ⟨SameBut.refl,ep2,_,rfl⟩ (fun i σ' H' q=>q.1 _ _ e2 hap) ?_ ?_
  ·rintro i kk v _ H' hx hq_;walk_at"g1";obtain⟨sb,ek,y,rfl⟩:=hq_;walk_at"g2";unfold szK at hx;rw[List.getElem?_map]at hx;walk_at"g1";obtain⟨⟨z,sz⟩,hz,ez⟩:=Option.map_eq_some_iff.mp hx;walk_at"g2";cases ez;have hi:i<rz.length:=(List.getElem?_eq_some_iff.mp hz).1;have hnone:bA ((rz.take i).map fun e=>((.inr e.1:Key),V.int 0)) (.inr z)=none:=vO fun e he=>by
    obtain⟨d,hd,rfl⟩:=List.mem_map.mp he;intro zz;have hn:z∉(rz.map (·.1)).take i:=k8 ndz (by rw[List.getElem?_map,hz];rfl)
    apply hn
    rw[←List.map_take];exact List.mem_map.mpr ⟨d,hd,Sum.inr.inj zz⟩
   show (_:TG) (.str z) _ _ _;walk_at"go";refine yO ek (by rw[sizeLine_eq,List.length_map,List.length_take];lia) fun H9 B9 e9=> ?_;refine⟨by walk_at"sb",?_,_,rfl⟩;rw[e9,oS _ hnone,bR hz,List.map_append];rfl
  ·rintro _ H' hq_;walk_at"g1";obtain⟨sb,ek,y,rfl⟩:=hq_;walk_at"g2";rw[hl2,List.take_length]at ek;refine qO (sb _ _ e2 hap) fun H3 B3 e3=> ?_;have ep3:=B3 _ _ ek (Ne.symm hap);have sH:Same H H3:=fun x u hx=>by
    by_cases ex:x=a
    ·subst ex;rw[ha]at hx;cases hx;exact e3
    ·have hxp:x≠p:=fun z=>by rw[z,n1]at hx;cases hx
     exact B3 _ _ (sb _ _ (B2 _ _ (S1 _ _ hx) ex) hxp) ex
   have hb3:=sH.seq hb;have hw3:=iD hw sH;have hnb:∀{H':Hp}{v:V}{r:Str×Int},SameBut p H3 H'->b5 H3 v r->b5 H' v r:=fun sb ⟨q,e,hq⟩=>⟨q,e,sb _ _ hq fun z=>by rw[z,ep3]at hq;cases hq⟩
   walk_at"go";let Pv2:Nat->St->Hp->Prop:=fun i σ' H'=>SameBut p H3 H'/\(∃kvs,H' p=some (.dK kvs)/\kvs.map (·.1)=(szK rz).map (·.1)/\u4 rz (ps.take i) kvs)/\∃x y,σ'=[some (.ref a),some (.ref b),some (.ref p),x,y];refine cX ws Pv2 ⟨SameBut.refl,⟨_,ep3,?_,?_⟩,_,_,rfl⟩ (fun i σ' H' _ q=>JF hb3 ep3 q.1) ?_ ?_
   ·unfold szK;rw[List.map_map,List.map_map];rfl
   ·intro z hz;obtain⟨e,he,rfl⟩:=List.mem_map.mp hz;exact jP (e:=((.inr e.1:Key),V.int 0)) (by rw[show (rz.map fun e=>((.inr e.1:Key),V.int 0)).map (·.1)=(szK rz).map (·.1) from by unfold szK;rw[List.map_map,List.map_map];rfl];exact yN ndz) (List.mem_map.mpr ⟨e,he,rfl⟩)
   ·rintro i x _ H' hx hq_;walk_at"g1";obtain⟨sb',⟨kvs,ek',hkk,hin⟩,x1,x2,rfl⟩:=hq_;walk_at"g2";have hi:i<ws.length:=(List.getElem?_eq_some_iff.mp hx).1;obtain⟨⟨z,nn⟩,hpx⟩:∃d,ps[i]? =some d:=⟨_,List.getElem?_eq_getElem (by lia)⟩
    obtain⟨q,rfl,hq⟩:=Paired.at2 hw3 hx hpx;have hq':H' q=some (.tup [.str z,.int nn]):=sb' _ _ hq fun zz=>by rw[zz,ep3]at hq;cases hq
    have hzr:z∈rz.map (·.1):=hwr _ (List.mem_of_getElem? hpx);have hkl:kvs.length=rz.length:=by rw[←List.length_map (f:=fun e:Key×V=>e.1),hkk,List.length_map,hl2]
    walk_at"go";refine YK ?_;walk_at"go";refine WN (.inl ek') (hin z hzr) ?_;walk_at"go";refine TQ ?_;refine YG ek' (by rw[sizeLine_eq];lia) fun H9 B9 e9=> ?_;refine⟨by walk_at"sb",⟨_,e9,?_,fun y hy=> ?_⟩,_,_,rfl⟩
    ·rw[VS (by rw[hin z hzr];rfl)];exact hkk
    ·rw[kP,bR hpx,u7]
     by_cases e:(Sum.inr y:Key)= .inr z
     ·cases e;rw[if_pos rfl,if_pos rfl]
     ·rw[if_neg e,if_neg (fun zz=>e (by rw[show z=y from zz])),Int.add_zero];exact hin y hy
   ·rintro _ H' hq_;walk_at"g1";obtain⟨sb',⟨kvs,ek',hkk,hin⟩,x1,x2,rfl⟩:=hq_;walk_at"g2";rw[hwl,List.take_length]at hin;walk_at"go";exact k _ _ _ n1 (SameBut.same n1 (fun x u hx=>sH x u hx) sb') ek' hkk hin
theorem qF (m:M K mg):Fc P w K mg base "added_people" 1 ["sizes","people"] (tK K):=⟨_,_,m.EA,m.gU.F.kp,m.gU.b,A3 m⟩
def g6 (rz ps:List (Str×Int)):Prop:=(∀p∈ps,0<=p.2)/\∀e∈rz,bT ps e.1<=e.2
def RoomsAt (H:Hp)(vs:List V)(rz:List (Str×Int)):Prop:=Paired (b5 H) vs rz
theorem RoomsAt.sm {H H':Hp}{vs:List V}{rs:List (Str×Int)} (h:RoomsAt H vs rs) (s:Same H H'):RoomsAt H' vs rs:=Paired.imp' (fun v z ⟨q,e,h⟩=>⟨q,e,s _ _ h⟩) h
theorem xX {H:Hp}:∀{vs:List V}{rs:List (Str×Int)},RoomsAt H vs rs->GA H vs (szK rs)
 | _,_,.nil=> .nil
 | _,_,.cons h t=> .cons h (xX t)
theorem dE {D:aS}{H H':Hp}{us:List V}{ds:List aF} (h:Paired (D.at' H) us ds) (s:Same H H'):Paired (D.at' H') us ds:=Paired.imp' (fun v d h=>D.same h s) h
abbrev DP (f l:Int)(qs qp qd:Addr):List (Str×V):=cM "named_doors" (.ref qd) (cM "people" (.ref qp) (cM "sizes" (.ref qs) (cM "last" (.int l) (cM "first" (.int f) []))))
def pY (D:aS)(H:Hp)(nk:List (Key×V))(ds:List aF):Prop:=Paired (fun e d=>e.1= .inr d.1/\D.at' H e.2 d) nk ds
theorem V7 {D:aS}{H H':Hp}{nk:List (Key×V)}{ds:List aF} (h:pY D H nk ds) (s:Same H H'):pY D H' nk ds:=Paired.imp' (fun e d h=>⟨h.1,D.same h.2 s⟩) h
structure aX (C:Addr)(D:aS)(H:Hp)(h:Addr)(f l:Int)(rz ps:List (Str×Int))(ds:List aF):Prop where
 ex:∃dx qs qp qd nk kvs,H h=some (.ins C dx (DP f l qs qp qd))/\H qs=some (.dK (szK rz))/\H qp=some (.dK kvs)/\kvs.map (·.1)=(szK rz).map (·.1)/\u4 rz ps kvs/\H qd=some (.dK nk)/\pY D H nk ds
theorem aU {C:Addr}{D:aS}{H H':Hp}{h:Addr}{f l:Int}{rz ps:List (Str×Int)}{ds:List aF} (x:aX C D H h f l rz ps ds) (s:Same H H'):aX C D H' h f l rz ps ds:=by
 walk_at"g1";obtain⟨dx,qs,qp,qd,nk,kvs,e1,e2,e3,e4,e5,e6,e7⟩:=x.ex;walk_at"g2";exact⟨dx,qs,qp,qd,nk,kvs,s _ _ e1,s _ _ e2,s _ _ e3,e4,e5,s _ _ e6,V7 e7 s⟩
theorem L6 {H H':Hp}{p c C dx:Addr}{fs:List (Str×V)}{xs:List V} (h:SqL K H c xs) (hp:H p=some (.ins C dx fs)) (sb:SameBut p H H'):SqL K H' c xs:=by
 rcases h with (h|⟨o,h⟩)|h
 ·exact .inl (.inl (sb _ _ h fun z=>by rw[z,hp]at h;cases h))
 ·exact .inl (.inr ⟨o,sb _ _ h fun z=>by rw[z,hp]at h;cases h⟩)
 ·exact .inr h
theorem w4 (m:M K mg):bD P w K mg base CX0 1 m.jD m.jF.d ["self","name"] (spX K m.bP "name"):=by
 refine m.jF.F.ok sc_Twice___init__ (fun vs H Q E h=> ?_) (fun cdv A outer s H vs Q E hr h=> ?_)
 ·walk_at"g1";obtain⟨e,y,fv,rfl,he,xf,na,k⟩:=h;walk_at"g2";rfl
 ·walk_at"g1";obtain⟨e,y,fv,rfl,he,xf,na,k⟩:=h;walk_at"g2";have nd:=sc_Twice___init__.nd;walk_at"hu";refine⟨_,(aD (CW (pv 0) (pv 1) rfl)),?_⟩;refine aM (σ:=[some (.ref e),some (y)]) rfl ?_;walk_at"cx";refine DR rfl rfl he xf na fun dx n1 n2=> ?_;exact k dx n1 n2
theorem VH (m:M K mg):XcE P w K mg base "Twice" m.bP "name" :=⟨_,_,_,m.L9,m.WW,m.AH,m.JW,m.jF.b,w4 m⟩
theorem uY (m:M K mg):bD P w K mg base CX0 1 m.g9 m.iB.d ["self","name"] (spX K m.bH "name"):=by
 refine m.iB.F.ok sc_NoRoom___init__ (fun vs H Q E h=> ?_) (fun cdv A outer s H vs Q E hr h=> ?_)
 ·walk_at"g1";obtain⟨e,y,fv,rfl,he,xf,na,k⟩:=h;walk_at"g2";rfl
 ·walk_at"g1";obtain⟨e,y,fv,rfl,he,xf,na,k⟩:=h;walk_at"g2";have nd:=sc_NoRoom___init__.nd;walk_at"hu";refine⟨_,(aD (CW (pv 0) (pv 1) rfl)),?_⟩;refine aM (σ:=[some (.ref e),some (y)]) rfl ?_;walk_at"cx";refine DR rfl rfl he xf na fun dx n1 n2=> ?_;exact k dx n1 n2
theorem P9 (m:M K mg):XcE P w K mg base "NoRoom" m.bH "name" :=⟨_,_,_,m.JR,m.TH,m.v9,m.FE,m.iB.b,uY m⟩
def Refd (C:Addr)(z:Str)(H:Hp)(E:XK):Prop:=∀H' dx,Same H H'->H' dx=some (.xd [("name",.str z)])->E (.ref C) (some dx) H'
theorem Refd.sm {C:Addr}{z:Str}{H H1:Hp}{E:XK} (x:Refd C z H E) (s:Same H H1):Refd C z H1 E:=fun H2 dx s2 e=>x H2 dx (s.trans s2) e
theorem Refd.go {C:Addr}{z:Str}{H H1:Hp}{E:XK} (x:Refd C z H E) (s:Same H H1) (dx:Addr) (n:H1 dx=none):E (.ref C) (some dx) (upd H1 dx (.xd [("name",.str z)])):=x _ _ (s.trans fun b o e=>by rw[aK (aN e n)];exact e) aY
def Ref0 (C:Addr)(H:Hp)(E:XK):Prop:=∀H',Same H H'->E (.ref C) none H'
theorem Ref0.sm {C:Addr}{H H1:Hp}{E:XK} (x:Ref0 C H E) (s:Same H H1):Ref0 C H1 E:=fun H2 s2=>x H2 (s.trans s2)
theorem fT {C:Addr}{H H1:Hp}{E:XK}{x:Str} (k:Ref0 C H E) (s:Same H H1):[V.str x].length<=sizeLine/\E (.ref C) none H1:=⟨by rw[sizeLine_eq];show 1<=_;lia,k _ s⟩
local macro_rules| `(tactic| walk_at"rd1")=> `(tactic| (with_reducible refine GO ?_))
inductive qB (C:Addr)(vs:List V)(H:Hp)(Q:VK)(E:XK):Prop
 | mk (f l:Int) (_:vs=[.int f,.int l]) (_:(0<=f->f<=l->Q .non H)) (_:(f<0∨l<f->Ref0 C H E)):qB C vs H Q E
theorem US {C:Addr}{H:Hp}{Q:VK}{E:XK}{f l:Int} (h0:0<=f->f<=l->Q .non H) (h1:f<0∨l<f->Ref0 C H E):qB C [.int f,.int l] H Q E:=⟨_,_,rfl,h0,h1⟩
theorem FV (m:M K mg):bD P w K mg base (CXE P w) 3 m.pG m.kC.d ["first","last"] (qB m.bO):=by
 refine m.kC.F.okE sc_need_turns (fun vs H Q E h=> ?_) (fun cdv A outer s H vs Q E hr h=> ?_)
 ·walk_at"g1";obtain⟨f,l,rfl,h0,h1⟩:=h;walk_at"g2";rfl
 ·walk_at"g1";obtain⟨f,l,rfl,h0,h1⟩:=h;walk_at"g2";have nd:=sc_need_turns.nd;walk_at"hu";refine⟨_,(aC (bV (aV iK (pv 0) aE (bL _)) (aD (jB m.uD m.zN oU (aA aJ aB))) bJ)
   (aD (bV (aV iK (pv 1) (pv 0) (bL _)) (aD (jB m.uD m.zN oU (aA aJ aB))) bJ))),?_⟩
  refine aM (σ:=[some (.int f),some (.int l)]) rfl ?_;walk_at"cx";walk_at"gs";refine kW (fun σ' G=>H=G/\0<=f/\σ'=[some (.int f),some (.int l)]) ?_ ?_
  rotate_left
  ·intro nx' hnx;walk_at"go";refine fG (fun hc=> ?_) (fun hc=> ?_)
   ·walk_at"go";exact fT (h1 (.inl hc)) (Same.refl _)
   ·walk_at"go";exact hnx _ _ ⟨rfl,by lia,rfl⟩
  rintro _ _ ⟨rfl,hf,rfl⟩;walk_at"go";refine fG (fun hc=> ?_) (fun hc=> ?_)
  ·walk_at"go";exact fT (h1 (.inr hc)) (Same.refl _)
  ·walk_at"go";exact h0 hf (by lia)
theorem FK (m:M K mg):FcE P w K mg base "need_turns" 3 ["first","last"] (qB m.bO):=⟨_,_,m.JZ,m.kC.F.kp,m.kC.b,FV m⟩
def Dup (ss:List Str)(z:Str):Prop:=∃i,ss[i]? =some z/\z∈ss.take i/\(ss.take i).Nodup
inductive tZ (K:W.Frag)(C:Addr)(vs:List V)(H:Hp)(Q:VK)(E:XK):Prop
 | mk (a:Addr) (ss:List Str) (_:vs=[.ref a]) (_:SqL K H a (ss.map V.str)) (_:ss.length<=100) (_:(ss.Nodup->∀H',Same H H'->Q .non H')) (_:∀z,Dup ss z->Refd C z H E):tZ K C vs H Q E
theorem LS {C:Addr}{H:Hp}{Q:VK}{E:XK}{a:Addr}{ss:List Str} (hS:SqL K H a (ss.map V.str)) (hl:ss.length<=100) (h:ss.Nodup->∀H',Same H H'->Q .non H') (hd:∀z,Dup ss z->Refd C z H E):tZ K C [.ref a] H Q E:=⟨_,_,rfl,hS,hl,h,hd⟩
theorem MF {ss:List Str}{i:Nat}{z:Str} (hz:ss[i]? =some z) (nd:(ss.take i).Nodup) (hn:z∉ss.take i):(ss.take (i+1)).Nodup:=by
 rw[bR hz,List.nodup_append];refine⟨nd,List.pairwise_singleton _ _,fun a ha b hb e=> ?_⟩;cases List.mem_singleton.mp hb;rw[e]at ha;exact hn ha
theorem w5 (m:M K mg):bD P w K mg base (CXE P w) 4 m.jG m.fD.d ["names"] (tZ K m.bP):=by
 refine m.fD.F.okE sc_need_each_once (fun vs H Q E h=> ?_) (fun cdv A outer s H vs Q E hr h=> ?_)
 ·walk_at"g1";obtain⟨a,ss,rfl,hS,hlen,h0,hd⟩:=h;walk_at"g2";rfl
 ·walk_at"g1";obtain⟨a,ss,rfl,hS,hlen,h0,hd⟩:=h;walk_at"g2";have nd:=sc_need_each_once.nd;walk_at"hu";have X_Twice:=VH (P:=P) (w:=w) (base:=base) m;refine⟨_,(aC (aP (i:=1) nd rfl (by walk_at"oi") yR)
   (aD (cU wE rfl (bG (pv 0)) (aL (i:=2) nd rfl (by walk_at"oi")) (aC (bV (BI (aAt hu1 (pv 2) (pv 1)) (by with_unfolding_all rfl)) (aD (uW X_Twice hr GN (pv 2) rfl)) bJ)
   (aD (jQ hu1 (pv 1) (pv 2) F5 rfl)))))),?_⟩
  refine aM (σ:=[some (.ref a),none,none]) rfl ?_;walk_at"cx";walk_at"go";rename_i p H1 n1 S1 e1;let Pv1:Nat->St->Hp->Prop:=fun i σ' H'=>SameBut p H1 H'/\(ss.take i).Nodup/\∃kvs,H' p=some (.dK kvs)/\kvs.length<=i/\(∀z,(bA kvs (.inr z)).isSome=true↔z∈ss.take i)/\∃x,σ'=[some (.ref a),some (.ref p),x];refine cX (ss.map V.str) Pv1 ⟨SameBut.refl,.nil,[],e1,Nat.le_refl _,(fun z=>⟨fun h=>(by cases h),fun h=>nomatch h⟩),_,rfl⟩ (fun i σ' H' _ q=>(SameBut.same n1 S1 q.1).seq hS) ?_ ?_
  ·rintro i x _ H' hx hq_;walk_at"g1";obtain⟨sb,ndi,kvs,ek,hk,hin,y,rfl⟩:=hq_;walk_at"g2";rw[List.getElem?_map]at hx;obtain⟨z,hz,rfl⟩:=Option.map_eq_some_iff.mp hx;have hi:i<ss.length:=(List.getElem?_eq_some_iff.mp hz).1;walk_at"go";refine Y9 (.inl ek) ?_
   by_cases hm:z∈ss.take i
   ·rw[(hin z).mpr hm];walk_at"go";refine vJ ?_;walk_at"go";exact(hd z ⟨i,hz,hm,ndi⟩).go (SameBut.same n1 S1 sb)
   ·have hno:(bA kvs (.inr z)).isSome=false:=by
     cases e:(bA kvs (.inr z)).isSome with
     | false=>rfl
     | true=>exact absurd ((hin z).mp e) hm
    rw[hno];walk_at"go";refine yO ek (by rw[sizeLine_eq];lia) fun H9 B9 e9=> ?_;refine⟨by walk_at"sb",MF hz ndi hm,_,e9,Nat.le_trans (fL _ _ _) (by lia),fun y=> ?_,_,rfl⟩;rw[kP,bR hz,List.mem_append]
    by_cases e:(Sum.inr y:Key)= .inr z
    ·cases e;rw[if_pos rfl];exact⟨fun _=> .inr (.head _),fun _=>rfl⟩
    ·rw[if_neg e,hin y];exact⟨.inl,fun h=>h.elim id fun h=>absurd (by rw[List.mem_singleton.mp h]) e⟩
  ·rintro _ H' hq_;walk_at"g1";obtain⟨sb,ndi,kvs,ek,hk,hin,y,rfl⟩:=hq_;walk_at"g2";rw[List.length_map,List.take_length]at ndi;exact h0 ndi _ (SameBut.same n1 S1 sb)
theorem wZ (m:M K mg):FcE P w K mg base "need_each_once" 4 ["names"] (tZ K m.bP):=⟨_,_,m.AF,m.fD.F.kp,m.fD.b,w5 m⟩
def C7:V->List Str
 | .str z=>[z]
 | _=>[]
def eY (d:aF):List Str:=d.2.1::C7 d.2.2.1
def cE (ds:List aF)(ps:List (Str×Int)):List Str:=(ds.map eY).flatten++ps.map (·.1)
def EndS (d:aF):Prop:=d.2.2.1= .non∨∃z,d.2.2.1= .str z
inductive nU (K:W.Frag)(D:aS)(vs:List V)(H:Hp)(Q:VK)(E:XK):Prop
 | mk (a b:Addr) (us:List V) (ds:List aF) (ws:List V) (ps:List (Str×Int)) (_:vs=[.ref a,.ref b]) (_:SqL K H a us) (_:Paired (D.at' H) us ds) (_:(∀d∈ds,EndS d)) (_:ds.length<=20) (_:SqL K H b ws) (_:Paired (b5 H) ws ps) (_:ps.length<=40) (_:∀p H',Same H H'->H' p=some (.lst ((cE ds ps).map V.str))->Q (.ref p) H'):nU K D vs H Q E
theorem R5 {D:aS}{H:Hp}{Q:VK}{E:XK}{a b:Addr}{us:List V}{ds:List aF}{ws:List V}{ps:List (Str×Int)} (hS:SqL K H a us) (hd:Paired (D.at' H) us ds) (hr:∀d∈ds,EndS d) (hl:ds.length<=20) (hb:SqL K H b ws) (hw:Paired (b5 H) ws ps) (hwl:ps.length<=40) (h:∀p H',Same H H'->H' p=some (.lst ((cE ds ps).map V.str))->Q (.ref p) H'):nU K D [.ref a,.ref b] H Q E:=⟨_,_,_,_,_,_,rfl,hS,hd,hr,hl,hb,hw,hwl,h⟩
theorem o0:∀ds:List aF,((ds.map eY).flatten).length<=2 * ds.length
 | []=>Nat.le_refl _
 | d::ds=>by
  have:=o0 ds;have h1:(eY d).length<=2:=by
   unfold eY C7
   split<;>simp
  rw[List.map_cons,List.flatten_cons,List.length_append,List.length_cons]
  lia
theorem u5 (m:M K mg):bD P w K mg base CX0 2 m.iA m.d3.d ["doors","people"] (nU K (aH P w K mg base none)):=by
 refine m.d3.F.ok sc_rooms_spoken_of (fun vs H Q E h=> ?_) (fun cdv A outer s H vs Q E hr h=> ?_)
 ·walk_at"g1";obtain⟨a,b,us,ds,ws,ps,rfl,hS,hd,hr',hlen,hb,hw,hwl,k⟩:=h;walk_at"g2";rfl
 ·walk_at"g1";obtain⟨a,b,us,ds,ws,ps,rfl,hS,hd,hr',hlen,hb,hw,hwl,k⟩:=h;walk_at"g2";have nd:=sc_rooms_spoken_of.nd;walk_at"hu";refine⟨_,(aC (aP (i:=2) nd rfl (by walk_at"oi") (bY aB))
   (aC (cU PassesOwn.never rfl (bG (pv 0)) (aL (i:=3) nd rfl (by walk_at"oi")) (aC (cC (wO PySem.F.plainAttrs_list PySem.F.slot_list_append PySem.F.type_list_append jO (pv 2) (aA (bK (pv 3) rfl) aB)))
   (aD (bV (mD (fV (c7 1 hr (pv 3)))) (aD (cC (wO PySem.F.plainAttrs_list PySem.F.slot_list_append PySem.F.type_list_append jO (pv 2) (aA (bK (pv 3) rfl) aB)))) bJ))))
   (aD (aW (aQ c6 (pv 2) (cI (N:=["room","number"]) (nl:=2) (ci:=[]) rfl (blk (s.heap.objs.size+1) rfl rfl rfl (by kernel_rfl)) (bG (pv 1)) (fun _ _ _ _=>(oG (K:=K) (n:=2) rfl (bU (aL (i:=0) (show (["room","number"]:List Str).Nodup by decide +kernel) rfl (by walk_at"oi")) (bU (aL (i:=1) (show (["room","number"]:List Str).Nodup by decide +kernel) rfl (by walk_at"oi")) eK)))) (fun _ _ _ _=>dF) (fun _ _ _ _=>(pv 0)))))))),?_⟩
  refine aM (σ:=[some (.ref a),some (.ref b),none,none]) rfl ?_;walk_at"cx";have hul:us.length=ds.length:=Paired.length hd;walk_at"go";rename_i p H1 n1 S1 e1;let Pv2:Nat->St->Hp->Prop:=fun i σ' H'=>SameBut p H1 H'/\H' p=some (.lst ((((ds.take i).map eY).flatten).map V.str))/\∃x,σ'=[some (.ref a),some (.ref b),some (.ref p),x];refine cX us Pv2 ⟨SameBut.refl,e1,_,rfl⟩ (fun i σ' H' _ q=>(SameBut.same n1 S1 q.1).seq hS) ?_ ?_
  ·rintro i x _ H' hx hq_;walk_at"g1";obtain⟨sb,es,y,rfl⟩:=hq_;walk_at"g2";have hi:i<us.length:=(List.getElem?_eq_some_iff.mp hx).1;obtain⟨d,hdx⟩:∃d,ds[i]? =some d:=⟨_,List.getElem?_eq_getElem (by lia)⟩
   have hsl:=o0 (ds.take i);rw[List.length_take]at hsl;have hnext:((ds.take (i+1)).map eY).flatten=((ds.take i).map eY).flatten++eY d:=by rw[bR hdx,List.map_append,List.flatten_append];simp
   walk_at"g1";obtain⟨n,st,e,lt⟩:=d;walk_at"g2";walk_at"g1";obtain⟨q,C9,dx,fs,fp,rfl,hq,dcC,l1,l2,l3,l4,l5,mcE,hfp,hlt⟩:=DoorAt.ex (Paired.at2 hd hx hdx);walk_at"g2";have r2:=hr' _ (List.mem_of_getElem? hdx);have hqp:q≠p:=fun z=>by rw[z,n1]at hq;cases hq
   have hq':H' q=some (.ins C9 dx fs):=sb _ _ (S1 _ _ hq) hqp;rcases r2 with r2|⟨z,r2⟩
   ·have r2:e= .non:=r2;subst r2;walk_at"go";refine l6 es (by rw[sizeLine_eq,List.length_map];lia) fun H8 B8 e8=> ?_;have hq8:=B8 _ _ hq' hqp;walk_at"go";exact⟨by walk_at"sb",by rw[e8,hnext,List.map_append];rfl,_,rfl⟩
   ·have r2:e= .str z:=r2;subst r2;walk_at"go";refine l6 es (by rw[sizeLine_eq,List.length_map];lia) fun H8 B8 e8=> ?_;have hq8:=B8 _ _ hq' hqp;walk_at"go";refine l6 e8 (by rw[sizeLine_eq,List.length_append,List.length_map];show _+1<_;lia) fun H9 B9 e9=> ?_;walk_at"go";exact⟨by walk_at"sb",by rw[e9,hnext,List.map_append,List.append_assoc];rfl,_,rfl⟩
  ·rintro _ H' hq_;walk_at"g1";obtain⟨sb,es,y,rfl⟩:=hq_;walk_at"g2";have sH:Same H H':=SameBut.same n1 S1 sb;have hb':=sH.seq hb;rw[hul,List.take_length]at es;have hsl:=o0 ds;walk_at"go";refine rN (α:=Str×Int) (xs:=ps) (vs:=ws) (fun p=> .str p.1) (fun p=> .int p.2) (fun _=>true) (fun p y _=>y= .str p.1) (fun _ _ _ _ h _=>h) (by rw[sizeLine_eq];lia) (rest:=[]) (by rfl) hb' (iD hw sH) (fun x H1 hx s1 R hR=>hR _ (Same.refl _)) (fun x H1 hx _ s1 R hR=> ?_) ?_
   ·walk_at"go";exact hR _ _ rfl (Same.refl _)
   intro ys H2 s2 hys;rw[cZ]at hys;obtain rfl:=dW hys;walk_at"go";rename_i q3 H3 n3 S3 e3 q4 H4 n4 S4 e4;refine k _ _ (by walk_at"sm") ?_;rw[e4];unfold cE;rw[List.map_append,List.map_map];rfl
theorem vN (m:M K mg):Fc P w K mg base "rooms_spoken_of" 2 ["doors","people"] (nU K (aH P w K mg base none)):=⟨_,_,m.xK,m.d3.F.kp,m.d3.b,u5 m⟩
inductive qA (K:W.Frag)(C:Addr)(vs:List V)(H:Hp)(Q:VK)(E:XK):Prop
 | mk (a b:Addr) (ss:List Str) (kvs:List (Key×V)) (_:vs=[.ref a,.ref b]) (_:SqL K H a (ss.map V.str)) (_:Rd H b (.dK kvs)) (_:((∀z∈ss,(bA kvs (.inr z)).isSome=true)->∀H',Same H H'->Q .non H')) (_:∀i z,ss[i]? =some z->(bA kvs (.inr z)).isSome=false->(∀y∈ss.take i,(bA kvs (.inr y)).isSome=true)->Refd C z H E):qA K C vs H Q E
theorem U0 {C:Addr}{H:Hp}{Q:VK}{E:XK}{a b:Addr}{ss:List Str}{kvs:List (Key×V)} (hS:SqL K H a (ss.map V.str)) (hb:Rd H b (.dK kvs)) (h:(∀z∈ss,(bA kvs (.inr z)).isSome=true)->∀H',Same H H'->Q .non H') (hd:∀i z,ss[i]? =some z->(bA kvs (.inr z)).isSome=false->(∀y∈ss.take i,(bA kvs (.inr y)).isSome=true)->Refd C z H E):qA K C [.ref a,.ref b] H Q E:=⟨_,_,_,_,rfl,hS,hb,h,hd⟩
theorem DB (m:M K mg):bD P w K mg base (CXE P w) 4 m.kG m.c8.d ["names","sizes"] (qA K m.bH):=by
 refine m.c8.F.okE sc_need_rooms (fun vs H Q E h=> ?_) (fun cdv A outer s H vs Q E hr h=> ?_)
 ·walk_at"g1";obtain⟨a,b,ss,kvs,rfl,hS,hb,h0,hd⟩:=h;walk_at"g2";rfl
 ·walk_at"g1";obtain⟨a,b,ss,kvs,rfl,hS,hb,h0,hd⟩:=h;walk_at"g2";have nd:=sc_need_rooms.nd;walk_at"hu";have X_NoRoom:=P9 (P:=P) (w:=w) (base:=base) m;refine⟨_,(aD (cU wE rfl (bG (pv 0)) (aL (i:=2) nd rfl (by walk_at"oi")) (aD (bV (BI (u3 hu1 (pv 2) (pv 1)) (by with_unfolding_all rfl)) (aD (uW X_NoRoom hr GN (pv 2) rfl)) bJ)))),?_⟩;refine aM (σ:=[some (.ref a),some (.ref b),none]) rfl ?_;walk_at"cx";walk_at"go";let Pv3:Nat->St->Hp->Prop:=fun i σ' H'=>Same H H'/\(∀y∈ss.take i,(bA kvs (.inr y)).isSome=true)/\∃x,σ'=[some (.ref a),some (.ref b),x];refine cX (ss.map V.str) Pv3 ⟨Same.refl _,(fun _ z=>nomatch z),_,rfl⟩ (fun i σ' H' _ q=>q.1.seq hS) ?_ ?_
  ·rintro i x _ H' hx hq_;walk_at"g1";obtain⟨s1,hy,y,rfl⟩:=hq_;walk_at"g2";rw[List.getElem?_map]at hx;obtain⟨z,hz,rfl⟩:=Option.map_eq_some_iff.mp hx;walk_at"go";refine sT (LX s1 hb) ?_;cases hm:(bA kvs (.inr z)).isSome with
   | true =>
    walk_at"go";refine⟨s1,fun y' hy'=> ?_,_,rfl⟩;rw[bR hz]at hy';rcases List.mem_append.mp hy' with h|h
    ·exact hy y' h
    ·cases List.mem_singleton.mp h;exact hm
   | false =>
    walk_at"go";refine vJ ?_;walk_at"go";exact(hd i z hz hm hy).go s1
  ·rintro _ H' hq_;walk_at"g1";obtain⟨s1,hy,y,rfl⟩:=hq_;walk_at"g2";rw[List.length_map,List.take_length]at hy;exact h0 hy _ s1
theorem C3 (m:M K mg):FcE P w K mg base "need_rooms" 4 ["names","sizes"] (qA K m.bH):=⟨_,_,m.wA,m.c8.F.kp,m.c8.b,DB m⟩
inductive pX (K:W.Frag)(C:Addr)(vs:List V)(H:Hp)(Q:VK)(E:XK):Prop
 | mk (a b:Addr) (rz:List (Str×Int)) (ws:List V) (ps:List (Str×Int)) (_:vs=[.ref a,.ref b]) (_:H a=some (.dK (szK rz))) (_:SqL K H b ws) (_:Paired (b5 H) ws ps) (_:(∀p∈ps,p.1∈rz.map (·.1))) (_:(rz.map (·.1)).Nodup) (_:rz.length<=100) (_:ps.length<=100) (_:(g6 rz ps->∀H',Same H H'->Q .non H')) (_:(¬g6 rz ps->Ref0 C H E)):pX K C vs H Q E
theorem TZ {C:Addr}{H:Hp}{Q:VK}{E:XK}{a b:Addr}{rz:List (Str×Int)}{ws:List V}{ps:List (Str×Int)} (ha:H a=some (.dK (szK rz))) (hb:SqL K H b ws) (hw:Paired (b5 H) ws ps) (hwr:∀p∈ps,p.1∈rz.map (·.1)) (nd:(rz.map (·.1)).Nodup) (hl:rz.length<=100) (hpl:ps.length<=100) (h:g6 rz ps->∀H',Same H H'->Q .non H') (hn:¬g6 rz ps->Ref0 C H E):pX K C [.ref a,.ref b] H Q E:=⟨_,_,_,_,_,rfl,ha,hb,hw,hwr,nd,hl,hpl,h,hn⟩
theorem pZ {α:Type}{g:α->Bool}:∀{l:List α}{ys:List V},Paired (fun x y=>y=V.bl (g x)) l ys->ys=(l.map g).map V.bl
 | _,_,.nil=>rfl
 | _,_,.cons h t=>by rw[h,pZ t];rfl
theorem any_map {α:Type}(g:α->Bool)(l:List α):(l.map g).any id=l.any g:=by induction l with|nil=>rfl|cons a l ih=>rw[List.map_cons,List.any_cons,List.any_cons,ih];rfl
theorem FS (m:M K mg):bD P w K mg base (CXE P w) 3 m.pO m.kK.d ["sizes","people"] (pX K m.bF):=by
 refine m.kK.F.okE sc_need_space (fun vs H Q E h=> ?_) (fun cdv A outer s H vs Q E hr h=> ?_)
 ·walk_at"g1";obtain⟨a,b,rz,ws,ps,rfl,ha,hb,hw,hwr,ndz,hlen,hpl,k,kn⟩:=h;walk_at"g2";rfl
 ·walk_at"g1";obtain⟨a,b,rz,ws,ps,rfl,ha,hb,hw,hwr,ndz,hlen,hpl,k,kn⟩:=h;walk_at"g2";have nd:=sc_need_space.nd;walk_at"hu";have F_added_people:= @qF P w K mg base m;refine⟨_,(aC (bV (fV (bM (E2 rfl) rfl m.X2 P2 (aA (cI (N:=["room","number"]) (nl:=2) (ci:=[]) rfl (blk (s.heap.objs.size+1) rfl rfl rfl (by kernel_rfl)) (bG (pv 1)) (fun _ _ _ _=>(oG (K:=K) (n:=2) rfl (bU (aL (i:=0) (show (["room","number"]:List Str).Nodup by decide +kernel) rfl (by walk_at"oi")) (bU (aL (i:=1) (show (["room","number"]:List Str).Nodup by decide +kernel) rfl (by walk_at"oi")) eK)))) (fun _ _ _ _=>dF) (fun _ _ _ _=>(rV iK (pv 1) aE (bL _)))) aB))) (aD (jB m.vU m.FD oU (aA aJ aB))) bJ)
   (aC (aP (i:=2) nd rfl (by walk_at"oi") (b9 F_added_people hr (aA (pv 0) (aA (pv 1) aB))))
   (aD (bV (fV (bM (E2 rfl) rfl m.X2 P2 (aA (DX (cI (N:=["room","inside","sizes"]) (nl:=1) (ci:=[2,0]) rfl (blk (s.heap.objs.size+1) rfl rfl rfl (by kernel_rfl)) (yU (pv 0)) (fun _ _ _ _=>(aL (i:=0) (show (["room","inside","sizes"]:List Str).Nodup by decide +kernel) rfl (by walk_at"oi"))) (fun _ _ _ _=>dF) (fun _ _ _ _=>(rV qG (fK hu1 (pv 1) (pv 0) (fun _ _=>rfl)) (fK hu1 (pv 2) (pv 0) (fun _ _=>rfl)) (bL _))))) aB))) (aD (jB m.vU m.FD oU (aA aJ aB))) bJ)))),?_⟩
  refine aM (σ:=[some (.ref a),some (.ref b),none]) rfl ?_;walk_at"cx";walk_at"gs";refine kW (fun σ' G=>Same H G/\(∀p∈ps,0<=p.2)/\σ'=[some (.ref a),some (.ref b),none]) ?_ ?_
  rotate_left
  ·intro nx' hnx;walk_at"go";refine rN (α:=Str×Int) (xs:=ps) (vs:=ws) (fun p=> .str p.1) (fun p=> .int p.2) (fun _=>true) (fun p y _=>y= .bl (decide (p.2<0))) (fun _ _ _ _ h _=>h) (by rw[sizeLine_eq];lia) (rest:=[]) (by rfl) hb hw (fun x H1 hx s1 R hR=>hR _ (Same.refl _)) (fun x H1 hx _ s1 R hR=> ?_) ?_
   ·walk_at"go";exact hR _ _ rfl (Same.refl _)
   intro ys H2 s2 hys;rw[cZ]at hys;obtain rfl:=pZ (g:=fun p:Str×Int=>decide (p.2<0)) hys;walk_at"go";rename_i q H3 n3 S3 e3;refine RN (SqL.of e3) ?_;rw[any_map];have sA:Same H H3:=s2.trans S3;cases hany:ps.any fun p=>decide (p.2<0) with
   | true =>
    walk_at"go";obtain⟨p,hp,hp0⟩:=List.any_eq_true.mp hany;exact fT (kn fun hf=>by have:=hf.1 p hp;have:=of_decide_eq_true hp0;lia) sA
   | false =>
    walk_at"go";refine hnx _ _ ⟨sA,fun p hp=> ?_,rfl⟩;have:=(List.any_eq_false.mp hany) p hp;have:¬p.2<0:=fun z=>this (decide_eq_true z)
    lia
  rintro _ H3 ⟨sA,hp0,rfl⟩;walk_at"go";refine K6 (sA _ _ ha) (sA.seq hb) (iD hw sA) hwr ndz hlen fun p H4 kvs n4 S4 e4 hkk hv=> ?_;have ha4:=S4 _ _ (sA _ _ ha);walk_at"go";refine zG ha4 MH ?_;walk_at"go";refine yM ha4 fun o H5 B5 e5=> ?_;have hpa:p≠a:=fun z=>by rw[z,sA _ _ ha]at n4;cases n4
  have ep5:=B5 _ _ e4 hpa;refine P4 (fun _=>true) (fun x y _=>∀e∈rz,x=((.inr e.1:Key),V.int e.2)->y= .bl (decide (bT ps e.1>e.2))) (fun _ _ _ _ h _=>h) (by rw[sizeLine_eq];unfold szK;rw[List.length_map];lia) (rest:=[some (.ref p),some (.ref a)]) (by rfl) e5 (fun x H6 hx s6 R hR=>hR _ (Same.refl _)) ?_ ?_
  ·rintro x H6 hx - s6 R hR;obtain⟨e,he,rfl⟩:=List.mem_map.mp hx;show (_:TE) (some (V.str e.1)::[some (.ref p),some (.ref a)]) H6 R;walk_at"go";refine oN (.inl (s6 _ _ ep5)) (hv e.1 (List.mem_map.mpr ⟨e,he,rfl⟩)) ?_;walk_at"go";refine oN (.inr ⟨o,s6 _ _ e5⟩) (DA ndz he) ?_;walk_at"go";refine hR _ _ (fun e' he' q=> ?_) (Same.refl _);have q1:e.1=e'.1:=Sum.inr.inj (Prod.mk.inj q).1;have q2:e.2=e'.2:=V.int.inj (Prod.mk.inj q).2;rw[q1,q2]
  intro ys H6 s6 hys;rw[cZ]at hys;have hyb:ys=(rz.map fun e=>decide (bT ps e.1>e.2)).map V.bl:=by
   have key:∀(l:List (Str×Int)) (ys:List V),(∀e∈l,e∈rz)->Paired (fun x y=>∀e∈rz,x=((.inr e.1:Key),V.int e.2)->y= .bl (decide (bT ps e.1>e.2))) (l.map fun e=>((.inr e.1:Key),V.int e.2)) ys->ys=(l.map fun e=>decide (bT ps e.1>e.2)).map V.bl:=fun l=>by
    induction l with
    | nil=>intro ys _ h;cases h;rfl
    | cons e l ih =>
     intro ys hl h;cases h with
     | cons h t=>rw[h e (hl e (.head _)) rfl,ih _ (fun e' he'=>hl e' (List.mem_cons_of_mem _ he')) t];rfl
   exact key rz ys (fun _ h=>h) hys
  subst hyb;walk_at"go";rename_i q7 H7 n7 S7 e7;refine qO (S7 _ _ (s6 _ _ e5)) fun H8 B8 e8=> ?_;have hq7:q7≠a:=fun z=>by rw[z,s6 _ _ e5]at n7;cases n7
  have e78:=B8 _ _ e7 hq7;have s08:Same H H8:=EX (ha) (fun x u hx hxa=>B5 _ _ (S4 _ _ (sA _ _ hx)) hxa) (Same.but (s6.trans S7)) B8 e8;walk_at"go";refine RN (SqL.of e78) ?_;rw[any_map];cases hany:rz.any fun e=>decide (bT ps e.1>e.2) with
  | true =>
   walk_at"go";obtain⟨e,he,he0⟩:=List.any_eq_true.mp hany;exact fT (kn fun hf=>by have:=hf.2 e he;have:=of_decide_eq_true he0;lia) s08
  | false =>
   walk_at"go";refine k ⟨hp0,fun e he=> ?_⟩ _ s08;have:=(List.any_eq_false.mp hany) e he;have:¬bT ps e.1>e.2:=fun z=>this (decide_eq_true z)
   lia
theorem FP (m:M K mg):FcE P w K mg base "need_space" 3 ["sizes","people"] (pX K m.bF):=⟨_,_,m.JT,m.kK.F.kp,m.kK.b,FS m⟩
def Odd (rs ss:List Str)(z:Str):Prop:=∃i,ss[i]? =some z/\z∉rs/\∀y∈ss.take i,y∈rs
def HouseU (C:Addr)(H:Hp)(h:Addr)(f l:Int)(rz ps:List (Str×Int))(us:List V)(ds:List aF):Prop:=∃dx qs qp qd nk kvs,H h=some (.ins C dx (DP f l qs qp qd))/\H qs=some (.dK (szK rz))/\H qp=some (.dK kvs)/\kvs.map (·.1)=(szK rz).map (·.1)/\u4 rz ps kvs/\H qd=some (.dK nk)/\nk.map (·.1)=(ds.map fun d=>(.inr d.1:Key))/\nk.map (·.2)=us
theorem GQ {D:aS}{H:Hp}:∀{nk:List (Key×V)}{ds:List aF},nk.map (·.1)=(ds.map fun d=>(.inr d.1:Key))->Paired (D.at' H) (nk.map (·.2)) ds->pY D H nk ds
 | [],[],_,_=> .nil
 | [],_::_,h,_=>nomatch h
 | _::_,[],h,_=>nomatch h
 | e::nk,d::ds,h,.cons r t=> .cons ⟨(List.cons.inj h).1,r⟩ (GQ (List.cons.inj h).2 t)
theorem HouseU.house {C:Addr}{D:aS}{H:Hp}{h:Addr}{f l:Int}{rz ps:List (Str×Int)}{us:List V}{ds:List aF} (x:HouseU C H h f l rz ps us ds) (hd:Paired (D.at' H) us ds):aX C D H h f l rz ps ds:=by
 walk_at"g1";obtain⟨dx,qs,qp,qd,nk,kvs,e1,e2,e3,e4,e5,e6,e7,rfl⟩:=x;walk_at"g2";exact⟨dx,qs,qp,qd,nk,kvs,e1,e2,e3,e4,e5,e6,GQ e7 hd⟩
structure HX (NT TW NR NH p C:Addr)(f l:Int)(rz ps:List (Str×Int))(us:List V)(ds:List aF)(H:Hp)(Q:VK)(E:XK):Prop where
 tn:f<0∨l<f->Ref0 NT H E
 dr:0<=f->f<=l->∀z,Dup (rz.map (·.1)) z->Refd TW z H E
 dd:0<=f->f<=l->(rz.map (·.1)).Nodup->∀z,Dup (ds.map (·.1)) z->Refd TW z H E
 st:0<=f->f<=l->(rz.map (·.1)).Nodup->(ds.map (·.1)).Nodup->∀z,Odd (rz.map (·.1)) (cE ds ps) z->Refd NR z H E
 sp:0<=f->f<=l->(rz.map (·.1)).Nodup->(ds.map (·.1)).Nodup->(∀z∈cE ds ps,z∈rz.map (·.1))->¬g6 rz ps->Ref0 NH H E
 ok:0<=f->f<=l->(rz.map (·.1)).Nodup->(ds.map (·.1)).Nodup->(∀z∈cE ds ps,z∈rz.map (·.1))->g6 rz ps->∀H',SameBut p H H'->HouseU C H' p f l rz ps us ds->Q .non H'
inductive mF (K:W.Frag)(D:aS)(NT TW NR NH:Addr)(vs:List V)(H:Hp)(Q:VK)(E:XK):Prop
 | mk (p C dx a b c:Addr) (ws us cs:List V) (rz ps:List (Str×Int)) (ds:List aF) (f l:Int) (_:vs=[.ref p,.ref a,.ref b,.ref c,.int l,.int f]) (_:DCls K C) (_:H p=some (.ins C dx [])) (_:H a=some (.lst ws)) (_:RoomsAt H ws rz) (_:SqL K H b us) (_:Paired (D.at' H) us ds) (_:SqL K H c cs) (_:Paired (b5 H) cs ps) (_:(∀d∈ds,EndS d)) (_:rz.length<=20) (_:ds.length<=20) (_:ps.length<=40) (_:HX NT TW NR NH p C f l rz ps us ds H Q E):mF K D NT TW NR NH vs H Q E
theorem VP {D:aS}{NT TW NR NH:Addr}{H:Hp}{Q:VK}{E:XK}{p C dx a b c:Addr}{ws us cs:List V}{rz ps:List (Str×Int)}{ds:List aF}{f l:Int} (dc:DCls K C) (hp:H p=some (.ins C dx [])) (ha:H a=some (.lst ws)) (hr:RoomsAt H ws rz) (hb:SqL K H b us) (hd:Paired (D.at' H) us ds) (hc:SqL K H c cs) (hcp:Paired (b5 H) cs ps) (hes:∀d∈ds,EndS d) (lr:rz.length<=20) (ld:ds.length<=20) (lp:ps.length<=40) (k:HX NT TW NR NH p C f l rz ps us ds H Q E):mF K D NT TW NR NH [.ref p,.ref a,.ref b,.ref c,.int l,.int f] H Q E:=⟨_,_,_,_,_,_,_,_,_,_,_,_,_,_,rfl,dc,hp,ha,hr,hb,hd,hc,hcp,hes,lr,ld,lp,k⟩
theorem w6 (m:M K mg):bD P w K mg base (CXE P w) 6 m.jI m.fB ["self","rooms","doors","people","last","first"] (mF K (aH P w K mg base none) m.bO m.bP m.bH m.bF):=by
 refine m.zT.okE sc_House___init__ (fun vs H Q E h=> ?_) (fun cdv A outer s H vs Q E hr h=> ?_)
 ·walk_at"g1";obtain⟨p,C,dx,a,b,c,ws,us,cs,rz,ps,ds,f,l,rfl,dc,hp,ha,hra,hb,hd,hc,hcp,hes,lr,ld,lp,k⟩:=h;walk_at"g2";rfl
 ·walk_at"g1";obtain⟨p,C,dx,a,b,c,ws,us,cs,rz,ps,ds,f,l,rfl,dc,hp,ha,hra,hb,hd,hc,hcp,hes,lr,ld,lp,k⟩:=h;walk_at"g2";have nd:=sc_House___init__.nd;walk_at"hu";have F_added_people:= @qF P w K mg base m;have F_need_each_once:= @wZ P w K mg base m;have F_need_space:= @FP P w K mg base m;have F_need_turns:= @FK P w K mg base m;have F_rooms_spoken_of:= @vN P w K mg base m;have Fx_need_rooms:=C3 (P:=P) (w:=w) (base:=base) m;refine⟨_,(aC (cC (iM F_need_turns hr eU (aA (pv 5) (aA (pv 4) aB))))
   (aC (cC (iM F_need_each_once hr eU (aA (cI (N:=["name","size"]) (nl:=2) (ci:=[]) rfl (blk (s.heap.objs.size+1) rfl rfl rfl (by kernel_rfl)) (bG (pv 1)) (fun _ _ _ _=>(oG (K:=K) (n:=2) rfl (bU (aL (i:=0) (show (["name","size"]:List Str).Nodup by decide +kernel) rfl (by walk_at"oi")) (bU (aL (i:=1) (show (["name","size"]:List Str).Nodup by decide +kernel) rfl (by walk_at"oi")) eK)))) (fun _ _ _ _=>dF) (fun _ _ _ _=>(pv 0))) aB)))
   (aC (cC (iM F_need_each_once hr eU (aA (cI (N:=["door"]) (nl:=1) (ci:=[]) rfl (blk (s.heap.objs.size+1) rfl rfl rfl (by kernel_rfl)) (bG (pv 2)) (fun _ _ _ _=>(aL (i:=0) (show (["door"]:List Str).Nodup by decide +kernel) rfl (by walk_at"oi"))) (fun _ _ _ _=>dF) (fun _ _ _ _=>(rK (K:=K) (pv 0) rfl))) aB)))
   (aC (aP (i:=6) nd rfl (by walk_at"oi") (qH (MJ rfl) rfl m.aCt ZQ (aA (pv 1) aB)))
   (aC (cC (iM Fx_need_rooms hr eU (aA (b9 F_rooms_spoken_of hr (aA (pv 2) (aA (pv 3) aB))) (aA (pv 6) aB))))
   (aC (cC (iM F_need_space hr eU (aA (pv 6) (aA (pv 3) aB))))
   (aC (dY (pv 0) (pv 5) rfl)
   (aC (dY (pv 0) (pv 4) rfl)
   (aC (dY (pv 0) (pv 6) rfl)
   (aC (dY (pv 0) (b9 F_added_people hr (aA (pv 6) (aA (pv 3) aB))) rfl)
   (aC (dY (pv 0) yR rfl)
   (aD (cU wE rfl (bG (pv 2)) (aL (i:=7) nd rfl (by walk_at"oi")) (aD (jQ hu1 (bK (pv 0) rfl) (bK (pv 7) rfl) (pv 7) rfl))))))))))))))),?_⟩
  refine aM (σ:=[some (.ref p),some (.ref a),some (.ref b),some (.ref c),some (.int l),some (.int f),none,none]) rfl ?_;walk_at"cx";have hul:us.length=ds.length:=Paired.length hd;have hwl:ws.length=rz.length:=Paired.length hra;walk_at"go";refine US (fun h0 h1=> ?_) k.tn;walk_at"go";refine rN (α:=Str×Int) (xs:=rz) (vs:=ws) (fun e=> .str e.1) (fun e=> .int e.2) (fun _=>true) (fun z y _=>y= .str z.1) (fun _ _ _ _ h _=>h) (by rw[sizeLine_eq];lia) (rest:=[]) (by rfl) (SqL.of ha) hra (fun x H1 hx s1 R hR=>hR _ (Same.refl _)) (fun x H1 hx _ s1 R hR=> ?_) ?_
  ·walk_at"go";exact hR _ _ rfl (Same.refl _)
  intro ys H1 s1 hys;rw[cZ]at hys;obtain rfl:=dW hys;walk_at"go";rename_i q1 H2 n2 S2 e2;refine LS (ss:=rz.map (·.1)) (SqL.of (by rw[e2,List.map_map];rfl)) (by rw[List.length_map];lia) (fun nr H3 S3=> ?_) fun z hz=>(k.dr h0 h1 z hz).sm (s1.trans S2);have sA:Same H H3:=(s1.trans S2).trans S3;walk_at"go";refine cR (α:=aF) (xs:=ds) (vs:=us) ((aH P w K mg base none).at' H3) (fun _=>true) (fun d y _=>y= .str d.1) (fun _ _ _ _ h _=>h) (by rw[sizeLine_eq];lia) (rest:=[]) (by rfl) (sA.seq hb) (dE hd sA) (fun v x H1 _ hx s1 R hR=>hR _ (Same.refl _)) ?_ ?_
  ·rintro v ⟨n,st,e,lt⟩ H4 hv hm - s4 R hR;walk_at"g1";obtain⟨q,C9,dx',fs,fp,rfl,hq,dcC,l1,l2,l3,l4,l5,mcE,hfp,hlt⟩:=DoorAt.ex hv;walk_at"g2";have hq':=s4 _ _ hq;walk_at"go";exact hR _ _ rfl (Same.refl _)
  intro ys H4 s4 hys;rw[cZ]at hys;obtain rfl:=dW hys;walk_at"go";rename_i q5 H5 n5 S5 e5;refine LS (ss:=ds.map (·.1)) (SqL.of (by rw[e5,List.map_map];rfl)) (by rw[List.length_map];lia) (fun nd' H6 S6=> ?_) fun z hz=>(k.dd h0 h1 nr z hz).sm ((sA.trans s4).trans S5);have sB:Same H H6:=((sA.trans s4).trans S5).trans S6;walk_at"go";refine VI (sB _ _ ha) (xX (hra.sm sB)) fun qs H7 n7 S7 e7=> ?_;rw[T4 nr]at e7;have sC:Same H H7:=sB.trans S7;walk_at"go";refine R5 (sC.seq hb) (dE hd sC) hes ld (sC.seq hc) (iD hcp sC) lp fun q8 H8 S8 e8=> ?_;have isz:∀z,(bA (szK rz) (.inr z)).isSome=true↔z∈rz.map (·.1):=fun z=>by
   constructor
   ·intro h;obtain⟨v,hv⟩:=Option.isSome_iff_exists.mp h;have:=ZT hv;rw[D2]at this;obtain⟨y,hy,e⟩:=List.mem_map.mp this;cases e;exact hy
   ·intro h;obtain⟨i,_,e⟩:=IS nr h;rw[e];rfl
  walk_at"go";refine U0 (SqL.of e8) (.inl (S8 _ _ e7)) (fun hall H9 S9=> ?_) fun i z hz hno hbef=> ?_
  rotate_left
  ·refine(k.st h0 h1 nr nd' z ⟨i,hz,fun hm=> ?_,fun y hy=>(isz y).mp (hbef y hy)⟩).sm (sC.trans S8);rw[(isz z).mpr hm]at hno;cases hno
  have hsp:∀z∈cE ds ps,z∈rz.map (·.1):=fun z hz=>(isz z).mp (hall z hz);have hpr:∀p∈ps,p.1∈rz.map (·.1):=fun p hp=>hsp _ (List.mem_append_right _ (List.mem_map.mpr ⟨p,hp,rfl⟩));have sD:Same H7 H9:=S8.trans S9;walk_at"go";refine TZ (sD _ _ e7) ((sC.trans sD).seq hc) (iD hcp (sC.trans sD)) hpr nr (by lia) (by lia) (fun hf H10 S10=> ?_) fun hf=>(k.sp h0 h1 nr nd' hsp hf).sm (sC.trans sD);have sE:Same H H10:=(sC.trans sD).trans S10;have es:H10 qs=some (.dK (szK rz)):=S10 _ _ (sD _ _ e7);have hp10:=sE _ _ hp;have hqp:qs≠p:=fun z=>by rw[z,hp10]at es;cases es
  walk_at"go";rename_i H11 B11 e11 H12 B12 e12 H13 B13 e13;have sb13:SameBut p H10 H13:=by walk_at"sb"
  have es13:=sb13 _ _ es hqp;have hc13:SqL K H13 c cs:=L6 (sE.seq hc) hp10 sb13;have hcp13:Paired (b5 H13) cs ps:=Paired.imp' (fun v r ⟨q,e,hq⟩=>⟨q,e,sb13 _ _ (sE _ _ hq) fun z=>by rw[z,hp]at hq;cases hq⟩) hcp;refine K6 es13 hc13 hcp13 hpr nr (by lia) fun qp H14 kvs n14 S14 e14 hkk hv14=> ?_;have hp14:=S14 _ _ e13;walk_at"go";rename_i H15 B15 e15 qd H16 n16 S16 e16 H17 B17 e17;have hqd:qd≠p:=fun z=>by rw[z,e15]at n16;cases n16
  have sb17:SameBut p H10 H17:=((((sb13.trans S14.but).trans B15).trans S16.but).trans B17)
  have ed17:=B17 _ _ e16 hqd;have es17:=sb17 _ _ es hqp;have hqpp:qp≠p:=fun z=>by rw[z,e13]at n14;cases n14
  have eq17:H17 qp=some (.dK kvs):=B17 _ _ (S16 _ _ (B15 _ _ e14 hqpp)) hqpp;have hqpd:qp≠qd:=fun z=>by rw[←z,B15 _ _ e14 hqpp]at n16;cases n16
  have fresh:∀x u,H10 x=some u->x≠p->x≠qd:=fun x u hx hxp z=>by
   have h15:H15 x=some u:=B15 _ _ (S14 _ _ (sb13 _ _ hx hxp)) hxp;rw[z,n16]at h15;cases h15
  have hb17:SqL K H17 b us:=L6 (sE.seq hb) hp10 sb17;have hd17:Paired ((aH P w K mg base none).at' H17) us ds:=Paired.imp' (fun v d h=>(aH P w K mg base none).but ((aH P w K mg base none).same h sE) hp10 rfl sb17) hd;have ddq:∀{H':Hp}{v:V}{d:aF},SameBut qd H17 H'->(aH P w K mg base none).at' H17 v d->(aH P w K mg base none).at' H' v d:=fun sb h=>(aH P w K mg base none).but h ed17 trivial sb;refine E4 hb17 ?_;let Pv1:Nat->St->Hp->Prop:=fun i σ' H'=>SameBut qd H17 H'/\(∃nk,H' qd=some (.dK nk)/\nk.length<=i/\nk.map (·.1)=((ds.take i).map fun d=>(.inr d.1:Key))/\nk.map (·.2)=us.take i)/\∃x,σ'=[some (.ref p),some (.ref a),some (.ref b),some (.ref c),some (.int l),some (.int f),some (.ref qs),x];refine cX us Pv1 ⟨SameBut.refl,⟨[],ed17,Nat.le_refl _,rfl,rfl⟩,_,rfl⟩ (fun i σ' H' _ q=>JF hb17 ed17 q.1) ?_ ?_
  ·rintro i x _ H' hx hq_;walk_at"g1";obtain⟨sb,⟨nk,ek,hk,pk,pv'⟩,y,rfl⟩:=hq_;walk_at"g2";have hi:i<us.length:=(List.getElem?_eq_some_iff.mp hx).1;obtain⟨d,hdx⟩:∃d,ds[i]? =some d:=⟨_,List.getElem?_eq_getElem (by lia)⟩
   have hD:=Paired.at2 hd17 hx hdx;walk_at"g1";obtain⟨n,st,e,lt⟩:=d;walk_at"g2";have hD':=ddq sb hD;walk_at"g1";obtain⟨q,C9,dx',fs,fp,rfl,hq',dcC,l1,l2,l3,l4,l5,mcE,hfp,hlt⟩:=DoorAt.ex hD';walk_at"g2";have hpp:H' p=some (.ins C dx (DP f l qs qp qd)):=sb _ _ e17 (Ne.symm hqd);have hnone:bA nk (.inr n)=none:=vO fun e he z=>by
    have h1:e.1∈nk.map (·.1):=List.mem_map.mpr ⟨e,he,rfl⟩;rw[pk,z]at h1;obtain⟨d',hd',e'⟩:=List.mem_map.mp h1;have hn:n∉(ds.map (·.1)).take i:=k8 nd' (by rw[List.getElem?_map,hdx];rfl)
    apply hn
    rw[←List.map_take];exact List.mem_map.mpr ⟨d',hd',Sum.inr.inj e'⟩
   walk_at"go";refine yO ek (by rw[sizeLine_eq];lia) fun H9' B9' e9'=> ?_;rw[oS _ hnone]at e9';exact⟨by walk_at"sb",⟨_,e9',by rw[List.length_append];show nk.length+1<=_;lia,by rw[bR hdx,List.map_append,List.map_append,pk];rfl,by rw[bR hx,List.map_append,pv'];rfl⟩,_,rfl⟩
  ·rintro _ H' hq_;walk_at"g1";obtain⟨sb,⟨nk,ek,hk,pk,pv'⟩,y,rfl⟩:=hq_;walk_at"g2";rw[hul,List.take_length]at pk;rw[List.take_length]at pv';exact k.ok h0 h1 nr nd' hsp hf _ (fun x u hx hxp=>sb _ _ (sb17 _ _ (sE _ _ hx) hxp) (fresh x u (sE _ _ hx) hxp)) ⟨dx,qs,qp,qd,nk,kvs,sb _ _ e17 (Ne.symm hqd),sb _ _ es17 (fresh _ _ es hqp),sb _ _ eq17 hqpd,hkk,hv14,ek,pk,pv'⟩
theorem BP (m:M K mg):KcE P w K mg base "House" m.aI 6 [] (mF K (aH P w K mg base none) m.bO m.bP m.bH m.bF):=⟨_,_,_,_,m.aAn,m.WY,.nil,m.z5,w6 m⟩
structure HM (NT TW NR NH C:Addr)(f l:Int)(rz ps:List (Str×Int))(us:List V)(ds:List aF)(H:Hp)(Q:VK)(E:XK):Prop where
 tn:f<0∨l<f->Ref0 NT H E
 dr:0<=f->f<=l->∀z,Dup (rz.map (·.1)) z->Refd TW z H E
 dd:0<=f->f<=l->(rz.map (·.1)).Nodup->∀z,Dup (ds.map (·.1)) z->Refd TW z H E
 st:0<=f->f<=l->(rz.map (·.1)).Nodup->(ds.map (·.1)).Nodup->∀z,Odd (rz.map (·.1)) (cE ds ps) z->Refd NR z H E
 sp:0<=f->f<=l->(rz.map (·.1)).Nodup->(ds.map (·.1)).Nodup->(∀z∈cE ds ps,z∈rz.map (·.1))->¬g6 rz ps->Ref0 NH H E
 ok:0<=f->f<=l->(rz.map (·.1)).Nodup->(ds.map (·.1)).Nodup->(∀z∈cE ds ps,z∈rz.map (·.1))->g6 rz ps->∀p H',H p=none->Same H H'->HouseU C H' p f l rz ps us ds->Q (.ref p) H'
theorem ER {C NT TW NR NH:Addr}{D:aS}{H:Hp}{Q:VK}{E:XK}{dvs vs:List V}{a b c:Addr}{ws us cs:List V}{rz ps:List (Str×Int)}{ds:List aF}{f l:Int} (ev:vs++dvs=[.ref a,.ref b,.ref c,.int l,.int f]) (dc:DCls K C) (ha:H a=some (.lst ws)) (hr:RoomsAt H ws rz) (hb:SqL K H b us) (hd:Paired (D.at' H) us ds) (hc:SqL K H c cs) (hcp:Paired (b5 H) cs ps) (hes:∀d∈ds,EndS d) (lr:rz.length<=20) (ld:ds.length<=20) (lp:ps.length<=40) (k:HM NT TW NR NH C f l rz ps us ds H Q E):wK C (mF K D NT TW NR NH) dvs E Q vs H:=by
 intro x dx nx nd0 ne;have s0:Same H (upd (upd H dx (.own x)) x (.ins C dx [])):=fun b o e=>by
  rw[aK (aN e nx),aK (aN e nd0)];exact e
 rw[ev];exact VP dc aY (s0 _ _ ha) (hr.sm s0) (s0.seq hb) (dE hd s0) (s0.seq hc) (iD hcp s0) hes lr ld lp ⟨fun h=>(k.tn h).sm s0,fun a b z h=>(k.dr a b z h).sm s0,fun a b c z h=>(k.dd a b c z h).sm s0,fun a b c d z h=>(k.st a b c d z h).sm s0,fun a b c d e h=>(k.sp a b c d e h).sm s0,fun a b c d e h H' sb hh=>⟨rfl,k.ok a b c d e h x H' nx (fun b o q=>sb b o (s0 b o q) (aN q nx)) hh⟩⟩
theorem Y4 (rz:List (Str×Int)):((szK rz).map fun e=>kV e.1)=(rz.map (·.1)).map V.str:=by unfold szK;rw[List.map_map,List.map_map];rfl
theorem BK {D:aS}{H:Hp}:∀{nk:List (Key×V)}{ds:List aF},pY D H nk ds->(nk.map fun e=>kV e.1)=(ds.map (·.1)).map V.str
 | _,_,.nil=>rfl
 | (k,v)::_,_,.cons h t=>by
  rw[List.map_cons,BK t,List.map_cons,List.map_cons];have:k= .inr _:=h.1;rw[this];rfl
theorem BN {D:aS}{H:Hp}:∀{nk:List (Key×V)}{ds:List aF},pY D H nk ds->nk.map (·.1)=(ds.map (·.1)).map (Sum.inr:Str->Key)
 | _,_,.nil=>rfl
 | (k,v)::_,_,.cons h t=>by
  rw[List.map_cons,BN t,List.map_cons,List.map_cons];have:k= .inr _:=h.1;rw[this]
theorem RX {D:aS}{H:Hp}{nk:List (Key×V)}{ds:List aF} (h:pY D H nk ds):nk.length=ds.length:=Paired.length h
theorem U1 {D:aS}{H:Hp}{nk:List (Key×V)}{ds:List aF} (h:pY D H nk ds) (nd:(ds.map (·.1)).Nodup) {d:aF} (hd:d∈ds):∃v,bA nk (.inr d.1)=some v/\D.at' H v d:=by
 obtain⟨i,hi,e⟩:=List.getElem_of_mem hd;have hl:=RX h;have hx:nk[i]? =some nk[i]:=List.getElem?_eq_getElem (by lia);obtain⟨h1,h2⟩:=Paired.at2 h hx (show ds[i]? =some d by rw[List.getElem?_eq_getElem hi,e]);refine⟨_,?_,h2⟩;rw[←h1];exact jP (by rw[BN h];exact vB nd) (List.mem_of_getElem? hx)
inductive lB (C:Addr)(D:aS)(g:List (Str×Int)->List aF->List Str)(vs:List V)(H:Hp)(Q:VK)(E:XK):Prop
 | mk (h:Addr) (f l:Int) (rz ps:List (Str×Int)) (ds:List aF) (_:vs=[.ref h]) (_:aX C D H h f l rz ps ds) (_:∀p H',H p=none->Same H H'->H' p=some (.lst ((g rz ds).map V.str))->Q (.ref p) H'):lB C D g vs H Q E
theorem fJ {C:Addr}{D:aS}{g:List (Str×Int)->List aF->List Str}{H:Hp}{Q:VK}{E:XK}{h:Addr}{f l:Int}{rz ps:List (Str×Int)}{ds:List aF} (hh:aX C D H h f l rz ps ds) (k:∀p H',H p=none->Same H H'->H' p=some (.lst ((g rz ds).map V.str))->Q (.ref p) H'):lB C D g [.ref h] H Q E:=⟨_,_,_,_,_,_,rfl,hh,k⟩
theorem C1 (m:M K mg):bD P w K mg base CX0 1 m.nF m.nR.d ["self"] (lB m.aI (aH P w K mg base (some 1)) fun rz _=>rz.map (·.1)):=by
 refine m.nR.F.ok sc_House_rooms (fun vs H Q E h=> ?_) (fun cdv A outer s H vs Q E hr h=> ?_)
 ·walk_at"g1";obtain⟨h,f,l,rz,ps,ds,rfl,hh,k⟩:=h;walk_at"g2";rfl
 ·walk_at"g1";obtain⟨h,f,l,rz,ps,ds,rfl,hh,k⟩:=h;walk_at"g2";have nd:=sc_House_rooms.nd;walk_at"hu";have w_dc_House:=m.bN;refine⟨_,(aD (aW (qH (AZ rfl) rfl m.JX C0 (aA (bK (pv 0) rfl) aB)))),?_⟩;refine aM (σ:=[some (.ref h)]) rfl ?_;walk_at"cx";walk_at"g1";obtain⟨dx,qs,qp,qd,nk,kvs,e1,e2,e3,e4,e5,e6,e7⟩:=hh.ex;walk_at"g2";walk_at"go";refine GU (.inl e2) fun p H1 n1 S1 e8=> ?_;rw[Y4]at e8;walk_at"go";exact k _ _ n1 S1 e8
theorem rT (m:M K mg):Mc P w K mg base m.aI "rooms" 1 (lB m.aI (aH P w K mg base (some 1)) fun rz _=>rz.map (·.1)):=⟨_,_,_,m.bN.ic.cl,m.EG,m.nR.b,C1 m⟩
theorem DO (m:M K mg):bD P w K mg base CX0 1 m.nM m.nO.d ["self"] (lB m.aI (aH P w K mg base (some 1)) fun _ ds=>ds.map (·.1)):=by
 refine m.nO.F.ok sc_House_doors (fun vs H Q E h=> ?_) (fun cdv A outer s H vs Q E hr h=> ?_)
 ·walk_at"g1";obtain⟨h,f,l,rz,ps,ds,rfl,hh,k⟩:=h;walk_at"g2";rfl
 ·walk_at"g1";obtain⟨h,f,l,rz,ps,ds,rfl,hh,k⟩:=h;walk_at"g2";have nd:=sc_House_doors.nd;walk_at"hu";have w_dc_House:=m.bN;refine⟨_,(aD (aW (qH (AZ rfl) rfl m.JX C0 (aA (bK (pv 0) rfl) aB)))),?_⟩;refine aM (σ:=[some (.ref h)]) rfl ?_;walk_at"cx";walk_at"g1";obtain⟨dx,qs,qp,qd,nk,kvs,e1,e2,e3,e4,e5,e6,e7⟩:=hh.ex;walk_at"g2";walk_at"go";refine GU (.inl e6) fun p H1 n1 S1 e8=> ?_;rw[BK e7]at e8;walk_at"go";exact k _ _ n1 S1 e8
theorem d8 (m:M K mg):Mc P w K mg base m.aI "doors" 1 (lB m.aI (aH P w K mg base (some 1)) fun _ ds=>ds.map (·.1)):=⟨_,_,_,m.bN.ic.cl,m.EH,m.nO.b,DO m⟩
inductive j7 (C:Addr)(D:aS)(vs:List V)(H:Hp)(Q:VK)(E:XK):Prop
 | mk (h:Addr) (z:Str) (f l:Int) (rz ps:List (Str×Int)) (ds:List aF) (_:vs=[.ref h,.str z]) (_:aX C D H h f l rz ps ds) (_:(rz.map (·.1)).Nodup) (_:z∈rz.map (·.1)) (_:∀H',Same H H'->Q .non H'):j7 C D vs H Q E
theorem yE {C:Addr}{D:aS}{H:Hp}{Q:VK}{E:XK}{h:Addr}{z:Str}{f l:Int}{rz ps:List (Str×Int)}{ds:List aF} (hh:aX C D H h f l rz ps ds) (nr:(rz.map (·.1)).Nodup) (hz:z∈rz.map (·.1)) (k:∀H',Same H H'->Q .non H'):j7 C D [.ref h,.str z] H Q E:=⟨_,_,_,_,_,_,_,rfl,hh,nr,hz,k⟩
theorem uZ (m:M K mg):bD P w K mg base CX0 2 m.hJ m.hZ.d ["self","room"] (j7 m.aI (aH P w K mg base (some 1))):=by
 refine m.hZ.F.ok sc_House_need_room (fun vs H Q E h=> ?_) (fun cdv A outer s H vs Q E hr h=> ?_)
 ·walk_at"g1";obtain⟨h,z,f,l,rz,ps,ds,rfl,hh,nr,hz,k⟩:=h;walk_at"g2";rfl
 ·walk_at"g1";obtain⟨h,z,f,l,rz,ps,ds,rfl,hh,nr,hz,k⟩:=h;walk_at"g2";have nd:=sc_House_need_room.nd;walk_at"hu";have F_need_rooms:= @FI P w K mg base m;have w_dc_House:=m.bN;refine⟨_,(aD (cC (b9 F_need_rooms hr (aA (bY (aA (pv 1) aB)) (aA (bK (pv 0) rfl) aB))))),?_⟩;refine aM (σ:=[some (.ref h),some (.str z)]) rfl ?_;walk_at"cx";walk_at"g1";obtain⟨dx,qs,qp,qd,nk,kvs,e1,e2,e3,e4,e5,e6,e7⟩:=hh.ex;walk_at"g2";obtain⟨i,hi,ev⟩:=IS nr hz;walk_at"go";rename_i p H1 n1 S1 e8;refine aAa (ss:=[z]) (SqL.of e8) (.inl (S1 _ _ e2)) (fun y hy=>by cases List.mem_singleton.mp hy;rw[ev];rfl) fun H2 S2=> ?_;walk_at"go";exact k _ (S1.trans S2)
theorem mB (m:M K mg):Mc P w K mg base m.aI "need_room" 2 (j7 m.aI (aH P w K mg base (some 1))):=⟨_,_,_,m.bN.ic.cl,m.vX,m.hZ.b,uZ m⟩
inductive sQ (C:Addr)(D:aS)(vs:List V)(H:Hp)(Q:VK)(E:XK):Prop
 | mk (h:Addr) (z:Str) (i f l:Int) (rz ps:List (Str×Int)) (ds:List aF) (_:vs=[.ref h,.str z]) (_:aX C D H h f l rz ps ds) (_:(rz.map (·.1)).Nodup) (_:(z,i)∈rz) (_:∀H',Same H H'->Q (.int i) H'):sQ C D vs H Q E
theorem CZ {C:Addr}{D:aS}{H:Hp}{Q:VK}{E:XK}{h:Addr}{z:Str}{i f l:Int}{rz ps:List (Str×Int)}{ds:List aF} (hh:aX C D H h f l rz ps ds) (nr:(rz.map (·.1)).Nodup) (hz:(z,i)∈rz) (k:∀H',Same H H'->Q (.int i) H'):sQ C D [.ref h,.str z] H Q E:=⟨_,_,_,_,_,_,_,_,rfl,hh,nr,hz,k⟩
theorem CS (m:M K mg):bD P w K mg base CX0 3 m.nQ m.mW.d ["self","room"] (sQ m.aI (aH P w K mg base (some 1))):=by
 refine m.mW.F.ok sc_House_holds (fun vs H Q E h=> ?_) (fun cdv A outer s H vs Q E hr h=> ?_)
 ·walk_at"g1";obtain⟨h,z,i,f,l,rz,ps,ds,rfl,hh,nr,hz,k⟩:=h;walk_at"g2";rfl
 ·walk_at"g1";obtain⟨h,z,i,f,l,rz,ps,ds,rfl,hh,nr,hz,k⟩:=h;walk_at"g2";have nd:=sc_House_holds.nd;walk_at"hu";have w_dc_House:=m.bN;have w_mc_House_need_room:= @mB P w K mg base m;refine⟨_,(aC (cC (jY 2 hr (pv 0) (aA (pv 1) aB)))
   (aD (aW (fK hu1 (bK (pv 0) rfl) (pv 1) (fun _ _=>rfl))))),?_⟩
  refine aM (σ:=[some (.ref h),some (.str z)]) rfl ?_;walk_at"cx";walk_at"g1";obtain⟨dx,qs,qp,qd,nk,kvs,e1,e2,e3,e4,e5,e6,e7⟩:=hh.ex;walk_at"g2";walk_at"go";refine yE hh nr (List.mem_map.mpr ⟨_,hz,rfl⟩) fun H1 S1=> ?_;have e11:=S1 _ _ e1;walk_at"go";refine oN (.inl (S1 _ _ e2)) (DA nr hz) ?_;walk_at"go";exact k _ S1
theorem lD (m:M K mg):Mc P w K mg base m.aI "holds" 3 (sQ m.aI (aH P w K mg base (some 1))):=⟨_,_,_,m.bN.ic.cl,m.D7,m.mW.b,CS m⟩
inductive uA (C:Addr)(D:aS)(vs:List V)(H:Hp)(Q:VK)(E:XK):Prop
 | mk (h:Addr) (z:Str) (f l:Int) (rz ps:List (Str×Int)) (ds:List aF) (_:vs=[.ref h,.str z]) (_:aX C D H h f l rz ps ds) (_:(rz.map (·.1)).Nodup) (_:z∈rz.map (·.1)) (_:∀H',Same H H'->Q (.int (bT ps z)) H'):uA C D vs H Q E
theorem L4 {C:Addr}{D:aS}{H:Hp}{Q:VK}{E:XK}{h:Addr}{z:Str}{f l:Int}{rz ps:List (Str×Int)}{ds:List aF} (hh:aX C D H h f l rz ps ds) (nr:(rz.map (·.1)).Nodup) (hz:z∈rz.map (·.1)) (k:∀H',Same H H'->Q (.int (bT ps z)) H'):uA C D [.ref h,.str z] H Q E:=⟨_,_,_,_,_,_,_,rfl,hh,nr,hz,k⟩
theorem C5 (m:M K mg):bD P w K mg base CX0 3 m.mX m.nS.d ["self","room"] (uA m.aI (aH P w K mg base (some 1))):=by
 refine m.nS.F.ok sc_House_found (fun vs H Q E h=> ?_) (fun cdv A outer s H vs Q E hr h=> ?_)
 ·walk_at"g1";obtain⟨h,z,f,l,rz,ps,ds,rfl,hh,nr,hz,k⟩:=h;walk_at"g2";rfl
 ·walk_at"g1";obtain⟨h,z,f,l,rz,ps,ds,rfl,hh,nr,hz,k⟩:=h;walk_at"g2";have nd:=sc_House_found.nd;walk_at"hu";have w_dc_House:=m.bN;have w_mc_House_need_room:= @mB P w K mg base m;refine⟨_,(aC (cC (jY 2 hr (pv 0) (aA (pv 1) aB)))
   (aD (aW (fK hu1 (bK (pv 0) rfl) (pv 1) (fun _ _=>rfl))))),?_⟩
  refine aM (σ:=[some (.ref h),some (.str z)]) rfl ?_;walk_at"cx";walk_at"g1";obtain⟨dx,qs,qp,qd,nk,kvs,e1,e2,e3,e4,e5,e6,e7⟩:=hh.ex;walk_at"g2";walk_at"go";refine yE hh nr hz fun H1 S1=> ?_;have e11:=S1 _ _ e1;walk_at"go";refine oN (.inl (S1 _ _ e3)) (e5 z hz) ?_;walk_at"go";exact k _ S1
theorem rW (m:M K mg):Mc P w K mg base m.aI "found" 3 (uA m.aI (aH P w K mg base (some 1))):=⟨_,_,_,m.bN.ic.cl,m.EI,m.nS.b,C5 m⟩
inductive wI (C:Addr)(D:aS)(vs:List V)(H:Hp)(Q:VK)(E:XK):Prop
 | mk (h:Addr) (d:aF) (f l:Int) (rz ps:List (Str×Int)) (ds:List aF) (_:vs=[.ref h,.str d.1]) (_:aX C D H h f l rz ps ds) (_:(ds.map (·.1)).Nodup) (_:d∈ds) (_:∀v,D.at' H v d->Q v H):wI C D vs H Q E
theorem BE {C:Addr}{D:aS}{H:Hp}{Q:VK}{E:XK}{h:Addr}{d:aF}{f l:Int}{rz ps:List (Str×Int)}{ds:List aF} (hh:aX C D H h f l rz ps ds) (nd:(ds.map (·.1)).Nodup) (hd:d∈ds) (k:∀v,D.at' H v d->Q v H):wI C D [.ref h,.str d.1] H Q E:=⟨_,_,_,_,_,_,_,rfl,hh,nd,hd,k⟩
theorem FO (m:M K mg):bD P w K mg base CX0 1 m.pU m.pM.d ["self","name"] (wI m.aI (aH P w K mg base (some 1))):=by
 refine m.pM.F.ok sc_House_door (fun vs H Q E h=> ?_) (fun cdv A outer s H vs Q E hr h=> ?_)
 ·walk_at"g1";obtain⟨h,d,f,l,rz,ps,ds,rfl,hh,ndd,hd,k⟩:=h;walk_at"g2";rfl
 ·walk_at"g1";obtain⟨h,d,f,l,rz,ps,ds,rfl,hh,ndd,hd,k⟩:=h;walk_at"g2";have nd:=sc_House_door.nd;walk_at"hu";have w_dc_House:=m.bN;refine⟨_,(aC (bV (BI (u3 hu1 (pv 1) (bK (pv 0) rfl)) (by with_unfolding_all rfl)) (aD tU) bJ)
   (aD (aW (fK hu1 (bK (pv 0) rfl) (pv 1) (fun _ _=>rfl))))),?_⟩
  refine aM (σ:=[some (.ref h),some (.str d.1)]) rfl ?_;walk_at"cx";walk_at"g1";obtain⟨dx,qs,qp,qd,nk,kvs,e1,e2,e3,e4,e5,e6,e7⟩:=hh.ex;walk_at"g2";obtain⟨v,ev,hv⟩:=U1 e7 ndd hd;walk_at"go";refine sT (.inl e6) ?_;rw[show (bA nk (.inr d.1)).isSome=true by rw[ev];rfl];walk_at"go";refine oN (.inl e6) ev ?_;walk_at"go";exact k _ hv
theorem iN (m:M K mg):Mc P w K mg base m.aI "door" 1 (wI m.aI (aH P w K mg base (some 1))):=⟨_,_,_,m.bN.ic.cl,m.F0,m.pM.b,FO m⟩
def bI (rz:List (Str×Int))(f:Int)(n:Nat):List (Str×Int):=((List.range n).map fun (i:Nat)=>rz.map fun e=>(e.1,f+(i:Int))).flatten
theorem iJ (rz:List (Str×Int))(f:Int)(n:Nat):bI rz f (n+1)=bI rz f n++rz.map fun e=>(e.1,f+(n:Int)):=by
 unfold bI;rw[List.range_succ,List.map_append,List.flatten_append];simp
theorem jU (rz:List (Str×Int))(f:Int):∀n,(bI rz f n).length=n * rz.length
 | 0=>by simp[bI]
 | n+1=>by rw[iJ,List.length_append,jU rz f n,List.length_map,Nat.succ_mul]
theorem GR {H:Hp}{t:Int}:∀{rz:List (Str×Int)}{ys:List V},Paired (fun (e:Key×V) y=>∀z,e.1= .inr z->b5 H y (z,t)) (szK rz) ys->Paired (b5 H) ys (rz.map fun e=>(e.1,t))
 | [],_,.nil=> .nil
 | _::_,_,.cons h t=> .cons (h _ rfl) (GR t)
theorem K7 {H H':Hp}{p:Addr}{xs ws:List V}{ps:List (Str×Int)} (h:Paired (b5 H) ws ps) (e:H p=some (.lst xs)) (sb:SameBut p H H'):Paired (b5 H') ws ps:=Paired.imp' (fun v r ⟨q,e1,h⟩=>⟨q,e1,sb _ _ h fun z=>by rw[z,e]at h;cases h⟩) h
theorem eX {α β:Type}{F:α->β->Prop}:∀{l l2:List α}{m m2:List β},Paired F l m->Paired F l2 m2->Paired F (l++l2) (m++m2)
 | _,_,_,_,.nil,h=>h
 | _,_,_,_,.cons r t,h=> .cons r (eX t h)
inductive tN (C:Addr)(D:aS)(vs:List V)(H:Hp)(Q:VK)(E:XK):Prop
 | mk (h:Addr) (f l:Int) (rz ps:List (Str×Int)) (ds:List aF) (_:vs=[.ref h]) (_:aX C D H h f l rz ps ds) (_:0<=f) (_:f<=l) (_:l<1000000000000) (_:l - f<=1000) (_:rz.length<=20) (_:∀p ys H',H p=none->Same H H'->H' p=some (.lst ys)->Paired (b5 H') ys (bI rz f (l+1 - f).toNat)->Q (.ref p) H'):tN C D vs H Q E
theorem DM {C:Addr}{D:aS}{H:Hp}{Q:VK}{E:XK}{h:Addr}{f l:Int}{rz ps:List (Str×Int)}{ds:List aF} (hh:aX C D H h f l rz ps ds) (h0:0<=f) (h1:f<=l) (h2:l<1000000000000) (h3:l - f<=1000) (lr:rz.length<=20) (k:∀p ys H',H p=none->Same H H'->H' p=some (.lst ys)->Paired (b5 H') ys (bI rz f (l+1 - f).toNat)->Q (.ref p) H'):tN C D [.ref h] H Q E:=⟨_,_,_,_,_,_,rfl,hh,h0,h1,h2,h3,lr,k⟩
theorem D3 (m:M K mg):bD P w K mg base CX0 1 m.m8 m.nK.d ["self"] (tN m.aI (aH P w K mg base (some 1))):=by
 refine m.nK.F.ok sc_House_pairs (fun vs H Q E h=> ?_) (fun cdv A outer s H vs Q E hr h=> ?_)
 ·walk_at"g1";obtain⟨h,f,l,rz,ps,ds,rfl,hh,h0,h1,h2,h3,lr,k⟩:=h;walk_at"g2";rfl
 ·walk_at"g1";obtain⟨h,f,l,rz,ps,ds,rfl,hh,h0,h1,h2,h3,lr,k⟩:=h;walk_at"g2";have nd:=sc_House_pairs.nd;walk_at"hu";have w_dc_House:=m.bN;refine⟨_,(aC (aP (i:=1) nd rfl (by walk_at"oi") (bY aB))
   (aC (cU PassesOwn.never rfl (Q7 rfl m.D4 (aA (bK (pv 0) rfl) (aA (aQ cG (bK (pv 0) rfl) aE) aB))) (aL (i:=2) nd rfl (by walk_at"oi")) (aD (cC (wO PySem.F.plainAttrs_list PySem.F.slot_list_extend PySem.F.type_list_extend R7 (pv 1) (aA (DX (cI (N:=["room","turn"]) (nl:=1) (ci:=[2]) rfl (blk (s.heap.objs.size+1) rfl rfl rfl (by kernel_rfl)) (yU (bK (pv 0) rfl)) (fun _ _ _ _=>(aL (i:=0) (show (["room","turn"]:List Str).Nodup by decide +kernel) rfl (by walk_at"oi"))) (fun _ _ _ _=>dF) (fun _ _ _ _=>(bE (aA (pv 0) (aA (pv 1) aB)))))) aB)))))
   (aD (aW (pv 1))))),?_⟩
  refine aM (σ:=[some (.ref h),none,none]) rfl ?_;walk_at"cx";walk_at"g1";obtain⟨dx,qs,qp,qd,nk,kvs,e1,e2,e3,e4,e5,e6,e7⟩:=hh.ex;walk_at"g2";have hl2:(szK rz).length=rz.length:=by unfold szK;rw[List.length_map]
  walk_at"go";rename_i p H1 n1 S1 ep;have e21:=S1 _ _ e2;have e11:=S1 _ _ e1;have hqsp:qs≠p:=fun z=>by rw[z,n1]at e2;cases e2
  have hhp:h≠p:=fun z=>by rw[z,n1]at e1;cases e1
  let Pv1:Nat->St->Hp->Prop:=fun i σ' H'=>SameBut p H1 H'/\(∃ys,H' p=some (.lst ys)/\Paired (b5 H') ys (bI rz f i))/\∃x,σ'=[some (.ref h),some (.ref p),x];refine K5 Pv1 ⟨SameBut.refl,⟨[],ep,.nil⟩,_,rfl⟩ ?_ ?_
  ·rintro i _ H' hi hq_;walk_at"g1";obtain⟨sb,⟨ys,ey,hys⟩,x,rfl⟩:=hq_;walk_at"g2";have e2':=sb _ _ e21 hqsp;have e1':=sb _ _ e11 hhp;have hyl:ys.length=i * rz.length:=by rw[Paired.length hys,jU]
   have hyb:ys.length<=1001 * 20:=by
    rw[hyl];exact Nat.mul_le_mul (by lia) lr
   walk_at"go";refine zG e2' MH ?_;walk_at"go";refine yM e2' fun o H2 B2 e22=> ?_;have hpq:p≠qs:=Ne.symm hqsp;refine P4 (fun _=>true) (fun e y H=>∀z,e.1= .inr z->b5 H y (z,f+(i:Int))) (fun _ _ _ _ hh s z hz=>let ⟨q,a1,a2⟩:=hh z hz;⟨q,a1,s _ _ a2⟩) (by rw[sizeLine_eq];lia) (rest:=[some (.int (f+(i:Int)))]) (by rfl) e22 (fun x H6 hx s6 R hR=>hR _ (Same.refl _)) ?_ ?_
   ·rintro x H6 hx - s6 R hR;obtain⟨e,he,rfl⟩:=List.mem_map.mp hx;show (_:TE) (some (V.str e.1)::[some (.int (f+(i:Int)))]) H6 R;walk_at"go";rename_i q7 H7 n7 S7 e77;exact hR _ _ (fun z hz=>by cases hz;exact⟨q7,rfl,e77⟩) S7
   intro zs H3 s3 hzs;rw[cZ]at hzs;have hzp:=GR hzs;walk_at"go";rename_i q4 H4 n4 S4 e44;refine qO (S4 _ _ (s3 _ _ e22)) fun H5 B5 e55=> ?_;have hq4:q4≠qs:=fun z=>by rw[z,s3 _ _ e22]at n4;cases n4
   have ey2:=B2 _ _ ey hpq;have ey5:H5 p=some (.lst ys):=B5 _ _ (S4 _ _ (s3 _ _ ey2)) hpq;have sX:Same H' H5:=EX e2' B2 (Same.but (s3.trans S4)) B5 e55;have hz5:Paired (b5 H5) zs (rz.map fun e=>(e.1,f+(i:Int))):=Paired.imp' (fun v r ⟨q,a1,a2⟩=>⟨q,a1,B5 _ _ (S4 _ _ a2) fun z=>by rw[z,s3 _ _ e22]at a2;cases a2⟩) hzp;have hzl:zs.length=rz.length:=by rw[Paired.length hz5,List.length_map]
   walk_at"go";refine QB ey5 (B5 _ _ e44 hq4) (by rw[sizeLine_eq];lia) fun H6 B6 e66=> ?_;walk_at"go";refine⟨(sb.trans sX.but).trans B6,⟨_,e66,?_⟩,_,rfl⟩;rw[iJ];exact eX (K7 (iD hys sX) ey5 B6) (K7 hz5 ey5 B6)
  ·rintro _ H' hq_;walk_at"g1";obtain⟨sb,⟨ys,ey,hys⟩,x,rfl⟩:=hq_;walk_at"g2";walk_at"go";exact k _ _ _ n1 (SameBut.same n1 S1 sb) ey hys
theorem kR (m:M K mg):Mc P w K mg base m.aI "pairs" 1 (tN m.aI (aH P w K mg base (some 1))):=⟨_,_,_,m.bN.ic.cl,m.D8,m.nK.b,D3 m⟩
local macro_rules| `(tactic| walk_at"rd1")=> `(tactic| first|(with_reducible refine ZD ?_)|(with_reducible refine aBY ?_)|(with_reducible refine aBE ?_)|(with_reducible refine aBn ?_)|(with_reducible refine aAS ?_)|(with_reducible refine aA6 ?_)|(with_reducible refine aCo ?_)|(with_reducible refine aBc ?_)|(with_reducible refine aAG ?_)|(with_reducible refine rd_v17 ?_)|(with_reducible refine rd_s17 ?_)|(with_reducible refine rd_v18 ?_)|(with_reducible refine rd_s18 ?_)|(with_reducible refine rd_iEnum ?_)|((with_reducible refine' rd_iEnumV ?e ?_);(case e=>walk_at"hp"))|((with_reducible refine' rd_repS ?a ?b ?c ?_);(case a=>walk_at"sd");(case b=>walk_at"sd");(case c=>walk_at"sz")))
def RE (rz ps:List (Str×Int)):Int:=(rz.map fun e=>bT ps e.1).sum
theorem yD {rz ps:List (Str×Int)}:∀{kvs:List (Key×V)}{l:List (Str×Int)},(kvs.map (·.1)).Nodup->kvs.map (·.1)=(szK l).map (·.1)->(∀e∈l,∀v,(Sum.inr e.1,v)∈kvs->v= .int (bT ps e.1))->kvs.map (·.2)=(l.map fun e=>bT ps e.1).map V.int
 | [],[],_,_,_=>rfl
 | [],_::_,_,h,_=>by cases h
 | _::_,[],_,h,_=>by cases h
 | (k,v)::kvs,e::l,nd,h,hv=>by
  have h1:=(List.cons.inj h).1;have h2:=(List.cons.inj h).2;have nd2:=(List.nodup_cons.mp nd).2;have ih:=yD (rz:=rz) (ps:=ps) (kvs:=kvs) (l:=l) nd2 h2 fun e' he' v' hv'=>hv e' (List.mem_cons_of_mem _ he') v' (List.mem_cons_of_mem _ hv');have hk:k= .inr e.1:=h1;rw[List.map_cons,List.map_cons,List.map_cons,ih]
  congr 1
  exact hv e (.head _) v (by rw[hk];exact .head _)
inductive tI (C:Addr)(D:aS)(vs:List V)(H:Hp)(Q:VK)(E:XK):Prop
 | mk (h:Addr) (f l:Int) (rz ps:List (Str×Int)) (ds:List aF) (_:vs=[.ref h]) (_:aX C D H h f l rz ps ds) (_:(rz.map (·.1)).Nodup) (_:∀H',Same H H'->Q (.int (RE rz ps)) H'):tI C D vs H Q E
theorem KR {C:Addr}{D:aS}{H:Hp}{Q:VK}{E:XK}{h:Addr}{f l:Int}{rz ps:List (Str×Int)}{ds:List aF} (hh:aX C D H h f l rz ps ds) (nr:(rz.map (·.1)).Nodup) (k:∀H',Same H H'->Q (.int (RE rz ps)) H'):tI C D [.ref h] H Q E:=⟨_,_,_,_,_,_,rfl,hh,nr,k⟩
theorem DC (m:M K mg):bD P w K mg base CX0 1 m.nP m.mZ.d ["self"] (tI m.aI (aH P w K mg base (some 1))):=by
 refine m.mZ.F.ok sc_House_total (fun vs H Q E h=> ?_) (fun cdv A outer s H vs Q E hr h=> ?_)
 ·walk_at"g1";obtain⟨h,f,l,rz,ps,ds,rfl,hh,nr,k⟩:=h;walk_at"g2";rfl
 ·walk_at"g1";obtain⟨h,f,l,rz,ps,ds,rfl,hh,nr,k⟩:=h;walk_at"g2";have nd:=sc_House_total.nd;walk_at"hu";have w_dc_House:=m.bN;refine⟨_,(aD (aW (bM (Q6 rfl) rfl m.X1 QU (aA (M3 (bK (pv 0) rfl)) aB)))),?_⟩;refine aM (σ:=[some (.ref h)]) rfl ?_;walk_at"cx";walk_at"g1";obtain⟨dx,qs,qp,qd,nk,kvs,e1,e2,e3,e4,e5,e6,e7⟩:=hh.ex;walk_at"g2";have ndk:(kvs.map (·.1)).Nodup:=by rw[e4,D2];exact vB nr
  have hv:kvs.map (·.2)=(rz.map fun e=>bT ps e.1).map V.int:=yD (rz:=rz) ndk e4 fun e he v hm=>by
   have h1:=jP ndk hm;have h2:=e5 e.1 (List.mem_map.mpr ⟨e,he,rfl⟩);have h3:bA kvs (.inr e.1)=some v:=h1;rw[h2]at h3;exact(Option.some.inj h3).symm
  walk_at"go";refine V5 (.inl e3) fun v H1 n1 S1 ev=> ?_;walk_at"go";refine ZZ ev (.inl (S1 _ _ e3)) hv ?_;exact k _ S1
theorem C6 (m:M K mg):Mc P w K mg base m.aI "total" 1 (tI m.aI (aH P w K mg base (some 1))):=⟨_,_,_,m.bN.ic.cl,m.EC,m.mZ.b,DC m⟩
def lI (f l:Int)(d:aF)(t:Int):Int:=if f<=t/\t<l then d.2.2.2 t else 0
inductive tQ (C:Addr)(D:aS)(vs:List V)(H:Hp)(Q:VK)(E:XK):Prop
 | mk (h:Addr) (d:aF) (t f l:Int) (rz ps:List (Str×Int)) (ds:List aF) (_:vs=[.ref h,.str d.1,.int t]) (_:aX C D H h f l rz ps ds) (_:(ds.map (·.1)).Nodup) (_:d∈ds) (_:0<=f) (_:∀H',Same H H'->Q (.int (lI f l d t)) H'):tQ C D vs H Q E
theorem DY {C:Addr}{D:aS}{H:Hp}{Q:VK}{E:XK}{h:Addr}{d:aF}{t f l:Int}{rz ps:List (Str×Int)}{ds:List aF} (hh:aX C D H h f l rz ps ds) (nd:(ds.map (·.1)).Nodup) (hd:d∈ds) (hf:0<=f) (k:∀H',Same H H'->Q (.int (lI f l d t)) H'):tQ C D [.ref h,.str d.1,.int t] H Q E:=⟨_,_,_,_,_,_,_,_,rfl,hh,nd,hd,hf,k⟩
theorem FL (m:M K mg):bD P w K mg base CX0 3 m.pT m.pJ.d ["self","name","turn"] (tQ m.aI (aH P w K mg base (some 1))):=by
 refine m.pJ.F.ok sc_House_lets (fun vs H Q E h=> ?_) (fun cdv A outer s H vs Q E hr h=> ?_)
 ·walk_at"g1";obtain⟨h,d,t,f,l,rz,ps,ds,rfl,hh,ndd,hd,hf,k⟩:=h;walk_at"g2";rfl
 ·walk_at"g1";obtain⟨h,d,t,f,l,rz,ps,ds,rfl,hh,ndd,hd,hf,k⟩:=h;walk_at"g2";have nd:=sc_House_lets.nd;walk_at"hu";have w_dc_House:=m.bN;have w_mc_House_door:= @iN P w K mg base m;refine⟨_,(aC (aP (i:=3) nd rfl (by walk_at"oi") (jY 1 hr (pv 0) (aA (pv 1) aB)))
   (aC (bV (PW.pt (tT (aV iK (pv 2) (bK (pv 0) rfl) (bL _)) (oP (aV W6 (pv 2) (bK (pv 0) rfl) (bL _))))) (aD (aW aE)) bJ)
   (aD (aW (jY 1 hr (pv 3) (aA (pv 2) aB)))))),?_⟩
  refine aM (σ:=[some (.ref h),some (.str d.1),some (.int t),none]) rfl ?_;walk_at"cx";walk_at"g1";obtain⟨dx,qs,qp,qd,nk,kvs,e1,_⟩:=hh.ex;walk_at"g2";walk_at"g1";obtain⟨n,st,e,lt⟩:=d;walk_at"g2";walk_at"go";refine BE (d:=(n,st,e,lt)) hh ndd hd fun v hv=> ?_;walk_at"g1";obtain⟨q2,C2,dx2,fs2,fp2,rfl,hq2,dcC,l1,l2,l3,l4,l5,mcE,hfp,hlt⟩:=DoorAt.ex hv;walk_at"g2";obtain⟨sp,mcL,hsp⟩:=hlt _ rfl;walk_at"go";refine fG (fun hc=> ?_) (fun hc=> ?_)
  ·have hk:lI f l (n,st,e,lt) t=0:=by unfold lI;rw[if_neg (by lia)]
   rw[hk]at k;walk_at"go";exact k _ (Same.refl _)
  ·walk_at"go";refine fG (fun hc2=> ?_) (fun hc2=> ?_)
   ·have hk:lI f l (n,st,e,lt) t=0:=by unfold lI;rw[if_neg (by lia)]
    rw[hk]at k;walk_at"go";exact k _ (Same.refl _)
   ·have hk:lI f l (n,st,e,lt) t=lt t:=by unfold lI;rw[if_pos (by lia)]
    rw[hk]at k;walk_at"go";exact hsp _ _ _ hq2 (fun x hx=>(hfp x hx).1) (by lia) k
theorem uO (m:M K mg):Mc P w K mg base m.aI "lets" 3 (tQ m.aI (aH P w K mg base (some 1))):=⟨_,_,_,m.bN.ic.cl,m.FY,m.pJ.b,FL m⟩
def GX (H:Hp)(v:V)(r:aT):Prop:=∃q,v= .ref q/\H q=some (.tup [.int r.1,.str r.2.1,.int r.2.2])
abbrev cP (H:Hp)(vs:List V)(rows:List aT):Prop:=Paired (GX H) vs rows
theorem gN {H H':Hp}{vs:List V}{rows:List aT} (h:cP H vs rows) (s:Same H H'):cP H' vs rows:=Paired.imp' (fun v r ⟨q,e,h⟩=>⟨q,e,s _ _ h⟩) h
theorem iC {α β:Type}{F:α->β->Prop}:∀{l:List α}{m:List β},Paired F l m->Paired (fun b a=>F a b) m l
 | _,_,.nil=> .nil
 | _,_,.cons h t=> .cons h (iC t)
def cnt (ns:List Str)(f l:Int)(r:aT):Bool:=decide (r.2.1∈ns)&&(decide (f<=r.1)&&decide (r.1<l))
inductive sW (K:W.Frag)(C:Addr)(D:aS)(vs:List V)(H:Hp)(Q:VK)(E:XK):Prop
 | mk (h a:Addr) (f l:Int) (rz ps:List (Str×Int)) (ds:List aF) (us:List V) (rows:List aT) (_:vs=[.ref h,.ref a]) (_:aX C D H h f l rz ps ds) (_:SqL K H a us) (_:cP H us rows) (_:rows.length<=200) (_:∀p ys H',H p=none->Same H H'->H' p=some (.lst ys)->cP H' ys (rows.filter (cnt (ds.map (·.1)) f l))->Q (.ref p) H'):sW K C D vs H Q E
theorem LD {C:Addr}{D:aS}{H:Hp}{Q:VK}{E:XK}{h a:Addr}{f l:Int}{rz ps:List (Str×Int)}{ds:List aF}{us:List V}{rows:List aT} (hh:aX C D H h f l rz ps ds) (hS:SqL K H a us) (hp:cP H us rows) (hl:rows.length<=200) (k:∀p ys H',H p=none->Same H H'->H' p=some (.lst ys)->cP H' ys (rows.filter (cnt (ds.map (·.1)) f l))->Q (.ref p) H'):sW K C D [.ref h,.ref a] H Q E:=⟨_,_,_,_,_,_,_,_,_,rfl,hh,hS,hp,hl,k⟩
theorem vE (m:M K mg):bD P w K mg base CX0 2 m.hV m.d6.d ["house","plan"] (sW K m.aI (aH P w K mg base (some 1))):=by
 refine m.d6.F.ok sc_rows_that_count (fun vs H Q E h=> ?_) (fun cdv A outer s H vs Q E hr h=> ?_)
 ·walk_at"g1";obtain⟨h,a,f,l,rz,ps,ds,us,rows,rfl,hh,hS,hpl,hlen,k⟩:=h;walk_at"g2";rfl
 ·walk_at"g1";obtain⟨h,a,f,l,rz,ps,ds,us,rows,rfl,hh,hS,hpl,hlen,k⟩:=h;walk_at"g2";have nd:=sc_rows_that_count.nd;walk_at"hu";have w_dc_House:=m.bN;have w_mc_House_doors:= @d8 P w K mg base m;refine⟨_,(aC (aP (i:=2) nd rfl (by walk_at"oi") (c7 1 hr (pv 0)))
   (aD (aW (cI (N:=["row","doors","house"]) (nl:=1) (ci:=[2,0]) rfl (blk (s.heap.objs.size+1) rfl rfl rfl (by kernel_rfl)) (bG (pv 1)) (fun _ _ _ _=>(aL (i:=0) (show (["row","doors","house"]:List Str).Nodup by decide +kernel) rfl (by walk_at"oi"))) (fun _ _ _ _=>(fE (PW.pt (SH (aV (OJ (K:=K)) (bS (dI (K:=K)) (pv 0) aE (fun _ _=>rfl)) (pv 1) (by with_unfolding_all rfl)) (KU (V3 MB iK (rK (K:=K) (pv 2) rfl) (bS (dI (K:=K)) (pv 0) aE (fun _ _=>rfl)) (rK (K:=K) (pv 2) rfl))))))) (fun _ _ _ _=>(pv 0)))))),?_⟩
  refine aM (σ:=[some (.ref h),some (.ref a),none]) rfl ?_;walk_at"cx";walk_at"g1";obtain⟨dx,qs,qp,qd,nk,kvs,e1,e2,e3,e4,e5,e6,e7⟩:=hh.ex;walk_at"g2";walk_at"go";refine fJ hh fun p1 H1 n1 S1 e8=> ?_;have e11:=S1 _ _ e1;walk_at"go";refine cR (α:=aT) (xs:=rows) (vs:=us) (GX H1) (cnt (ds.map (·.1)) f l) (fun r y H=>GX H y r) (fun _ _ _ _ ⟨q,h1,h2⟩ s=>⟨q,h1,s _ _ h2⟩) (by rw[sizeLine_eq];lia) (rest:=[some (.ref p1),some (.ref h)]) (by rfl) (S1.seq hS) (gN hpl S1) ?_ ?_ ?_
  ·rintro v ⟨t0,n0,j0⟩ H2 ⟨q,rfl,hq⟩ hm s2 R hR;have hq':H2 q=some (.tup [.int t0,.str n0,.int j0]):=s2 _ _ hq;have ep:=s2 _ _ e8;have eh:=s2 _ _ e11;walk_at"go";refine⟨q,_,1,_,rfl,rfl,SqT.of hq',rfl,?_⟩;walk_at"go";refine AV (SqL.of ep) ?_;have hR':=hR _ (Same.refl _);unfold cnt at hR';walk_at"go";refine fG (fun hc=> ?_) (fun hc=> ?_)
   ·rw[decide_eq_true hc,Bool.true_and]at hR';walk_at"go";refine⟨q,_,0,_,rfl,rfl,SqT.of hq',rfl,?_⟩;walk_at"go";refine fG (fun hc2=> ?_) (fun hc2=> ?_)
    ·rw[decide_eq_true hc2,Bool.true_and]at hR';walk_at"go";exact hR'
    ·rw[decide_eq_false hc2,Bool.false_and]at hR';exact⟨false,rfl,hR'⟩
   ·rw[decide_eq_false hc,Bool.false_and]at hR';exact hR'
  ·rintro v ⟨t0,n0,j0⟩ H2 ⟨q,rfl,hq⟩ hm - s2 R hR;walk_at"go";exact hR _ _ ⟨q,rfl,s2 _ _ hq⟩ (Same.refl _)
  intro ys H2 s2 hys;have hpl2:=iC hys;walk_at"go";rename_i p3 H3 n3 S3 e33;refine k _ _ _ ?_ ((S1.trans s2).trans S3) e33 (gN hpl2 S3);cases hq:H p3 with
  | none=>rfl
  | some u=>rw[s2 _ _ (S1 _ _ hq)]at n3;cases n3
theorem l7 (m:M K mg):Fc P w K mg base "rows_that_count" 2 ["house","plan"] (sW K m.aI (aH P w K mg base (some 1))):=⟨_,_,m.xP,m.d6.F.kp,m.d6.b,vE m⟩
def vS (key:aT->Option (List Key))(kvs:List (List Key×V))(r:aT):List (List Key×V):=match key r with
 | some k=>cH kvs k (.int (qN ((bA kvs k).getD (.int 0))+r.2.2))
 | none=>kvs
def g8 (key:aT->Option (List Key))(rows:List aT):List (List Key×V):=rows.foldl (vS key) []
theorem jK (key:aT->Option (List Key))(rows:List aT)(r:aT):g8 key (rows++[r])=vS key (g8 key rows) r:=by unfold g8;rw[List.foldl_append];rfl
def iT (key:aT->Option (List Key))(rows:List aT)(k:List Key):Int:=((rows.filter fun r=>decide (key r=some k)).map (·.2.2)).sum
theorem QO (key:aT->Option (List Key))(rows:List aT)(r:aT)(k:List Key):iT key (rows++[r]) k=iT key rows k+if key r=some k then r.2.2 else 0:=by
 unfold iT;rw[List.filter_append,List.map_append,List.sum_append]
 congr 1
 by_cases h:key r=some k
 ·rw[if_pos h];simp[h]
 ·rw[if_neg h];simp[h]
theorem VD (key:aT->Option (List Key))(k:List Key)(rows:List aT):qN ((bA (g8 key rows) k).getD (.int 0))=iT key rows k:=by
 induction rows using jL with
 | h0=>rfl
 | hs l r ih =>
  rw[jK,QO];unfold vS;cases hk:key r with
  | none =>
   rw[if_neg (by intro z;cases z),Int.add_zero];exact ih
  | some k2 =>
   show qN ((bA (cH (g8 key l) k2 _) k).getD (.int 0))=_;rw[kP]
   by_cases e:k=k2
   ·subst e;rw[if_pos rfl,if_pos rfl,←ih];rfl
   ·rw[if_neg e,if_neg (fun z=>e (Option.some.inj z).symm),Int.add_zero];exact ih
theorem SB (key:aT->Option (List Key))(rows:List aT):∀e∈g8 key rows,∃i,e.2= .int i:=by
 induction rows using jL with
 | h0=>intro e h;nomatch h
 | hs l r ih =>
  rw[jK];unfold vS;cases hk:key r with
  | none=>exact ih
  | some k2 =>
   intro e he;rcases yT he with h|⟨h1,h2⟩
   ·exact ih e h
   ·exact⟨_,h2⟩
theorem zA (key:aT->Option (List Key))(rows:List aT)(k:List Key):∃i,(bA (g8 key rows) k).getD (.int 0)= .int i:=by
 cases h:bA (g8 key rows) k with
 | none=>exact⟨0,rfl⟩
 | some v =>
  obtain⟨i,e⟩:=SB key rows _ (vG h);exact⟨i,e⟩
theorem GP (key:aT->Option (List Key))(rows:List aT):(g8 key rows).length<=rows.length:=by
 induction rows using jL with
 | h0=>exact Nat.le_refl _
 | hs l r ih =>
  rw[jK,List.length_append];unfold vS;cases hk:key r with
  | none=>exact Nat.le_trans ih (Nat.le_add_right _ _)
  | some k2=>exact Nat.le_trans (fL _ _ _) (by simp;lia)
def iH (ds:List aF)(n:Str):Option aF:=ds.find? fun d=>decide (d.1=n)
theorem tG {ds:List aF}{n:Str} (h:n∈ds.map (·.1)):∃d∈ds,d.1=n/\iH ds n=some d:=by
 obtain⟨d,hd,e⟩:=List.mem_map.mp h;cases hf:iH ds n with
 | none =>
  have:=List.find?_eq_none.mp hf d hd;exact absurd (decide_eq_true e) this
 | some d2 =>
  have h1:decide (d2.1=n)=true:=List.find?_some (p:=fun d:aF=>decide (d.1=n)) hf;exact⟨d2,List.mem_of_find?_eq_some hf,of_decide_eq_true h1,rfl⟩
def kQ (ds:List aF)(r:aT):Option (List Key):=(iH ds r.2.1).map fun d=>[.inr d.2.1,.inl r.1]
def iX (ds:List aF)(r:aT):Option (List Key):=(iH ds r.2.1).bind fun d=>match d.2.2.1 with
 | .str z=>some [.inr z,.inl r.1]
 | _=>none
inductive lJ (K:W.Frag)(C:Addr)(D:aS)(key:List aF->aT->Option (List Key))(vs:List V)(H:Hp)(Q:VK)(E:XK):Prop
 | mk (h a:Addr) (f l:Int) (rz ps:List (Str×Int)) (ds:List aF) (us:List V) (rows:List aT) (_:vs=[.ref h,.ref a]) (_:aX C D H h f l rz ps ds) (_:(ds.map (·.1)).Nodup) (_:(∀d∈ds,iI (rz.map (·.1)) d)) (_:SqL K H a us) (_:cP H us rows) (_:rows.length<=200) (_:∀p H',H p=none->Same H H'->H' p=some (.dT (g8 (key ds) (rows.filter (cnt (ds.map (·.1)) f l))))->Q (.ref p) H'):lJ K C D key vs H Q E
theorem CL {C:Addr}{D:aS}{key:List aF->aT->Option (List Key)}{H:Hp}{Q:VK}{E:XK}{h a:Addr}{f l:Int}{rz ps:List (Str×Int)}{ds:List aF}{us:List V}{rows:List aT} (hh:aX C D H h f l rz ps ds) (nd:(ds.map (·.1)).Nodup) (hin:∀d∈ds,iI (rz.map (·.1)) d) (hS:SqL K H a us) (hp:cP H us rows) (hl:rows.length<=200) (k:∀p H',H p=none->Same H H'->H' p=some (.dT (g8 (key ds) (rows.filter (cnt (ds.map (·.1)) f l))))->Q (.ref p) H'):lJ K C D key [.ref h,.ref a] H Q E:=⟨_,_,_,_,_,_,_,_,_,rfl,hh,nd,hin,hS,hp,hl,k⟩
theorem N5 (m:M K mg):bD P w K mg base CX0 3 m.vT m.qR.d ["house","plan"] (lJ K m.aI (aH P w K mg base (some 1)) kQ):=by
 refine m.qR.F.ok sc_leaving (fun vs H Q E h=> ?_) (fun cdv A outer s H vs Q E hr h=> ?_)
 ·walk_at"g1";obtain⟨h,a,f,l,rz,ps,ds,us,rows,rfl,hh,ndd,hin,hS,hpl,hlen,k⟩:=h;walk_at"g2";rfl
 ·walk_at"g1";obtain⟨h,a,f,l,rz,ps,ds,us,rows,rfl,hh,ndd,hin,hS,hpl,hlen,k⟩:=h;walk_at"g2";have nd:=sc_leaving.nd;walk_at"hu";have F_rows_that_count:= @l7 P w K mg base m;have w_dc_House:=m.bN;have w_mc_House_door:= @iN P w K mg base m;refine⟨_,(aC (aP (i:=2) nd rfl (by walk_at"oi") sY)
   (aC (cU PassesOwn.never rfl (bG (b9 F_rows_that_count hr (aA (pv 0) (aA (pv 1) aB)))) (rJ (n:=3) rfl (bU (aL (i:=3) nd rfl (by walk_at"oi")) (bU (aL (i:=4) nd rfl (by walk_at"oi")) (bU (aL (i:=5) nd rfl (by walk_at"oi")) eK)))) (aC (aP (i:=6) nd rfl (by walk_at"oi") (bE (aA (bK (jY 1 hr (pv 0) (aA (pv 4) aB)) rfl) (aA (pv 3) aB))))
   (aD (jQ hu1 (pv 2) (pv 6) (aQ cG (lC hu1 (pv 2) (pv 6) aE ⟨rfl,rfl,rfl,rfl⟩) (pv 5)) rfl))))
   (aD (aW (pv 2))))),?_⟩
  refine aM (σ:=[some (.ref h),some (.ref a),none,none,none,none,none]) rfl ?_;walk_at"cx";walk_at"go";rename_i p H1 n1 S1 ep;refine LD (aU hh S1) (S1.seq hS) (gN hpl S1) hlen fun q ys H2 n2 S2 eq hcr=> ?_;generalize hce:rows.filter (cnt (ds.map (·.1)) f l)=cr at hcr k;have hcn:∀r∈cr,r.2.1∈ds.map (·.1):=fun r hr=>by
   rw[←hce]at hr;have:=(List.mem_filter.mp hr).2;unfold cnt at this;rw[Bool.and_eq_true]at this;exact of_decide_eq_true this.1
  have hcl:cr.length<=200:=by rw[←hce];exact Nat.le_trans (List.length_filter_le _ _) hlen
  have hyl:ys.length=cr.length:=Paired.length hcr;have ep2:=S2 _ _ ep;have hqp:q≠p:=fun z=>by rw[z,ep]at n2;cases n2
  have hh2:=aU hh (S1.trans S2);have npd:∀x u,H x=some u->x≠p:=fun x u hx z=>by rw[z,n1]at hx;cases hx
  walk_at"go";let Pv1:Nat->St->Hp->Prop:=fun i σ' H'=>SameBut p H2 H'/\H' p=some (.dT (g8 (kQ ds) (cr.take i)))/\∃x y z u,σ'=[some (.ref h),some (.ref a),some (.ref p),x,y,z,u];refine cX ys Pv1 ⟨SameBut.refl,ep2,_,_,_,_,rfl⟩ (fun i σ' H' _ g=>SqL.of (g.1 _ _ eq hqp)) ?_ ?_
  ·rintro i x _ H' hx hq_;walk_at"g1";obtain⟨sb,ek,x1,x2,x3,x4,rfl⟩:=hq_;walk_at"g2";have hi:i<ys.length:=(List.getElem?_eq_some_iff.mp hx).1;obtain⟨⟨t,n,j⟩,hrx⟩:∃r,cr[i]? =some r:=⟨_,List.getElem?_eq_getElem (by lia)⟩
   obtain⟨q1,rfl,hq1⟩:=Paired.at2 hcr hx hrx;have hq1':H' q1=some (.tup [.int t,.str n,.int j]):=sb _ _ hq1 fun z=>by rw[z,ep2]at hq1;cases hq1
   have sH:Same H H':=fun x u hx=>sb _ _ (S2 _ _ (S1 _ _ hx)) (npd x u hx);have hh':=aU hh sH;walk_at"g1";obtain⟨dx,qs,qp,qd,nk,kvs,e1,_⟩:=hh'.ex;walk_at"g2";walk_at"g1";obtain⟨⟨dn,dst,de,dw⟩,hd,rfl,hdo⟩:=tG (hcn _ (List.mem_of_getElem? hrx));walk_at"g2";have hkey:kQ ds (t,dn,j)=some [.inr dst,.inl t]:=by
    unfold kQ;rw[show iH ds ((t,dn,j):aT).2.1=some (dn,dst,de,dw) from hdo];rfl
   obtain⟨i0,ei⟩:=zA (kQ ds) (cr.take i) [.inr dst,.inl t];have hkl:=GP (kQ ds) (cr.take i);rw[List.length_take]at hkl;walk_at"go";refine BE (d:=(dn,dst,de,dw)) hh' ndd hd fun v hv=> ?_;walk_at"g1";obtain⟨q2,C2,dx2,fs2,fp2,rfl,hq2,dcC,l1,l2,l3,l4,l5,mcE,hfp,hlt⟩:=DoorAt.ex hv;walk_at"g2";walk_at"go";rename_i b3 H3 n3 S3 e3;refine jM (S3 _ _ ek) ?_;walk_at"go";refine kU [.inr dst,.inl t] (S3 _ _ ek) e3 ?_;rw[ei];walk_at"go";refine oY [.inr dst,.inl t] (S3 _ _ ek) e3 (by rw[sizeLine_eq];lia) fun H4 B4 e4=> ?_;refine⟨(sb.trans S3.but).trans B4,?_,_,_,_,_,rfl⟩;rw[e4,bR hrx,jK];unfold vS;rw[hkey];show _=some (HO.dT (cH _ _ (.int (qN ((bA _ _).getD (.int 0))+j))));rw[ei];rfl
  ·rintro _ H' hq_;walk_at"g1";obtain⟨sb,ek,x1,x2,x3,x4,rfl⟩:=hq_;walk_at"g2";rw[hyl,List.take_length]at ek;walk_at"go";exact k _ _ n1 (fun x u hx=>sb _ _ (S2 _ _ (S1 _ _ hx)) (npd x u hx)) ek
theorem AR (m:M K mg):Fc P w K mg base "leaving" 3 ["house","plan"] (lJ K m.aI (aH P w K mg base (some 1)) kQ):=⟨_,_,m.TC,m.qR.F.kp,m.qR.b,N5 m⟩
theorem Q0 (m:M K mg):bD P w K mg base CX0 3 m.z6 m.uG.d ["house","plan"] (lJ K m.aI (aH P w K mg base (some 1)) iX):=by
 refine m.uG.F.ok sc_coming (fun vs H Q E h=> ?_) (fun cdv A outer s H vs Q E hr h=> ?_)
 ·walk_at"g1";obtain⟨h,a,f,l,rz,ps,ds,us,rows,rfl,hh,ndd,hin,hS,hpl,hlen,k⟩:=h;walk_at"g2";rfl
 ·walk_at"g1";obtain⟨h,a,f,l,rz,ps,ds,us,rows,rfl,hh,ndd,hin,hS,hpl,hlen,k⟩:=h;walk_at"g2";have nd:=sc_coming.nd;walk_at"hu";have F_rows_that_count:= @l7 P w K mg base m;have w_dc_House:=m.bN;have w_mc_House_door:= @iN P w K mg base m;refine⟨_,(aC (aP (i:=2) nd rfl (by walk_at"oi") sY)
   (aC (cU PassesOwn.never rfl (bG (b9 F_rows_that_count hr (aA (pv 0) (aA (pv 1) aB)))) (rJ (n:=3) rfl (bU (aL (i:=3) nd rfl (by walk_at"oi")) (bU (aL (i:=4) nd rfl (by walk_at"oi")) (bU (aL (i:=5) nd rfl (by walk_at"oi")) eK)))) (aC (aP (i:=6) nd rfl (by walk_at"oi") (jY 1 hr (pv 0) (aA (pv 4) aB)))
   (aD (bV (mD (fV (c7 1 hr (pv 6)))) (aC (aP (i:=7) nd rfl (by walk_at"oi") (bE (aA (bK (pv 6) rfl) (aA (pv 3) aB))))
   (aD (jQ hu1 (pv 2) (pv 7) (aQ cG (lC hu1 (pv 2) (pv 7) aE ⟨rfl,rfl,rfl,rfl⟩) (pv 5)) rfl))) bJ))))
   (aD (aW (pv 2))))),?_⟩
  refine aM (σ:=[some (.ref h),some (.ref a),none,none,none,none,none,none]) rfl ?_;walk_at"cx";walk_at"go";rename_i p H1 n1 S1 ep;refine LD (aU hh S1) (S1.seq hS) (gN hpl S1) hlen fun q ys H2 n2 S2 eq hcr=> ?_;generalize hce:rows.filter (cnt (ds.map (·.1)) f l)=cr at hcr k;have hcn:∀r∈cr,r.2.1∈ds.map (·.1):=fun r hr=>by
   rw[←hce]at hr;have:=(List.mem_filter.mp hr).2;unfold cnt at this;rw[Bool.and_eq_true]at this;exact of_decide_eq_true this.1
  have hcl:cr.length<=200:=by rw[←hce];exact Nat.le_trans (List.length_filter_le _ _) hlen
  have hyl:ys.length=cr.length:=Paired.length hcr;have ep2:=S2 _ _ ep;have hqp:q≠p:=fun z=>by rw[z,ep]at n2;cases n2
  have hh2:=aU hh (S1.trans S2);have npd:∀x u,H x=some u->x≠p:=fun x u hx z=>by rw[z,n1]at hx;cases hx
  walk_at"go";let Pv2:Nat->St->Hp->Prop:=fun i σ' H'=>SameBut p H2 H'/\H' p=some (.dT (g8 (iX ds) (cr.take i)))/\∃x y z u w,σ'=[some (.ref h),some (.ref a),some (.ref p),x,y,z,u,w];refine cX ys Pv2 ⟨SameBut.refl,ep2,_,_,_,_,_,rfl⟩ (fun i σ' H' _ g=>SqL.of (g.1 _ _ eq hqp)) ?_ ?_
  ·rintro i x _ H' hx hq_;walk_at"g1";obtain⟨sb,ek,x1,x2,x3,x4,x5,rfl⟩:=hq_;walk_at"g2";have hi:i<ys.length:=(List.getElem?_eq_some_iff.mp hx).1;obtain⟨⟨t,n,j⟩,hrx⟩:∃r,cr[i]? =some r:=⟨_,List.getElem?_eq_getElem (by lia)⟩
   obtain⟨q1,rfl,hq1⟩:=Paired.at2 hcr hx hrx;have hq1':H' q1=some (.tup [.int t,.str n,.int j]):=sb _ _ hq1 fun z=>by rw[z,ep2]at hq1;cases hq1
   have sH:Same H H':=fun x u hx=>sb _ _ (S2 _ _ (S1 _ _ hx)) (npd x u hx);have hh':=aU hh sH;walk_at"g1";obtain⟨dx,qs,qp,qd,nk,kvs,e1,_⟩:=hh'.ex;walk_at"g2";walk_at"g1";obtain⟨⟨dn,dst,de,dw⟩,hd,rfl,hdo⟩:=tG (hcn _ (List.mem_of_getElem? hrx));walk_at"g2";have hkl:=GP (iX ds) (cr.take i);rw[List.length_take]at hkl;have hend:=(hin _ hd).2;walk_at"go";refine BE (d:=(dn,dst,de,dw)) hh' ndd hd fun v hv=> ?_;walk_at"g1";obtain⟨q2,C2,dx2,fs2,fp2,rfl,hq2,dcC,l1,l2,l3,l4,l5,mcE,hfp,hlt⟩:=DoorAt.ex hv;walk_at"g2";rcases hend with hend|⟨z,hend,hz⟩
   ·have hde:de= .non:=hend;subst hde;have hkey:iX ds (t,dn,j)=none:=by
     unfold iX;rw[show iH ds ((t,dn,j):aT).2.1=some (dn,dst,.non,dw) from hdo];rfl
    walk_at"go";refine⟨sb,?_,_,_,_,_,_,rfl⟩;rw[ek,bR hrx,jK];unfold vS;rw[hkey]
   ·have hde:de= .str z:=hend;subst hde;have hkey:iX ds (t,dn,j)=some [.inr z,.inl t]:=by
     unfold iX;rw[show iH ds ((t,dn,j):aT).2.1=some (dn,dst,.str z,dw) from hdo];rfl
    obtain⟨i0,ei⟩:=zA (iX ds) (cr.take i) [.inr z,.inl t];walk_at"go";rename_i b3 H3 n3 S3 e3;refine jM (S3 _ _ ek) ?_;walk_at"go";refine kU [.inr z,.inl t] (S3 _ _ ek) e3 ?_;rw[ei];walk_at"go";refine oY [.inr z,.inl t] (S3 _ _ ek) e3 (by rw[sizeLine_eq];lia) fun H4 B4 e4=> ?_;refine⟨(sb.trans S3.but).trans B4,?_,_,_,_,_,_,rfl⟩;rw[e4,bR hrx,jK];unfold vS;rw[hkey];show _=some (HO.dT (cH _ _ (.int (qN ((bA _ _).getD (.int 0))+j))));rw[ei];rfl
  ·rintro _ H' hq_;walk_at"g1";obtain⟨sb,ek,x1,x2,x3,x4,x5,rfl⟩:=hq_;walk_at"g2";rw[hyl,List.take_length]at ek;walk_at"go";exact k _ _ n1 (fun x u hx=>sb _ _ (S2 _ _ (S1 _ _ hx)) (npd x u hx)) ek
theorem QA (m:M K mg):Fc P w K mg base "coming" 3 ["house","plan"] (lJ K m.aI (aH P w K mg base (some 1)) iX):=⟨_,_,m.WS,m.uG.F.kp,m.uG.b,Q0 m⟩
theorem zC (key:aT->Option (List Key))(rows:List aT)(k:List Key):(bA (g8 key rows) k).getD (.int 0)= .int (iT key rows k):=by
 obtain⟨i,e⟩:=zA key rows k;have h:=VD key k rows;rw[e]at h ⊢;rw[←h];rfl
theorem pairsN_mem {rz:List (Str×Int)}{f:Int}{z:Str}{t:Int}:∀{n:Nat},(z,t)∈bI rz f n↔z∈rz.map (·.1)/\∃i:Nat,i<n/\t=f+i
 | 0=>⟨(fun h=>by cases h),(fun⟨_,i,h,_⟩=>absurd h (Nat.not_lt_zero _))⟩
 | n+1=>by
  rw[iJ,List.mem_append,pairsN_mem (n:=n)]
  constructor
  ·rintro (⟨h1,i,h2,h3⟩|h)
   ·exact⟨h1,i,by lia,h3⟩
   ·obtain⟨e,he,ee⟩:=List.mem_map.mp h;cases ee;exact⟨List.mem_map.mpr ⟨e,he,rfl⟩,n,by lia,rfl⟩
  ·rintro hq_;walk_at"g1";obtain⟨h1,i,h2,h3⟩:=hq_;walk_at"g2"
   by_cases hi:i=n
   ·subst hi;obtain⟨e,he,rfl⟩:=List.mem_map.mp h1;exact .inr (List.mem_map.mpr ⟨e,he,by rw[h3]⟩)
   ·exact .inl ⟨h1,i,by lia,h3⟩
theorem fS {rz:List (Str×Int)}(nd:(rz.map (·.1)).Nodup)(f:Int):∀n,(bI rz f n).Nodup
 | 0=>by simp[bI]
 | n+1=>by
  rw[iJ,List.nodup_append];refine⟨fS nd f n,?_,?_⟩
  ·rw[List.Nodup,List.pairwise_map]at nd ⊢;exact nd.imp fun h z=>h (Prod.mk.inj z).1
  ·intro a ha b hb e;subst e;obtain⟨z,t⟩:=a;walk_at"g1";obtain⟨_,i,hi,ht⟩:=pairsN_mem.mp ha;walk_at"g2";obtain⟨e,_,ee⟩:=List.mem_map.mp hb;cases ee
   lia
theorem BD (rz:List (Str×Int))(f:Int)(m:Nat):∀k,∃l,bI rz f (m+k)=bI rz f m++l
 | 0=>⟨[],by rw[Nat.add_zero,List.append_nil]⟩
 | k+1=>by
  obtain⟨l,e⟩:=BD rz f m k;exact⟨l++_,by rw[←Nat.add_assoc,iJ,e,List.append_assoc]⟩
theorem JJ {rz:List (Str×Int)}{f:Int}{n i:Nat}{z:Str}{t:Int} (h:(bI rz f n)[i]? =some (z,t)) (ht:t≠f):(z,t - 1)∈(bI rz f n).take i/\f<t:=by
 have hi:=(List.getElem?_eq_some_iff.mp h).1;walk_at"g1";obtain⟨hz,m,hm,rfl⟩:=pairsN_mem.mp (List.mem_of_getElem? h);walk_at"g2";have hm0:0<m:=by
  cases m with
  | zero=>exact absurd (by simp) ht
  | succ m=>exact Nat.succ_pos _
 obtain⟨l,el⟩:=BD rz f m (n - m);rw[show m+(n - m)=n by lia]at el;have hge:(bI rz f m).length<=i:=by
  rcases Nat.lt_or_ge i (bI rz f m).length with hlt|hge
  ·rw[el,List.getElem?_append_left hlt]at h;walk_at"g1";obtain⟨_,j,hj,ej⟩:=pairsN_mem.mp (List.mem_of_getElem? h);walk_at"g2"
   lia
  ·exact hge
 refine⟨?_,by lia⟩;have h1:(z,f+(m:Int) - 1)∈bI rz f m:=pairsN_mem.mpr ⟨hz,m - 1,by lia,by lia⟩;rw[el,List.take_append,List.take_of_length_le hge];exact List.mem_append_left _ h1
def cK (p:Str×Int):List Key:=[.inr p.1,.inl p.2]
theorem IJ {a b:Str×Int}(h:cK a=cK b):a=b:=by
 unfold cK at h;injection h with h1 h2;injection h2 with h2;exact Prod.ext (Sum.inr.inj h1) (Sum.inl.inj h2)
def j8 (ps:List (Str×Int))(L C:List Key->Int)(z:Str)(f:Int):Nat->Int
 | 0=>bT ps z
 | n+1=>j8 ps L C z f n - L (cK (z,f+(n:Int)))+C (cK (z,f+(n:Int)))
def jA (ps:List (Str×Int))(L C:List Key->Int)(f:Int)(pp:List (Str×Int)):List (List Key×V):=pp.map fun p=>(cK p,V.int (j8 ps L C p.1 f (p.2 - f).toNat))
theorem tY {ps:List (Str×Int)}{L C:List Key->Int}{f:Int}{pp:List (Str×Int)} (nd:pp.Nodup) {p:Str×Int} (h:p∈pp):bA (jA ps L C f pp) (cK p)=some (.int (j8 ps L C p.1 f (p.2 - f).toNat)):=by
 refine jP (e:=(cK p,V.int (j8 ps L C p.1 f (p.2 - f).toNat))) ?_ (List.mem_map.mpr ⟨p,h,rfl⟩);unfold jA;rw[List.map_map,List.Nodup,List.pairwise_map];exact nd.imp fun hne z=>hne (IJ z)
theorem HS {ps:List (Str×Int)}{L C:List Key->Int}{f:Int}{pp:List (Str×Int)}{p:Str×Int} (h:p∉pp):bA (jA ps L C f pp) (cK p)=none:=by
 have:∀e∈jA ps L C f pp,e.1≠cK p:=fun e he z=>by
  obtain⟨q,hq,rfl⟩:=List.mem_map.mp he;exact h (IJ z▸hq)
 revert this;generalize jA ps L C f pp=kvs;intro this
 induction kvs with
 | nil=>rfl
 | cons a l ih =>
  rw[cV (this a (.head _))];exact ih fun e he=>this e (List.mem_cons_of_mem _ he)
inductive yL (K:W.Frag)(C:Addr)(D:aS)(vs:List V)(H:Hp)(Q:VK)(E:XK):Prop
 | mk (h a:Addr) (f l:Int) (rz ps:List (Str×Int)) (ds:List aF) (us:List V) (rows:List aT) (_:vs=[.ref h,.ref a]) (_:aX C D H h f l rz ps ds) (_:(rz.map (·.1)).Nodup) (_:(ds.map (·.1)).Nodup) (_:(∀d∈ds,iI (rz.map (·.1)) d)) (_:0<=f) (_:f<=l) (_:l<1000000000000) (_:l - f<=1000) (_:rz.length<=20) (_:SqL K H a us) (_:cP H us rows) (_:rows.length<=200) (_:∀p H',H p=none->Same H H'->H' p=some (.dT (jA ps (iT (kQ ds) (rows.filter (cnt (ds.map (·.1)) f l))) (iT (iX ds) (rows.filter (cnt (ds.map (·.1)) f l))) f (bI rz f (l+1 - f).toNat)))->Q (.ref p) H'):yL K C D vs H Q E
theorem TM (m:M K mg):bD P w K mg base CX0 4 m.D9 m.wY.d ["house","plan"] (yL K m.aI (aH P w K mg base (some 1))):=by
 refine m.wY.F.ok sc_there (fun vs H Q E h=> ?_) (fun cdv A outer s H vs Q E hr h=> ?_)
 ·walk_at"g1";obtain⟨h,a,f,l,rz,ps,ds,us,rows,rfl,hh,nr,ndd,hin,h0,h1,h2,h3,lr,hS,hpl,hlen,k⟩:=h;walk_at"g2";rfl
 ·walk_at"g1";obtain⟨h,a,f,l,rz,ps,ds,us,rows,rfl,hh,nr,ndd,hin,h0,h1,h2,h3,lr,hS,hpl,hlen,k⟩:=h;walk_at"g2";have nd:=sc_there.nd;walk_at"hu";have F_coming:= @QA P w K mg base m;have F_leaving:= @AR P w K mg base m;have w_dc_House:=m.bN;have w_mc_House_pairs:= @kR P w K mg base m;have w_mc_House_found:= @rW P w K mg base m;refine⟨_,(aC (aP (i:=2) nd rfl (by walk_at"oi") (b9 F_leaving hr (aA (pv 0) (aA (pv 1) aB))))
   (aC (aP (i:=3) nd rfl (by walk_at"oi") (b9 F_coming hr (aA (pv 0) (aA (pv 1) aB))))
   (aC (aP (i:=4) nd rfl (by walk_at"oi") sY)
   (aC (cU PassesOwn.never rfl (bG (c7 1 hr (pv 0))) (rJ (n:=2) rfl (bU (aL (i:=5) nd rfl (by walk_at"oi")) (bU (aL (i:=6) nd rfl (by walk_at"oi")) eK))) (aD (bV (aV j6 (pv 6) (bK (pv 0) rfl) (bL _)) (aD (jQ hu1 (pv 4) (bE (aA (pv 5) (aA (pv 6) aB))) (jY 3 hr (pv 0) (aA (pv 5) aB)) rfl)) (aC (aP (i:=7) nd rfl (by walk_at"oi") (bE (aA (pv 5) (aA (aQ vK (pv 6) aE) aB))))
   (aD (jQ hu1 (pv 4) (bE (aA (pv 5) (aA (pv 6) aB))) (aQ cG (aQ vK (fK hu1 (pv 4) (pv 7) (fun _ _=>rfl)) (lC hu1 (pv 2) (pv 7) aE ⟨rfl,rfl,rfl,rfl⟩)) (lC hu1 (pv 3) (pv 7) aE ⟨rfl,rfl,rfl,rfl⟩)) rfl))))))
   (aD (aW (pv 4))))))),?_⟩
  refine aM (σ:=[some (.ref h),some (.ref a),none,none,none,none,none,none]) rfl ?_;walk_at"cx";walk_at"g1";obtain⟨dx,qs,qp,qd,nk,kvs,e1,_⟩:=hh.ex;walk_at"g2";walk_at"go";refine CL hh ndd hin hS hpl hlen fun pL H1 n1 S1 eL=> ?_;walk_at"go";refine CL (aU hh S1) ndd hin (S1.seq hS) (gN hpl S1) hlen fun pC H2 n2 S2 eC=> ?_;have e12:=S2 _ _ (S1 _ _ e1);walk_at"go";rename_i p H3 n3 S3 ep;have e13:=S3 _ _ e12;walk_at"go";have sA:Same H H3:=(S1.trans S2).trans S3;refine DM (aU hh sA) h0 h1 h2 h3 lr fun q ys H4 n4 S4 eq hpp=> ?_;have ep4:=S4 _ _ ep;have hqp:q≠p:=fun z=>by rw[z,ep]at n4;cases n4
  have npd:∀x u,H2 x=some u->x≠p:=fun x u hx z=>by rw[z,n3]at hx;cases hx
  have pnd:=fS nr f (l+1 - f).toNat;have pll:=jU rz f (l+1 - f).toNat;have plb:(l+1 - f).toNat * rz.length<=1001 * 20:=Nat.mul_le_mul (by lia) lr;have hyl:ys.length=(bI rz f (l+1 - f).toNat).length:=Paired.length hpp;generalize hLe:iT (kQ ds) (rows.filter (cnt (ds.map (·.1)) f l))=LL at k;generalize hCe:iT (iX ds) (rows.filter (cnt (ds.map (·.1)) f l))=CC at k;walk_at"go";let Pv1:Nat->St->Hp->Prop:=fun i σ' H'=>SameBut p H4 H'/\H' p=some (.dT (jA ps LL CC f ((bI rz f (l+1 - f).toNat).take i)))/\∃x y z,σ'=[some (.ref h),some (.ref a),some (.ref pL),some (.ref pC),some (.ref p),x,y,z];refine cX ys Pv1 ⟨SameBut.refl,ep4,_,_,_,rfl⟩ (fun i σ' H' _ g=>SqL.of (g.1 _ _ eq hqp)) ?_ ?_
  ·rintro i x _ H' hx hq_;walk_at"g1";obtain⟨sb,ek,x1,x2,x3,rfl⟩:=hq_;walk_at"g2";have hi:i<ys.length:=(List.getElem?_eq_some_iff.mp hx).1;obtain⟨⟨z,t⟩,hrx⟩:∃r,(bI rz f (l+1 - f).toNat)[i]? =some r:=⟨_,List.getElem?_eq_getElem (by lia)⟩
   obtain⟨q1,rfl,hq1⟩:=Paired.at2 hpp hx hrx;have hq1':H' q1=some (.tup [.str z,.int t]):=sb _ _ hq1 fun zz=>by rw[zz,ep4]at hq1;cases hq1
   have sH2:Same H2 H':=fun x u hx=>sb _ _ (S4 _ _ (S3 _ _ hx)) (npd x u hx);have hh':=aU hh ((S1.trans S2).trans sH2);have e1':=sH2 _ _ e12;have eL':=sH2 _ _ (S2 _ _ eL);have eC':=sH2 _ _ eC;have hz:z∈rz.map (·.1):=(pairsN_mem.mp (List.mem_of_getElem? hrx)).1;have hnew:(z,t)∉(bI rz f (l+1 - f).toNat).take i:=k8 pnd hrx;have hkl:(jA ps LL CC f ((bI rz f (l+1 - f).toNat).take i)).length<=20020:=by unfold jA;rw[List.length_map,List.length_take];lia
   have nd':((bI rz f (l+1 - f).toNat).take i).Nodup:=pnd.sublist (List.take_sublist _ _);walk_at"go";refine fG (fun hc=> ?_) (fun hc=> ?_)
   ·subst hc;walk_at"go";refine L4 hh' nr hz fun H5 S5=> ?_;walk_at"go";rename_i b6 H6 n6 S6 e6;have ek6:=S6 _ _ (S5 _ _ ek);refine oY (cK (z,t)) ek6 e6 (by rw[sizeLine_eq];lia) fun H7 B7 e7=> ?_;refine⟨(sb.trans (S5.trans S6).but).trans B7,?_,_,_,_,rfl⟩;rw[e7,oS _ (HS hnew),bR hrx];unfold jA;rw[List.map_append]
    congr 3
    show [(cK (z,t),V.int (bT ps z))]=[(cK (z,t),V.int (j8 ps LL CC z t (t - t).toNat))];rw[show (t - t).toNat=0 by lia];rfl
   ·obtain⟨hah,hft⟩:=JJ hrx hc;have gL:(bA (g8 (kQ ds) (rows.filter (cnt (ds.map (·.1)) f l))) (cK (z,t - 1))).getD (.int 0)= .int (LL (cK (z,t - 1))):=by rw[←hLe];exact zC _ _ _
    have gC:(bA (g8 (iX ds) (rows.filter (cnt (ds.map (·.1)) f l))) (cK (z,t - 1))).getD (.int 0)= .int (CC (cK (z,t - 1))):=by rw[←hCe];exact zC _ _ _
    walk_at"go";rename_i b6 H6 n6 S6 e6;refine oM (cK (z,t - 1)) (.inl (S6 _ _ ek)) e6 (tY nd' hah) ?_;walk_at"go";refine jM (S6 _ _ eL') ?_;walk_at"go";refine kU (cK (z,t - 1)) (S6 _ _ eL') e6 ?_;rw[gL];walk_at"go";refine jM (S6 _ _ eC') ?_;walk_at"go";refine kU (cK (z,t - 1)) (S6 _ _ eC') e6 ?_;rw[gC];walk_at"go";rename_i b8 H8 n8 S8 e8;have ek8:=S8 _ _ (S6 _ _ ek);refine oY (cK (z,t)) ek8 e8 (by rw[sizeLine_eq];lia) fun H9 B9 e9=> ?_;refine⟨(sb.trans (S6.trans S8).but).trans B9,?_,_,_,_,rfl⟩;rw[e9,oS _ (HS hnew),bR hrx];unfold jA;rw[List.map_append]
    congr 3
    show [(cK (z,t),V.int (j8 ps LL CC z f (t - 1 - f).toNat - LL (cK (z,t - 1))+CC (cK (z,t - 1))))]=[(cK (z,t),V.int (j8 ps LL CC z f (t - f).toNat))];rw[show (t - f).toNat=(t - 1 - f).toNat+1 by lia];show _=[(cK (z,t),V.int (j8 ps LL CC z f (t - 1 - f).toNat - LL (cK (z,f+((t - 1 - f).toNat:Int)))+CC (cK (z,f+((t - 1 - f).toNat:Int)))))];rw[show f+((t - 1 - f).toNat:Int)=t - 1 by lia]
  ·rintro _ H' hq_;walk_at"g1";obtain⟨sb,ek,x1,x2,x3,rfl⟩:=hq_;walk_at"g2";rw[hyl,List.take_length]at ek;walk_at"go";refine k _ _ ?_ (fun x u hx=>sb _ _ (S4 _ _ (S3 _ _ (S2 _ _ (S1 _ _ hx)))) (npd x u (S2 _ _ (S1 _ _ hx)))) ek;cases hq:H p with
   | none=>rfl
   | some u=>rw[S2 _ _ (S1 _ _ hq)]at n3;cases n3
theorem HH (m:M K mg):Fc P w K mg base "there" 4 ["house","plan"] (yL K m.aI (aH P w K mg base (some 1))):=⟨_,_,m.aAm,m.wY.F.kp,m.wY.b,TM m⟩
inductive BJ (K:W.Frag)(vs:List V)(H:Hp)(Q:VK)(E:XK):Prop
 | mk (a:Addr) (us:List V) (rows:List aT) (_:vs=[.ref a]) (_:SqL K H a us) (_:cP H us rows) (_:rows.length<=200) (_:∀p H',H p=none->Same H H'->H' p=some (.dT (gE rows))->Q (.ref p) H'):BJ K vs H Q E
theorem aCV {H:Hp}{Q:VK}{E:XK}{a:Addr}{us:List V}{rows:List aT} (hS:SqL K H a us) (hr:cP H us rows) (hl:rows.length<=200) (h:∀p H',H p=none->Same H H'->H' p=some (.dT (gE rows))->Q (.ref p) H'):BJ K [.ref a] H Q E:=⟨_,_,_,rfl,hS,hr,hl,h⟩
theorem KL (m:M K mg):bD P w K mg base CX0 1 m.uK m.oA.d ["plan"] (BJ K):=by
 refine m.oA.F.ok sc_added_up (fun vs H Q E h=> ?_) (fun cdv A outer s H vs Q E hr h=> ?_)
 ·walk_at"g1";obtain⟨a,us,rows,rfl,hS,hpl,hlen,k⟩:=h;walk_at"g2";rfl
 ·walk_at"g1";obtain⟨a,us,rows,rfl,hS,hpl,hlen,k⟩:=h;walk_at"g2";have nd:=sc_added_up.nd;walk_at"hu";refine⟨_,(aC (aP (i:=1) nd rfl (by walk_at"oi") sY)
   (aC (cU PassesOwn.never rfl (bG (pv 0)) (rJ (n:=3) rfl (bU (aL (i:=2) nd rfl (by walk_at"oi")) (bU (aL (i:=3) nd rfl (by walk_at"oi")) (bU (aL (i:=4) nd rfl (by walk_at"oi")) eK)))) (aD (jQ hu1 (pv 1) (bE (aA (pv 2) (aA (pv 3) aB))) (aQ cG (lC hu1 (pv 1) (bE (aA (pv 2) (aA (pv 3) aB))) aE ⟨rfl,rfl,rfl,rfl⟩) (pv 4)) rfl)))
   (aD (aW (pv 1))))),?_⟩
  refine aM (σ:=[some (.ref a),none,none,none,none]) rfl ?_;walk_at"cx";have hul:us.length=rows.length:=Paired.length hpl;walk_at"go";rename_i p H1 n1 S1 e1;let Pv1:Nat->St->Hp->Prop:=fun i σ' H'=>SameBut p H1 H'/\H' p=some (.dT (gE (rows.take i)))/\∃x y z,σ'=[some (.ref a),some (.ref p),x,y,z];refine cX us Pv1 ⟨SameBut.refl,e1,_,_,_,rfl⟩ (fun i σ' H' _ q=>(SameBut.same n1 S1 q.1).seq hS) ?_ ?_
  ·rintro i x _ H' hx hq_;walk_at"g1";obtain⟨sb,ek,x1,x2,x3,rfl⟩:=hq_;walk_at"g2";have hi:i<us.length:=(List.getElem?_eq_some_iff.mp hx).1;obtain⟨⟨t,n,j⟩,hrx⟩:∃r,rows[i]? =some r:=⟨_,List.getElem?_eq_getElem (by lia)⟩
   obtain⟨q,rfl,hq⟩:=Paired.at2 hpl hx hrx;have hq':H' q=some (.tup [.int t,.str n,.int j]):=(SameBut.same n1 S1 sb) _ _ hq;obtain⟨i0,ei⟩:=TX (rows.take i) t n;have hkl:=yW (rows.take i);rw[List.length_take]at hkl;walk_at"go";refine jM ek ?_;walk_at"go";rename_i b1 H2 n2 S2 e2;refine kU (dM t n) (by walk_at"hp") (by assumption) ?_;rw[ei];walk_at"go";rename_i b3 H3 n3 S3 e3;refine oY (dM t n) (by walk_at"hp") (by assumption) (by rw[sizeLine_eq];lia) fun H4 B4 e4=> ?_;refine⟨by walk_at"sb",?_,_,_,_,rfl⟩;rw[e4,bR hrx,fY];unfold DQ;rw[ei];rfl
  ·rintro _ H' hq_;walk_at"g1";obtain⟨sb,ek,x1,x2,x3,rfl⟩:=hq_;walk_at"g2";rw[hul,List.take_length]at ek;walk_at"go";exact k _ _ n1 (SameBut.same n1 S1 sb) ek
theorem KH (m:M K mg):Fc P w K mg base "added_up" 1 ["plan"] (BJ K):=⟨_,_,m.PH,m.oA.F.kp,m.oA.b,KL m⟩
theorem lH {α β γ:Type}{F:α->γ->Prop} (g:β->γ):∀{l:List β}{m:List α},Paired (fun x y=>F y (g x)) l m->Paired F m (l.map g)
 | _,_,.nil=> .nil
 | _,_,.cons r t=> .cons r (lH g t)
theorem aCz {kvs:List (List Key×V)}:∀(o:Obj) (x:HO),HO.dT kvs≠ .frz o x:=fun _ _ z=>by cases z
theorem VT {C:Addr}{D:aS}{H H':Hp}{p:Addr}{kvs:List (List Key×V)}{h:Addr}{f l:Int}{rz ps:List (Str×Int)}{ds:List aF} (x:aX C D H h f l rz ps ds) (e:H p=some (.dT kvs)) (s:SameBut p H H'):aX C D H' h f l rz ps ds:=by
 walk_at"g1";obtain⟨dx,qs,qp,qd,nk,kv,e1,e2,e3,e4,e5,e6,e7⟩:=x.ex;walk_at"g2";have ne:∀(q:Addr) (o:HO),H q=some o->(∀k,o≠ .dT k)->q≠p:=fun q o h hn z=>by
  rw[z,e]at h;cases h;exact hn _ rfl
 exact⟨dx,qs,qp,qd,nk,kv,s _ _ e1 (ne _ _ e1 fun _ z=>by cases z),s _ _ e2 (ne _ _ e2 fun _ z=>by cases z),s _ _ e3 (ne _ _ e3 fun _ z=>by cases z),e4,e5,s _ _ e6 (ne _ _ e6 fun _ z=>by cases z),Paired.imp' (fun _ d hd=>⟨hd.1,D.but hd.2 e trivial s⟩) e7⟩
theorem vQ {rz:List (Str×Int)}{f:Int}{n:Nat} (h:rz.length<=20) (hn:n<=1001):(bI rz f n).length<=20100:=by
 rw[jU]
 calc _<=_:=Nat.le_refl _
  _<=20100:=by
   first|exact Nat.le_trans (Nat.mul_le_mul hn h) (by decide)|exact Nat.le_trans (Nat.mul_le_mul h hn) (by decide)
theorem mG {H:Hp}{Q:VK}{p:Addr}{z:Str}{ss:List Str} (e:SqL K H p (ss.map V.str)) (h:Q (.bl (!decide (z∈ss))) H):rIn K true (.str z) (.ref p) H Q:=by
 walk_at"g1";obtain⟨p',xs,e1,e2,e3,e4,e5⟩:=AV (Q:=fun v H'=>v= .bl (decide (z∈ss))/\H'=H) e ⟨rfl,rfl⟩;walk_at"g2";refine⟨p',xs,e1,e2,e3,e4,?_⟩;have e5:V.bl (inV (.str z) xs)= .bl (decide (z∈ss)):=e5.1;have e6:inV (.str z) xs=decide (z∈ss):=by injection e5
 show Q (.bl (!inV (.str z) xs)) H;rw[e6];exact h
def gK (ds:List aF)(f l t:Int)(n:Str):Int:=match iH ds n with
 | some d=>lI f l d t
 | none=>0
theorem J6 {ds:List aF}{n:Str} (h:n∉ds.map (·.1)):iH ds n=none:=by
 unfold iH;rw[List.find?_eq_none];intro d hd z;exact h (List.mem_map.mpr ⟨d,hd,by simpa using z⟩)
inductive wT (C:Addr)(D:aS)(vs:List V)(H:Hp)(Q:VK)(E:XK):Prop
 | mk (h:Addr) (t:Int) (n:Str) (f l:Int) (rz ps:List (Str×Int)) (ds:List aF) (_:vs=[.ref h,.int t,.str n]) (_:aX C D H h f l rz ps ds) (_:(ds.map (·.1)).Nodup) (_:0<=f) (_:ds.length<=20) (_:∀H',Same H H'->Q (.int (gK ds f l t n)) H'):wT C D vs H Q E
theorem aAF {C:Addr}{D:aS}{H:Hp}{Q:VK}{E:XK}{h:Addr}{t:Int}{n:Str}{f l:Int}{rz ps:List (Str×Int)}{ds:List aF} (hh:aX C D H h f l rz ps ds) (nd:(ds.map (·.1)).Nodup) (hf:0<=f) (ld:ds.length<=20) (k:∀H',Same H H'->Q (.int (gK ds f l t n)) H'):wT C D [.ref h,.int t,.str n] H Q E:=⟨_,_,_,_,_,_,_,_,rfl,hh,nd,hf,ld,k⟩
theorem BB (m:M K mg):bD P w K mg base CX0 8 m.lO m.gR.d ["house","turn","name"] (wT m.aI (aH P w K mg base (some 1))):=by
 refine m.gR.F.ok sc_most_through (fun vs H Q E h=> ?_) (fun cdv A outer s H vs Q E hr h=> ?_)
 ·walk_at"g1";obtain⟨h,t,n,f,l,rz,ps,ds,rfl,hh,ndd,hf,ld,k⟩:=h;walk_at"g2";rfl
 ·walk_at"g1";obtain⟨h,t,n,f,l,rz,ps,ds,rfl,hh,ndd,hf,ld,k⟩:=h;walk_at"g2";have nd:=sc_most_through.nd;walk_at"hu";have w_dc_House:=m.bN;have w_mc_House_doors:= @d8 P w K mg base m;have w_mc_House_lets:= @uO P w K mg base m;refine⟨_,(aC (bV (aV jX (pv 2) (c7 1 hr (pv 0)) (by with_unfolding_all rfl)) (aD (aW aE)) bJ)
   (aD (aW (jY 3 hr (pv 0) (aA (pv 2) (aA (pv 1) aB)))))),?_⟩
  refine aM (σ:=[some (.ref h),some (.int t),some (.str n)]) rfl ?_;walk_at"cx";walk_at"g1";obtain⟨dx,qs,qp,qd,nk,kvs0,e1,_⟩:=hh.ex;walk_at"g2";walk_at"go";refine fJ hh fun p1 H1 n1 S1 f1=> ?_;walk_at"go";refine mG (SqL.of f1) ?_;walk_at"go"
  by_cases hm:n∈ds.map (·.1)
  ·walk_at"g1";obtain⟨d,hd,rfl,hdo⟩:=tG hm;walk_at"g2";rw[decide_eq_true hm];have e11:=S1 _ _ e1;have hk:gK ds f l t d.1=lI f l d t:=by unfold gK;rw[hdo]
   rw[hk]at k;walk_at"go";refine DY (d:=d) (aU hh S1) ndd hd hf fun H2 S2=> ?_;exact k _ (S1.trans S2)
  ·rw[decide_eq_false hm];have hk:gK ds f l t n=0:=by unfold gK;rw[J6 hm]
   rw[hk]at k;walk_at"go";exact k _ S1
theorem BH (m:M K mg):Fc P w K mg base "most_through" 8 ["house","turn","name"] (wT m.aI (aH P w K mg base (some 1))):=⟨_,_,m.D5,m.gR.F.kp,m.gR.b,BB m⟩
def flK (w:Str)(p:Str×Int):List Key:=[.inl p.2,.inr w,.inr p.1]
def szF (rz:List (Str×Int))(z:Str):Int:=match rz.find? fun e=>decide (e.1=z) with
 | some e=>e.2
 | none=>0
theorem rH:∀{rz:List (Str×Int)},(rz.map (·.1)).Nodup->∀{e:Str×Int},e∈rz->szF rz e.1=e.2
 | a::l,nd,e,h=>by
  have nd':=List.nodup_cons.mp nd;rcases List.mem_cons.mp h with rfl|h
  ·unfold szF;rw[List.find?_cons_of_pos (by simp)]
  ·have hne:¬a.1=e.1:=fun z=>nd'.1 (show a.1∈_ by rw[z];exact List.mem_map.mpr ⟨e,h,rfl⟩);have ih:=rH nd'.2 h;unfold szF at ih ⊢;rw[List.find?_cons_of_neg (by simpa using hne)];exact ih
def JC (e:List Key×V):Str×Int:=match e.1 with
 | [.inl t,.inr n]=>(n,t)
 | _=>(⟨#[]⟩,0)
def dfB (ds:List aF)(f l:Int)(e:List Key×V):Bool:=decide (qN e.2>gK ds f l (JC e).2 (JC e).1)
def dfK (ds:List aF)(f l:Int)(rows:List aT):List (List Key):=((gE rows).filter (dfB ds f l)).map fun e=>flK "door" (JC e)
abbrev goL (ds:List aF)(f l:Int)(rows:List aT):List Key->Int:=iT (kQ ds) (rows.filter (cnt (ds.map (·.1)) f l))
abbrev goC (ds:List aF)(f l:Int)(rows:List aT):List Key->Int:=iT (iX ds) (rows.filter (cnt (ds.map (·.1)) f l))
def lvB (ps:List (Str×Int))(L C LT:List Key->Int)(f:Int)(x:Str×Int):Bool:=decide (LT (cK x)>j8 ps L C x.1 f (x.2 - f).toNat)
def lfK (rz ps:List (Str×Int))(L C LT:List Key->Int)(f l:Int):List (List Key):=(((bI rz f (l+1 - f).toNat).filter fun x=>decide (x.2<l)).filter (lvB ps L C LT f)).map (flK "leave")
def fuB (rz ps:List (Str×Int))(L C:List Key->Int)(f:Int)(x:Str×Int):Bool:=decide (j8 ps L C x.1 f (x.2 - f).toNat>szF rz x.1)
def ffK (rz ps:List (Str×Int))(L C:List Key->Int)(f l:Int):List (List Key):=((bI rz f (l+1 - f).toNat).filter (fuB rz ps L C f)).map (flK "full")
def dB (rz ps:List (Str×Int))(ds:List aF)(f l:Int)(rows:List aT):List (List Key):=(dfK ds f l rows++lfK rz ps (goL ds f l rows) (goC ds f l rows) (goL ds f l rows) f l)++ffK rz ps (goL ds f l rows) (goC ds f l rows) f l
theorem LV (ds:List aF)(f l:Int)(rows:List aT):(dfK ds f l rows).length<=rows.length:=by
 unfold dfK;rw[List.length_map];exact Nat.le_trans (List.length_filter_le _ _) (yW rows)
theorem Z2 {rz ps:List (Str×Int)}{L C LT:List Key->Int}{f l:Int} (h:(bI rz f (l+1 - f).toNat).length<=20100):(lfK rz ps L C LT f l).length<=20100:=by
 unfold lfK;rw[List.length_map];exact Nat.le_trans (List.length_filter_le _ _) (Nat.le_trans (List.length_filter_le _ _) h)
theorem YL {rz ps:List (Str×Int)}{L C:List Key->Int}{f l:Int} (h:(bI rz f (l+1 - f).toNat).length<=20100):(ffK rz ps L C f l).length<=20100:=by
 unfold ffK;rw[List.length_map];exact Nat.le_trans (List.length_filter_le _ _) h
theorem UI (rows:List aT){k:List Key}(h:k∈(gE rows).map (·.1)):∃r∈rows,k=dM r.1 r.2.1:=by
 induction rows using jL with
 | h0=>exact nomatch h
 | hs l r ih =>
  rw[fY]at h;obtain⟨e,he,rfl⟩:=List.mem_map.mp h;rcases yT he with h'|⟨h1,h2⟩
  ·obtain⟨r',hr',e'⟩:=ih (List.mem_map.mpr ⟨e,h',rfl⟩);exact⟨r',List.mem_append_left _ hr',e'⟩
  ·exact⟨r,List.mem_append_right _ (.head _),h1⟩
theorem mem_dfK {ds:List aF}{f l:Int}{rows:List aT}{k:List Key}:k∈dfK ds f l rows↔∃r∈rows,k=flK "door" (r.2.1,r.1)/\tW rows r.1 r.2.1>gK ds f l r.1 r.2.1:=by
 unfold dfK
 constructor
 ·intro h;obtain⟨e,he,rfl⟩:=List.mem_map.mp h;obtain⟨h1,h2⟩:=List.mem_filter.mp he;obtain⟨r,hr,er⟩:=UI rows (List.mem_map.mpr ⟨e,h1,rfl⟩);walk_at"g1";obtain⟨t,n,i,rfl⟩:=(l9 rows).2 e h1;walk_at"g2";obtain⟨e1,e2⟩:=HW er;have hv:=jP (l9 rows).1 h1;have ht:=GV t n rows;rw[hv]at ht;have ht':i=tW rows t n:=ht;refine⟨r,hr,?_,?_⟩
  ·rw[←e1,←e2];rfl
  ·rw[←e1,←e2,←ht'];exact of_decide_eq_true h2
 ·rintro hq_;walk_at"g1";obtain⟨r,hr,rfl,h⟩:=hq_;walk_at"g2";have ht:=GV r.1 r.2.1 rows;cases hv:bA (gE rows) (dM r.1 r.2.1) with
  | none =>
   exfalso
   obtain⟨l1,l2,rfl⟩:=List.append_of_mem hr;have key:∀l2:List aT,(bA (gE (l1++r::l2)) (dM r.1 r.2.1)).isSome=true:=fun l2=>by
    induction l2 using jL with
    | h0 =>
     rw[fY];unfold DQ;rw[kP,if_pos rfl];rfl
    | hs l a ih =>
     rw[←List.cons_append,←List.append_assoc,fY];unfold DQ;rw[kP]
     split
     ·rfl
     ·exact ih
   have:=key l2;rw[hv]at this;cases this
  | some v =>
   have hm:=vG hv;walk_at"g1";obtain⟨t',n',i,e⟩:=(l9 rows).2 _ hm;walk_at"g2";obtain⟨e1,e2⟩:=Prod.mk.inj e;subst e2;rw[hv]at ht;have ht':i=tW rows r.1 r.2.1:=ht;refine List.mem_map.mpr ⟨(dM r.1 r.2.1,.int i),List.mem_filter.mpr ⟨hm,?_⟩,rfl⟩;show decide (i>gK ds f l r.1 r.2.1)=true;rw[ht'];exact decide_eq_true h
theorem mem_lfK {rz ps:List (Str×Int)}{L C LT:List Key->Int}{f l:Int}{k:List Key}:k∈lfK rz ps L C LT f l↔∃z∈rz.map (·.1),∃i:Nat,f+(i:Int)<l/\k=flK "leave" (z,f+(i:Int))/\LT (cK (z,f+(i:Int)))>j8 ps L C z f i:=by
 unfold lfK
 constructor
 ·intro h;walk_at"g1";obtain⟨⟨z,t⟩,he,rfl⟩:=List.mem_map.mp h;walk_at"g2";obtain⟨h1,h2⟩:=List.mem_filter.mp he;obtain⟨h3,h4⟩:=List.mem_filter.mp h1;walk_at"g1";obtain⟨hz,i,hi,rfl⟩:=pairsN_mem.mp h3;walk_at"g2";have h4:f+(i:Int)<l:=by simpa using h4
  have h2:=of_decide_eq_true h2;rw[show ((z,f+(i:Int)).2 - f).toNat=i by show (f+(i:Int) - f).toNat=i;lia]at h2;exact⟨z,hz,i,h4,rfl,h2⟩
 ·rintro hq_;walk_at"g1";obtain⟨z,hz,i,hi,rfl,h⟩:=hq_;walk_at"g2";refine List.mem_map.mpr ⟨(z,f+(i:Int)),List.mem_filter.mpr ⟨List.mem_filter.mpr ⟨pairsN_mem.mpr ⟨hz,i,by lia,rfl⟩,by simpa using hi⟩,?_⟩,rfl⟩;unfold lvB;rw[show ((z,f+(i:Int)).2 - f).toNat=i by show (f+(i:Int) - f).toNat=i;lia];exact decide_eq_true h
theorem YF {rz ps:List (Str×Int)}(nr:(rz.map (·.1)).Nodup){L C:List Key->Int}{f l:Int}{k:List Key}:k∈ffK rz ps L C f l↔∃e∈rz,∃i:Nat,f+(i:Int)<=l/\k=flK "full" (e.1,f+(i:Int))/\j8 ps L C e.1 f i>e.2:=by
 unfold ffK
 constructor
 ·intro h;walk_at"g1";obtain⟨⟨z,t⟩,he,rfl⟩:=List.mem_map.mp h;walk_at"g2";obtain⟨h1,h2⟩:=List.mem_filter.mp he;walk_at"g1";obtain⟨hz,i,hi,rfl⟩:=pairsN_mem.mp h1;walk_at"g2";obtain⟨e,hez,hz'⟩:=List.mem_map.mp hz;have hz':e.1=z:=hz';subst hz';have h2:=of_decide_eq_true h2;rw[show ((e.1,f+(i:Int)).2 - f).toNat=i by show (f+(i:Int) - f).toNat=i;lia,show szF rz ((e.1,f+(i:Int)):Str×Int).1=e.2 from rH nr hez]at h2;exact⟨e,hez,i,by lia,rfl,h2⟩
 ·rintro hq_;walk_at"g1";obtain⟨e,he,i,hi,rfl,h⟩:=hq_;walk_at"g2";refine List.mem_map.mpr ⟨(e.1,f+(i:Int)),List.mem_filter.mpr ⟨pairsN_mem.mpr ⟨List.mem_map.mpr ⟨e,he,rfl⟩,i,by lia,rfl⟩,?_⟩,rfl⟩;unfold fuB;rw[show ((e.1,f+(i:Int)).2 - f).toNat=i by show (f+(i:Int) - f).toNat=i;lia,show szF rz ((e.1,f+(i:Int)):Str×Int).1=e.2 from rH nr he];exact decide_eq_true h
theorem ON {rz ps:List (Str×Int)}(nr:(rz.map (·.1)).Nodup)(ds:List aF)(f l:Int)(rows:List aT):∀r∈dB rz ps ds f l rows,r.map fA=[true,false,false]:=fun k hk=>by
 unfold dB at hk;rcases List.mem_append.mp hk with hk|hk
 ·rcases List.mem_append.mp hk with hk|hk
  ·walk_at"g1";obtain⟨r,_,rfl,_⟩:=mem_dfK.mp hk;walk_at"g2";rfl
  ·walk_at"g1";obtain⟨z,_,i,_,rfl,_⟩:=mem_lfK.mp hk;walk_at"g2";rfl
 ·walk_at"g1";obtain⟨e,_,i,_,rfl,_⟩:=(YF nr).mp hk;walk_at"g2";rfl
inductive wW (K:W.Frag)(C:Addr)(D:aS)(vs:List V)(H:Hp)(Q:VK)(E:XK):Prop
 | mk (h a:Addr) (f l:Int) (rz ps:List (Str×Int)) (ds:List aF) (us:List V) (rows:List aT) (_:vs=[.ref h,.ref a]) (_:aX C D H h f l rz ps ds) (_:(ds.map (·.1)).Nodup) (_:0<=f) (_:ds.length<=20) (_:SqL K H a us) (_:cP H us rows) (_:rows.length<=200) (_:∀p ys H',H p=none->Same H H'->H' p=some (.lst ys)->KRows H' ys (dfK ds f l rows)->Q (.ref p) H'):wW K C D vs H Q E
theorem aAB {C:Addr}{D:aS}{H:Hp}{Q:VK}{E:XK}{h a:Addr}{f l:Int}{rz ps:List (Str×Int)}{ds:List aF}{us:List V}{rows:List aT} (hh:aX C D H h f l rz ps ds) (nd:(ds.map (·.1)).Nodup) (hf:0<=f) (ld:ds.length<=20) (hS:SqL K H a us) (hp:cP H us rows) (hl:rows.length<=200) (k:∀p ys H',H p=none->Same H H'->H' p=some (.lst ys)->KRows H' ys (dfK ds f l rows)->Q (.ref p) H'):wW K C D [.ref h,.ref a] H Q E:=⟨_,_,_,_,_,_,_,_,_,rfl,hh,nd,hf,ld,hS,hp,hl,k⟩
theorem DG (m:M K mg):bD P w K mg base CX0 9 m.nB m.iP.d ["house","plan"] (wW K m.aI (aH P w K mg base (some 1))):=by
 refine m.iP.F.ok sc_door_faults (fun vs H Q E h=> ?_) (fun cdv A outer s H vs Q E hr h=> ?_)
 ·walk_at"g1";obtain⟨h,a,f,l,rz,ps,ds,us,rows,rfl,hh,ndd,hf,ld,hS,hpl,hlen,k⟩:=h;walk_at"g2";rfl
 ·walk_at"g1";obtain⟨h,a,f,l,rz,ps,ds,us,rows,rfl,hh,ndd,hf,ld,hS,hpl,hlen,k⟩:=h;walk_at"g2";have nd:=sc_door_faults.nd;walk_at"hu";have F_added_up:= @KH P w K mg base m;have F_most_through:= @BH P w K mg base m;have w_dc_House:=m.bN;refine⟨_,(aC (aP (i:=2) nd rfl (by walk_at"oi") (b9 F_added_up hr (aA (pv 1) aB)))
   (aD (aW (DX (cI (N:=["turn","name","going","house"]) (nl:=2) (ci:=[2,0]) rfl (blk (s.heap.objs.size+1) rfl rfl rfl (by kernel_rfl)) (UQ (pv 2)) (fun _ _ _ _=>(oG (K:=K) (n:=2) rfl (bU (aL (i:=0) (show (["turn","name","going","house"]:List Str).Nodup by decide +kernel) rfl (by walk_at"oi")) (bU (aL (i:=1) (show (["turn","name","going","house"]:List Str).Nodup by decide +kernel) rfl (by walk_at"oi")) eK)))) (fun _ _ _ _=>(fE (aV qG (fK hu1 (pv 2) (bE (aA (pv 0) (aA (pv 1) aB))) (fun _ _=>rfl)) (b9 F_most_through hr (aA (pv 3) (aA (pv 0) (aA (pv 1) aB)))) (bL _)))) (fun _ _ _ _=>(bE (aA (pv 0) (aA aJ (aA (pv 1) aB)))))))))),?_⟩
  refine aM (σ:=[some (.ref h),some (.ref a),none]) rfl ?_;walk_at"cx";walk_at"go";refine aCV hS hpl hlen fun p1 H1 n1 S1 e1=> ?_;walk_at"go";refine zG e1 aCz ?_;walk_at"go";refine V6 ?_;walk_at"go";refine VM e1 fun o H2 B2 e2=> ?_;have hg:=l9 rows;have hln:=yW rows;have hh2:aX m.aI (aH P w K mg base (some 1)) H2 h f l rz ps ds:=VT (aU hh S1) e1 B2;refine aBP (dfB ds f l) (fun e y H=>∃q,y= .ref q/\H q=some (.tup ((flK "door" (JC e)).map kV))) (fun _ _ _ _ ⟨q,h1,h2⟩ s=>⟨q,h1,s _ _ h2⟩) (fun e he=>by
   walk_at"g1";obtain⟨t,n,i,rfl⟩:=hg.2 e he;walk_at"g2";rfl) (by rw[sizeLine_eq];lia) (rest:=[some (.ref p1),some (.ref h)]) (by rfl) e2 ?_ ?_ ?_
  ·intro k1 k2 v H3 hm s3 R hR;walk_at"g1";obtain⟨t,n,i,hte⟩:=hg.2 _ hm;walk_at"g2";have h1:k1= .inl t/\k2= .inr n/\v= .int i:=by
    have e1':=congrArg Prod.fst hte;have e2':=congrArg Prod.snd hte;have e1'':[k1,k2]=dM t n:=e1';unfold dM at e1'';injection e1'' with a1 a2;injection a2 with a2;exact⟨a1,a2,e2'⟩
   obtain⟨rfl,rfl,rfl⟩:=h1;have hv:bA (gE rows) (dM t n)=some (.int i):=jP hg.1 hm;show (_:TT) (some (V.int t)::some (V.str n)::[some (.ref p1),some (.ref h)]) H3 R;walk_at"go";rename_i b4 H4 n4 S4 e4;refine oM (dM t n) (.inr ⟨o,S4 _ _ (s3 _ _ e2)⟩) e4 hv ?_;walk_at"go";refine aAF (aU hh2 (s3.trans S4)) ndd hf ld fun H5 S5=> ?_;walk_at"go";exact hR _ (S4.trans S5)
  ·intro k1 k2 v H3 hm hcc s3 R hR;walk_at"g1";obtain⟨t,n,i,hte⟩:=hg.2 _ hm;walk_at"g2";have h1:k1= .inl t/\k2= .inr n/\v= .int i:=by
    have e1':=congrArg Prod.fst hte;have e2':=congrArg Prod.snd hte;have e1'':[k1,k2]=dM t n:=e1';unfold dM at e1'';injection e1'' with a1 a2;injection a2 with a2;exact⟨a1,a2,e2'⟩
   obtain⟨rfl,rfl,rfl⟩:=h1;show (_:TE) (some (V.int t)::some (V.str n)::[some (.ref p1),some (.ref h)]) H3 R;walk_at"go";rename_i b4 H4 n4 S4 e4;exact hR _ _ ⟨b4,rfl,e4⟩ S4
  intro ys H3 s3 hys;have kr:KRows H3 ys (dfK ds f l rows):=lH (fun e=>flK "door" (JC e)) hys;walk_at"go";rename_i p4 H4 n4 S4 e4;have eo:H4 p1=some (.frz o (.dT (gE rows))):=S4 _ _ (s3 _ _ e2);refine qO eo fun H5 B5 e5=> ?_;have hpq:p4≠p1:=fun z=>by rw[z,s3 _ _ e2]at n4;cases n4
  have hn:H p4=none:=by
   cases hq:H p4 with
   | none=>rfl
   | some u =>
    have:=s3 _ _ (B2 _ _ (S1 _ _ hq) hpq);rw[n4]at this;cases this
  have fr:∀b u,H b=some u->b≠p1:=fun b u hb z=>by rw[z,n1]at hb;cases hb
  exact k p4 ys H5 hn (fun b u hb=>B5 _ _ (S4 _ _ (s3 _ _ (B2 _ _ (S1 _ _ hb) (fr b u hb)))) (fr b u hb)) (B5 _ _ e4 hpq) (KRows.map (fun q xs hq=>B5 _ _ hq fun z=>by rw[z,eo]at hq;cases hq) (kr.same S4))
theorem DW (m:M K mg):Fc P w K mg base "door_faults" 9 ["house","plan"] (wW K m.aI (aH P w K mg base (some 1))):=⟨_,_,m.F3,m.iP.F.kp,m.iP.b,DG m⟩
inductive wG (K:W.Frag)(C:Addr)(D:aS)(vs:List V)(H:Hp)(Q:VK)(E:XK):Prop
 | mk (h a b:Addr) (f l:Int) (rz ps:List (Str×Int)) (ds:List aF) (us:List V) (rows:List aT) (L C':List Key->Int) (_:vs=[.ref h,.ref a,.ref b]) (_:aX C D H h f l rz ps ds) (_:(rz.map (·.1)).Nodup) (_:(ds.map (·.1)).Nodup) (_:(∀d∈ds,iI (rz.map (·.1)) d)) (_:0<=f) (_:f<=l) (_:l<1000000000000) (_:l - f<=1000) (_:rz.length<=20) (_:SqL K H a us) (_:cP H us rows) (_:rows.length<=200) (_:H b=some (.dT (jA ps L C' f (bI rz f (l+1 - f).toNat)))) (_:∀p ys H',H p=none->Same H H'->H' p=some (.lst ys)->KRows H' ys (lfK rz ps L C' (goL ds f l rows) f l)->Q (.ref p) H'):wG K C D vs H Q E
theorem AO (m:M K mg):bD P w K mg base CX0 5 m.lK m.gW.d ["house","plan","inside"] (wG K m.aI (aH P w K mg base (some 1))):=by
 refine m.gW.F.ok sc_leave_faults (fun vs H Q E h=> ?_) (fun cdv A outer s H vs Q E hr h=> ?_)
 ·walk_at"g1";obtain⟨h,a,b,f,l,rz,ps,ds,us,rows,L,C',rfl,hh,nr,ndd,hin,h0,h1,h2,h3,lr,hS,hpl,hlen,eb,k⟩:=h;walk_at"g2";rfl
 ·walk_at"g1";obtain⟨h,a,b,f,l,rz,ps,ds,us,rows,L,C',rfl,hh,nr,ndd,hin,h0,h1,h2,h3,lr,hS,hpl,hlen,eb,k⟩:=h;walk_at"g2";have nd:=sc_leave_faults.nd;walk_at"hu";have F_leaving:= @AR P w K mg base m;have w_dc_House:=m.bN;have w_mc_House_pairs:= @kR P w K mg base m;refine⟨_,(aC (aP (i:=3) nd rfl (by walk_at"oi") (b9 F_leaving hr (aA (pv 0) (aA (pv 1) aB))))
   (aC (dR (i:=4) nd rfl (by walk_at"oi") (N:=["pair","house"]) (nl:=1) (ci:=[0]) rfl (blk (s.heap.objs.size+1) rfl rfl rfl (by kernel_rfl)) (bG (c7 1 hr (pv 0))) (fun _ _ _ _=>(aL (i:=0) (show (["pair","house"]:List Str).Nodup by decide +kernel) rfl (by walk_at"oi"))) (fun _ _ _ _=>(fE (aV iK (bS (dI (K:=K)) (pv 0) aE (fun _ _=>rfl)) (rK (K:=K) (pv 1) rfl) (bL _)))) (fun _ _ _ _=>(pv 0)))
   (aD (aW (cI (N:=["room","turn","inside","leave"]) (nl:=2) (ci:=[2,3]) rfl (blk (s.heap.objs.size+1) rfl rfl rfl (by kernel_rfl)) (bG (pv 4)) (fun _ _ _ _=>(oG (K:=K) (n:=2) rfl (bU (aL (i:=0) (show (["room","turn","inside","leave"]:List Str).Nodup by decide +kernel) rfl (by walk_at"oi")) (bU (aL (i:=1) (show (["room","turn","inside","leave"]:List Str).Nodup by decide +kernel) rfl (by walk_at"oi")) eK)))) (fun _ _ _ _=>(fE (aV qG (lC hu1 (pv 3) (bE (aA (pv 0) (aA (pv 1) aB))) aE ⟨rfl,rfl,rfl,rfl⟩) (fK hu1 (pv 2) (bE (aA (pv 0) (aA (pv 1) aB))) (fun _ _=>rfl)) (bL _)))) (fun _ _ _ _=>(bE (aA (pv 1) (aA aJ (aA (pv 0) aB)))))))))),?_⟩
  refine aM (σ:=[some (.ref h),some (.ref a),some (.ref b),none,none]) rfl ?_;walk_at"cx";walk_at"g1";obtain⟨dx,qs,qp,qd,nk,kvs0,e1,_⟩:=hh.ex;walk_at"g2";walk_at"go";refine CL hh ndd hin hS hpl hlen fun p1 H1 n1 S1 f1=> ?_;have e11:=S1 _ _ e1;walk_at"go";refine DM (aU hh S1) h0 h1 h2 h3 lr fun p2 ys H2 n2 S2 f2 hys=> ?_;have e12:=S2 _ _ e11;walk_at"go";have hpn:(bI rz f (l+1 - f).toNat).length<=20100:=vQ lr (by lia);have hyl:ys.length=(bI rz f (l+1 - f).toNat).length:=Paired.length hys;refine cR (α:=Str×Int) (xs:=bI rz f (l+1 - f).toNat) (vs:=ys) (b5 H2) (fun x=>decide (x.2<l)) (fun x y H=>b5 H y x) (fun _ _ _ _ ⟨q,h1,h2⟩ s=>⟨q,h1,s _ _ h2⟩) (by rw[sizeLine_eq];lia) (rest:=[some (.ref h)]) (by rfl) (SqL.of f2) hys ?_ ?_ ?_
  ·rintro v ⟨z,u⟩ H3 ⟨q3,rfl,hq3⟩ hm s3 R hR;have hq3:H3 q3=some (.tup [.str z,.int u]):=s3 _ _ hq3;have e13:=s3 _ _ e12;walk_at"go";refine⟨q3,_,1,_,rfl,rfl,SqT.of hq3,rfl,?_⟩;walk_at"go";exact hR _ (Same.refl _)
  ·rintro v x H3 ⟨q3,rfl,hq3⟩ hm - s3 R hR;walk_at"go";exact hR _ _ ⟨q3,rfl,s3 _ _ hq3⟩ (Same.refl _)
  intro zs H3 s3 hzs;have hzp:Paired (b5 H3) zs ((bI rz f (l+1 - f).toNat).filter fun x=>decide (x.2<l)):=iC hzs;have hfl:((bI rz f (l+1 - f).toNat).filter fun x=>decide (x.2<l)).length<=20100:=Nat.le_trans (List.length_filter_le _ _) hpn;walk_at"go";rename_i p4 H4 n4 S4 e4;have s14:=S2.trans (s3.trans S4);have f14:=s14 _ _ f1;have eb4:=s14 _ _ (S1 _ _ eb);refine rN (α:=Str×Int) (xs:=(bI rz f (l+1 - f).toNat).filter fun x=>decide (x.2<l)) (vs:=zs) (fun x=> .str x.1) (fun x=> .int x.2) (lvB ps L C' (goL ds f l rows) f) (fun x y H=>∃q,y= .ref q/\H q=some (.tup ((flK "leave" x).map kV))) (fun _ _ _ _ ⟨q,h1,h2⟩ s=>⟨q,h1,s _ _ h2⟩) (by rw[sizeLine_eq];lia) (rest:=[some (.ref b),some (.ref p1)]) (by rfl) (SqL.of e4) (iD hzp S4) ?_ ?_ ?_
  ·rintro ⟨z,u⟩ H5 hx s5 R hR;obtain⟨hx1,hx2⟩:=List.mem_filter.mp hx;have f15:=s5 _ _ f14;have eb5:=s5 _ _ eb4;have hpi:=tY (ps:=ps) (L:=L) (C:=C') (f:=f) (fS nr f (l+1 - f).toNat) hx1;show (_:TT) (some (V.str z)::some (V.int u)::[some (.ref b),some (.ref p1)]) H5 R;walk_at"go";refine jM f15 ?_;walk_at"go";rename_i b6 H6 n6 S6 e6;refine kU (cK (z,u)) (S6 _ _ f15) e6 ?_;rw[zC];walk_at"go";rename_i b7 H7 n7 S7 e7;refine oM (cK (z,u)) (.inl (S7 _ _ (S6 _ _ eb5))) e7 hpi ?_;walk_at"go";exact hR _ (S6.trans S7)
  ·rintro ⟨z,u⟩ H5 hx hcc s5 R hR;show (_:TE) (some (V.str z)::some (V.int u)::[some (.ref b),some (.ref p1)]) H5 R;walk_at"go";rename_i b6 H6 n6 S6 e6;exact hR _ _ ⟨b6,rfl,e6⟩ S6
  intro ws H5 s5 hws;have kr:KRows H5 ws (lfK rz ps L C' (goL ds f l rows) f l):=lH (flK "leave") hws;walk_at"go";rename_i p6 H6 n6 S6 e6;have s06:Same H H6:=S1.trans (s14.trans (s5.trans S6));refine k p6 ws H6 ?_ s06 e6 (kr.same S6);cases hq:H p6 with
  | none=>rfl
  | some u =>
   have:=(S1.trans (s14.trans s5)) _ _ hq;rw[n6]at this;cases this
theorem BL (m:M K mg):Fc P w K mg base "leave_faults" 5 ["house","plan","inside"] (wG K m.aI (aH P w K mg base (some 1))):=⟨_,_,m.EE,m.gW.F.kp,m.gW.b,AO m⟩
theorem aAM {C:Addr}{D:aS}{H:Hp}{Q:VK}{E:XK}{h a b:Addr}{f l:Int}{rz ps:List (Str×Int)}{ds:List aF}{us:List V}{rows:List aT}{L C':List Key->Int} (hh:aX C D H h f l rz ps ds) (nr:(rz.map (·.1)).Nodup) (nd:(ds.map (·.1)).Nodup) (hin:∀d∈ds,iI (rz.map (·.1)) d) (h0:0<=f) (h1:f<=l) (h2:l<1000000000000) (h3:l - f<=1000) (lr:rz.length<=20) (hS:SqL K H a us) (hp:cP H us rows) (hl:rows.length<=200) (eb:H b=some (.dT (jA ps L C' f (bI rz f (l+1 - f).toNat)))) (k:∀p ys H',H p=none->Same H H'->H' p=some (.lst ys)->KRows H' ys (lfK rz ps L C' (goL ds f l rows) f l)->Q (.ref p) H'):wG K C D [.ref h,.ref a,.ref b] H Q E:=⟨_,_,_,_,_,_,_,_,_,_,_,_,rfl,hh,nr,nd,hin,h0,h1,h2,h3,lr,hS,hp,hl,eb,k⟩
inductive wD (C:Addr)(D:aS)(vs:List V)(H:Hp)(Q:VK)(E:XK):Prop
 | mk (h b:Addr) (f l:Int) (rz ps:List (Str×Int)) (ds:List aF) (L C':List Key->Int) (_:vs=[.ref h,.ref b]) (_:aX C D H h f l rz ps ds) (_:(rz.map (·.1)).Nodup) (_:0<=f) (_:f<=l) (_:l<1000000000000) (_:l - f<=1000) (_:rz.length<=20) (_:H b=some (.dT (jA ps L C' f (bI rz f (l+1 - f).toNat)))) (_:∀p ys H',H p=none->Same H H'->H' p=some (.lst ys)->KRows H' ys (ffK rz ps L C' f l)->Q (.ref p) H'):wD C D vs H Q E
theorem aBX {C:Addr}{D:aS}{H:Hp}{Q:VK}{E:XK}{h b:Addr}{f l:Int}{rz ps:List (Str×Int)}{ds:List aF}{L C':List Key->Int} (hh:aX C D H h f l rz ps ds) (nr:(rz.map (·.1)).Nodup) (h0:0<=f) (h1:f<=l) (h2:l<1000000000000) (h3:l - f<=1000) (lr:rz.length<=20) (eb:H b=some (.dT (jA ps L C' f (bI rz f (l+1 - f).toNat)))) (k:∀p ys H',H p=none->Same H H'->H' p=some (.lst ys)->KRows H' ys (ffK rz ps L C' f l)->Q (.ref p) H'):wD C D [.ref h,.ref b] H Q E:=⟨_,_,_,_,_,_,_,_,_,rfl,hh,nr,h0,h1,h2,h3,lr,eb,k⟩
theorem CM (m:M K mg):bD P w K mg base CX0 5 m.nH m.iO.d ["house","inside"] (wD m.aI (aH P w K mg base (some 1))):=by
 refine m.iO.F.ok sc_full_faults (fun vs H Q E h=> ?_) (fun cdv A outer s H vs Q E hr h=> ?_)
 ·walk_at"g1";obtain⟨h,b,f,l,rz,ps,ds,L,C',rfl,hh,nr,h0,h1,h2,h3,lr,eb,k⟩:=h;walk_at"g2";rfl
 ·walk_at"g1";obtain⟨h,b,f,l,rz,ps,ds,L,C',rfl,hh,nr,h0,h1,h2,h3,lr,eb,k⟩:=h;walk_at"g2";have nd:=sc_full_faults.nd;walk_at"hu";have w_dc_House:=m.bN;have w_mc_House_pairs:= @kR P w K mg base m;have w_mc_House_holds:= @lD P w K mg base m;refine⟨_,(aD (aW (cI (N:=["room","turn","inside","house"]) (nl:=2) (ci:=[1,0]) rfl (blk (s.heap.objs.size+1) rfl rfl rfl (by kernel_rfl)) (bG (c7 1 hr (pv 0))) (fun _ _ _ _=>(oG (K:=K) (n:=2) rfl (bU (aL (i:=0) (show (["room","turn","inside","house"]:List Str).Nodup by decide +kernel) rfl (by walk_at"oi")) (bU (aL (i:=1) (show (["room","turn","inside","house"]:List Str).Nodup by decide +kernel) rfl (by walk_at"oi")) eK)))) (fun _ _ _ _=>(fE (aV qG (fK hu1 (pv 2) (bE (aA (pv 0) (aA (pv 1) aB))) (fun _ _=>rfl)) (uU (P:=P) (w:=w) (K:=K) (mg:=mg) (base:=base) 3 hr (pv 3) (aA (pv 0) aB)) (bL _)))) (fun _ _ _ _=>(bE (aA (pv 1) (aA aJ (aA (pv 0) aB)))))))),?_⟩;refine aM (σ:=[some (.ref h),some (.ref b)]) rfl ?_;walk_at"cx";walk_at"g1";obtain⟨dx,qs,qp,qd,nk,kvs0,e1,_⟩:=hh.ex;walk_at"g2";walk_at"go";refine DM hh h0 h1 h2 h3 lr fun p2 ys H2 n2 S2 f2 hys=> ?_;have hpn:(bI rz f (l+1 - f).toNat).length<=20100:=vQ lr (by lia);have eb2:=S2 _ _ eb;have hh2:=aU hh S2;have e12:=S2 _ _ e1;walk_at"go";refine rN (α:=Str×Int) (xs:=bI rz f (l+1 - f).toNat) (vs:=ys) (fun x=> .str x.1) (fun x=> .int x.2) (fuB rz ps L C' f) (fun x y H=>∃q,y= .ref q/\H q=some (.tup ((flK "full" x).map kV))) (fun _ _ _ _ ⟨q,h1,h2⟩ s=>⟨q,h1,s _ _ h2⟩) (by rw[sizeLine_eq];lia) (rest:=[some (.ref b),some (.ref h)]) (by rfl) (SqL.of f2) hys ?_ ?_ ?_
  ·rintro ⟨z,u⟩ H5 hx1 s5 R hR;walk_at"g1";obtain⟨hz,i,hi,hu⟩:=pairsN_mem.mp hx1;walk_at"g2";walk_at"g1";obtain⟨⟨ez,ej⟩,he,hez⟩:=List.mem_map.mp hz;walk_at"g2";have hez:ez=z:=hez;subst hez;have eb5:=s5 _ _ eb2;have e15:=s5 _ _ e12;have hpi:=tY (ps:=ps) (L:=L) (C:=C') (f:=f) (fS nr f (l+1 - f).toNat) hx1;have hsz:szF rz ez=ej:=rH nr he;unfold fuB at hR;simp only[hsz]at hR;show (_:TT) (some (V.str ez)::some (V.int u)::[some (.ref b),some (.ref h)]) H5 R;walk_at"go";rename_i b7 H7 n7 S7 e7;refine oM (cK (ez,u)) (.inl (S7 _ _ eb5)) e7 hpi ?_;have e17:=S7 _ _ e15;walk_at"go";refine CZ (aU hh2 (s5.trans S7)) nr he fun H8 S8=> ?_;walk_at"go";exact hR _ (S7.trans S8)
  ·rintro ⟨z,u⟩ H5 hx hcc s5 R hR;show (_:TE) (some (V.str z)::some (V.int u)::[some (.ref b),some (.ref h)]) H5 R;walk_at"go";rename_i b6 H6 n6 S6 e6;exact hR _ _ ⟨b6,rfl,e6⟩ S6
  intro ws H5 s5 hws;have kr:KRows H5 ws (ffK rz ps L C' f l):=lH (flK "full") hws;walk_at"go";rename_i p6 H6 n6 S6 e6;refine k p6 ws H6 ?_ (S2.trans (s5.trans S6)) e6 (kr.same S6);cases hq:H p6 with
  | none=>rfl
  | some u =>
   have:=(S2.trans s5) _ _ hq;rw[n6]at this;cases this
theorem CU (m:M K mg):Fc P w K mg base "full_faults" 5 ["house","inside"] (wD m.aI (aH P w K mg base (some 1))):=⟨_,_,m.F1,m.iO.F.kp,m.iO.b,CM m⟩
inductive BO (K:W.Frag)(C:Addr)(D:aS)(vs:List V)(H:Hp)(Q:VK)(E:XK):Prop
 | mk (h a:Addr) (f l:Int) (rz ps:List (Str×Int)) (ds:List aF) (us:List V) (rows:List aT) (_:vs=[.ref h,.ref a]) (_:aX C D H h f l rz ps ds) (_:(rz.map (·.1)).Nodup) (_:(ds.map (·.1)).Nodup) (_:(∀d∈ds,iI (rz.map (·.1)) d)) (_:0<=f) (_:f<=l) (_:l<1000000000000) (_:l - f<=1000) (_:rz.length<=20) (_:ds.length<=20) (_:SqL K H a us) (_:cP H us rows) (_:rows.length<=200) (_:(dB rz ps ds f l rows).length<64) (_:∀p ws H',H p=none->Same H H'->H' p=some (.lst ws)->KRows H' ws (wP (dB rz ps ds f l rows))->Q (.ref p) H'):BO K C D vs H Q E
theorem aC1 {C:Addr}{D:aS}{H:Hp}{Q:VK}{E:XK}{h a:Addr}{f l:Int}{rz ps:List (Str×Int)}{ds:List aF}{us:List V}{rows:List aT} (hh:aX C D H h f l rz ps ds) (nr:(rz.map (·.1)).Nodup) (nd:(ds.map (·.1)).Nodup) (hin:∀d∈ds,iI (rz.map (·.1)) d) (h0:0<=f) (h1:f<=l) (h2:l<1000000000000) (h3:l - f<=1000) (lr:rz.length<=20) (ld:ds.length<=20) (hS:SqL K H a us) (hp:cP H us rows) (hl:rows.length<=200) (h64:(dB rz ps ds f l rows).length<64) (k:∀p ws H',H p=none->Same H H'->H' p=some (.lst ws)->KRows H' ws (wP (dB rz ps ds f l rows))->Q (.ref p) H'):BO K C D [.ref h,.ref a] H Q E:=⟨_,_,_,_,_,_,_,_,_,rfl,hh,nr,nd,hin,h0,h1,h2,h3,lr,ld,hS,hp,hl,h64,k⟩
theorem RH (m:M K mg):bD P w K mg base CX0 10 m.z8 m.uL.d ["house","plan"] (BO K m.aI (aH P w K mg base (some 1))):=by
 refine m.uL.F.ok sc_faults (fun vs H Q E h=> ?_) (fun cdv A outer s H vs Q E hr h=> ?_)
 ·walk_at"g1";obtain⟨h,a,f,l,rz,ps,ds,us,rows,rfl,hh,nr,ndd,hin,h0,h1,h2,h3,lr,ld,hS,hpl,hlen,h64,k⟩:=h;walk_at"g2";rfl
 ·walk_at"g1";obtain⟨h,a,f,l,rz,ps,ds,us,rows,rfl,hh,nr,ndd,hin,h0,h1,h2,h3,lr,ld,hS,hpl,hlen,h64,k⟩:=h;walk_at"g2";have nd:=sc_faults.nd;walk_at"hu";have F_door_faults:= @DW P w K mg base m;have F_full_faults:= @CU P w K mg base m;have F_leave_faults:= @BL P w K mg base m;have F_there:= @HH P w K mg base m;have w_dc_House:=m.bN;refine⟨_,(aC (aP (i:=2) nd rfl (by walk_at"oi") (b9 F_there hr (aA (pv 0) (aA (pv 1) aB))))
   (aD (aW (bM G0 rfl m.WX QG (aA (aQ c6 (aQ c6 (b9 F_door_faults hr (aA (pv 0) (aA (pv 1) aB))) (b9 F_leave_faults hr (aA (pv 0) (aA (pv 1) (aA (pv 2) aB))))) (b9 F_full_faults hr (aA (pv 0) (aA (pv 2) aB)))) aB))))),?_⟩
  refine aM (σ:=[some (.ref h),some (.ref a),none]) rfl ?_;walk_at"cx";have hpn:(bI rz f (l+1 - f).toNat).length<=20100:=vQ lr (by lia);have ln1:=LV ds f l rows;walk_at"go";refine⟨_,_,_,_,_,_,_,_,_,rfl,hh,nr,ndd,hin,h0,h1,h2,h3,lr,hS,hpl,hlen,fun p1 H1 n1 S1 e1=> ?_⟩;walk_at"go";refine aAB (aU hh S1) ndd h0 ld (S1.seq hS) (gN hpl S1) hlen fun p2 y2 H2 n2 S2 e2 k2=> ?_;have s02:=S1.trans S2;walk_at"go";refine aAM (aU hh s02) nr ndd hin h0 h1 h2 h3 lr (s02.seq hS) (gN hpl s02) hlen (S2 _ _ e1) fun p3 y3 H3 n3 S3 e3 k3=> ?_;have s03:=s02.trans S3;have l2:y2.length=_:=Paired.length k2;have l3:y3.length<=20100:=Nat.le_trans (Nat.le_of_eq (Paired.length k3)) (Z2 hpn);walk_at"go";refine rF (S3 _ _ e2) e3 (by rw[sizeLine_eq];lia) fun p4 H4 n4 S4 e4=> ?_;have s04:=s03.trans S4;walk_at"go";refine aBX (aU hh s04) nr h0 h1 h2 h3 lr ((S2.trans (S3.trans S4)) _ _ e1) fun p5 y5 H5 n5 S5 e5 k5=> ?_;have l5:y5.length<=20100:=Nat.le_trans (Nat.le_of_eq (Paired.length k5)) (YL hpn);walk_at"go";rename_i p6 H6 n6 S6 e6;have s06:=s04.trans (S5.trans S6);have kr:KRows H6 (y2++y3++y5) (dB rz ps ds f l rows):=eX (eX (k2.same (S3.trans (S4.trans (S5.trans S6)))) (k3.same (S4.trans (S5.trans S6)))) (k5.same S6);refine TN (SqL.of e6) kr (by rw[Paired.length kr];exact h64) (ON nr ds f l rows) (by decide) fun p7 ws H7 n7 S7 e7 hws=> ?_;refine k p7 ws H7 ?_ (s06.trans S7) e7 hws;cases hq:H p7 with
  | none=>rfl
  | some u =>
   have:=s06 _ _ hq;rw[n7]at this;cases this
theorem RJ (m:M K mg):Fc P w K mg base "faults" 10 ["house","plan"] (BO K m.aI (aH P w K mg base (some 1))):=⟨_,_,m.WU,m.uL.F.kp,m.uL.b,RH m⟩
structure Hs (rz ps:List (Str×Int))(ds:List aF)(f l:Int):Prop where
 nr:(rz.map (·.1)).Nodup
 nd:(ds.map (·.1)).Nodup
 hin:∀d∈ds,iI (rz.map (·.1)) d
 f0:0<=f
 f1:f<=l
 f2:l<=f+6
 f3:f<=10
 lr:rz.length<=3
 ld:ds.length<=20
theorem Hs.few {rz ps:List (Str×Int)}{ds:List aF}{f l:Int} (h:Hs rz ps ds f l) {rows:List aT} (hr:rows.length<=1):(dB rz ps ds f l rows).length<64:=by
 have h1:=LV ds f l rows;have hp:(bI rz f (l+1 - f).toNat).length<=24:=by
  have e:=jU rz f (l+1 - f).toNat;have hm:(l+1 - f).toNat * rz.length<=7 * 3:=Nat.mul_le_mul (by have:=h.f2;lia) h.lr
  lia
 have h2:(lfK rz ps (goL ds f l rows) (goC ds f l rows) (goL ds f l rows) f l).length<=24:=by
  unfold lfK;rw[List.length_map];exact Nat.le_trans (List.length_filter_le _ _) (Nat.le_trans (List.length_filter_le _ _) hp)
 have h3:(ffK rz ps (goL ds f l rows) (goC ds f l rows) f l).length<=24:=by
  unfold ffK;rw[List.length_map];exact Nat.le_trans (List.length_filter_le _ _) hp
 unfold dB;rw[List.length_append,List.length_append]
 lia
inductive wQ (K:W.Frag)(CN C:Addr)(D:aS)(vs:List V)(H:Hp)(Q:VK)(E:XK):Prop
 | mk (h a:Addr) (f l:Int) (rz ps:List (Str×Int)) (ds:List aF) (us:List V) (rows:List aT) (_:vs=[.ref h,.ref a]) (_:aX C D H h f l rz ps ds) (_:Hs rz ps ds f l) (_:SqL K H a us) (_:cP H us rows) (_:rows.length<=1) (_:(dB rz ps ds f l rows=[]->∀H',Same H H'->Q .non H')) (_:(dB rz ps ds f l rows≠[]->Ref0 CN H E)):wQ K CN C D vs H Q E
theorem aBA {CN C:Addr}{D:aS}{H:Hp}{Q:VK}{E:XK}{h a:Addr}{f l:Int}{rz ps:List (Str×Int)}{ds:List aF}{us:List V}{rows:List aT} (hh:aX C D H h f l rz ps ds) (hs:Hs rz ps ds f l) (hS:SqL K H a us) (hp:cP H us rows) (hl:rows.length<=1) (k:dB rz ps ds f l rows=[]->∀H',Same H H'->Q .non H') (k':dB rz ps ds f l rows≠[]->Ref0 CN H E):wQ K CN C D [.ref h,.ref a] H Q E:=⟨_,_,_,_,_,_,_,_,_,rfl,hh,hs,hS,hp,hl,k,k'⟩
theorem DJ (m:M K mg):bD P w K mg base (CXE P w) 11 m.mV m.iR.d ["house","plan"] (wQ K m.bQ m.aI (aH P w K mg base (some 1))):=by
 refine m.iR.F.okE sc_need_lawful (fun vs H Q E h=> ?_) (fun cdv A outer s H vs Q E hr h=> ?_)
 ·walk_at"g1";obtain⟨h,a,f,l,rz,ps,ds,us,rows,rfl,hh,hs,hS,hpl,hlen,k,k'⟩:=h;walk_at"g2";rfl
 ·walk_at"g1";obtain⟨h,a,f,l,rz,ps,ds,us,rows,rfl,hh,hs,hS,hpl,hlen,k,k'⟩:=h;walk_at"g2";have nd:=sc_need_lawful.nd;walk_at"hu";have F_faults:= @RJ P w K mg base m;refine⟨_,(aD (bV (aV qG (bM eT rfl m.nZ j2 (aA (b9 F_faults hr (aA (pv 0) (aA (pv 1) aB))) aB)) aE (bL _)) (aD (jB m.JV m.WQ oU (aA aJ aB))) bJ)),?_⟩;refine aM (σ:=[some (.ref h),some (.ref a)]) rfl ?_;walk_at"cx";walk_at"g1";obtain⟨nr,ndn,hin,f0,f1,f2,f3,lr,ld⟩:=id hs;walk_at"g2";walk_at"go";refine aC1 hh nr ndn hin f0 f1 (by lia) (by lia) (by lia) ld hS hpl (by lia) (hs.few hlen) fun p ws H1 n1 S1 e1 hws=> ?_;have hwl:ws.length=(dB rz ps ds f l rows).length:=(Paired.length hws).trans (M1 _).length_eq;walk_at"go";refine fG (fun hc=> ?_) (fun hc=> ?_)
  ·walk_at"go";refine fT (k' fun z=> ?_) S1;rw[z]at hwl;have hwl:ws.length=0:=hwl
   lia
  ·walk_at"go";exact k (List.length_eq_zero_iff.mp (by lia)) _ S1
theorem DI (m:M K mg):FcE P w K mg base "need_lawful" 11 ["house","plan"] (wQ K m.bQ m.aI (aH P w K mg base (some 1))):=⟨_,_,m.F2,m.iR.F.kp,m.iR.b,DJ m⟩
theorem uQ (m:M K mg):bD P w K mg base CX0 1 m.gG m.gH.d ["self","name"] (spX K m.aZ "name"):=by
 refine m.gH.F.ok sc_Unknown___init__ (fun vs H Q E h=> ?_) (fun cdv A outer s H vs Q E hr h=> ?_)
 ·walk_at"g1";obtain⟨e,y,fv,rfl,he,xf,na,k⟩:=h;walk_at"g2";rfl
 ·walk_at"g1";obtain⟨e,y,fv,rfl,he,xf,na,k⟩:=h;walk_at"g2";have nd:=sc_Unknown___init__.nd;walk_at"hu";refine⟨_,(aD (CW (pv 0) (pv 1) rfl)),?_⟩;refine aM (σ:=[some (.ref e),some (y)]) rfl ?_;walk_at"cx";refine DR rfl rfl he xf na fun dx n1 n2=> ?_;exact k dx n1 n2
theorem NZ (m:M K mg):XcE P w K mg base "Unknown" m.aZ "name" :=⟨_,_,_,m.FC,m.PP,m.uE,m.CH,m.gH.b,uQ m⟩
def PlV:V->Bool
 | .int _=>true
 | .non=>true
 | .bl _=>true
 | .str _=>true
 | _=>false
theorem PlV.b {H:Hp}{x:V} (h:PlV x=true):∃n,BTy K H x n:=by
 cases x<;>first|exact⟨_,.int _⟩|exact⟨_,.non⟩|exact⟨_,.bl _⟩|exact⟨_,.str _⟩|cases h
def cF:V->Bool
 | .int i=>decide (0<=i)
 | _=>false
inductive qK (N:Addr)(vs:List V)(H:Hp)(Q:VK)(E:XK):Prop
 | mk (part:Str) (x:V) (_:vs=[.str part,x,.int 0]) (_:part.length<=1000) (_:PlV x=true) (_:(cF x=true->Q .non H)) (_:(cF x=false->Ref0 N H E)):qK N vs H Q E
theorem yQ {N:Addr}{H:Hp}{Q:VK}{E:XK}{part:Str}{x:V} (hp:part.length<=1000) (hx:PlV x=true) (k:cF x=true->Q .non H) (k2:cF x=false->Ref0 N H E):qK N [.str part,x,.int 0] H Q E:=⟨_,_,rfl,hp,hx,k,k2⟩
theorem xZ {N:Addr}{part:Str}{x:V}{D:fM}{H:Hp}{E:XK}{c d:Str} (hp:part.length<=1000) (hc:c.length<=1000) (hd:d.length<=1000) (k:Ref0 N H E):GW N E (O7 (tJs (tjF (c5 0) (tjC c (tjF (c5 2) (tjC d OW))))) MZ) D [some (.str part),some x,some (.int 0)] H:=by
 refine GO ?_;refine aBb (l:=0) rfl hp hc rfl (by decide) (by decide +kernel) hd fun out=> ?_;exact⟨(by show 1<=sizeLine;decide),k _ (Same.refl _)⟩
theorem DE (m:M K mg):bD P w K mg base (CXE P w) 2 m.kE m.c9.d ["part","thing","least"] (qK m.bB):=by
 refine m.c9.F.okE sc_need_whole (fun vs H Q E h=> ?_) (fun cdv A outer s H vs Q E hr h=> ?_)
 ·walk_at"g1";obtain⟨part,x,rfl,hp,hx,k,k2⟩:=h;walk_at"g2";rfl
 ·walk_at"g1";obtain⟨part,x,rfl,hp,hx,k,k2⟩:=h;walk_at"g2";have nd:=sc_need_whole.nd;walk_at"hu";have F_is_whole:= @xY P w K mg base m;refine⟨_,(aD (bV (PW.pt (tT (mD (fV (b9 F_is_whole hr (aA (pv 1) aB)))) (oP (aV iK (pv 1) (pv 2) (bL _))))) (aD (jB m.JY m.WV oU (aA (aCG (aAP (pv 0) (aAD (aAP (pv 2) (aAD aBv))))) aB))) bJ)),?_⟩;refine aM (σ:=[some (.str part),some (x),some (.int 0)]) rfl ?_;walk_at"cx";obtain⟨n,b1⟩:=PlV.b (K:=K) (H:=H) hx;walk_at"go";refine⟨x,n,rfl,b1,?_⟩;cases x with
  | int i =>
   rw[show SY (V.int i)=true from rfl];walk_at"go";refine fG (fun h1=> ?_) (fun h1=> ?_)
   ·exact xZ hp (by walk_at"sz") (by walk_at"sz") (k2 (decide_eq_false (by lia)))
   ·walk_at"go";exact k (decide_eq_true (by lia))
  | _ =>
   show nV _ (V.bl false) H;walk_at"go";exact xZ (D:={ nx:=fun _ _=>True,rt:=fun _ _=>True }) hp (by walk_at"sz") (by walk_at"sz") (k2 rfl)
theorem rO (m:M K mg):FcE P w K mg base "need_whole" 2 ["part","thing","least"] (qK m.bB):=⟨_,_,m.v4,m.c9.F.kp,m.c9.b,DE m⟩
local macro_rules| `(tactic| walk_at"rd1")=> `(tactic| ((with_reducible refine' qY ?d ?e ?hn ?hs ?he ?hw ?_);(case e=>walk_at"hp");(case d=>assumption);(case hn=>assumption);(case hs=>assumption);(case he=>assumption);(case hw=>walk_at"sd");intro H' B' e'))
abbrev QJ (q n s e a:V):List (Str×V):=cM "turn" a (cM "inner" q (oO n s e (.int 1)))
abbrev LH (q n s e a i0:V):List (Str×V):=cM "more" i0 (cM "turn" a (cM "inner" q (oO n s e (.int 1))))
structure InD (K:W.Frag)(H:Hp)(q:Addr)(n s:Str)(e:V):Prop where
 ex:∃D dxq fsq,DCls K D/\H q=some (.ins D dxq fsq)/\fsq.lookup ("name" :Str)=some (.str n)/\fsq.lookup ("start" :Str)=some (.str s)/\fsq.lookup ("end" :Str)=some e
 hn:cD n=true
 hs:cD s=true
 he:sN e
theorem InD.sm {H H':Hp}{q:Addr}{n s:Str}{e:V} (x:InD K H q n s e) (sm:Same H H'):InD K H' q n s e:=by
 walk_at"g1";obtain⟨⟨D,dxq,fsq,a,b,c⟩,x1,x2,x3⟩:=x;walk_at"g2";exact⟨⟨D,dxq,fsq,a,sm _ _ b,c⟩,x1,x2,x3⟩
inductive sV (K:W.Frag)(N:Addr)(vs:List V)(H:Hp)(Q:VK)(E:XK):Prop
 | mk (p q C dx:Addr) (n s:Str) (e t:V) (_:vs=[.ref p,.ref q,t]) (_:DCls K C) (_:H p=some (.ins C dx [])) (_:InD K H q n s e) (_:PlV t=true) (_:(cF t=true->∀H',SameBut p H H'->H' p=some (.ins C dx (QJ (.ref q) (.str n) (.str s) e t))->Q .non H')) (_:(cF t=false->∀H',SameBut p H H'->E (.ref N) none H')):sV K N vs H Q E
theorem yI (m:M K mg):bD P w K mg base (CXE P w) 4 m.kJ m.kH.d ["self","door","turn"] (sV K m.bB):=by
 refine m.kH.F.okE sc_Shut___init__ (fun vs H Q E h=> ?_) (fun cdv A outer s H vs Q E hr h=> ?_)
 ·walk_at"g1";obtain⟨p,q,C,dx,n,st,e,t,rfl,dc,hp,hi,hx,k,k2⟩:=h;walk_at"g2";rfl
 ·walk_at"g1";obtain⟨p,q,C,dx,n,st,e,t,rfl,dc,hp,hi,hx,k,k2⟩:=h;walk_at"g2";have nd:=sc_Shut___init__.nd;walk_at"hu";have Fx_need_whole:=rO (P:=P) (w:=w) (base:=base) m;have DD_Door___init___1:=iE (P:=P) (w:=w) (base:=base) m;refine⟨_,(aC (cC (R1 DD_Door___init___1 hr (aA (pv 0) (aA (bK (pv 1) rfl) (aA (bK (pv 1) rfl) (aA (bK (pv 1) rfl) aB))))))
   (aC (cC (iM Fx_need_whole hr eU (aA aJ (aA (pv 2) (aA aE aB)))))
   (aC (dY (pv 0) (pv 1) rfl)
   (aD (dY (pv 0) (pv 2) rfl))))),?_⟩
  refine aM (σ:=[some (.ref p),some (.ref q),some (t)]) rfl ?_;walk_at"cx";walk_at"g1";obtain⟨⟨D,dxq,fsq,dd,hq,l1,l2,l3⟩,hn,hs,he⟩:=hi;walk_at"g2";walk_at"go";refine JL ?_;walk_at"go";show cO K [.ref p,.str n,.str st,e,.int 1] _ _ _;walk_at"go";rename_i H1 B1 e1;refine yQ (by walk_at"sz") hx (fun g=> ?_) fun g H2 s2=>k2 g _ (B1.trans s2.but);walk_at"go";exact k g _ (by walk_at"sb") (by assumption)
theorem RC (m:M K mg):KcE P w K mg base "Shut" m.sJ 4 [] (sV K m.bB):=⟨_,_,_,_,m.aCs,m.aAo,.nil,m.kH.b,yI m⟩
inductive qD (K:W.Frag)(N:Addr)(vs:List V)(H:Hp)(Q:VK)(E:XK):Prop
 | mk (p q C dx:Addr) (n s:Str) (e t i:V) (_:vs=[.ref p,.ref q,t,i]) (_:DCls K C) (_:H p=some (.ins C dx [])) (_:InD K H q n s e) (_:PlV t=true) (_:PlV i=true) (_:(cF t=true->cF i=true->∀H',SameBut p H H'->H' p=some (.ins C dx (LH (.ref q) (.str n) (.str s) e t i))->Q .non H')) (_:(cF t=false∨cF i=false->∀H',SameBut p H H'->E (.ref N) none H')):qD K N vs H Q E
theorem xA (m:M K mg):bD P w K mg base (CXE P w) 4 m.jJ m.jC.d ["self","door","turn","more"] (qD K m.bB):=by
 refine m.jC.F.okE sc_Wider___init__ (fun vs H Q E h=> ?_) (fun cdv A outer s H vs Q E hr h=> ?_)
 ·walk_at"g1";obtain⟨p,q,C,dx,n,st,e,t,i,rfl,dc,hp,hi,hx,hx2,k,k2⟩:=h;walk_at"g2";rfl
 ·walk_at"g1";obtain⟨p,q,C,dx,n,st,e,t,i,rfl,dc,hp,hi,hx,hx2,k,k2⟩:=h;walk_at"g2";have nd:=sc_Wider___init__.nd;walk_at"hu";have Fx_need_whole:=rO (P:=P) (w:=w) (base:=base) m;have DD_Door___init___1:=iE (P:=P) (w:=w) (base:=base) m;refine⟨_,(aC (cC (R1 DD_Door___init___1 hr (aA (pv 0) (aA (bK (pv 1) rfl) (aA (bK (pv 1) rfl) (aA (bK (pv 1) rfl) aB))))))
   (aC (cC (iM Fx_need_whole hr eU (aA aJ (aA (pv 2) (aA aE aB)))))
   (aC (cC (iM Fx_need_whole hr eU (aA aJ (aA (pv 3) (aA aE aB)))))
   (aC (dY (pv 0) (pv 1) rfl)
   (aC (dY (pv 0) (pv 2) rfl)
   (aD (dY (pv 0) (pv 3) rfl))))))),?_⟩
  refine aM (σ:=[some (.ref p),some (.ref q),some (t),some (i)]) rfl ?_;walk_at"cx";walk_at"g1";obtain⟨⟨D,dxq,fsq,dd,hq,l1,l2,l3⟩,hn,hs,he⟩:=hi;walk_at"g2";walk_at"go";refine JL ?_;walk_at"go";show cO K [.ref p,.str n,.str st,e,.int 1] _ _ _;walk_at"go";rename_i H1 B1 e1;refine yQ (by walk_at"sz") hx (fun g=> ?_) fun g H2 s2=>k2 (.inl g) _ (B1.trans s2.but);walk_at"go";refine yQ (by walk_at"sz") hx2 (fun g2=> ?_) fun g2 H2 s2=>k2 (.inr g2) _ (B1.trans s2.but);walk_at"go";exact k g g2 _ (by walk_at"sb") (by assumption)
theorem M8 (m:M K mg):KcE P w K mg base "Wider" m.oI 4 [] (qD K m.bB):=⟨_,_,_,_,m.aAp,m.WZ,.nil,m.jC.b,xA m⟩
inductive Hap where
 | shut (n:Str) (t:V)
 | wider (n:Str) (t i:V)
 | found (z:Str) (i:Int)
 | door (d:aF)
def HapAt (D:aS)(H:Hp)(v:V):Hap->Prop
 | .shut n t=>∃q,v= .ref q/\H q=some (.tup [.str "shut",.str n,t])
 | .wider n t i=>∃q,v= .ref q/\H q=some (.tup [.str "wider",.str n,t,i])
 | .found z i=>∃q,v= .ref q/\H q=some (.tup [.str "found",.str z,.int i])
 | .door d=>∃q u,v= .ref q/\H q=some (.tup [.str "door",u])/\D.at' H u d
theorem HapAt.same {D:aS}{H H':Hp}{v:V}:∀{h:Hap},HapAt D H v h->Same H H'->HapAt D H' v h
 | .shut _ _,⟨q,e,g⟩,s=>⟨q,e,s _ _ g⟩
 | .wider _ _ _,⟨q,e,g⟩,s=>⟨q,e,s _ _ g⟩
 | .found _ _,⟨q,e,g⟩,s=>⟨q,e,s _ _ g⟩
 | .door _,⟨q,u,e,g,d⟩,s=>⟨q,u,e,s _ _ g,D.same d s⟩
def NmD (d:aF):Prop:=cD d.1=true/\cD d.2.1=true/\sN d.2.2.1
def gM:Hap->Prop
 | .shut _ t=>PlV t=true
 | .wider _ t i=>PlV t=true/\PlV i=true
 | .found _ _=>True
 | .door d=>NmD d
inductive Rs where
 | good|plan|turn|unknown (z:Str)|door|twice (z:Str)|room (z:Str)|house
def g7 (ns:List Str):Hap->Rs
 | .shut n t=>if n∈ns then (if cF t=true then .good else .door) else .unknown n
 | .wider n t i=>if n∈ns then (if cF t=true/\cF i=true then .good else .door) else .unknown n
 | _=> .good
def NB (ds:List aF):Hap->List aF
 | .door d=>ds++[d]
 | _=>ds
theorem HV {z:Str}:∀{l:List Str},z∈l->∃j:Nat,l[j]? =some z/\z∉l.take j
 | y::l,h=>by
  by_cases e:y=z
  ·subst e;exact⟨0,rfl,List.not_mem_nil⟩
  ·obtain⟨j,h1,h2⟩:=HV (l:=l) ((List.mem_cons.mp h).resolve_left (Ne.symm e));exact⟨j+1,h1,fun q=>by rw[List.take_succ_cons]at q;exact(List.mem_cons.mp q).elim (fun x=>e x.symm) h2⟩
theorem DD (xs:List V)(i:Nat):d7 xs none (some (i:Int))=xs.take i:=by
 unfold d7;rw[HT.sIx_none,HT.sIx_nat,List.drop_zero,Nat.sub_zero];rcases Nat.le_total i xs.length with h|h
 ·rw[Nat.min_eq_left h]
 ·rw[Nat.min_eq_right h,List.take_length,List.take_of_length_le h]
theorem vA (xs:List V)(i:Nat):d7 xs (some (i:Int)) none=xs.drop i:=by
 unfold d7;rw[HT.sIx_none,HT.sIx_nat];rcases Nat.le_total i xs.length with h|h
 ·rw[Nat.min_eq_left h,List.take_of_length_le (by rw[List.length_drop];lia)]
 ·rw[Nat.min_eq_right h,List.drop_of_length_le h,List.drop_of_length_le (Nat.le_refl _),List.take_nil]
theorem x0 {α β:Type}{F:α->β->Prop}:∀{l:List α}{m:List β},Paired F l m->∀k:Nat,Paired F (l.take k) (m.take k)
 | _,_,.nil,k=>by rw[List.take_nil,List.take_nil];exact .nil
 | _,_,.cons h t,0=> .nil
 | _,_,.cons h t,k+1=> .cons h (x0 t k)
theorem yA {α β:Type}{F:α->β->Prop}:∀{l:List α}{m:List β},Paired F l m->∀k:Nat,Paired F (l.drop k) (m.drop k)
 | _,_,.nil,k=>by rw[List.drop_nil,List.drop_nil];exact .nil
 | _,_,.cons h t,0=> .cons h t
 | _,_,.cons h t,k+1=>yA t k
inductive qE (K:W.Frag)(D:aS)(N:Addr)(vs:List V)(H:Hp)(Q:VK)(E:XK):Prop
 | mk (a:Addr) (n:Str) (us:List V) (ds:List aF) (_:vs=[.ref a,.str n]) (_:SqL K H a us) (_:Paired (D.at' H) us ds) (_:ds.length<=20) (_:(∀j:Nat,(ds.map (·.1))[j]? =some n->∀H',Same H H'->Q (.int j) H')) (_:(n∉ds.map (·.1)->Refd N n H E)):qE K D N vs H Q E
theorem VO {D:aS}{N:Addr}{H:Hp}{Q:VK}{E:XK}{a:Addr}{n:Str}{us:List V}{ds:List aF} (hS:SqL K H a us) (hd:Paired (D.at' H) us ds) (hl:ds.length<=20) (k:∀j:Nat,(ds.map (·.1))[j]? =some n->∀H',Same H H'->Q (.int j) H') (k2:n∉ds.map (·.1)->Refd N n H E):qE K D N [.ref a,.str n] H Q E:=⟨_,_,_,_,rfl,hS,hd,hl,k,k2⟩
theorem KC (m:M K mg):bD P w K mg base (CXE P w) 3 m.uC m.oE.d ["doors","name"] (qE K (aH P w K mg base none) m.aZ):=by
 refine m.oE.F.okE sc_place_of (fun vs H Q E h=> ?_) (fun cdv A outer s H vs Q E hr h=> ?_)
 ·walk_at"g1";obtain⟨a,n,us,ds,rfl,hS,hd,hl,k,k2⟩:=h;walk_at"g2";rfl
 ·walk_at"g1";obtain⟨a,n,us,ds,rfl,hS,hd,hl,k,k2⟩:=h;walk_at"g2";have nd:=sc_place_of.nd;walk_at"hu";have X_Unknown:=NZ (P:=P) (w:=w) (base:=base) m;refine⟨_,(aC (dR (i:=2) nd rfl (by walk_at"oi") (N:=["door"]) (nl:=1) (ci:=[]) rfl (blk (s.heap.objs.size+1) rfl rfl rfl (by kernel_rfl)) (bG (pv 0)) (fun _ _ _ _=>(aL (i:=0) (show (["door"]:List Str).Nodup by decide +kernel) rfl (by walk_at"oi"))) (fun _ _ _ _=>dF) (fun _ _ _ _=>(rK (K:=K) (pv 0) rfl)))
   (aC (bV (aV jX (pv 1) (pv 2) (by with_unfolding_all rfl)) (aD (uW X_Unknown hr GN (pv 1) rfl)) bJ)
   (aD (aW (wO PySem.F.plainAttrs_list PySem.F.slot_list_index PySem.F.type_list_index TU (pv 2) (aA (pv 1) aB)))))),?_⟩
  refine aM (σ:=[some (.ref a),some (.str n),none]) rfl ?_;walk_at"cx";have hul:=Paired.length hd;walk_at"go";refine cR ((aH P w K mg base none).at' H) (fun _=>true) (fun d y _=>y=V.str d.1) (fun _ _ _ _ h _=>h) (by rw[sizeLine_eq];lia) (rest:=[]) (by rfl) hS hd ?_ ?_ ?_
  ·intro v x H2 _ _ _ R hR;exact hR _ (Same.refl _)
  ·rintro v ⟨n1,st,e,lt⟩ H2 hv hm - s2 R hR;walk_at"g1";obtain⟨q,C9,dx,fs,fp,rfl,hq,dcC,l1,l2,l3,l4,l5,mcE,hfp,hlt⟩:=DoorAt.ex ((aH P w K mg base none).same hv s2);walk_at"g2";walk_at"go";exact hR _ _ rfl (Same.refl _)
  intro ys H1 S1 hys;rw[List.filter_eq_self.mpr (fun _ _=>rfl)]at hys;obtain rfl:=dW hys;walk_at"go";rename_i p2 H2 n2 S2 e2;have e2':H2 p2=some (.lst ((ds.map (·.1)).map V.str)):=by rw[e2,List.map_map];rfl
  refine mG (SqL.of e2') ?_
  by_cases hm:n∈ds.map (·.1)
  ·obtain⟨j,hj,ht⟩:=HV hm;rw[decide_eq_true hm];walk_at"go";exact⟨_,_,_,j,rfl,rfl,e2',hj,ht,by rw[List.length_map];lia,k j hj _ (S1.trans S2)⟩
  ·rw[decide_eq_false hm];walk_at"go";refine vJ ?_;walk_at"go";exact(k2 hm).go (S1.trans S2)
theorem KB (m:M K mg):FcE P w K mg base "place_of" 3 ["doors","name"] (qE K (aH P w K mg base none) m.aZ):=⟨_,_,m.PM,m.oE.F.kp,m.oE.b,KC m⟩
def Chg (H:Hp)(v:V)(n:Str)(g:Prop):Prop:=(∃q t,v= .ref q/\H q=some (.tup [.str "shut",.str n,t])/\PlV t=true/\(g↔cF t=true))∨∃q t i,v= .ref q/\H q=some (.tup [.str "wider",.str n,t,i])/\PlV t=true/\PlV i=true/\(g↔cF t=true/\cF i=true)
theorem Chg.sm {H H':Hp}{v:V}{n:Str}{g:Prop} (x:Chg H v n g) (s:Same H H'):Chg H' v n g:=by
 rcases x with⟨q,t,a,b,c⟩|⟨q,t,i,a,b,c⟩
 ·exact .inl ⟨q,t,a,s _ _ b,c⟩
 ·exact .inr ⟨q,t,i,a,s _ _ b,c⟩
inductive wU (D:aS)(N:Addr)(vs:List V)(H:Hp)(Q:VK)(E:XK):Prop
 | mk (u v:V) (d:aF) (n:Str) (g:Prop) (_:vs=[u,v]) (_:D.at' H u d) (_:NmD d) (_:Chg H v n g) (_:(g->∀p H',Same H H'->D.at' H' (.ref p) d->Q (.ref p) H')) (_:(¬g->Ref0 N H E)):wU D N vs H Q E
theorem aBq {D:aS}{N:Addr}{H:Hp}{Q:VK}{E:XK}{u v:V}{d:aF}{n:Str}{g:Prop} (hd:D.at' H u d) (hn:NmD d) (hc:Chg H v n g) (k:g->∀p H',Same H H'->D.at' H' (.ref p) d->Q (.ref p) H') (k2:¬g->Ref0 N H E):wU D N [u,v] H Q E:=⟨_,_,_,_,_,rfl,hd,hn,hc,k,k2⟩
theorem P1 {N C q:Addr}{H:Hp}{Q:VK}{E:XK}{vs dvs:List V}{n s:Str}{e t:V} (ev:vs++dvs=[.ref q,t]) (dc:DCls K C) (hi:InD K H q n s e) (ht:PlV t=true) (k:cF t=true->∀p dx H',Same H H'->H' p=some (.ins C dx (QJ (.ref q) (.str n) (.str s) e t))->Q (.ref p) H') (k2:cF t=false->Ref0 N H E):wK C (sV K N) dvs E Q vs H:=by
 intro x dx nx nd0 ne;have s0:Same H (upd (upd H dx (.own x)) x (.ins C dx [])):=fun b o e=>by
  rw[aK (aN e nx),aK (aN e nd0)];exact e
 have s1:∀{H'},SameBut x (upd (upd H dx (.own x)) x (.ins C dx [])) H'->Same H H':=fun sb b o q=>sb b o (s0 b o q) (aN q nx);rw[ev];exact⟨_,_,_,_,_,_,_,_,rfl,dc,aY,hi.sm s0,ht,fun g H' sb e=>⟨rfl,k g _ _ _ (s1 sb) e⟩,fun g H' sb=>k2 g _ (s1 sb)⟩
theorem MV {N C q:Addr}{H:Hp}{Q:VK}{E:XK}{vs dvs:List V}{n s:Str}{e t i:V} (ev:vs++dvs=[.ref q,t,i]) (dc:DCls K C) (hi:InD K H q n s e) (ht:PlV t=true) (hi2:PlV i=true) (k:cF t=true->cF i=true->∀p dx H',Same H H'->H' p=some (.ins C dx (LH (.ref q) (.str n) (.str s) e t i))->Q (.ref p) H') (k2:cF t=false∨cF i=false->Ref0 N H E):wK C (qD K N) dvs E Q vs H:=by
 intro x dx nx nd0 ne;have s0:Same H (upd (upd H dx (.own x)) x (.ins C dx [])):=fun b o e=>by
  rw[aK (aN e nx),aK (aN e nd0)];exact e
 have s1:∀{H'},SameBut x (upd (upd H dx (.own x)) x (.ins C dx [])) H'->Same H H':=fun sb b o q=>sb b o (s0 b o q) (aN q nx);rw[ev];exact⟨_,_,_,_,_,_,_,_,_,rfl,dc,aY,hi.sm s0,ht,hi2,fun g g2 H' sb e=>⟨rfl,k g g2 _ _ _ (s1 sb) e⟩,fun g H' sb=>k2 g _ (s1 sb)⟩
local macro_rules| `(tactic| walk_at"rd1")=> `(tactic| ((with_reducible refine' A1 ?e ?l ?_);(case e=>walk_at"hp");(case l=>rfl)))
theorem A2 (m:M K mg):bD P w K mg base (CXE P w) 6 m.lP m.gX.d ["door","happening"] (wU (aH P w K mg base none) m.bB):=by
 refine m.gX.F.okE sc_changed_door (fun vs H Q E h=> ?_) (fun cdv A outer s H vs Q E hr h=> ?_)
 ·walk_at"g1";obtain⟨u,v,d,n,g,rfl,hd,hnm,hc,k,k2⟩:=h;walk_at"g2";rfl
 ·walk_at"g1";obtain⟨u,v,d,n,g,rfl,hd,hnm,hc,k,k2⟩:=h;walk_at"g2";have nd:=sc_changed_door.nd;walk_at"hu";have K_Shut_0:= @RC P w K mg base m;have K_Wider_0:= @M8 P w K mg base m;have w_dc_Shut:=m.MA;have w_dc_Wider:=m.JU;refine⟨_,(aC (bV (aV j6 (bS dX (pv 1) aE (fun _ _=>rfl)) aJ (bL _)) (aD (aW (BF K_Shut_0 hr eU (aA (pv 0) (aA (bS dX (pv 1) aE (fun _ _=>rfl)) aB))))) bJ)
   (aD (aW (BF K_Wider_0 hr eU (aA (pv 0) (aA (bS dX (pv 1) aE (fun _ _=>rfl)) (aA (bS dX (pv 1) aE (fun _ _=>rfl)) aB))))))),?_⟩
  refine aM (σ:=[some (u),some (v)]) rfl ?_;walk_at"cx";walk_at"g1";obtain⟨n1,st,e,lt⟩:=d;walk_at"g2";walk_at"g1";obtain⟨q,C9,dx,fs,fp,rfl,hq,dcC,l1,l2,l3,l4,l5,mcE,hfp,hlt⟩:=DoorAt.ex hd;walk_at"g2";have hi:InD K H q n1 st e:=⟨⟨_,_,_,dcC,hq,l1,l2,l3⟩,hnm.1,hnm.2.1,hnm.2.2⟩
  rcases hc with⟨q1,t,rfl,hq1,ht,hg⟩|⟨q1,t,i,rfl,hq1,ht,hi2,hg⟩
  ·walk_at"go";refine P1 rfl w_dc_Shut hi ht (fun g' p dx' H' S' e'=>k (hg.mpr g') p H' S' ?_) fun g'=>k2 fun z=>by rw[hg.mp z]at g';cases g'
   exact⟨p,_,dx',_,[],rfl,e',w_dc_Shut,by walk_at"lk",by walk_at"lk",by walk_at"lk",by walk_at"lk",by walk_at"lk",AS m,(fun x hx=>nomatch hx),fun kl hk=>nomatch hk⟩
  ·walk_at"go";refine MV rfl w_dc_Wider hi ht hi2 (fun g1 g2 p dx' H' S' e'=>k (hg.mpr ⟨g1,g2⟩) p H' S' ?_) fun g'=>k2 fun z=>by
    obtain⟨z1,z2⟩:=hg.mp z;rcases g' with g'|g'
    ·rw[z1]at g';cases g'
    ·rw[z2]at g';cases g'
   exact⟨p,_,dx',_,[],rfl,e',w_dc_Wider,by walk_at"lk",by walk_at"lk",by walk_at"lk",by walk_at"lk",by walk_at"lk",zL m,(fun x hx=>nomatch hx),fun kl hk=>nomatch hk⟩
theorem AN (m:M K mg):FcE P w K mg base "changed_door" 6 ["door","happening"] (wU (aH P w K mg base none) m.bB):=⟨_,_,m.EB,m.gX.F.kp,m.gX.b,A2 m⟩
inductive wN (D:aS)(UN ND:Addr)(vs:List V)(H:Hp)(Q:VK)(E:XK):Prop
 | mk (a:Addr) (v:V) (us:List V) (ds:List aF) (h:Hap) (_:vs=[.ref a,v]) (_:H a=some (.lst us)) (_:Paired (D.at' H) us ds) (_:(∀d∈ds,NmD d)) (_:ds.length<=16) (_:HapAt D H v h) (_:gM h) (_:(g7 (ds.map (·.1)) h= .good->∀p us' H',Same H H'->H' p=some (.lst us')->Paired (D.at' H') us' (NB ds h)->Q (.ref p) H')) (_:(∀z,g7 (ds.map (·.1)) h= .unknown z->Refd UN z H E)) (_:(g7 (ds.map (·.1)) h= .door->Ref0 ND H E)):wN D UN ND vs H Q E
theorem aBp {D:aS}{UN ND:Addr}{H:Hp}{Q:VK}{E:XK}{a:Addr}{v:V}{us:List V}{ds:List aF}{h:Hap} (hS:H a=some (.lst us)) (hd:Paired (D.at' H) us ds) (hn:∀d∈ds,NmD d) (hl:ds.length<=16) (hA:HapAt D H v h) (hO:gM h) (k:g7 (ds.map (·.1)) h= .good->∀p us' H',Same H H'->H' p=some (.lst us')->Paired (D.at' H') us' (NB ds h)->Q (.ref p) H') (k2:∀z,g7 (ds.map (·.1)) h= .unknown z->Refd UN z H E) (k3:g7 (ds.map (·.1)) h= .door->Ref0 ND H E):wN D UN ND [.ref a,v] H Q E:=⟨_,_,_,_,_,rfl,hS,hd,hn,hl,hA,hO,k,k2,k3⟩
structure aDk (H:Hp)(v:V)(ns:List Str)(ds:List aF)(h:Hap)(n:Str)(g:Prop)(q:Addr)(w:Str)(xs:List V):Prop where
 ev:v= .ref q
 hq:H q=some (.tup (.str w:: .str n::xs))
 w1:w≠ "found"
 w2:w≠ "door"
 ch:Chg H v n g
 aft:NB ds h=ds
 e1:n∈ns->g->g7 ns h= .good
 e2:n∈ns->¬g->g7 ns h= .door
 e3:n∉ns->g7 ns h= .unknown n
theorem EU {D:aS}{H:Hp}{v:V}{h:Hap} (hA:HapAt D H v h) (hO:gM h) (ns:List Str) (ds:List aF):(∃z i,h= .found z i)∨(∃d,h= .door d)∨∃n g q w xs,aDk H v ns ds h n g q w xs:=by
 cases h with
 | found z i=>exact .inl ⟨_,_,rfl⟩
 | door d=>exact .inr (.inl ⟨_,rfl⟩)
 | shut n t =>
  obtain⟨q,rfl,hq⟩:=hA;refine .inr (.inr ⟨n,cF t=true,q,_,_,rfl,hq,by decide,by decide,.inl ⟨q,t,rfl,hq,hO,Iff.rfl⟩,rfl,fun a b=> ?_,fun a b=> ?_,fun a=>if_neg a⟩)
  ·exact(if_pos a).trans (if_pos b)
  ·exact(if_pos a).trans (if_neg b)
 | wider n t i =>
  obtain⟨q,rfl,hq⟩:=hA;refine .inr (.inr ⟨n,cF t=true/\cF i=true,q,_,_,rfl,hq,by decide,by decide,.inr ⟨q,t,i,rfl,hq,hO.1,hO.2,Iff.rfl⟩,rfl,fun a b=> ?_,fun a b=> ?_,fun a=>if_neg a⟩)
  ·exact(if_pos a).trans (if_pos b)
  ·exact(if_pos a).trans (if_neg b)
theorem DN (m:M K mg):bD P w K mg base (CXE P w) 7 m.mY m.iS.d ["doors","happening"] (wN (aH P w K mg base none) m.aZ m.bB):=by
 refine m.iS.F.okE sc_doors_after (fun vs H Q E h=> ?_) (fun cdv A outer s H vs Q E hr h=> ?_)
 ·walk_at"g1";obtain⟨a,v,us,ds,hp,rfl,hS,hd,hnm,hl,hA,hO,k,k2,k3⟩:=h;walk_at"g2";rfl
 ·walk_at"g1";obtain⟨a,v,us,ds,hp,rfl,hS,hd,hnm,hl,hA,hO,k,k2,k3⟩:=h;walk_at"g2";have nd:=sc_doors_after.nd;walk_at"hu";have F_changed_door:= @AN P w K mg base m;have F_place_of:= @KB P w K mg base m;refine⟨_,(aC (bV (aV j6 (bS dX (pv 1) aE (fun _ _=>rfl)) aJ (bL _)) (aD (aW (pv 0))) bJ)
   (aC (bV (aV j6 (bS dX (pv 1) aE (fun _ _=>rfl)) aJ (bL _)) (aD (aW (aQ c6 (pv 0) (bY (aA (bS dX (pv 1) aE (fun _ _=>rfl)) aB))))) bJ)
   (aC (aP (i:=2) nd rfl (by walk_at"oi") (iM F_place_of hr eU (aA (pv 0) (aA (bS dX (pv 1) aE (fun _ _=>rfl)) aB))))
   (aD (aW (aQ c6 (aQ c6 (kZ rG (pv 0) rR (lG (pv 2))) (bY (aA (iM F_changed_door hr eU (aA (bS cW (pv 0) (pv 2) (fun _ _=>rfl)) (aA (pv 1) aB))) aB))) (kZ rG (pv 0) (lG (aQ cG (pv 2) aE)) rR))))))),?_⟩
  refine aM (σ:=[some (.ref a),some (v),none]) rfl ?_;walk_at"cx";have hul:=Paired.length hd;rcases EU hA hO (ds.map (·.1)) ds with⟨z,i,rfl⟩|⟨d,rfl⟩|⟨n,g,q,w0,xs,hC⟩
  ·obtain⟨q,rfl,hq⟩:=hA;walk_at"go";exact k rfl _ _ _ (Same.refl _) hS hd
  ·walk_at"g1";obtain⟨q,u,rfl,hq,hu⟩:=hA;walk_at"g2";walk_at"go";rename_i p1 H1 n1 S1 e1 p2 H2 n2 S2 e2;exact k rfl _ _ _ (S1.trans S2) e2 (L2.Paired.snoc (dE hd (S1.trans S2)) ((aH P w K mg base none).same hu (S1.trans S2)))
  ·walk_at"g1";obtain⟨rfl,hq,w1,w2,hc,ea,e1,e2,e3⟩:=hC;walk_at"g2";have hqT:SqT K H q (V.str w0::V.str n::xs):= .inl (.inl hq);walk_at"go";refine A1 hqT (dA (xs:=V.str w0::V.str n::xs) (j:=0) rfl) ?_;walk_at"go"
   first|(rw[decide_eq_false (fun z=>w1 (V.str.inj z))];walk_at"go")|skip
   refine A1 hqT (dA (xs:=V.str w0::V.str n::xs) (j:=0) rfl) ?_;walk_at"go"
   first|(rw[decide_eq_false (fun z=>w2 (V.str.inj z))];walk_at"go")|skip
   refine A1 hqT (dA (xs:=V.str w0::V.str n::xs) (j:=1) rfl) ?_;walk_at"go";refine VO (SqL.of hS) hd (by lia) (fun j hjn H1 S1=> ?_) fun hn=>k2 _ (e3 hn);have hmem:n∈ds.map (·.1):=List.mem_of_getElem? hjn;obtain⟨d0,hj⟩:∃d0,ds[j]? =some d0:=by
    rw[List.getElem?_map]at hjn;cases e:ds[j]? with
    | none=>rw[e]at hjn;cases hjn
    | some d0=>exact⟨d0,rfl⟩
   have hjl:j<ds.length:=(List.getElem?_eq_some_iff.mp hj).1;have hS1:=S1 _ _ hS;walk_at"go";rename_i p2 H2 n2 S2 e2';have e2'':H2 p2=some (.lst (us.take j)):=by rw[e2'];exact congrArg (fun z=>some (HO.lst z)) (DD us j)
   have hS2:=S2 _ _ hS1;have s12:=S1.trans S2;have ht:=dE hd s12;obtain⟨u0,hu0⟩:∃u0,us[j]? =some u0:=⟨_,List.getElem?_eq_getElem (by lia)⟩
   have hat:=L2.Paired.at2 ht hu0 hj;refine⟨a,us,_,_,rfl,rfl,SqL.of hS2,dA hu0,?_⟩;walk_at"go";refine aBq hat (hnm d0 (List.mem_of_getElem? hj)) (hc.sm s12) (fun hg p3 H3 S3 h3=> ?_) fun hg=>(k3 (e2 hmem hg)).sm s12;have hS3:=S3 _ _ hS2;have e23:=S3 _ _ e2'';walk_at"go";rename_i p4 H4 n4 S4 e4;refine rF (S4 _ _ e23) e4 (by rw[sizeLine_eq,List.length_take];simp only[List.length_cons,List.length_nil];lia) fun p5 H5 n5 S5 e5=> ?_;have hS5:=S5 _ _ (S4 _ _ hS3);walk_at"go";rename_i p6 H6 n6 S6 e6;have e6':H6 p6=some (.lst (us.drop (j+1))):=by
    rw[e6];exact congrArg (fun z=>some (HO.lst z)) (vA us (j+1))
   refine rF (S6 _ _ e5) e6' (by rw[sizeLine_eq,List.length_append,List.length_take,List.length_drop];simp only[List.length_cons,List.length_nil];lia) fun p7 H7 n7 S7 e7=> ?_;have s37:=((S4.trans S5).trans S6).trans S7;have sA:=(s12.trans S3).trans s37;refine k (e1 hmem hg) _ _ _ sA e7 ?_;rw[ea];have hT:=dE hd sA;have:=eX (eX (x0 hT j) (.cons ((aH P w K mg base none).same h3 s37) .nil)) (yA hT (j+1));have ed:ds=ds.take j++[d0]++ds.drop (j+1):=by
    rw[List.append_assoc];exact((List.take_append_drop j ds).symm).trans (congrArg (ds.take j++·) (List.drop_eq_getElem_cons hjl▸by rw[List.getElem?_eq_getElem hjl]at hj;rw[Option.some.inj hj];rfl))
   rw[←ed]at this;exact this
theorem DL (m:M K mg):FcE P w K mg base "doors_after" 7 ["doors","happening"] (wN (aH P w K mg base none) m.aZ m.bB):=⟨_,_,m.FZ,m.iS.F.kp,m.iS.b,DN m⟩
def isF:Hap->Bool
 | .found _ _=>true
 | _=>false
def o9:List Hap->List (Str×Int)
 | []=>[]
 | .found z i::hs=>(z,i)::o9 hs
 | _::hs=>o9 hs
def XT (H:Hp)(h:Hap)(y:V):Prop:=∃z i,h= .found z i/\b5 H y (z,i)
theorem o7 {H:Hp}:∀{hs:List Hap}{ys:List V},Paired (XT H) (hs.filter isF) ys->Paired (b5 H) ys (o9 hs)
 | [],_,h=>by cases h;exact .nil
 | .found z i::hs,_,h=>by
  rw[List.filter_cons_of_pos rfl]at h;cases h with
  | cons a t =>
   walk_at"g1";obtain⟨z',i',e,g⟩:=a;walk_at"g2";cases e;exact .cons g (o7 t)
 | .shut n t::hs,_,h=>by rw[List.filter_cons_of_neg (by exact fun z=>nomatch z)]at h;exact o7 (hs:=hs) h
 | .wider n t i::hs,_,h=>by rw[List.filter_cons_of_neg (by exact fun z=>nomatch z)]at h;exact o7 (hs:=hs) h
 | .door d::hs,_,h=>by rw[List.filter_cons_of_neg (by exact fun z=>nomatch z)]at h;exact o7 (hs:=hs) h
theorem lE:∀hs:List Hap,(o9 hs).length<=hs.length
 | []=>Nat.le_refl _
 | .found z i::hs=>Nat.succ_le_succ (lE hs)
 | .shut n t::hs=>Nat.le_succ_of_le (lE hs)
 | .wider n t i::hs=>Nat.le_succ_of_le (lE hs)
 | .door d::hs=>Nat.le_succ_of_le (lE hs)
def frD:List Hap->List aF
 | []=>[]
 | .door d::hs=>d::frD hs
 | _::hs=>frD hs
theorem jN:∀hs:List Hap,(frD hs).length<=hs.length
 | []=>Nat.le_refl _
 | .door d::hs=>Nat.succ_le_succ (jN hs)
 | .shut n t::hs=>Nat.le_succ_of_le (jN hs)
 | .wider n t i::hs=>Nat.le_succ_of_le (jN hs)
 | .found z i::hs=>Nat.le_succ_of_le (jN hs)
theorem lF {d:aF}:∀{hs:List Hap},d∈frD hs->Hap.door d∈hs
 | .door e::hs,h=>by
  rcases List.mem_cons.mp h with rfl|h
  ·exact .head _
  ·exact .tail _ (lF h)
 | .shut n t::hs,h=> .tail _ (lF (hs:=hs) h)
 | .wider n t i::hs,h=> .tail _ (lF (hs:=hs) h)
 | .found z i::hs,h=> .tail _ (lF (hs:=hs) h)
def dsA (ds:List aF)(hs:List Hap)(i:Nat):List aF:=ds++frD (hs.take i)
theorem rS:∀(a b:List Hap),frD (a++b)=frD a++frD b
 | [],_=>rfl
 | .door d::a,b=>congrArg (d::·) (rS a b)
 | .shut n t::a,b=>rS a b
 | .wider n t i::a,b=>rS a b
 | .found z i::a,b=>rS a b
theorem sR {ds:List aF}{hs:List Hap}{i:Nat}{h:Hap} (e:hs[i]? =some h):dsA ds hs (i+1)=NB (dsA ds hs i) h:=by
 unfold dsA;rw[bR e,rS,←List.append_assoc];cases h<;>first|rfl|exact List.append_nil _
def psA (rz ps:List (Str×Int))(hs:List Hap):List (Str×Int):=(rz.map fun e=>(e.1,bT ps e.1))++o9 hs
theorem gP {α:Type}(f:α->V):∀l:List α,Paired (fun (v:V) (x:α)=>v=f x) (l.map f) l
 | []=> .nil
 | _::l=> .cons rfl (gP f l)
def Bad (ds:List aF)(hs:List Hap)(r:Rs):Prop:=∃i h,hs[i]? =some h/\g7 ((dsA ds hs i).map (·.1)) h=r/\∀j h',j<i->hs[j]? =some h'->g7 ((dsA ds hs j).map (·.1)) h'= .good
def qU (ds:List aF)(hs:List Hap):Prop:=∀j h',hs[j]? =some h'->g7 ((dsA ds hs j).map (·.1)) h'= .good
structure InT (f l t:Int)(rz ps:List (Str×Int))(ds:List aF)(rows:List aT):Prop where
 nf:dB rz ps ds f l rows=[]
 t0:f<=t
 t1:t<=l
inductive Vd (f l t:Int)(rz ps:List (Str×Int))(ds:List aF)(hs:List Hap)(rows:List aT):Rs->Prop
 | plan:dB rz ps ds f l rows≠[]->Vd f l t rz ps ds hs rows .plan
 | turn:dB rz ps ds f l rows=[]->t<f∨l<t->Vd f l t rz ps ds hs rows .turn
 | unk {z:Str}:InT f l t rz ps ds rows->Bad ds hs (.unknown z)->Vd f l t rz ps ds hs rows (.unknown z)
 | nod:InT f l t rz ps ds rows->Bad ds hs .door->Vd f l t rz ps ds hs rows .door
 | twice {z:Str}:InT f l t rz ps ds rows->qU ds hs->Dup ((ds++frD hs).map (·.1)) z->Vd f l t rz ps ds hs rows (.twice z)
 | room {z:Str}:InT f l t rz ps ds rows->qU ds hs->((ds++frD hs).map (·.1)).Nodup->Odd (rz.map (·.1)) (cE (ds++frD hs) (psA rz ps hs)) z->Vd f l t rz ps ds hs rows (.room z)
 | house:InT f l t rz ps ds rows->qU ds hs->((ds++frD hs).map (·.1)).Nodup->(∀z∈cE (ds++frD hs) (psA rz ps hs),z∈rz.map (·.1))->¬g6 rz (psA rz ps hs)->Vd f l t rz ps ds hs rows .house
 | good:InT f l t rz ps ds rows->qU ds hs->((ds++frD hs).map (·.1)).Nodup->(∀z∈cE (ds++frD hs) (psA rz ps hs),z∈rz.map (·.1))->g6 rz (psA rz ps hs)->Vd f l t rz ps ds hs rows .good
structure WR (NP NT UN ND TW NR NH:Addr)(r:Rs)(H:Hp)(Q:VK)(E:XK):Prop where
 good:r= .good->∀p H',Same H H'->Q (.ref p) H'
 plan:r= .plan->Ref0 NP H E
 turn:r= .turn->Ref0 NT H E
 unk:∀z,r= .unknown z->Refd UN z H E
 door:r= .door->Ref0 ND H E
 twice:∀z,r= .twice z->Refd TW z H E
 room:∀z,r= .room z->Refd NR z H E
 house:r= .house->Ref0 NH H E
structure AnA (K:W.Frag)(C:Addr)(D D0:aS)(H:Hp)(h a b:Addr)(f l:Int)(rz ps:List (Str×Int))(ds:List aF)(up:List V)(rows:List aT)(vh:List V)(hs:List Hap):Prop where
 hh:aX C D H h f l rz ps ds
 ho:Hs rz ps ds f l
 nm:∀d∈ds,NmD d
 l8:ds.length<=8
 hS:SqL K H a up
 hp:cP H up rows
 lp:rows.length<=1
 pn:dB rz ps ds f l rows=[]->rows=[]
 hb:SqL K H b vh
 hhp:Paired (HapAt D0 H) vh hs
 hok:∀h∈hs,gM h
 l4:hs.length<=4
inductive yZ (K:W.Frag)(C:Addr)(D D0:aS)(NP NT UN ND TW NR NH:Addr)(vs:List V)(H:Hp)(Q:VK)(E:XK):Prop
 | mk (h a b:Addr) (f l t:Int) (rz ps:List (Str×Int)) (ds:List aF) (up:List V) (rows:List aT) (vh:List V) (hs:List Hap) (_:vs=[.ref h,.ref a,.int t,.ref b]) (_:AnA K C D D0 H h a b f l rz ps ds up rows vh hs) (_:∀r,Vd f l t rz ps ds hs rows r->WR NP NT UN ND TW NR NH r H Q E):yZ K C D D0 NP NT UN ND TW NR NH vs H Q E
theorem d10 {H:Hp}{v:V}{d:aF} (x:(aH P w K mg base (some 1)).at' H v d):(aH P w K mg base none).at' H v d:=by
 walk_at"g1";obtain⟨p,C,dx,fs,fp,h1,h2,h3,h4,h5,h6,h7,h8,h9,h10,h11⟩:=x;walk_at"g2";exact⟨p,C,dx,fs,fp,h1,h2,h3,h4,h5,h6,h7,h8,h9,h10,fun kl hk=>nomatch hk⟩
theorem vD {ps:List (Str×Int)}{L C:List Key->Int}{z:Str}{f:Int} (hL:∀k,L k=0) (hC:∀k,C k=0) (n:Nat):j8 ps L C z f n=bT ps z:=by
 induction n with
 | zero=>rfl
 | succ n ih =>
  show j8 ps L C z f n - L _+C _=_;rw[ih,hL,hC];lia
theorem EndS.of {d:aF}(h:NmD d):EndS d:=h.2.2.imp id fun⟨z,e,_⟩=>⟨z,e⟩
theorem YE (m:M K mg):bD P w K mg base (CXE P w) 13 m.J0 m.CI ["house","plan","turn","happenings"] (yZ K m.aI (aH P w K mg base (some 1)) (aH P w K mg base none) m.bQ m.bO m.aZ m.bB m.bP m.bH m.bF):=by
 refine m.CJ.okE sc_anew (fun vs H Q E h=> ?_) (fun cdv A outer s H vs Q E hr h=> ?_)
 ·walk_at"g1";obtain⟨h,a,b,f,l,t,rz,ps,ds,up,rows,vh,hs,rfl,x,k⟩:=h;walk_at"g2";rfl
 ·walk_at"g1";obtain⟨h,a,b,f,l,t,rz,ps,ds,up,rows,vh,hs,rfl,x,k⟩:=h;walk_at"g2";have nd:=sc_anew.nd;walk_at"hu";have F_doors_after:= @DL P w K mg base m;have F_need_lawful:= @DI P w K mg base m;have F_there:= @HH P w K mg base m;have K_House_0:= @BP P w K mg base m;have w_dc_House:=m.bN;have w_mc_House_rooms:= @rT P w K mg base m;have w_mc_House_doors:= @d8 P w K mg base m;have w_mc_House_door:= @iN P w K mg base m;have w_mc_House_holds:= @lD P w K mg base m;refine⟨_,(aC (cC (iM F_need_lawful hr eU (aA (pv 0) (aA (pv 1) aB))))
   (aC (bV (PW.pt (tT (aV iK (pv 2) (bK (pv 0) rfl) (bL _)) (oP (aV qG (pv 2) (bK (pv 0) rfl) (bL _))))) (aD (jB m.uD m.zN oU (aA aJ aB))) bJ)
   (aC (aP (i:=4) nd rfl (by walk_at"oi") (VC (aV IK (pv 3) dG (bL _)) (bY aB) (pv 3)))
   (aC (dR (i:=5) nd rfl (by walk_at"oi") (N:=["name","house"]) (nl:=1) (ci:=[0]) rfl (blk (s.heap.objs.size+1) rfl rfl rfl (by kernel_rfl)) (bG (c7 1 hr (pv 0))) (fun _ _ _ _=>(aL (i:=0) (show (["name","house"]:List Str).Nodup by decide +kernel) rfl (by walk_at"oi"))) (fun _ _ _ _=>dF) (fun _ _ _ _=>(uU (P:=P) (w:=w) (K:=K) (mg:=mg) (base:=base) 1 hr (pv 1) (aA (pv 0) aB))))
   (aC (cU wE rfl (bG (pv 4)) (aL (i:=6) nd rfl (by walk_at"oi")) (aD (aP (i:=5) nd rfl (by walk_at"oi") (iM F_doors_after hr eU (aA (pv 5) (aA (pv 6) aB))))))
   (aC (aP (i:=7) nd rfl (by walk_at"oi") (b9 F_there hr (aA (pv 0) (aA (pv 1) aB))))
   (aC (dR (i:=8) nd rfl (by walk_at"oi") (N:=["room","inside","turn"]) (nl:=1) (ci:=[7,2]) rfl (blk (s.heap.objs.size+1) rfl rfl rfl (by kernel_rfl)) (bG (c7 1 hr (pv 0))) (fun _ _ _ _=>(aL (i:=0) (show (["room","inside","turn"]:List Str).Nodup by decide +kernel) rfl (by walk_at"oi"))) (fun _ _ _ _=>dF) (fun _ _ _ _=>(bE (aA (pv 0) (aA (fK hu1 (pv 1) (bE (aA (pv 0) (aA (pv 2) aB))) (fun _ _=>rfl)) aB)))))
   (aC (aP (i:=8) nd rfl (by walk_at"oi") (aQ c6 (pv 8) (cI (N:=["happening"]) (nl:=1) (ci:=[]) rfl (blk (s.heap.objs.size+1) rfl rfl rfl (by kernel_rfl)) (bG (pv 4)) (fun _ _ _ _=>(aL (i:=0) (show (["happening"]:List Str).Nodup by decide +kernel) rfl (by walk_at"oi"))) (fun _ _ _ _=>(fE (aV j6 (bS (dI (K:=K)) (pv 0) aE (fun _ _=>rfl)) aJ (bL _)))) (fun _ _ _ _=>(bE (aA (bS (dI (K:=K)) (pv 0) aE (fun _ _=>rfl)) (aA (bS (dI (K:=K)) (pv 0) aE (fun _ _=>rfl)) aB)))))))
   (aD (aW (BF K_House_0 hr eU (aA (cI (N:=["room","house"]) (nl:=1) (ci:=[0]) rfl (blk (s.heap.objs.size+1) rfl rfl rfl (by kernel_rfl)) (bG (c7 1 hr (pv 0))) (fun _ _ _ _=>(aL (i:=0) (show (["room","house"]:List Str).Nodup by decide +kernel) rfl (by walk_at"oi"))) (fun _ _ _ _=>dF) (fun _ _ _ _=>(bE (aA (pv 0) (aA (uU (P:=P) (w:=w) (K:=K) (mg:=mg) (base:=base) 3 hr (pv 1) (aA (pv 0) aB)) aB))))) (aA (pv 5) (aA (pv 8) (aA (bK (pv 0) rfl) (aA (pv 2) aB)))))))))))))))),?_⟩
  refine aM (σ:=[some (.ref h),some (.ref a),some (.int t),some (.ref b),none,none,none,none,none]) rfl ?_;walk_at"cx";walk_at"g1";obtain⟨hh,ho,hnm,l8,hS,hpl,lp,hpn,hb,hhp,hok,l4⟩:=x;walk_at"g2";walk_at"g1";obtain⟨dnr,dnd,din,f0,f1,f2,f3,lr,ld⟩:=id ho;walk_at"g2";walk_at"g1";obtain⟨dx,qs,qp,qd,nk,kvs,e1,_⟩:=id hh.ex;walk_at"g2";have hvl:=Paired.length hhp;walk_at"go";refine aBA hh ho hS hpl lp (fun nf H1 S1=> ?_) fun nf=>(k _ (.plan nf)).plan rfl;have hh1:=aU hh S1;have e11:=S1 _ _ e1;obtain rfl:=hpn nf;walk_at"gs";refine kW (fun σ' G=>H1=G/\InT f l t rz ps ds []/\σ'=[some (.ref h),some (.ref a),some (.int t),some (.ref b),none,none,none,none,none]) ?_ ?_
  rotate_left
  ·intro nx' hnx
   by_cases c1:t<f
   ·walk_at"go";exact fT ((k _ (.turn nf (.inl c1))).turn rfl) S1
   by_cases c2:l<t
   ·walk_at"go";exact fT ((k _ (.turn nf (.inr c2))).turn rfl) S1
   walk_at"go";exact hnx _ _ ⟨rfl,⟨nf,by lia,by lia⟩,rfl⟩
  rintro _ G ⟨hG,hin,rfl⟩;subst hG;walk_at"go";refine fJ hh1 fun pD H3 n3 S3 eD=> ?_;walk_at"go";refine cR (α:=aF) (xs:=ds) (vs:=(ds.map (·.1)).map V.str) (fun v d=>v= .str d.1) (fun _=>true) (fun d y H=>(aH P w K mg base none).at' H y d) (fun _ _ _ _ h s=>(aH P w K mg base none).same h s) (by rw[sizeLine_eq];lia) (rest:=[some (.ref h)]) (by rfl) (SqL.of eD) (by rw[List.map_map];exact gP _ ds) ?_ ?_ ?_
  ·exact fun v x H1 _ _ s1 R hR=>hR _ (Same.refl _)
  ·rintro _ d G rfl hm - s R hR;have e1G:=(S3.trans s) _ _ e11;walk_at"go";refine BE (aU hh1 (S3.trans s)) dnd hm fun v hv=> ?_;exact hR _ _ (d10 hv) (Same.refl _)
  intro ys H4 s4 hys;rw[cZ]at hys;have hdd:Paired ((aH P w K mg base none).at' H4) ys ds:=iC hys;walk_at"go";rename_i pE H5 n5 S5 eE;have s15:Same H1 H5:=S3.trans (s4.trans S5);have s05:Same H H5:=S1.trans s15;let Pv1:Nat->St->Hp->Prop:=fun i σ' G=>∃(pE:Addr) (us:List V) (x6:Option V),Same H5 G/\G pE=some (.lst us)/\Paired ((aH P w K mg base none).at' G) us (dsA ds hs i)/\(∀j h',j<i->hs[j]? =some h'->g7 ((dsA ds hs j).map (·.1)) h'= .good)/\σ'=[some (.ref h),some (.ref a),some (.int t),some (.ref b),some (.ref b),some (.ref pE),x6,none,none];refine cX vh Pv1 ⟨pE,ys,none,Same.refl _,eE,by rw[show dsA ds hs 0=ds from List.append_nil _];exact dE hdd S5,(fun j h' hj=>absurd hj (Nat.not_lt_zero _)),rfl⟩ (fun i σ' G _ q=>by obtain⟨_,_,_,s,_⟩:=q;exact(s05.trans s).seq hb) ?_ ?_
  ·rintro i x _ G hx hq_;walk_at"g1";obtain⟨pE,us,x6,sG,eG,hG,hgd,rfl⟩:=hq_;walk_at"g2";have hi:i<vh.length:=(List.getElem?_eq_some_iff.mp hx).1;obtain⟨hp,hhi⟩:∃hp,hs[i]? =some hp:=⟨_,List.getElem?_eq_getElem (by lia)⟩
   have hat:=(L2.Paired.at2 hhp hx hhi).same (s05.trans sG);have s0G:=s05.trans sG;have fl:(frD (hs.take i)).length<=4:=by
    have q1:=jN (hs.take i);rw[List.length_take]at q1
    lia
   walk_at"go";refine aBp eG hG (fun d hd=> ?_) (by unfold dsA;rw[List.length_append];lia) hat (hok hp (List.mem_of_getElem? hhi)) (fun hg p2 us2 G2 s2 e2 h2=> ?_) (fun z hz=>((k _ (.unk hin ⟨i,hp,hhi,hz,hgd⟩)).unk z rfl).sm s0G) fun hz=>((k _ (.nod hin ⟨i,hp,hhi,hz,hgd⟩)).door rfl).sm s0G
   ·rcases List.mem_append.mp hd with hd|hd
    ·exact hnm d hd
    ·exact hok _ (List.mem_of_mem_take (lF hd))
   walk_at"go";refine⟨p2,us2,_,sG.trans s2,e2,by rw[sR hhi];exact h2,fun j h' hj hj'=> ?_,rfl⟩;rcases Nat.lt_or_ge j i with hji|hji
   ·exact hgd j h' hji hj'
   ·obtain rfl:j=i:=by lia
    rw[hhi]at hj';cases hj';exact hg
  rintro _ H6 hq_;walk_at"g1";obtain⟨pF,us,x6,sG,eF,hF,hgd,rfl⟩:=hq_;walk_at"g2";rw[hvl,show dsA ds hs hs.length=ds++frD hs by unfold dsA;rw[List.take_length]]at hF;have hag:qU ds hs:=fun j h' hj=>hgd j h' (by rw[hvl];exact(List.getElem?_eq_some_iff.mp hj).1) hj;have s06:=s05.trans sG;walk_at"go";refine⟨_,_,_,_,_,_,_,_,_,rfl,aU hh s06,dnr,dnd,din,f0,f1,by lia,by lia,by lia,s06.seq hS,gN hpl s06,by lia,fun pI H7 n7 S7 eI=> ?_⟩;have s07:=s06.trans S7;have e17:=s07 _ _ e1;walk_at"go";refine fJ (aU hh s07) fun pR H8 n8 S8 eR=> ?_;have eI8:=S8 _ _ eI;walk_at"go";refine cR (α:=Str×Int) (xs:=rz) (vs:=(rz.map (·.1)).map V.str) (fun v e=>v= .str e.1) (fun _=>true) (fun e y H=>b5 H y (e.1,bT ps e.1)) (fun _ _ _ _ ⟨q,h1,h2⟩ s=>⟨q,h1,s _ _ h2⟩) (by rw[sizeLine_eq];lia) (rest:=[some (.ref pI),some (.int t)]) (by rfl) (SqL.of eR) (by rw[List.map_map];exact gP _ rz) ?_ ?_ ?_
  ·exact fun v x H1 _ _ s1 R hR=>hR _ (Same.refl _)
  ·rintro _ ⟨z,sz⟩ G rfl hm - s R hR;have hz:z∈rz.map (·.1):=List.mem_map.mpr ⟨_,hm,rfl⟩;have eIG:=s _ _ eI8;have ht0:=hin.t0;have ht1:=hin.t1;have hv:=tY (ps:=ps) (L:=iT (kQ ds) (([]:List aT).filter (cnt (ds.map (·.1)) f l))) (C:=iT (iX ds) (([]:List aT).filter (cnt (ds.map (·.1)) f l))) (f:=f) (fS dnr f (l+1 - f).toNat) (p:=(z,t)) (pairsN_mem.mpr ⟨hz,(t - f).toNat,by lia,by lia⟩);have hv:=hv.trans (congrArg (fun i=>some (V.int i)) (vD (L:=iT (kQ ds) (([]:List aT).filter (cnt (ds.map (·.1)) f l))) (C:=iT (iX ds) (([]:List aT).filter (cnt (ds.map (·.1)) f l))) (fun k=>rfl) (fun k=>rfl) _));show (_:TE) [some (.str z),some (.ref pI),some (.int t)] G R;walk_at"go";rename_i qk G1 m1 T1 e1k;refine oM (cK (z,t)) (.inl (T1 _ _ eIG)) e1k hv ?_;walk_at"go";rename_i qr G2 m2 T2 e2r;exact hR _ _ ⟨qr,rfl,e2r⟩ (T1.trans T2)
  intro ws H9 s9 hws;rw[cZ]at hws;have hcp:Paired (b5 H9) ws (rz.map fun e=>(e.1,bT ps e.1)):=lH (fun e:Str×Int=>(e.1,bT ps e.1)) hws;have wl:ws.length=rz.length:=(Paired.length hws).symm;walk_at"go";rename_i pP HA nA SA eP;have s0A:Same H HA:=s07.trans (S8.trans (s9.trans SA));refine cR (HapAt (aH P w K mg base none) HA) isF (fun h y G=>XT G h y) (fun _ _ _ _ ⟨z,i,e,q,h1,h2⟩ s=>⟨z,i,e,q,h1,s _ _ h2⟩) (by rw[sizeLine_eq];lia) (rest:=[]) (by rfl) (s0A.seq hb) (Paired.imp' (fun _ _ x=>x.same s0A) hhp) ?_ ?_ ?_
  ·intro v hp G hv hm s R hR;have hv:=hv.same s;cases hp with
   | door d =>
    walk_at"g1";obtain⟨q,u,rfl,hq,_⟩:=hv;walk_at"g2";walk_at"go";exact hR _ (Same.refl _)
   | _ =>
    obtain⟨q,rfl,hq⟩:=hv;walk_at"go";exact hR _ (Same.refl _)
  ·intro v hp G hv hm hc s R hR;have hv:=hv.same s;cases hp with
   | found z i =>
    obtain⟨q,rfl,hq⟩:=hv;walk_at"go";rename_i qr G2 m2 T2 e2r;exact hR _ _ ⟨z,i,rfl,qr,rfl,e2r⟩ T2
   | _=>cases hc
  intro ys2 HB sB hys2;have hp2:=o7 hys2;have yl:=Paired.length hp2;have fl:=lE hs;walk_at"go";rename_i pQ HC nC SC eC pS HD nD SD eD2;have sAD:Same HA HD:=sB.trans (SC.trans SD);have s0D:Same H HD:=s0A.trans sAD;have e1D:=s0D _ _ e1;refine fJ (aU hh s0D) fun pR2 HE nE SE eR2=> ?_;walk_at"go";refine cR (α:=Str×Int) (xs:=rz) (vs:=(rz.map (·.1)).map V.str) (fun v e=>v= .str e.1) (fun _=>true) (fun e y H=>b5 H y e) (fun _ _ _ _ ⟨q,h1,h2⟩ s=>⟨q,h1,s _ _ h2⟩) (by rw[sizeLine_eq];lia) (rest:=[some (.ref h)]) (by rfl) (SqL.of eR2) (by rw[List.map_map];exact gP _ rz) ?_ ?_ ?_
  ·exact fun v x H1 _ _ s1 R hR=>hR _ (Same.refl _)
  ·rintro _ ⟨z,sz⟩ G rfl hm - s R hR;have e1G:=(SE.trans s) _ _ e1D;show (_:TE) [some (.str z),some (.ref h)] G R;walk_at"go";refine CZ (i:=sz) (aU hh (s0D.trans (SE.trans s))) dnr hm fun G1 T1=> ?_;walk_at"go";rename_i qr G2 m2 T2 e2r;exact hR _ _ ⟨qr,rfl,e2r⟩ (T1.trans T2)
  intro vs2 HF sF hvs2;rw[cZ]at hvs2;have hra:RoomsAt HF vs2 rz:=iC hvs2;walk_at"go";rename_i pW HG nG SG eW;have sDG:Same HD HG:=SE.trans (sF.trans SG);have e1G:=sDG _ _ e1D;have s6A:Same H6 HA:=S7.trans (S8.trans (s9.trans SA));have s6G:Same H6 HG:=s6A.trans (sAD.trans sDG);have s0G:Same H HG:=s0D.trans sDG;have ft:0<=t:=by have:=hin.t0;lia
  have fl2:=jN hs;walk_at"go";refine ER (rz:=rz) (ds:=ds++frD hs) (ps:=psA rz ps hs) rfl (by assumption) eW (hra.sm SG) (SqL.of (s6G _ _ eF)) (dE hF s6G) (SqL.of (sDG _ _ eD2)) (eX (iD hcp (SA.trans (sAD.trans sDG))) (iD hp2 (SC.trans (SD.trans sDG)))) (fun d hd=> ?_) (by lia) (by rw[List.length_append];lia) (by unfold psA;rw[List.length_append,List.length_map];lia) ?_
  ·rcases List.mem_append.mp hd with hd|hd
   ·exact EndS.of (hnm d hd)
   ·exact EndS.of (hok _ (lF hd))
  refine⟨fun z=> ?_,fun _ _ z hz=> ?_,fun _ _ _ z hz=>((k _ (.twice hin hag hz)).twice z rfl).sm s0G,fun _ _ _ dn z hz=>((k _ (.room hin hag dn hz)).room z rfl).sm s0G,fun _ _ _ dn hall hf=>((k _ (.house hin hag dn hall hf)).house rfl).sm s0G,fun _ _ _ dn hall hf p H' _ S' _=>(k _ (.good hin hag dn hall hf)).good rfl p H' (s0G.trans S')⟩
  ·have:=hin.t1;rcases z with z|z<;>lia
  ·walk_at"g1";obtain⟨i,h1,h2,_⟩:=hz;walk_at"g2";exact absurd h2 (k8 dnr h1)
theorem ZJ (m:M K mg):FcE P w K mg base "anew" 13 ["house","plan","turn","happenings"] (yZ K m.aI (aH P w K mg base (some 1)) (aH P w K mg base none) m.bQ m.bO m.aZ m.bB m.bP m.bH m.bF):=⟨_,_,m.aCu,m.CJ.kp,m.aCr,YE m⟩
def lR (ns:List Int)(k:Int):Int:=ns.getD k.toNat 0
inductive wL (K:W.Frag)(vs:List V)(H:Hp)(Q:VK)(E:XK):Prop
 | mk (a:Addr) (ns:List Int) (k:Int) (_:vs=[.ref a,.int k]) (_:SqL K H a (ns.map V.int)) (_:0<=k) (_:Q (.int (lR ns k)) H):wL K vs H Q E
theorem aBe {H:Hp}{Q:VK}{E:XK}{a:Addr}{ns:List Int}{i:Int} (hS:SqL K H a (ns.map V.int)) (hi:0<=i) (h:Q (.int (lR ns i)) H):wL K [.ref a,.int i] H Q E:=⟨_,_,_,rfl,hS,hi,h⟩
theorem AY (m:M K mg):bD P w K mg base CX0 1 m.lL m.gS.d ["_law_script","_law_k"] (wL K):=by
 refine m.gS.F.ok sc__law_cell_at (fun vs H Q E h=> ?_) (fun cdv A outer s H vs Q E hr h=> ?_)
 ·walk_at"g1";obtain⟨a,ns,i,rfl,hS,hi,k⟩:=h;walk_at"g2";rfl
 ·walk_at"g1";obtain⟨a,ns,i,rfl,hS,hi,k⟩:=h;walk_at"g2";have nd:=sc__law_cell_at.nd;walk_at"hu";refine⟨_,(aC (bV (aV iK (pv 1) (bM eT rfl m.nZ j2 (aA (pv 0) aB)) (bL _)) (aD (aW (bS cW (pv 0) (pv 1) (fun _ _=>rfl)))) bJ)
   (aD (aW aE))),?_⟩
  refine aM (σ:=[some (.ref a),some (.int i)]) rfl ?_;walk_at"cx";walk_at"go";rw[List.length_map];refine fG (fun h1=> ?_) (fun h1=> ?_)
  ·have hlt:i.toNat<ns.length:=by lia
   have e:=dA (xs:=ns.map V.int) (j:=i.toNat) (v:= .int (lR ns i)) (by
    rw[List.getElem?_map,List.getElem?_eq_getElem hlt];unfold lR;rw[List.getD_eq_getElem?_getD,List.getElem?_eq_getElem hlt];rfl)
   rw[show ((i.toNat:Nat):Int)=i by lia]at e;exact⟨_,rfl,_,rfl,a,_,i,_,rfl,rfl,hS,e,k⟩
  ·have e:lR ns i=0:=by
    unfold lR;rw[List.getD_eq_getElem?_getD,List.getElem?_eq_none (by lia)];rfl
   rw[e]at k;exact k
theorem BG (m:M K mg):Fc P w K mg base "_law_cell_at" 1 ["_law_script","_law_k"] (wL K):=⟨_,_,m.D6,m.gS.F.kp,m.gS.b,AY m⟩
def IY (c k:Int):Int:=(c+7919 * k+1) * 48271%2147483647
def GI (c k:Int):Int:=IY c k * (IY c k/1009+69621)%2147483647
def fF (c k:Int):Int:=(GI c k+31 * k+1) * (GI c k/757+16807)%2147483629
theorem VQ (c k:Int):0<=fF c k:=Int.emod_nonneg _ (by decide)
theorem V0 (c k:Int):fF c k<2147483648:=Int.lt_trans (Int.emod_lt_of_pos _ (by decide)) (by decide)
inductive sP (vs:List V)(H:Hp)(Q:VK)(E:XK):Prop
 | mk (c k:Int) (_:vs=[.int c,.int k]) (_:0<=k) (_:k<=1000) (_:((0<=fF c k/\fF c k<2147483648)->Q (.int (fF c k)) H)):sP vs H Q E
theorem X7 {H:Hp}{Q:VK}{E:XK}{c k:Int} (h0:0<=k) (h1:k<=1000) (h:∀n,n=fF c k->0<=n->n<2147483648->Q (.int n) H):sP [.int c,.int k] H Q E:=⟨_,_,rfl,h0,h1,fun x=>h _ rfl x.1 x.2⟩
theorem FG (m:M K mg):bD P w K mg base CX0 1 m.pK m.kM.d ["_law_cell","_law_k"] (sP):=by
 refine m.kM.F.ok sc__law_drawn (fun vs H Q E h=> ?_) (fun cdv A outer s H vs Q E hr h=> ?_)
 ·walk_at"g1";obtain⟨c,j,rfl,j0,j1,k⟩:=h;walk_at"g2";rfl
 ·walk_at"g1";obtain⟨c,j,rfl,j0,j1,k⟩:=h;walk_at"g2";have nd:=sc__law_drawn.nd;walk_at"hu";refine⟨_,(aC (aP (i:=2) nd rfl (by walk_at"oi") (aQ cQ (aQ vI (aQ cG (aQ cG (pv 0) (aQ vI aE (pv 1))) aE) aE) aE))
   (aC (aP (i:=2) nd rfl (by walk_at"oi") (aQ cQ (aQ vI (pv 2) (aQ cG (aQ r6 (pv 2) aE) aE)) aE))
   (aD (aW (aQ cQ (aQ vI (aQ cG (aQ cG (pv 2) (aQ vI aE (pv 1))) aE) (aQ cG (aQ r6 (pv 2) aE) aE)) aE))))),?_⟩
  refine aM (σ:=[some (.int c),some (.int j),none]) rfl ?_;walk_at"cx";have k:=k ⟨VQ c j,V0 c j⟩;unfold fF GI IY at k;walk_at"go";exact k
theorem uN (m:M K mg):Fc P w K mg base "_law_drawn" 1 ["_law_cell","_law_k"] (sP):=⟨_,_,m.JS,m.kM.F.kp,m.kM.b,FG m⟩
local macro_rules| `(tactic| walk_at"rd1")=> `(tactic| first|((with_reducible refine' aBe ?e ?s ?_);(case e=>walk_at"hp");(case s=>walk_at"sd"))|((with_reducible refine' X7 ?u ?v ?_);(case u=>walk_at"sd");(case v=>walk_at"sd");intro n' d' h0' h1'))
inductive wM (vs:List V)(H:Hp)(Q:VK)(E:XK):Prop
 | mk (x:V) (_:vs=[x]) (_:PlV x=true) (_:Q (.bl (cF x)) H):wM vs H Q E
theorem RD {H:Hp}{Q:VK}{E:XK}{x:V} (hx:PlV x=true) (k:Q (.bl (cF x)) H):wM [x] H Q E:=⟨_,rfl,hx,k⟩
theorem CQ (m:M K mg):bD P w K mg base CX0 1 m.mU m.iQ.d ["_law_thing"] (wM):=by
 refine m.iQ.F.ok sc__law_number (fun vs H Q E h=> ?_) (fun cdv A outer s H vs Q E hr h=> ?_)
 ·walk_at"g1";obtain⟨x,rfl,hx,k⟩:=h;walk_at"g2";rfl
 ·walk_at"g1";obtain⟨x,rfl,hx,k⟩:=h;walk_at"g2";have nd:=sc__law_number.nd;walk_at"hu";refine⟨_,(aD (aW (BQ (bM oK rfl m.cA bX (aA (pv 0) (aA (wC rfl m.X3 P6) aB))) (BQ (PX (bM oK rfl m.cA bX (aA (pv 0) (aA (wC rfl m.SZ LQ) aB)))) (IZ (rV W6 (pv 0) aE (bL _))))))),?_⟩;refine aM (σ:=[some (x)]) rfl ?_;walk_at"cx";cases x with
  | int i =>
   walk_at"go";exact k
  | non =>
   walk_at"go";refine oH .non (.inl rfl) ?_;walk_at"go";exact k
  | bl c =>
   walk_at"go";exact k
  | str z =>
   walk_at"go";refine oH (.str z) (.inl rfl) ?_;walk_at"go";exact k
  | _=>cases hx
theorem C8 (m:M K mg):Fc P w K mg base "_law_number" 1 ["_law_thing"] (wM):=⟨_,_,m.F4,m.iQ.F.kp,m.iQ.b,CQ m⟩
def XAt (K:W.Frag)(C:Addr)(nm:Option Str)(H:Hp)(ea:Addr):Prop:=∃φ,H ea=some (.ext φ)/\(∀h,φ h->tX ea C h)/\(∀h,φ h->DH ea h)/\∀z,nm=some z->∃dx,φ=ExcDAt ea C dx/\H dx=some (.xd [("name",.str z)])/\oZ K C/\NoAttr K C "name"
structure XD (K:W.Frag)(NP NT UN ND TW NR NH NX C:Addr)(j:Nat):Prop where
 ek:ExcK K C
 i0:W.kitOne K (.ref C) (.ref NP)=some (decide (j=0))
 i1:W.kitOne K (.ref C) (.ref NT)=some (decide (j=1))
 i2:W.kitOne K (.ref C) (.ref UN)=some (decide (j=2))
 i3:W.kitOne K (.ref C) (.ref ND)=some (decide (j=3))
 i4:W.kitOne K (.ref C) (.ref TW)=some (decide (j=4))
 i5:W.kitOne K (.ref C) (.ref NR)=some (decide (j=5))
 i6:W.kitOne K (.ref C) (.ref NH)=some (decide (j=6))
 i7:W.kitOne K (.ref C) (.ref NX)=some (decide (j=7))
 iv:W.kitOne K (.ref C) (.type "ValueError")=some true
 jl:j<7
def wordsL:List Str:=["plan","turn","unknown","door","twice","room","house","text"]
def nmV:Option Str->V
 | none=> .non
 | some z=> .str z
theorem YC {K:W.Frag}{H:Hp}{Q:VK}{φ:Heap->Prop}{a C D:Addr}{b:Bool} (e:H a=some (.ext φ)) (f:∀h,φ h->tX a C h) (k:ExcK K C) (i:W.kitOne K (.ref C) (.ref D)=some b) (h:Q (.bl b) H):UJ K [.ref a,.ref D] H Q:=⟨a,C,.ref D,D,b,rfl,⟨_,e,f⟩,k,⟨rfl,i⟩,h⟩
theorem U2 {K:W.Frag}{H:Hp}{Q:VK}{φ:Heap->Prop}{a C:Addr}{n:String}{b:Bool} (e:H a=some (.ext φ)) (f:∀h,φ h->tX a C h) (k:ExcK K C) (i:W.kitOne K (.ref C) (.type n)=some b) (h:Q (.bl b) H):OU K [.ref a,.ty n] H Q:=⟨a,C,n,b,rfl,⟨_,e,f⟩,k,i,h⟩
theorem UD {j i:Nat}(h:i<8):([V.bl (decide (j=0)),V.bl (decide (j=1)),V.bl (decide (j=2)),V.bl (decide (j=3))]++[V.bl (decide (j=4)),V.bl (decide (j=5)),V.bl (decide (j=6)),V.bl (decide (j=7))])[i]? =some (V.bl (decide (j=i))):=by
 match i,h with
 | 0,_=>rfl
 | 1,_=>rfl
 | 2,_=>rfl
 | 3,_=>rfl
 | 4,_=>rfl
 | 5,_=>rfl
 | 6,_=>rfl
 | 7,_=>rfl
theorem YT {j:Nat}(h:j<7):((List.range 8).filter fun i=>decide (j=i))=[j]:=by
 match j,h with
 | 0,_=>rfl
 | 1,_=>rfl
 | 2,_=>rfl
 | 3,_=>rfl
 | 4,_=>rfl
 | 5,_=>rfl
 | 6,_=>rfl
inductive CY (K:W.Frag)(NP NT UN ND TW NR NH NX:Addr)(ea:Addr)(vs:List V)(H:Hp)(Q:VK)(E:XK):Prop
 | mk (C:Addr) (j:Nat) (wd:Str) (nm:Option Str) (_:vs=[.ref ea]) (_:XAt K C nm H ea) (_:XD K NP NT UN ND TW NR NH NX C j) (_:wordsL[j]? =some wd) (_:nm.isSome=decide (wd∈(["unknown","twice","room"]:List Str))) (_:∀t H',Same H H'->H' t=some (.tup [.str wd,nmV nm])->Q (.ref t) H'):CY K NP NT UN ND TW NR NH NX ea vs H Q E
local macro_rules| `(tactic| walk_at"rd1")=> `(tactic| first|((with_reducible refine' YC ?e ?f ?k ?i ?_);(case e=>walk_at"hp");(case f=>assumption);(case k=>assumption);(case i=>assumption))|((with_reducible refine' U2 ?e ?f ?k ?i ?_);(case e=>walk_at"hp");(case f=>assumption);(case k=>assumption);(case i=>assumption)))
theorem FT (m:M K mg)(ea:Addr):MY P w K mg base ea 2 m.q0 m.lX.d ["_law_e"] (CY K m.bQ m.bO m.aZ m.bB m.bP m.bH m.bF m.dO ea):=by
 refine m.lX.F.okU sc__law_word (fun vs H Q E h=> ?_) (fun cdv A outer s H vs Q hr hh h=> ?_)
 ·walk_at"g1";obtain⟨C,j,wd,nm,rfl,hX,hK,hw,hnm,k⟩:=h;walk_at"g2";rfl
 ·walk_at"g1";obtain⟨C,j,wd,nm,rfl,hX,hK,hw,hnm,k⟩:=h;walk_at"g2";have nd:=sc__law_word.nd;have hu0:=Room.units0 hr.rm;have hu1:=Room.units1 hr.rm;have hu9:=Room.units9 hr.rm;refine⟨_,(aC (aP (i:=1) nd rfl (by walk_at"oi") (bY (aA (bM (eQ K rfl) rfl m.cA bX (aA (pv 0) (aA (mE rfl m.JV) aB))) (aA (bM (eQ K rfl) rfl m.cA bX (aA (pv 0) (aA (mE rfl m.uD) aB))) (aA (bM (eQ K rfl) rfl m.cA bX (aA (pv 0) (aA (mE rfl m.FC) aB))) (aA (bM (eQ K rfl) rfl m.cA bX (aA (pv 0) (aA (mE rfl m.JY) aB))) aB))))))
   (aC (aP (i:=1) nd rfl (by walk_at"oi") (aQ c6 (pv 1) (bY (aA (bM (eQ K rfl) rfl m.cA bX (aA (pv 0) (aA (mE rfl m.L9) aB))) (aA (bM (eQ K rfl) rfl m.cA bX (aA (pv 0) (aA (mE rfl m.JR) aB))) (aA (bM (eQ K rfl) rfl m.cA bX (aA (pv 0) (aA (mE rfl m.vU) aB))) (aA (bM (eQ K rfl) rfl m.cA bX (aA (pv 0) (aA (mE rfl m.WT) aB))) aB)))))))
   (aC (aP (i:=2) nd rfl (by walk_at"oi") (bY (aA aJ (aA aJ (aA aJ (aA aJ (aA aJ (aA aJ (aA aJ (aA aJ aB))))))))))
   (aC (J8 (Pm:=HdU ea) (i:=3) nd rfl (by walk_at"oi") (N:=["_law_k","_law_words","_law_kinds"]) (nl:=1) (ci:=[2,1]) (fun _ _ _ _=>hh) (blk (s.heap.objs.size+1) rfl rfl rfl (by kernel_rfl)) (OO rfl m.D4 (aA aE aB)) (fun _ _ _ _=>(aL (i:=0) (show (["_law_k","_law_words","_law_kinds"]:List Str).Nodup by decide +kernel) rfl (by walk_at"oi"))) (fun _ _ _ _=>(fE (fV (bS (GG (K:=K)) (pv 2) (pv 0) (fun _ _=>rfl))))) (fun _ _ _ _=>(bS (GG (K:=K)) (pv 1) (pv 0) (fun _ _=>rfl))))
   (aC (bV (PW.pt (tT (aV NK (bM eT rfl m.nZ j2 (aA (pv 3) aB)) aE (bL _)) (oP (mD (fV (bM (OP K rfl) rfl m.cA bX (aA (pv 0) (aA (wC rfl m.J3 FH) aB)))))))) (aD (aW (bE (aA aJ (aA dG aB))))) bJ)
   (aC (bV (aV u8 (bS cW (pv 3) aE (fun _ _=>rfl)) (bY (aA aJ (aA aJ (aA aJ aB)))) (by with_unfolding_all rfl)) (aD (aW (bE (aA (bS cW (pv 3) aE (fun _ _=>rfl)) (aA (U8 K rfl (pv 0) rfl) aB))))) bJ)
   (aD (aW (bE (aA (bS cW (pv 3) aE (fun _ _=>rfl)) (aA dG aB))))))))))),?_⟩
  refine aM (σ:=[some (.ref ea),none,none,none]) rfl ?_;walk_at"cx";walk_at"g1";obtain⟨φ,he,hf,hu,hz⟩:=hX;walk_at"g2";walk_at"g1";obtain⟨ek,i0,i1,i2,i3,i4,i5,i6,i7,iv,jl⟩:=hK;walk_at"g2";walk_at"go";rename_i p1 H1 n1 S1 e1 p2 H2 n2 S2 e2 p3 H3 n3 S3 e3 p4 H4 n4 S4 e4;have s04:Same H H4:=S1.trans (S2.trans (S3.trans S4));have e34:=S4 _ _ e3;have e4':H4 p4=some (.lst (wordsL.map V.str)):=e4;refine⟨8,rfl,by lia,by lia,?_⟩;refine k6 (α:=Nat) (List.range 8) (fun i=>decide (j=i)) (fun i y _=>∃w,wordsL[i]? =some w/\y=V.str w) (fun _ _ _ _ h _=>h) (by rw[sizeLine_eq];decide) (fun i G _ hi=>by rw[List.length_range]at hi;exact hi) (fun G sG=>⟨by decide,φ,(s04.trans sG) _ _ he,hu⟩) ?_ ?_
  ·rintro i x G hx sG v _ ⟨rfl,rfl⟩;have hi:i<8:=by have:=(List.getElem?_eq_some_iff.mp hx).1;rw[List.length_range]at this;exact this
   obtain rfl:i=x:=by rw[List.getElem?_range hi]at hx;exact Option.some.inj hx
   refine⟨Same.refl _,[some (.int (0+i)),some (.ref p4),some (.ref p3)],rfl,fun y v hv=> ?_,fun R hR=>hR,fun R hR=> ?_,fun hc G2 s2 R hR=> ?_⟩
   ·match y,hv with
    | 1,hv=>exact hv
    | 2,hv=>exact hv
    | y+3,hv=>cases hv
   ·have e3G:=sG _ _ e34;rw[Int.zero_add];walk_at"go";exact⟨p3,_,_,_,rfl,rfl,SqL.of e3G,dA (UD hi),_,rfl,hR _ (Same.refl _)⟩
   ·obtain⟨w0,hw0⟩:∃w0,wordsL[i]? =some w0:=⟨_,List.getElem?_eq_getElem hi⟩
    have e4G:=s2 _ _ (sG _ _ e4');rw[Int.zero_add];walk_at"go";exact⟨p4,_,_,_,rfl,rfl,SqL.of e4G,dA (by rw[List.getElem?_map,hw0];rfl),hR _ _ ⟨w0,hw0,rfl⟩ (Same.refl _)⟩
  intro ys H5 s5 hys;rw[YT jl]at hys;obtain⟨_,rfl⟩:∃_:True,ys=[V.str wd]:=by
   cases hys with
   | cons h t =>
    cases t;obtain⟨w0,h1,rfl⟩:=h;rw[hw]at h1;cases h1;exact⟨trivial,rfl⟩
  have he5:=(s04.trans s5) _ _ he;walk_at"go";rename_i p6 H6 n6 S6 e6;rw[if_neg (show ¬(!decide ((([V.str wd].length:Nat):Int)=1))=true from(by show ¬(!decide (((1:Nat):Int)=1))=true;decide))];walk_at"go";rename_i p7 H7 n7 S7 e7;refine AV (ss:=["unknown","twice","room"]) (SqL.of e7) ?_;rw[←hnm];have e67:=S7 _ _ e6;have s56:=S6.trans S7;have s07:Same H H7:=(s04.trans s5).trans s56;have he7:=s07 _ _ he;cases nm with
  | none =>
   show nV _ (V.bl false) H7;walk_at"go";rename_i p8 H8 n8 S8 e8;exact k _ _ (s07.trans S8) e8
  | some z =>
   walk_at"g1";obtain⟨dx,rfl,hd,xf,na⟩:=hz z rfl;walk_at"g2";have hd7:=s07 _ _ hd;show nV _ (V.bl true) H7;walk_at"go";refine Y5 rfl he7 hd7 xf na rfl ?_;walk_at"go";rename_i p8 H8 n8 S8 e8;exact k _ _ (s07.trans S8) e8
theorem FR (m:M K mg):FcU P w K mg base "_law_word" 2 ["_law_e"] (CY K m.bQ m.bO m.aZ m.bB m.bP m.bH m.bF m.dO):=⟨_,_,m.KP,m.lX.F.kp,m.lX.b,FT m⟩
def AW:Rs->Str
 | .plan=> "plan" | .turn=> "turn" | .unknown _=> "unknown" | .door=> "door" | .twice _=> "twice" | .room _=> "room" | .house=> "house" | .good=> "none"
def nmR:Rs->Option Str
 | .unknown z=>some z| .twice z=>some z| .room z=>some z|_=>none
def ResAt (H:Hp)(v:V)(r:Rs):Prop:=(r= .good/\v= .non)∨(r≠ .good/\∃q,v= .ref q/\H q=some (.tup [.str (AW r),nmV (nmR r)]))
theorem X4:∀r:Rs,(nmR r).isSome=decide (AW r∈(["unknown","twice","room"]:List Str))
 | .plan=>by decide +kernel
 | .turn=>by decide +kernel
 | .unknown z=>show true=decide (("unknown" :Str)∈(["unknown","twice","room"]:List Str)) by decide +kernel
 | .door=>by decide +kernel
 | .twice z=>show true=decide (("twice" :Str)∈(["unknown","twice","room"]:List Str)) by decide +kernel
 | .room z=>show true=decide (("room" :Str)∈(["unknown","twice","room"]:List Str)) by decide +kernel
 | .house=>by decide +kernel
 | .good=>by decide +kernel
theorem aAJ {tc:XK->TE}{R:XK}{D:fM}{σ:St}{H:Hp} (h:tc R σ H fun _ H1=>D.nx σ H1):txE tc R D σ H:=h
local macro_rules| `(tactic| walk_at"rd1")=> `(tactic| (with_reducible refine aAJ ?_))
inductive CP (K:W.Frag)(C:Addr)(D D0:aS)(vs:List V)(H:Hp)(Q:VK)(E:XK):Prop
 | mk (h a b:Addr) (f l t:Int) (rz ps:List (Str×Int)) (ds:List aF) (up:List V) (rows:List aT) (vh:List V) (hs:List Hap) (_:vs=[.ref h,.ref a,.int t,.ref b]) (_:AnA K C D D0 H h a b f l rz ps ds up rows vh hs) (_:∀r,Vd f l t rz ps ds hs rows r->∀v H',Same H H'->ResAt H' v r->Q v H'):CP K C D D0 vs H Q E
theorem IW (m:M K mg):bD P w K mg base CX0 15 m.rD m.lW.d ["_law_house","_law_plan","_law_turn","_law_happenings"] (CP K m.aI (aH P w K mg base (some 1)) (aH P w K mg base none)):=by
 refine m.lW.F.ok sc__law_told (fun vs H Q E h=> ?_) (fun cdv A outer s H vs Q E hr h=> ?_)
 ·walk_at"g1";obtain⟨h,a,b,f,l,t,rz,ps,ds,up,rows,vh,hs,rfl,x,k⟩:=h;walk_at"g2";rfl
 ·walk_at"g1";obtain⟨h,a,b,f,l,t,rz,ps,ds,up,rows,vh,hs,rfl,x,k⟩:=h;walk_at"g2";have nd:=sc__law_told.nd;walk_at"hu";have FU__law_word:=FR (P:=P) (w:=w) (base:=base) m;have CJ:= @ZJ P w K mg base m;refine⟨_,(aC (aP (i:=4) nd rfl (by walk_at"oi") dG)
   (aC (UK (i:=5) nd rfl rfl rfl rfl m.PD (aCQ (aCI CJ hr (aA (pv 0) (aA (pv 1) (aA (pv 2) (aA (pv 3) aB)))))) (fun ea=>(aD (aP (i:=4) nd rfl (by walk_at"oi") (aCA FU__law_word hr (aA (pv 5) aB))))))
   (aD (aW (pv 4))))),?_⟩
  refine aM (σ:=[some (.ref h),some (.ref a),some (.int t),some (.ref b),none,none]) rfl ?_;walk_at"cx";walk_at"go";generalize hR:RI _ _ _ _ _ _=R;have main:∀(C:Addr) (j:Nat) (r:Rs) (dd:Option Addr) (H2:Hp),W.exmOne K (.ref C) (.ref m.dH)=some true->XD K m.bQ m.bO m.aZ m.bB m.bP m.bH m.bF m.dO C j->wordsL[j]? =some (AW r)->r≠ .good->Vd f l t rz ps ds hs rows r->Same H H2->((nmR r=none/\dd=none)∨∃z dx,nmR r=some z/\dd=some dx/\H2 dx=some (.xd [("name",.str z)])/\oZ K C/\NoAttr K C "name")->R (.ref C) dd H2:=by
   intro C j r dd H2 hex hK hw hng hv s2 hd;subst hR;refine⟨C,rfl,hex,fun ea hn=> ?_⟩;have sG:Same H2 (upd H2 ea (tD ea C dd)):=tE hn;have hX:XAt K C (nmR r) (upd H2 ea (tD ea C dd)) ea:=by
    rcases hd with⟨h1,rfl⟩|⟨z,dx,h1,rfl,h3,h4,h5⟩
    ·exact⟨_,aY,fun _ q=>q.at,fun _ q=>q.un,fun z hz=>by rw[h1]at hz;cases hz⟩
    ·refine⟨_,aY,fun _ q=>q.at,fun _ q=>q.un,fun z' hz=> ?_⟩;rw[h1]at hz;cases hz;exact⟨dx,rfl,sG _ _ h3,h4,h5⟩
   generalize upd H2 ea (tD ea C dd)=G at sG hX
   try dsimp only[List.set]
   walk_at"go";refine⟨C,j,_,_,rfl,hX,hK,hw,X4 r,fun t6 H6 S6 e6=> ?_⟩
   try dsimp only[List.set]
   walk_at"go";exact⟨_,rfl,k r hv _ _ (s2.trans (sG.trans S6)) (.inr ⟨hng,_,rfl,e6⟩)⟩
  clear hR;refine⟨h,a,b,f,l,t,rz,ps,ds,up,rows,vh,hs,rfl,x,fun r hv=>⟨?_,?_,?_,?_,?_,?_,?_,?_⟩⟩
  ·rintro rfl p H' S';exact⟨_,rfl,k _ hv _ _ S' (.inl ⟨rfl,rfl⟩)⟩
  ·rintro rfl H2 s2;exact main m.bQ 0 .plan _ H2 m.v8 ⟨m.TK,m.AI,m.z4,m.xM,m.zP,m.CA,m.zS,m.xU,m.AC,m.uJ,by decide⟩ rfl (fun z=>nomatch z) hv s2 (.inl ⟨rfl,rfl⟩)
  ·rintro rfl H2 s2;exact main m.bO 1 .turn _ H2 m.v3 ⟨m.TB,m.zW,m.AD,m.xC,m.zM,m.BV,m.AJ,m.xT,m.zZ,m.uI,by decide⟩ rfl (fun z=>nomatch z) hv s2 (.inl ⟨rfl,rfl⟩)
  ·rintro z rfl H2 dx s2 ed;exact main m.aZ 2 (.unknown z) _ H2 m.uR ⟨m.uE.k,m.xD,m.xW,m.v7,m.xR,m.zO,m.xE,m.wB,m.xS,m.sI,by decide⟩ rfl (fun z=>nomatch z) hv s2 (.inr ⟨z,dx,rfl,rfl,ed,m.uE,m.CH⟩)
  ·rintro rfl H2 s2;exact main m.bB 3 .door _ H2 m.vY ⟨m.TF,m.AG,m.AK,m.xH,m.zQ,m.BT,m.zU,m.xJ,m.z7,m.uF,by decide⟩ rfl (fun z=>nomatch z) hv s2 (.inl ⟨rfl,rfl⟩)
  ·rintro z rfl H2 dx s2 ed;exact main m.bP 4 (.twice z) _ H2 m.xF ⟨m.AH.k,m.BY,m.BR,m.zV,m.BX,m.ED,m.CF,m.AE,m.CD,m.uS,by decide⟩ rfl (fun z=>nomatch z) hv s2 (.inr ⟨z,dx,rfl,rfl,ed,m.AH,m.JW⟩)
  ·rintro z rfl H2 dx s2 ed;exact main m.bH 5 (.room z) _ H2 m.v5 ⟨m.v9.k,m.zR,m.AA,m.xG,m.zY,m.CB,m.AB,m.xN,m.z9,m.uH,by decide⟩ rfl (fun z=>nomatch z) hv s2 (.inr ⟨z,dx,rfl,rfl,ed,m.v9,m.FE⟩)
  ·rintro rfl H2 s2;exact main m.bF 6 .house _ H2 m.uT ⟨m.PN,m.xV,m.xI,m.vZ,m.xO,m.AM,m.xQ,m.vW,m.xL,m.sL,by decide⟩ rfl (fun z=>nomatch z) hv s2 (.inl ⟨rfl,rfl⟩)
theorem JP (m:M K mg):Fc P w K mg base "_law_told" 15 ["_law_house","_law_plan","_law_turn","_law_happenings"] (CP K m.aI (aH P w K mg base (some 1)) (aH P w K mg base none)):=⟨_,_,m.KO,m.lW.F.kp,m.lW.b,IW m⟩
inductive DS (C:Addr)(D D0:aS)(vs:List V)(H:Hp)(Q:VK)(E:XK):Prop
 | mk (c:Int) (h n:Addr) (f l:Int) (rz ps:List (Str×Int)) (ds:List aF) (ns:List Str) (_:vs=[.int c,.ref h,.ref n]) (_:aX C D H h f l rz ps ds) (_:H n=some (.lst (ns.map V.str))) (_:0<ns.length) (_:ns.length<=5) (_:0<rz.length) (_:rz.length<=3) (_:(∀z∈ns,cD z=true)) (_:(∀e∈rz,cD e.1=true)) (_:0<=f) (_:f<=10) (_:∀q hp H',Same H H'->HapAt D0 H' (.ref q) hp->gM hp->Q (.ref q) H'):DS C D D0 vs H Q E
theorem IH {xs:List Str}(h:0<xs.length)(a:Int):∃z∈xs,atI (xs.map V.str) (a%(xs.length:Int))=some (V.str z):=by
 have h0:0<=a%(xs.length:Int):=Int.emod_nonneg _ (by lia);have h1:a%(xs.length:Int)<xs.length:=Int.emod_lt_of_pos _ (by lia);have hj:(a%(xs.length:Int)).toNat<xs.length:=by lia
 refine⟨xs[(a%(xs.length:Int)).toNat],List.getElem_mem hj,?_⟩;have e:=dA (xs:=xs.map V.str) (j:=(a%(xs.length:Int)).toNat) (v:=V.str xs[(a%(xs.length:Int)).toNat]) (by rw[List.getElem?_map,List.getElem?_eq_getElem hj];rfl);rw[show (((a%(xs.length:Int)).toNat:Nat):Int)=a%(xs.length:Int) by lia]at e;exact e
theorem R8 {xs:List V}{i:Int} (h0:0<=i) (h1:i<xs.length):∃x∈xs,atI xs i=some x:=by
 have hj:i.toNat<xs.length:=by lia
 refine⟨xs[i.toNat],List.getElem_mem hj,?_⟩;have e:=dA (xs:=xs) (j:=i.toNat) (v:=xs[i.toNat]) (List.getElem?_eq_getElem hj);rw[show ((i.toNat:Nat):Int)=i by lia]at e;exact e
theorem yX {H:Hp}{p dx:Addr}{n st:Str}{e:V}{wd:Int} (m:M K mg) (h:H p=some (.ins m.dN dx (oO (.str n) (.str st) e (.int wd)))):(aH P w K mg base none).at' H (.ref p) (n,st,e,fun _=>0) :=
 ⟨p,_,dx,_,[],rfl,h,m.lN,by walk_at"lk",by walk_at"lk",by walk_at"lk",by walk_at"lk",by walk_at"lk",qC m,(fun _ z=>nomatch z),fun kl hk=>nomatch hk⟩
theorem xB (m:M K mg):bD P w K mg base CX0 6 m.jE m.fC.d ["_law_cell","_law_house","_law_names"] (DS m.aI (aH P w K mg base (some 1)) (aH P w K mg base none)):=by
 refine m.fC.F.ok sc__law_happening (fun vs H Q E h=> ?_) (fun cdv A outer s H vs Q E hr h=> ?_)
 ·walk_at"g1";obtain⟨c,h,n,f,l,rz,ps,ds,ns,rfl,hh,hn,n0,n5,r0,r3,nmn,nmr,f0,f9,k⟩:=h;walk_at"g2";rfl
 ·walk_at"g1";obtain⟨c,h,n,f,l,rz,ps,ds,ns,rfl,hh,hn,n0,n5,r0,r3,nmn,nmr,f0,f9,k⟩:=h;walk_at"g2";have nd:=sc__law_happening.nd;walk_at"hu";have F__law_drawn:= @uN P w K mg base m;have K_Door_1:= @RS P w K mg base m;have K_Door_2:= @RM P w K mg base m;have w_dc_House:=m.bN;have w_mc_House_rooms:= @rT P w K mg base m;have w_dc_Door:=m.lN;refine⟨_,(aC (aP (i:=3) nd rfl (by walk_at"oi") (aQ cQ (b9 F__law_drawn hr (aA (pv 0) (aA aE aB))) aE))
   (aC (aP (i:=4) nd rfl (by walk_at"oi") (bS cW (pv 2) (aQ cQ (b9 F__law_drawn hr (aA (pv 0) (aA aE aB))) (bM eT rfl m.nZ j2 (aA (pv 2) aB))) (fun _ _=>rfl)))
   (aC (aP (i:=5) nd rfl (by walk_at"oi") (bS cW (c7 1 hr (pv 1)) (aQ cQ (b9 F__law_drawn hr (aA (pv 0) (aA aE aB))) (bM eT rfl m.nZ j2 (aA (c7 1 hr (pv 1)) aB))) (fun _ _=>rfl)))
   (aC (aP (i:=6) nd rfl (by walk_at"oi") (aQ cG (bK (pv 1) rfl) (aQ cQ (b9 F__law_drawn hr (aA (pv 0) (aA aE aB))) aE)))
   (aC (aP (i:=7) nd rfl (by walk_at"oi") (bS cW (bY (aA (N4 GS aE) (aA dG (aA F5 (aA aJ (aA (N4 GS aE) aB)))))) (aQ cQ (b9 F__law_drawn hr (aA (pv 0) (aA aE aB))) aE) (fun _ _=>rfl)))
   (aC (aP (i:=8) nd rfl (by walk_at"oi") (bY (aA (bE (aA aJ (aA (pv 4) (aA (pv 6) aB)))) (aA (bE (aA aJ (aA (pv 4) (aA (pv 6) (aA aE aB))))) (aA (bE (aA aJ (aA (pv 5) (aA aE aB)))) (aA (bE (aA aJ (aA aJ (aA (pv 6) aB)))) aB))))))
   (aC (aP (i:=8) nd rfl (by walk_at"oi") (aQ c6 (pv 8) (bY (aA (bE (aA aJ (aA aJ (aA (pv 7) (aA aE aB))))) (aA (bE (aA aJ (aA (pv 4) (aA (pv 7) aB)))) (aA (bE (aA aJ (aA (pv 4) (aA (pv 7) (aA aE aB))))) aB))))))
   (aC (aP (i:=8) nd rfl (by walk_at"oi") (aQ c6 (pv 8) (bY (aA (bE (aA aJ (aA (pv 4) (aA (pv 6) (aA (pv 7) aB))))) (aA (bE (aA aJ (aA aJ (aA aE aB)))) (aA (bE (aA aJ (aA (pv 5) (aA (aQ vK (N4 GS aE) (aQ cQ (b9 F__law_drawn hr (aA (pv 0) (aA aE aB))) aE)) aB)))) aB))))))
   (aC (aP (i:=8) nd rfl (by walk_at"oi") (aQ c6 (pv 8) (bY (aA (bE (aA aJ (aA (pv 5) (aA aE aB)))) (aA (bE (aA aJ (aA (F6 K_Door_2 hr (aA (pv 4) (aA (pv 5) aB))) aB))) (aA (bE (aA aJ (aA (F6 K_Door_2 hr (aA aJ (aA aJ aB))) aB))) aB))))))
   (aD (aW (bS cW (aQ c6 (pv 8) (bY (aA (bE (aA aJ (aA (F6 K_Door_1 hr (aA aJ (aA (pv 5) (aA aJ aB)))) aB))) aB))) (pv 3) (fun _ _=>rfl))))))))))))),?_⟩
  refine aM (σ:=[some (.int c),some (.ref h),some (.ref n),none,none,none,none,none,none]) rfl ?_;walk_at"cx";walk_at"g1";obtain⟨dx,qs,qp,qd,nk,kvs,e1,_⟩:=id hh.ex;walk_at"g2";walk_at"go";rename_i w0 dw w1 w2 a1 d1 a10 a11;rw[List.length_map];walk_at"go";obtain⟨z1,hz1,hat1⟩:=IH n0 a1;refine⟨n,_,_,_,rfl,rfl,SqL.of hn,hat1,?_⟩;walk_at"go";refine fJ hh fun p3 H3 m3 S3 e3=> ?_;have hh3:=aU hh S3;have e13:=S3 _ _ e1;walk_at"go";rename_i a2 d2 a20 a21;have rl:0<(rz.map (·.1)).length:=by rw[List.length_map];exact r0
  refine fJ hh3 fun p4 H4 m4 S4 e4=> ?_;have e34:=S4 _ _ e3;have e14:=S4 _ _ e13;walk_at"go";rw[List.length_map];walk_at"go";obtain⟨z2,hz2,hat2⟩:=IH rl a2;refine⟨p3,_,_,_,rfl,rfl,SqL.of e34,hat2,?_⟩;have hn4:=S4 _ _ (S3 _ _ hn);walk_at"go";rename_i a4 d4 a40 a41 p5 H5 m5 S5 e5 a5 d5 a50 a51;obtain⟨ox,hox,hato⟩:=R8 (xs:=[V.int (-1),V.non,V.bl true,V.str "2",V.int (-3)]) (i:=a5%5) (by lia) (by show a5%5<5;lia);have hop:PlV ox=true:=by
   simp only[List.mem_cons,List.not_mem_nil,or_false]at hox;rcases hox with rfl|rfl|rfl|rfl|rfl<;>rfl
  refine⟨p5,_,_,_,rfl,rfl,SqL.of e5,hato,?_⟩;have hnz1:=nmn z1 hz1;have hnz2:cD z2=true:=by
   obtain⟨e,he,rfl⟩:=List.mem_map.mp hz2;exact nmr e he
  clear hato hat1 hat2;have nf:cD "fresh" =true:=by decide +kernel
  have nw:cD "nowhere" =true:=by decide +kernel
  have ew:sN (.str "nowhere"):= .inr ⟨_,rfl,nw⟩;walk_at"go";rename_i t0 Gt0 gt0 Tt0 Et0 t1 Gt1 gt1 Tt1 Et1 t2 Gt2 gt2 Tt2 Et2 t3 Gt3 gt3 Tt3 Et3 l1 Gl1 gl1 Tl1 El1 t4 Gt4 gt4 Tt4 Et4 t5 Gt5 gt5 Tt5 Et5 t6 Gt6 gt6 Tt6 Et6 l2 Gl2 gl2 Tl2 El2 q2 Gq2 gq2 Tq2 Eq2 t7 Gt7 gt7 Tt7 Et7 t8 Gt8 gt8 Tt8 Et8 a6 da6 ha6 ia6 t9 Gt9 gt9 Tt9 Et9 l3 Gl3 gl3 Tl3 El3 q3 Gq3 gq3 Tq3 Eq3 t10 Gt10 gt10 Tt10 Et10 o1 dxo1 Go1 go1 To1 Eo1 t11 Gt11 gt11 Tt11 Et11 o2 dxo2 Go2 go2 To2 Eo2 t12 Gt12 gt12 Tt12 Et12 l4 Gl4 gl4 Tl4 El4 q4 Gq4 gq4 Tq4 Eq4 o3 dxo3 Go3 go3 To3 Eo3 t13 Gt13 gt13 Tt13 Et13 l5 Gl5 gl5 Tl5 El5 q5 Gq5 gq5 Tq5 Eq5;have cq5:=Same.refl Gq5;have cl5:=Tq5.trans cq5;have ct13:=Tl5.trans cl5;have co3:=Tt13.trans ct13;have cq4:=To3.trans co3;have cl4:=Tq4.trans cq4;have ct12:=Tl4.trans cl4;have co2:=Tt12.trans ct12;have ct11:=To2.trans co2;have co1:=Tt11.trans ct11;have ct10:=To1.trans co1;have cq3:=Tt10.trans ct10;have cl3:=Tq3.trans cq3;have ct9:=Tl3.trans cl3;have ct8:=Tt9.trans ct9;have ct7:=Tt8.trans ct8;have cq2:=Tt7.trans ct7;have cl2:=Tq2.trans cq2;have ct6:=Tl2.trans cl2;have ct5:=Tt6.trans ct6;have ct4:=Tt5.trans ct5;have cl1:=Tt4.trans ct4;have ct3:=Tl1.trans cl1;have ct2:=Tt3.trans ct3;have ct1:=Tt2.trans ct2;have ct0:=Tt1.trans ct1;have sZ:Same H Gq5:=S3.trans (S4.trans (S5.trans (Tt0.trans ct0)));have all:∀v∈[V.ref t0,V.ref t1,V.ref t2,V.ref t3]++[V.ref t4,V.ref t5,V.ref t6]++[V.ref t7,V.ref t8,V.ref t9]++[V.ref t10,V.ref t11,V.ref t12]++[V.ref t13],∃q hp,v=V.ref q/\HapAt (aH P w K mg base none) Gq5 (V.ref q) hp/\gM hp:=by
   intro v hv;simp only[List.mem_append,List.mem_cons,List.not_mem_nil,or_false]at hv;rcases hv with ((((h|h|h|h)|(h|h|h))|(h|h|h))|(h|h|h))|h
   ·exact⟨t0,.shut z1 (.int (f+a4%5)),h,⟨_,rfl,ct0 _ _ Et0⟩,rfl⟩
   ·exact⟨t1,.wider z1 (.int (f+a4%5)) (.int 2),h,⟨_,rfl,ct1 _ _ Et1⟩,⟨rfl,rfl⟩⟩
   ·exact⟨t2,.found z2 1,h,⟨_,rfl,ct2 _ _ Et2⟩,trivial⟩
   ·exact⟨t3,.shut "strange" (.int (f+a4%5)),h,⟨_,rfl,ct3 _ _ Et3⟩,rfl⟩
   ·exact⟨t4,.wider "strange" ox (.int 1),h,⟨_,rfl,ct4 _ _ Et4⟩,⟨hop,rfl⟩⟩
   ·exact⟨t5,.shut z1 ox,h,⟨_,rfl,ct5 _ _ Et5⟩,hop⟩
   ·exact⟨t6,.wider z1 ox (.int 1),h,⟨_,rfl,ct6 _ _ Et6⟩,⟨hop,rfl⟩⟩
   ·exact⟨t7,.wider z1 (.int (f+a4%5)) ox,h,⟨_,rfl,ct7 _ _ Et7⟩,⟨rfl,hop⟩⟩
   ·exact⟨t8,.found "nowhere" 1,h,⟨_,rfl,ct8 _ _ Et8⟩,trivial⟩
   ·exact⟨t9,.found z2 (-1 - a6%9),h,⟨_,rfl,ct9 _ _ Et9⟩,trivial⟩
   ·exact⟨t10,.found z2 9,h,⟨_,rfl,ct10 _ _ Et10⟩,trivial⟩
   ·exact⟨t11,.door (z1,z2,.non,fun _=>0),h,⟨_,_,rfl,ct11 _ _ Et11,yX (P:=P) (w:=w) (base:=base) m (co1 _ _ Eo1)⟩,⟨hnz1,hnz2,.inl rfl⟩⟩
   ·exact⟨t12,.door ("fresh","nowhere",.non,fun _=>0),h,⟨_,_,rfl,ct12 _ _ Et12,yX (P:=P) (w:=w) (base:=base) m (co2 _ _ Eo2)⟩,⟨nf,nw,.inl rfl⟩⟩
   ·exact⟨t13,.door ("fresh",z2,.str "nowhere",fun _=>0),h,⟨_,_,rfl,ct13 _ _ Et13,yX (P:=P) (w:=w) (base:=base) m (co3 _ _ Eo3)⟩,⟨nf,hnz2,.inr ⟨_,rfl,nw⟩⟩⟩
  obtain⟨x,hx,hat⟩:=R8 (xs:=[V.ref t0,V.ref t1,V.ref t2,V.ref t3]++[V.ref t4,V.ref t5,V.ref t6]++[V.ref t7,V.ref t8,V.ref t9]++[V.ref t10,V.ref t11,V.ref t12]++[V.ref t13]) (i:=w0%14) (by lia) (by show w0%14<14;lia);walk_at"g1";obtain⟨q,hp,rfl,h1,h2⟩:=all x hx;walk_at"g2";exact⟨q5,_,_,_,rfl,rfl,SqL.of Eq5,hat,k q hp _ sZ h1 h2⟩
theorem w9 (m:M K mg):Fc P w K mg base "_law_happening" 6 ["_law_cell","_law_house","_law_names"] (DS m.aI (aH P w K mg base (some 1)) (aH P w K mg base none)):=⟨_,_,m.zX,m.fC.F.kp,m.fC.b,xB m⟩
def IR (H:Hp)(Q:VK)(r:Rs):Prop:=∀t H',Same H H'->H' t=some (.tup [.str (AW r),nmV (nmR r)])->Q (.ref t) H'
inductive AU (K:W.Frag)(D0:aS)(vs:List V)(H:Hp)(Q:VK)(E:XK):Prop
 | mk (b n:Addr) (ds:List aF) (vh:List V) (hs:List Hap) (_:vs=[.ref b,.ref n]) (_:H n=some (.lst ((ds.map (·.1)).map V.str))) (_:ds.length<=8) (_:SqL K H b vh) (_:Paired (HapAt D0 H) vh hs) (_:(∀h∈hs,gM h)) (_:hs.length<=4) (_:(qU ds hs->∀H',Same H H'->Q .non H')) (_:(∀z,Bad ds hs (.unknown z)->IR H Q (.unknown z))) (_:(Bad ds hs .door->IR H Q .door)):AU K D0 vs H Q E
theorem OB {ds:List aF}{hs:List Hap}{i:Nat}{h:Hap} (e:hs[i]? =some h):(dsA ds hs (i+1)).map (·.1)=(dsA ds hs i).map (·.1)++(frD [h]).map (·.1):=by
 rw[sR e];cases h<;>first|exact(List.append_nil _).symm|exact List.map_append
theorem zH (m:M K mg):bD P w K mg base CX0 3 m.kF m.fR.d ["_law_happenings","_law_names"] (AU K (aH P w K mg base none)):=by
 refine m.fR.F.ok sc__law_by_doors (fun vs H Q E h=> ?_) (fun cdv A outer s H vs Q E hr h=> ?_)
 ·walk_at"g1";obtain⟨b,n,ds,vh,hs,rfl,hn,l8,hb,hhp,hok,l4,k1,k2,k3⟩:=h;walk_at"g2";rfl
 ·walk_at"g1";obtain⟨b,n,ds,vh,hs,rfl,hn,l8,hb,hhp,hok,l4,k1,k2,k3⟩:=h;walk_at"g2";have nd:=sc__law_by_doors.nd;walk_at"hu";have F__law_number:= @C8 P w K mg base m;refine⟨_,(aC (aP (i:=2) nd rfl (by walk_at"oi") (qH MS rfl m.JX C0 (aA (pv 1) aB)))
   (aC (cU PassesOwn.never rfl (bG (pv 0)) (aL (i:=3) nd rfl (by walk_at"oi")) (aD (bV (aV j6 (bS dX (pv 3) aE (fun _ _=>rfl)) aJ (bL _)) (aD (cC (wO PySem.F.plainAttrs_list PySem.F.slot_list_append PySem.F.type_list_append jO (pv 2) (aA (bK (bS dX (pv 3) aE (fun _ _=>rfl)) rfl) aB)))) (aD (bV (aV NK (bS dX (pv 3) aE (fun _ _=>rfl)) aJ (bL _)) (aC (bV (aV jX (bS dX (pv 3) aE (fun _ _=>rfl)) (pv 2) (by with_unfolding_all rfl)) (aD (aW (bE (aA aJ (aA (bS dX (pv 3) aE (fun _ _=>rfl)) aB))))) bJ)
   (aD (bV (mD (fV (bM (IC rfl) rfl m.X0 RT (aA (cI (N:=["_law_part"]) (nl:=1) (ci:=[]) rfl (blk (s.heap.objs.size+1) rfl rfl rfl (by kernel_rfl)) (aBZ (kZ aBu (pv 3) (lG aE) rR)) (fun _ _ _ _=>(aL (i:=0) (show (["_law_part"]:List Str).Nodup by decide +kernel) rfl (by walk_at"oi"))) (fun _ _ _ _=>dF) (fun _ _ _ _=>(b9 F__law_number hr (aA (pv 0) aB)))) aB)))) (aD (aW (bE (aA aJ (aA dG aB))))) bJ))) bJ)))))
   (aD (aW dG)))),?_⟩
  refine aM (σ:=[some (.ref b),some (.ref n),none,none]) rfl ?_;walk_at"cx";have hvl:=Paired.length hhp;walk_at"go";rename_i p H1 n1 S1 e1;have sHG:∀{G:Hp},SameBut p H1 G->Same H G:=fun sb x o q=>sb x o (S1 x o q) (aN q n1);let Pv1:Nat->St->Hp->Prop:=fun i σ' G=>SameBut p H1 G/\G p=some (.lst (((dsA ds hs i).map (·.1)).map V.str))/\(∀j h',j<i->hs[j]? =some h'->g7 ((dsA ds hs j).map (·.1)) h'= .good)/\∃x3,σ'=[some (.ref b),some (.ref n),some (.ref p),x3];refine cX vh Pv1 ⟨SameBut.refl,by rw[show dsA ds hs 0=ds from List.append_nil _];exact e1,(fun j h' hj=>absurd hj (Nat.not_lt_zero _)),none,rfl⟩ (fun i σ' G _ q=>(sHG q.1).seq hb) ?_ ?_
  ·rintro i x _ G hx hq_;walk_at"g1";obtain⟨sb,eG,hgd,x3,rfl⟩:=hq_;walk_at"g2";have hi:i<vh.length:=(List.getElem?_eq_some_iff.mp hx).1;obtain⟨hp,hhi⟩:∃hp,hs[i]? =some hp:=⟨_,List.getElem?_eq_getElem (by lia)⟩
   have sG:=sHG sb;have hat:=(L2.Paired.at2 hhp hx hhi).same sG;have hok1:=hok hp (List.mem_of_getElem? hhi);have good:g7 ((dsA ds hs i).map (·.1)) hp= .good->∀j h',j<i+1->hs[j]? =some h'->g7 ((dsA ds hs j).map (·.1)) h'= .good:=fun hg j h' hj hj'=>by
    rcases Nat.lt_or_ge j i with hji|hji
    ·exact hgd j h' hji hj'
    ·obtain rfl:j=i:=by lia
     rw[hhi]at hj';cases hj';exact hg
   have nl:((dsA ds hs i).map (·.1)).length<=12:=by
    have q1:=jN (hs.take i);rw[List.length_take]at q1;unfold dsA;rw[List.length_map,List.length_append];lia
   have ns:=OB (ds:=ds) hhi;rcases EU hat hok1 ((dsA ds hs i).map (·.1)) (dsA ds hs i) with⟨z,i0,rfl⟩|⟨d,rfl⟩|⟨nn,g,q,w0,xs,hC⟩
   ·obtain⟨q,rfl,hq⟩:=hat;walk_at"go";exact⟨sb,by rw[ns];exact eG.trans (by rw[show (frD [Hap.found z i0]).map (·.1)=[] from rfl,List.append_nil]),good rfl,_,rfl⟩
   ·walk_at"g1";obtain⟨q,u,rfl,hq,hu⟩:=hat;walk_at"g2";walk_at"g1";obtain⟨n3,st,en,lt⟩:=d;walk_at"g2";walk_at"g1";obtain⟨q9,C9,dx9,fs9,fp9,rfl,hq9,dcC,l1,l2,l3,l4',l5,mcE,hfp,hlt⟩:=DoorAt.ex hu;walk_at"g2";walk_at"go";refine l6 eG (by rw[sizeLine_eq,List.length_map];lia) fun G2 B2 e2=> ?_;exact⟨sb.trans B2,by rw[ns];exact e2.trans (by rw[List.map_append];rfl),good rfl,_,rfl⟩
   ·walk_at"g1";obtain⟨rfl,hq,w1,w2,hc,ea,c1,c2,c3⟩:=hC;walk_at"g2";rcases hc with⟨q1,t,eq1,hq1,ht,hg⟩|⟨q1,t,i1,eq1,hq1,ht,hi2,hg⟩
    ·cases eq1;walk_at"go";refine mG (SqL.of eG) ?_
     by_cases hm:nn∈(dsA ds hs i).map (·.1)
     ·rw[decide_eq_true hm];walk_at"go";refine⟨q,[V.str "shut",V.str nn,t],rfl,.inl (.inl hq1),fun z=>absurd z.1 (by show ¬HT.sIx 3 0 (some 2)=0;decide),fun pc npc=> ?_⟩;have s2:Same G (upd G pc (.tup (d7 [V.str "shut",V.str nn,t] (some 2) none))):=tE npc;have e2:upd G pc (.tup (d7 [V.str "shut",V.str nn,t] (some 2) none)) pc=some (.tup [t]):=by rw[aY];exact congrArg (fun z=>some (HO.tup z)) (vA [V.str "shut",V.str nn,t] 2)
      generalize upd G pc (.tup (d7 [V.str "shut",V.str nn,t] (some 2) none))=G2 at s2 e2;refine JN (xs:=[t]) (.inl (.inl e2)) ?_;refine RA (fun x y _=>y=V.bl (cF x)) (fun _ _ _ _ h _=>h) (by rw[sizeLine_eq];simp only[List.length_cons,List.length_nil];lia) (rest:=[]) (by rfl) (.inl (.inl e2)) (fun x G3 hx s3 R hR=> ?_) ?_
      ·walk_at"go";exact RD (by simp only[List.mem_cons,List.not_mem_nil,or_false]at hx;subst hx;exact ht) (hR _ _ rfl (Same.refl _))
      intro ys G4 s4 hys;obtain rfl:=pZ (g:=cF) hys;walk_at"go";rename_i p5 G5 n5 S5 e5;refine QR (SqL.of e5) ?_;have s5:Same G G5:=s2.trans (s4.trans S5)
      by_cases hgt:g
      ·rw[show ([t].map cF).all id=true by rw[List.map_cons,List.all_cons,hg.mp hgt];rfl];walk_at"go";exact⟨sb.trans s5.but,by rw[sR hhi,ea];exact s5 _ _ eG,good (c1 hm hgt),_,rfl⟩
      ·rw[show ([t].map cF).all id=false by rw[List.map_cons,List.all_cons,Bool.eq_false_iff.mpr fun z=>hgt (hg.mpr z)];rfl];walk_at"go";rename_i t6 G6 n6 S6 e6;exact k3 ⟨i,hp,hhi,c2 hm hgt,hgd⟩ _ _ (sG.trans (s5.trans S6)) e6
     ·rw[decide_eq_false hm];walk_at"go";rename_i t6 G6 n6 S6 e6;exact k2 nn ⟨i,hp,hhi,c3 hm,hgd⟩ _ _ (sG.trans S6) e6
    ·cases eq1;walk_at"go";refine mG (SqL.of eG) ?_
     by_cases hm:nn∈(dsA ds hs i).map (·.1)
     ·rw[decide_eq_true hm];walk_at"go";refine⟨q,[V.str "wider",V.str nn,t,i1],rfl,.inl (.inl hq1),fun z=>absurd z.1 (by show ¬HT.sIx 4 0 (some 2)=0;decide),fun pc npc=> ?_⟩;have s2:Same G (upd G pc (.tup (d7 [V.str "wider",V.str nn,t,i1] (some 2) none))):=tE npc;have e2:upd G pc (.tup (d7 [V.str "wider",V.str nn,t,i1] (some 2) none)) pc=some (.tup [t,i1]):=by rw[aY];exact congrArg (fun z=>some (HO.tup z)) (vA [V.str "wider",V.str nn,t,i1] 2)
      generalize upd G pc (.tup (d7 [V.str "wider",V.str nn,t,i1] (some 2) none))=G2 at s2 e2;refine JN (xs:=[t,i1]) (.inl (.inl e2)) ?_;refine RA (fun x y _=>y=V.bl (cF x)) (fun _ _ _ _ h _=>h) (by rw[sizeLine_eq];simp only[List.length_cons,List.length_nil];lia) (rest:=[]) (by rfl) (.inl (.inl e2)) (fun x G3 hx s3 R hR=> ?_) ?_
      ·walk_at"go";exact RD (by simp only[List.mem_cons,List.not_mem_nil,or_false]at hx;rcases hx with rfl|rfl<;>assumption) (hR _ _ rfl (Same.refl _))
      intro ys G4 s4 hys;obtain rfl:=pZ (g:=cF) hys;walk_at"go";rename_i p5 G5 n5 S5 e5;refine QR (SqL.of e5) ?_;have s5:Same G G5:=s2.trans (s4.trans S5)
      by_cases hgt:g
      ·rw[show ([t,i1].map cF).all id=true by rw[List.map_cons,List.map_cons,List.all_cons,List.all_cons,(hg.mp hgt).1,(hg.mp hgt).2];rfl];walk_at"go";exact⟨sb.trans s5.but,by rw[sR hhi,ea];exact s5 _ _ eG,good (c1 hm hgt),_,rfl⟩
      ·rw[show ([t,i1].map cF).all id=false by show (cF t&&(cF i1&&true))=false;cases a1:cF t with|false=>rfl|true=>cases a2:cF i1 with|false=>rfl|true=>exact absurd (hg.mpr ⟨a1,a2⟩) hgt];walk_at"go";rename_i t6 G6 n6 S6 e6;exact k3 ⟨i,hp,hhi,c2 hm hgt,hgd⟩ _ _ (sG.trans (s5.trans S6)) e6
     ·rw[decide_eq_false hm];walk_at"go";rename_i t6 G6 n6 S6 e6;exact k2 nn ⟨i,hp,hhi,c3 hm,hgd⟩ _ _ (sG.trans S6) e6
  ·rintro _ G hq_;walk_at"g1";obtain⟨sb,eG,hgd,x3,rfl⟩:=hq_;walk_at"g2";walk_at"go";exact k1 (fun j h' hj=>hgd j h' (by rw[hvl];exact(List.getElem?_eq_some_iff.mp hj).1) hj) _ (sHG sb)
theorem yS (m:M K mg):Fc P w K mg base "_law_by_doors" 3 ["_law_happenings","_law_names"] (AU K (aH P w K mg base none)):=⟨_,_,m.BW,m.fR.F.kp,m.fR.b,zH m⟩
def isD:Hap->Bool
 | .door _=>true
 | _=>false
def aBw (D:aS)(H:Hp)(h:Hap)(y:V):Prop:=∃d,h= .door d/\D.at' H y d
theorem rL {D:aS}{H:Hp}:∀{hs:List Hap}{ys:List V},Paired (aBw D H) (hs.filter isD) ys->Paired (D.at' H) ys (frD hs)
 | [],_,h=>by cases h;exact .nil
 | .door d::hs,_,h=>by
  rw[List.filter_cons_of_pos rfl]at h;cases h with
  | cons a t =>
   obtain⟨d',e,g⟩:=a;cases e;exact .cons g (rL t)
 | .shut n t::hs,_,h=>by rw[List.filter_cons_of_neg (by exact fun z=>nomatch z)]at h;exact rL (hs:=hs) h
 | .wider n t i::hs,_,h=>by rw[List.filter_cons_of_neg (by exact fun z=>nomatch z)]at h;exact rL (hs:=hs) h
 | .found z i::hs,_,h=>by rw[List.filter_cons_of_neg (by exact fun z=>nomatch z)]at h;exact rL (hs:=hs) h
def aBF (h:Hap)(y:V):Prop:=∃z i,h= .found z i/\y= .str z
theorem rX:∀{hs:List Hap}{ys:List V},Paired aBF (hs.filter isF) ys->ys=((o9 hs).map (·.1)).map V.str
 | [],_,h=>by cases h;rfl
 | .found z i::hs,_,h=>by
  rw[List.filter_cons_of_pos rfl]at h;cases h with
  | cons a t =>
   walk_at"g1";obtain⟨z',i',e,rfl⟩:=a;walk_at"g2";cases e;rw[rX t];rfl
 | .shut n t::hs,_,h=>by rw[List.filter_cons_of_neg (by exact fun z=>nomatch z)]at h;exact rX (hs:=hs) h
 | .wider n t i::hs,_,h=>by rw[List.filter_cons_of_neg (by exact fun z=>nomatch z)]at h;exact rX (hs:=hs) h
 | .door d::hs,_,h=>by rw[List.filter_cons_of_neg (by exact fun z=>nomatch z)]at h;exact rX (hs:=hs) h
def fnz (z:Str)(hs:List Hap):List Int:=((o9 hs).filter fun p=>decide (p.1=z)).map (·.2)
def MC (z:Str):Hap->Bool
 | .found y _=>decide (y=z)
 | _=>false
def aCp (h:Hap)(y:V):Prop:=∃z i,h= .found z i/\y= .int i
theorem oF {z:Str}:∀{hs:List Hap}{ys:List V},Paired aCp (hs.filter (MC z)) ys->ys=(fnz z hs).map V.int
 | [],_,h=>by cases h;rfl
 | .found y i::hs,ys,h=>by
  unfold fnz o9
  by_cases e:y=z
  ·rw[List.filter_cons_of_pos (show MC z (.found y i)=true from decide_eq_true e)]at h;rw[List.filter_cons_of_pos (by exact decide_eq_true e)];cases h with
   | cons a t =>
    walk_at"g1";obtain⟨z',i',e,rfl⟩:=a;walk_at"g2";cases e;rw[oF t];rfl
  ·rw[List.filter_cons_of_neg (show ¬MC z (.found y i)=true from fun q=>e (of_decide_eq_true q))]at h;rw[List.filter_cons_of_neg (by exact fun q=>e (of_decide_eq_true q))];exact oF h
 | .shut n t::hs,_,h=>by rw[List.filter_cons_of_neg (by exact fun z=>nomatch z)]at h;exact oF (hs:=hs) h
 | .wider n t i::hs,_,h=>by rw[List.filter_cons_of_neg (by exact fun z=>nomatch z)]at h;exact oF (hs:=hs) h
 | .door d::hs,_,h=>by rw[List.filter_cons_of_neg (by exact fun z=>nomatch z)]at h;exact oF (hs:=hs) h
theorem IE (a b:List (Str×Int))(z:Str):bT (a++b) z=bT a z+bT b z:=by
 unfold bT;rw[List.filter_append,List.map_append,List.sum_append]
theorem BC {ps:List (Str×Int)}{z:Str}:∀{rz:List (Str×Int)},(rz.map (·.1)).Nodup->z∈rz.map (·.1)->bT (rz.map fun e=>(e.1,bT ps e.1)) z=bT ps z
 | e::rz,nd,h=>by
  obtain⟨n1,n2⟩:=List.nodup_cons.mp nd;show bT ([(e.1,bT ps e.1)]++_) z=_;rw[IE]
  by_cases q:e.1=z
  ·have h0:bT (rz.map fun e=>(e.1,bT ps e.1)) z=0:=by
    unfold bT;rw[List.filter_eq_nil_iff.mpr];rfl;intro p hp;obtain⟨e',he',rfl⟩:=List.mem_map.mp hp;exact fun x=>n1 (List.mem_map.mpr ⟨e',he',(of_decide_eq_true x).trans q.symm⟩)
   rw[h0,Int.add_zero];unfold bT;rw[List.filter_cons_of_pos (by exact decide_eq_true q)];subst q;simp
  ·rw[BC n2 ((List.mem_cons.mp h).resolve_left (Ne.symm q))];have:bT [(e.1,bT ps e.1)] z=0:=by
    unfold bT;rw[List.filter_cons_of_neg (by exact fun x=>q (of_decide_eq_true x))];rfl
   lia
theorem UV {rz ps:List (Str×Int)}{hs:List Hap} (nd:(rz.map (·.1)).Nodup) (p0:∀z,0<=bT ps z) (hin:∀p∈o9 hs,p.1∈rz.map (·.1)):g6 rz (psA rz ps hs)↔∀e∈rz,(∀i∈fnz e.1 hs,0<=i)/\bT ps e.1+(fnz e.1 hs).sum<=e.2:=by
 have hs1:∀e∈rz,bT (psA rz ps hs) e.1=bT ps e.1+(fnz e.1 hs).sum:=fun e he=>by
  unfold psA;rw[IE,BC nd (List.mem_map.mpr ⟨e,he,rfl⟩)];rfl
 constructor
 ·rintro ⟨h1,h2⟩ e he;refine⟨fun i hi=> ?_,by rw[←hs1 e he];exact h2 e he⟩;obtain⟨p,hp,rfl⟩:=List.mem_map.mp hi;exact h1 p (List.mem_append_right _ (List.mem_filter.mp hp).1)
 ·intro h;refine⟨fun p hp=> ?_,fun e he=>by rw[hs1 e he];exact(h e he).2⟩;rcases List.mem_append.mp hp with hp|hp
  ·obtain⟨e,_,rfl⟩:=List.mem_map.mp hp;exact p0 _
  ·obtain⟨e,he,q⟩:=List.mem_map.mp (hin p hp);exact(h e he).1 p.2 (List.mem_map.mpr ⟨p,List.mem_filter.mpr ⟨hp,decide_eq_true q.symm⟩,rfl⟩)
def rY (hs:List Hap):List Str:=((frD hs).map eY).flatten++(o9 hs).map (·.1)
theorem DU {rs:List Str}:∀{ds:List aF},(∀d∈ds,iI rs d)->∀z∈(ds.map eY).flatten,z∈rs:=fun {ds} h z hz=>by
 obtain⟨l,hl,hzl⟩:=List.mem_flatten.mp hz;obtain⟨d,hd,rfl⟩:=List.mem_map.mp hl;obtain⟨h1,h2⟩:=h d hd;rcases List.mem_cons.mp hzl with rfl|hzl
 ·exact h1
 ·rcases h2 with h2|⟨y,h2,hy⟩
  ·rw[h2]at hzl;cases hzl
  ·rw[h2]at hzl;rcases List.mem_cons.mp hzl with rfl|hzl
   ·exact hy
   ·cases hzl
theorem Odd.ex {rs ss:List Str}{z:Str}:Odd rs ss z↔∃u v,ss=u++z::v/\z∉rs/\∀y∈u,y∈rs:=by
 constructor
 ·rintro hq_;walk_at"g1";obtain⟨i,h1,h2,h3⟩:=hq_;walk_at"g2";obtain⟨hi,e⟩:=List.getElem?_eq_some_iff.mp h1;refine⟨ss.take i,ss.drop (i+1),?_,h2,h3⟩;rw[←e,←List.drop_eq_getElem_cons hi,List.take_append_drop]
 ·rintro hq_;walk_at"g1";obtain⟨u,v,rfl,h2,h3⟩:=hq_;walk_at"g2";exact⟨u.length,by rw[List.getElem?_append_right (Nat.le_refl _),Nat.sub_self];rfl,h2,by rw[List.take_left];exact h3⟩
theorem UB {rs a b c d:List Str}{z:Str} (ha:∀y∈a,y∈rs) (hc:∀y∈c,y∈rs) (h:Odd rs (b++d) z):Odd rs (a++b++(c++d)) z:=by
 walk_at"g1";obtain⟨u,v,e,h2,h3⟩:=Odd.ex.mp h;walk_at"g2";rw[Odd.ex];rcases List.append_eq_append_iff.mp e with⟨a',e1,e2⟩|⟨c',e1,e2⟩
 ·refine⟨a++b++(c++a'),v,?_,h2,fun y hy=> ?_⟩
  ·rw[e2];simp only[List.append_assoc]
  ·have hu:∀y∈b++a',y∈rs:=by rw[←e1];exact h3
   simp only[List.mem_append]at hy hu;rcases hy with (hy|hy)|(hy|hy)
   ·exact ha y hy
   ·exact hu y (.inl hy)
   ·exact hc y hy
   ·exact hu y (.inr hy)
 ·cases c' with
  | nil =>
   rw[List.nil_append]at e2;rw[List.append_nil]at e1;refine⟨a++b++c,v,?_,h2,fun y hy=> ?_⟩
   ·rw[←e2];simp only[List.append_assoc]
   ·simp only[List.mem_append]at hy;rcases hy with (hy|hy)|hy
    ·exact ha y hy
    ·exact h3 y (by rw[←e1];exact hy)
    ·exact hc y hy
  | cons w0 c' =>
   obtain⟨rfl,e3⟩:=List.cons.inj e2;refine⟨a++u,c'++(c++d),?_,h2,fun y hy=> ?_⟩
   ·rw[e1];simp only[List.append_assoc,List.cons_append]
   ·rcases List.mem_append.mp hy with hy|hy
    ·exact ha y hy
    ·exact h3 y hy
theorem EN (rz ps:List (Str×Int))(ds:List aF)(hs:List Hap):cE (ds++frD hs) (psA rz ps hs)=(ds.map eY).flatten++((frD hs).map eY).flatten++(rz.map (·.1)++(o9 hs).map (·.1)):=by
 unfold cE psA;rw[List.map_append,List.flatten_append,List.map_append,List.map_map];rfl
structure ByH (H:Hp)(Q:VK)(rz ps:List (Str×Int))(ds:List aF)(hs:List Hap):Prop where
 tw:∀z,Dup ((ds++frD hs).map (·.1)) z->IR H Q (.twice z)
 ro:((ds++frD hs).map (·.1)).Nodup->∀z,Odd (rz.map (·.1)) (cE (ds++frD hs) (psA rz ps hs)) z->IR H Q (.room z)
 ho:((ds++frD hs).map (·.1)).Nodup->(∀z∈cE (ds++frD hs) (psA rz ps hs),z∈rz.map (·.1))->¬g6 rz (psA rz ps hs)->IR H Q .house
 ok:((ds++frD hs).map (·.1)).Nodup->(∀z∈cE (ds++frD hs) (psA rz ps hs),z∈rz.map (·.1))->g6 rz (psA rz ps hs)->∀H',Same H H'->Q .non H'
inductive A9 (K:W.Frag)(C:Addr)(D D0:aS)(vs:List V)(H:Hp)(Q:VK)(E:XK):Prop
 | mk (h b rm:Addr) (f l:Int) (rz ps:List (Str×Int)) (ds:List aF) (vh:List V) (hs:List Hap) (_:vs=[.ref h,.ref b,.ref rm]) (_:aX C D H h f l rz ps ds) (_:Hs rz ps ds f l) (_:ds.length<=8) (_:(∀z,0<=bT ps z)) (_:H rm=some (.lst ((rz.map (·.1)).map V.str))) (_:SqL K H b vh) (_:Paired (HapAt D0 H) vh hs) (_:(∀h∈hs,gM h)) (_:hs.length<=4) (_:ByH H Q rz ps ds hs):A9 K C D D0 vs H Q E
theorem yY (m:M K mg):bD P w K mg base CX0 4 m.kI m.fP.d ["_law_house","_law_happenings","_law_rooms"] (A9 K m.aI (aH P w K mg base (some 1)) (aH P w K mg base none)):=by
 refine m.fP.F.ok sc__law_by_house (fun vs H Q E h=> ?_) (fun cdv A outer s H vs Q E hr h=> ?_)
 ·walk_at"g1";obtain⟨h,b,rm,f,l,rz,ps,ds,vh,hs,rfl,hh,ho,l8,p0,hrm,hb,hhp,hok,l4,k⟩:=h;walk_at"g2";rfl
 ·walk_at"g1";obtain⟨h,b,rm,f,l,rz,ps,ds,vh,hs,rfl,hh,ho,l8,p0,hrm,hb,hhp,hok,l4,k⟩:=h;walk_at"g2";have nd:=sc__law_by_house.nd;walk_at"hu";have w_dc_House:=m.bN;have w_mc_House_doors:= @d8 P w K mg base m;have w_mc_House_found:= @rW P w K mg base m;have w_mc_House_holds:= @lD P w K mg base m;refine⟨_,(aC (aP (i:=3) nd rfl (by walk_at"oi") (c7 1 hr (pv 0)))
   (aC (dR (i:=4) nd rfl (by walk_at"oi") (N:=["_law_happening_here"]) (nl:=1) (ci:=[]) rfl (blk (s.heap.objs.size+1) rfl rfl rfl (by kernel_rfl)) (bG (pv 1)) (fun _ _ _ _=>(aL (i:=0) (show (["_law_happening_here"]:List Str).Nodup by decide +kernel) rfl (by walk_at"oi"))) (fun _ _ _ _=>(fE (aV j6 (bS (dI (K:=K)) (pv 0) aE (fun _ _=>rfl)) aJ (bL _)))) (fun _ _ _ _=>(bS (dI (K:=K)) (pv 0) aE (fun _ _=>rfl))))
   (aC (cU PassesOwn.never rfl (bG (pv 4)) (aL (i:=5) nd rfl (by walk_at"oi")) (aC (bV (aV u8 (bK (pv 5) rfl) (pv 3) (by with_unfolding_all rfl)) (aD (aW (bE (aA aJ (aA (bK (pv 5) rfl) aB))))) bJ)
   (aD (aP (i:=3) nd rfl (by walk_at"oi") (aQ c6 (pv 3) (bY (aA (bK (pv 5) rfl) aB)))))))
   (aC (aP (i:=6) nd rfl (by walk_at"oi") (bY aB))
   (aC (cU PassesOwn.never rfl (bG (pv 4)) (aL (i:=5) nd rfl (by walk_at"oi")) (aD (aP (i:=6) nd rfl (by walk_at"oi") (aQ c6 (aQ c6 (pv 6) (bY (aA (bK (pv 5) rfl) aB))) (cI (N:=["_law_end"]) (nl:=1) (ci:=[]) rfl (blk (s.heap.objs.size+1) rfl rfl rfl (by kernel_rfl)) (bG (bY (aA (bK (pv 5) rfl) aB))) (fun _ _ _ _=>(aL (i:=0) (show (["_law_end"]:List Str).Nodup by decide +kernel) rfl (by walk_at"oi"))) (fun _ _ _ _=>(fE (aV LP (pv 0) dG (bL _)))) (fun _ _ _ _=>(pv 0)))))))
   (aC (aP (i:=6) nd rfl (by walk_at"oi") (aQ c6 (pv 6) (cI (N:=["_law_happening_here"]) (nl:=1) (ci:=[]) rfl (blk (s.heap.objs.size+1) rfl rfl rfl (by kernel_rfl)) (bG (pv 1)) (fun _ _ _ _=>(aL (i:=0) (show (["_law_happening_here"]:List Str).Nodup by decide +kernel) rfl (by walk_at"oi"))) (fun _ _ _ _=>(fE (aV j6 (bS (dI (K:=K)) (pv 0) aE (fun _ _=>rfl)) aJ (bL _)))) (fun _ _ _ _=>(bS (dI (K:=K)) (pv 0) aE (fun _ _=>rfl))))))
   (aC (cU PassesOwn.never rfl (bG (pv 6)) (aL (i:=7) nd rfl (by walk_at"oi")) (aD (bV (aV jX (pv 7) (pv 2) (by with_unfolding_all rfl)) (aD (aW (bE (aA aJ (aA (pv 7) aB))))) bJ)))
   (aC (cU PassesOwn.never rfl (bG (pv 2)) (aL (i:=8) nd rfl (by walk_at"oi")) (aC (dR (i:=9) nd rfl (by walk_at"oi") (N:=["_law_row","_law_room"]) (nl:=1) (ci:=[8]) rfl (blk (s.heap.objs.size+1) rfl rfl rfl (by kernel_rfl)) (bG (pv 1)) (fun _ _ _ _=>(aL (i:=0) (show (["_law_row","_law_room"]:List Str).Nodup by decide +kernel) rfl (by walk_at"oi"))) (fun _ _ _ _=>(fE (PW.pt (SH (aV j6 (bS (dI (K:=K)) (pv 0) aE (fun _ _=>rfl)) aJ (bL _)) (KU (aV j6 (bS (dI (K:=K)) (pv 0) aE (fun _ _=>rfl)) (pv 1) (bL _))))))) (fun _ _ _ _=>(bS (dI (K:=K)) (pv 0) aE (fun _ _=>rfl))))
   (aD (bV (PW.pt (tT (aV (SQ hu0) (cI (N:=["_law_number_here"]) (nl:=1) (ci:=[]) rfl (blk (s.heap.objs.size+1) rfl rfl rfl (by kernel_rfl)) (bG (pv 9)) (fun _ _ _ _=>(aL (i:=0) (show (["_law_number_here"]:List Str).Nodup by decide +kernel) rfl (by walk_at"oi"))) (fun _ _ _ _=>(fE (aV iK (pv 0) aE (bL _)))) (fun _ _ _ _=>(pv 0))) (bY aB) (bL _)) (oP (aV qG (aQ cG (jY 3 hr (pv 0) (aA (pv 8) aB)) (bM (QC rfl) rfl m.X1 QU (aA (pv 9) aB))) (jY 3 hr (pv 0) (aA (pv 8) aB)) (bL _))))) (aD (aW (bE (aA aJ (aA dG aB))))) bJ))))
   (aD (aW dG)))))))))),?_⟩
  refine aM (σ:=[some (.ref h),some (.ref b),some (.ref rm),none,none,none,none,none,none,none]) rfl ?_;walk_at"cx";walk_at"g1";obtain⟨dx,qs,qp,qd,nk,kvs,e1,_⟩:=id hh.ex;walk_at"g2";have hvl:=Paired.length hhp;have fl:=jN hs;have fl2:=lE hs;walk_at"go";refine fJ hh fun pN H1 n1 S1 eN=> ?_;walk_at"go";refine cR (HapAt (aH P w K mg base none) H1) isD (fun h y G=>aBw (aH P w K mg base none) G h y) (fun _ _ _ _ ⟨d,e,g⟩ s=>⟨d,e,(aH P w K mg base none).same g s⟩) (by rw[sizeLine_eq];lia) (rest:=[]) (by rfl) (S1.seq hb) (Paired.imp' (fun _ _ x=>x.same S1) hhp) ?_ ?_ ?_
  ·intro v hp G hv hm s R hR;have hv:=hv.same s;cases hp with
   | door d =>
    walk_at"g1";obtain⟨q,u,rfl,hq,_⟩:=hv;walk_at"g2";walk_at"go";exact hR _ (Same.refl _)
   | _ =>
    obtain⟨q,rfl,hq⟩:=hv;walk_at"go";exact hR _ (Same.refl _)
  ·intro v hp G hv hm hc s R hR;have hv:=hv.same s;cases hp with
   | door d =>
    walk_at"g1";obtain⟨q,u,rfl,hq,hu⟩:=hv;walk_at"g2";walk_at"go";exact hR _ _ ⟨d,rfl,hu⟩ (Same.refl _)
   | _=>cases hc
  intro ys H2 s2 hys;have hfr:Paired ((aH P w K mg base none).at' H2) ys (frD hs):=rL hys;have yl:=Paired.length hfr;walk_at"go";rename_i pF H3 n3 S3 eF;have s13:Same H1 H3:=s2.trans S3;have hfr3:=dE hfr S3;let Pv1:Nat->St->Hp->Prop:=fun i σ' G=>∃(pN:Addr) (x5:Option V),Same H3 G/\G pN=some (.lst (((ds++(frD hs).take i).map (·.1)).map V.str))/\((ds++(frD hs).take i).map (·.1)).Nodup/\σ'=[some (.ref h),some (.ref b),some (.ref rm),some (.ref pN),some (.ref pF),x5,none,none,none,none];refine cX ys Pv1 ⟨pN,none,Same.refl _,by rw[List.take_zero,List.append_nil];exact s13 _ _ eN,by rw[List.take_zero,List.append_nil];exact ho.nd,rfl⟩ (fun i σ' G _ q=>by obtain⟨_,_,s,_⟩:=q;exact SqL.of (s _ _ eF)) ?_ ?_
  ·rintro i x _ G hx hq_;walk_at"g1";obtain⟨pN,x5,sG,eG,ndG,rfl⟩:=hq_;walk_at"g2";have hi:i<ys.length:=(List.getElem?_eq_some_iff.mp hx).1;obtain⟨d,hdi⟩:∃d,(frD hs)[i]? =some d:=⟨_,List.getElem?_eq_getElem (by lia)⟩
   have hat:=L2.Paired.at2 (dE hfr3 sG) hx hdi;walk_at"g1";obtain⟨n9,st,en,lt⟩:=d;walk_at"g2";walk_at"g1";obtain⟨q9,C9,dx9,fs9,fp9,rfl,hq9,dcC,l1,l2,l3,l4',l5,mcE,hfp,hlt⟩:=DoorAt.ex hat;walk_at"g2";have s0G:Same H G:=S1.trans (s13.trans sG);have hdi':((ds++frD hs).map (·.1))[ds.length+i]? =some n9:=by
    rw[List.getElem?_map,List.getElem?_append_right (Nat.le_add_right _ _),Nat.add_sub_cancel_left,hdi];rfl
   have htk:((ds++frD hs).map (·.1)).take (ds.length+i)=(ds++(frD hs).take i).map (·.1):=by
    rw[←List.map_take,List.take_length_add_append]
   have nl:((ds++(frD hs).take i).map (·.1)).length<=12:=by
    rw[List.length_map,List.length_append,List.length_take];lia
   walk_at"go";refine AV (SqL.of eG) ?_
   by_cases hm:n9∈(ds++(frD hs).take i).map (·.1)
   ·rw[decide_eq_true hm];walk_at"go";rename_i t6 G6 n6 S6 e6;exact k.tw n9 ⟨ds.length+i,hdi',by rw[htk];exact hm,by rw[htk];exact ndG⟩ _ _ (s0G.trans S6) e6
   ·rw[decide_eq_false hm];walk_at"go";rename_i p7 G7 n7 S7 e7 p8 G8 n8 S8 e8;refine⟨p8,_,sG.trans (S7.trans S8),?_,?_,rfl⟩
    ·rw[bR hdi,←List.append_assoc,List.map_append,List.map_append];exact e8
    ·rw[bR hdi,←List.append_assoc,List.map_append];refine List.nodup_append.mpr ⟨ndG,List.nodup_cons.mpr ⟨List.not_mem_nil,List.nodup_nil⟩,fun a ha b hb z=>hm ?_⟩;rcases List.mem_cons.mp hb with rfl|hb
     ·exact z▸ha
     ·cases hb
  rintro _ G hq_;walk_at"g1";obtain⟨pN2,x5,sG,eG,ndG,rfl⟩:=hq_;walk_at"g2";rw[yl,List.take_length]at eG ndG;have s1G:Same H1 G:=s13.trans sG;have eF4:=sG _ _ eF;walk_at"go";rename_i pS H5 n5 S5 e5;have s35:Same H3 H5:=sG.trans S5;have s05:Same H H5:=S1.trans (s13.trans s35);have hfr5:=dE hfr3 s35;let Pv2:Nat->St->Hp->Prop:=fun i σ' G=>∃(pS:Addr) (x5:Option V),Same H5 G/\G pS=some (.lst ((((frD hs).take i).map eY).flatten.map V.str))/\σ'=[some (.ref h),some (.ref b),some (.ref rm),some (.ref pN2),some (.ref pF),x5,some (.ref pS),none,none,none];refine cX ys Pv2 ⟨pS,_,Same.refl _,e5,rfl⟩ (fun i σ' G _ q=>by obtain⟨_,_,s,_⟩:=q;exact SqL.of ((s35.trans s) _ _ eF)) ?_ ?_
  ·rintro i x _ G hx hq_;walk_at"g1";obtain⟨pS,x5,sG,eG,rfl⟩:=hq_;walk_at"g2";have hi:i<ys.length:=(List.getElem?_eq_some_iff.mp hx).1;obtain⟨d,hdi⟩:∃d,(frD hs)[i]? =some d:=⟨_,List.getElem?_eq_getElem (by lia)⟩
   have hat:=L2.Paired.at2 (dE hfr5 sG) hx hdi;have hnd:=hok _ (lF (List.mem_of_getElem? hdi));walk_at"g1";obtain⟨n9,st,en,lt⟩:=d;walk_at"g2";walk_at"g1";obtain⟨q9,C9,dx9,fs9,fp9,rfl,hq9,dcC,l1,l2,l3,l4',l5,mcE,hfp,hlt⟩:=DoorAt.ex hat;walk_at"g2";have nl:(((frD hs).take i).map eY).flatten.length<=100:=by
    have:=o0 ((frD hs).take i);rw[List.length_take]at this
    lia
   walk_at"go";rename_i p1 G1 m1 T1 f1 p2 G2 m2 T2 f2 p3 G3 m3 T3 f3;refine cR (α:=V) (xs:=[en]) (vs:=[en]) (fun v x=>v=x) (fun x=> !decide (x=V.non)) (fun x y _=>y=x) (fun _ _ _ _ h _=>h) (by rw[sizeLine_eq];simp only[List.length_cons,List.length_nil];lia) (rest:=[]) (by rfl) (SqL.of f3) (.cons rfl .nil) ?_ ?_ ?_
   ·rintro v _ G4 rfl hm s R hR;walk_at"go";exact hR _ (Same.refl _)
   ·rintro v _ G4 rfl hm hc s R hR;exact⟨_,rfl,hR _ _ rfl (Same.refl _)⟩
   intro zs G4 s4 hzs;have hzs:=dW hzs;have hEn:zs=(C7 en).map V.str:=by
    rw[hzs];rcases hnd.2.2 with e|⟨z,e,_⟩
    ·have e:en= .non:=e;subst e;rfl
    ·have e:en= .str z:=e;subst e;rfl
   subst hEn;walk_at"go";rename_i p5 G5 m5 T5 f5;have el2:((C7 en).map V.str).length<=1:=by
    rw[List.length_map];unfold C7
    split<;>simp
   refine rF (T5 _ _ (s4 _ _ (T3 _ _ f2))) f5 (by rw[sizeLine_eq,List.length_append,List.length_map];simp only[List.length_cons,List.length_nil];lia) fun p6 G6 m6 T6 f6=> ?_;walk_at"go";refine⟨p6,_,sG.trans (T1.trans (T2.trans (T3.trans (s4.trans (T5.trans T6))))),?_,rfl⟩;rw[bR hdi,List.map_append,List.flatten_append,List.map_append];refine f6.trans (congrArg (fun z=>some (HO.lst z)) ?_);rw[List.append_assoc];refine congrArg (_++·) ?_;show [V.str st]++_=List.map V.str ((st::C7 en)++[]);rw[List.append_nil];rfl
  rintro _ HA hq_;walk_at"g1";obtain⟨pS2,x5b,sG2,eS,rfl⟩:=hq_;walk_at"g2";rw[yl,List.take_length]at eS;have s0A:Same H HA:=s05.trans sG2;have hbA:=s0A.seq hb;have nlA:((frD hs).map eY).flatten.length<=100:=by
   have:=o0 (frD hs)
   lia
  walk_at"go";refine cR (HapAt (aH P w K mg base none) HA) isF (fun h y _=>aBF h y) (fun _ _ _ _ h _=>h) (by rw[sizeLine_eq];lia) (rest:=[]) (by rfl) hbA (Paired.imp' (fun _ _ x=>x.same s0A) hhp) ?_ ?_ ?_
  ·intro v hp G hv hm s R hR;have hv:=hv.same s;cases hp with
   | door d =>
    walk_at"g1";obtain⟨q,u,rfl,hq,_⟩:=hv;walk_at"g2";walk_at"go";exact hR _ (Same.refl _)
   | _ =>
    obtain⟨q,rfl,hq⟩:=hv;walk_at"go";exact hR _ (Same.refl _)
  ·intro v hp G hv hm hc s R hR;have hv:=hv.same s;cases hp with
   | found z i =>
    obtain⟨q,rfl,hq⟩:=hv;walk_at"go";exact hR _ _ ⟨z,i,rfl,rfl⟩ (Same.refl _)
   | _=>cases hc
  intro zs H7 s7 hzs;obtain rfl:=rX hzs;have eS7:=s7 _ _ eS;have hrm7:=s7 _ _ (s0A _ _ hrm);walk_at"go";rename_i p8 H8 n8 S8 e8 p9 H9 n9 S9 e9;have e9':H9 p9=some (.lst ((rY hs).map V.str)):=by rw[e9];unfold rY;rw[List.map_append]
  have s79:=S8.trans S9;have s09:Same H H9:=s0A.trans (s7.trans s79);have hrm9:=s79 _ _ hrm7;have e19:=s09 _ _ e1;let Pv3:Nat->St->Hp->Prop:=fun i σ' G=>Same H9 G/\(∀y∈(rY hs).take i,y∈rz.map (·.1))/\∃x7,σ'=[some (.ref h),some (.ref b),some (.ref rm),some (.ref pN2),some (.ref pF),x5b,some (.ref p9),x7,none,none];refine cX ((rY hs).map V.str) Pv3 ⟨Same.refl _,(fun y hy=>by rw[List.take_zero]at hy;cases hy),_,rfl⟩ (fun i σ' G _ q=>SqL.of (q.1 _ _ e9')) ?_ ?_
  ·rintro i x _ G hx hq_;walk_at"g1";obtain⟨sG,hall,x7,rfl⟩:=hq_;walk_at"g2";obtain⟨z,hz,rfl⟩:∃z,(rY hs)[i]? =some z/\x=V.str z:=by
    rw[List.getElem?_map]at hx;cases e:(rY hs)[i]? with
    | none=>rw[e]at hx;cases hx
    | some z=>rw[e]at hx;cases hx;exact⟨z,rfl,rfl⟩
   have hrmG:=sG _ _ hrm9;walk_at"go";refine mG (SqL.of hrmG) ?_
   by_cases hm:z∈rz.map (·.1)
   ·rw[decide_eq_true hm];walk_at"go";refine⟨sG,fun y hy=> ?_,_,rfl⟩;rw[bR hz]at hy;rcases List.mem_append.mp hy with hy|hy
    ·exact hall y hy
    ·rcases List.mem_cons.mp hy with rfl|hy
     ·exact hm
     ·cases hy
   ·rw[decide_eq_false hm];walk_at"go";rename_i t6 G6 n6 S6 e6;exact k.ro ndG z (by rw[EN];exact UB (DU ho.hin) (fun y hy=>hy) ⟨i,hz,hm,hall⟩) _ _ (s09.trans (sG.trans S6)) e6
  rintro _ HB hq_;walk_at"g1";obtain⟨sGB,hall,x7,rfl⟩:=hq_;walk_at"g2";rw[List.length_map,List.take_length]at hall;have hsp:∀z∈cE (ds++frD hs) (psA rz ps hs),z∈rz.map (·.1):=fun z hz=>by
   rw[EN]at hz;simp only[List.mem_append]at hz;rcases hz with (hz|hz)|(hz|hz)
   ·exact DU ho.hin z hz
   ·exact hall z (List.mem_append_left _ hz)
   ·exact hz
   ·exact hall z (List.mem_append_right _ hz)
  have hfi:=UV ho.nr p0 (hs:=hs) fun p hp=>hall p.1 (List.mem_append_right _ (List.mem_map.mpr ⟨p,hp,rfl⟩));have s0B:Same H HB:=s09.trans sGB;have hrmB:=sGB _ _ hrm9;walk_at"go";let Pv4:Nat->St->Hp->Prop:=fun i σ' G=>Same HB G/\(∀e∈rz.take i,(∀j∈fnz e.1 hs,0<=j)/\bT ps e.1+(fnz e.1 hs).sum<=e.2)/\∃x8 x9,σ'=[some (.ref h),some (.ref b),some (.ref rm),some (.ref pN2),some (.ref pF),x5b,some (.ref p9),x7,x8,x9];refine cX ((rz.map (·.1)).map V.str) Pv4 ⟨Same.refl _,(fun y hy=>by rw[List.take_zero]at hy;cases hy),_,_,rfl⟩ (fun i σ' G _ q=>SqL.of (q.1 _ _ hrmB)) ?_ ?_
  ·rintro i x _ G hx hq_;walk_at"g1";obtain⟨sG,hgo,x8,x9,rfl⟩:=hq_;walk_at"g2";obtain⟨er,her,rfl⟩:∃er,rz[i]? =some er/\x=V.str er.1:=by
    rw[List.getElem?_map,List.getElem?_map]at hx;cases e:rz[i]? with
    | none=>rw[e]at hx;cases hx
    | some z=>rw[e]at hx;cases hx;exact⟨z,rfl,rfl⟩
   have s0G:=s0B.trans sG;have hbG:=s0G.seq hb;have hhG:Paired (HapAt (aH P w K mg base none) G) vh hs:=Paired.imp' (fun _ _ x=>x.same s0G) hhp;have fzl:(fnz er.1 hs).length<=4:=by
    unfold fnz;rw[List.length_map];exact Nat.le_trans (List.length_filter_le _ _) (Nat.le_trans fl2 l4)
   walk_at"go";refine cR (HapAt (aH P w K mg base none) G) (MC er.1) (fun h y _=>aCp h y) (fun _ _ _ _ h _=>h) (by rw[sizeLine_eq];lia) (rest:=[some (.str er.1)]) (by rfl) hbG hhG ?_ ?_ ?_
   ·intro v hp G hv hm s R hR;have hv:=hv.same s;cases hp with
    | door d =>
     walk_at"g1";obtain⟨q,u,rfl,hq,_⟩:=hv;walk_at"g2";walk_at"go";exact hR _ (Same.refl _)
    | found y i =>
     obtain⟨q,rfl,hq⟩:=hv;walk_at"go";exact hR _ (Same.refl _)
    | _ =>
     obtain⟨q,rfl,hq⟩:=hv;walk_at"go";exact hR _ (Same.refl _)
   ·intro v hp G hv hm hc s R hR;have hv:=hv.same s;cases hp with
    | found z i =>
     obtain⟨q,rfl,hq⟩:=hv;walk_at"go";exact hR _ _ ⟨z,i,rfl,rfl⟩ (Same.refl _)
    | _=>cases hc
   intro zs G2 s2 hzs;obtain rfl:=oF hzs;have e1G2:=(s0G.trans s2) _ _ e1;walk_at"go";rename_i pz G3 m3 T3 f3;refine cR (α:=Int) (xs:=fnz er.1 hs) (vs:=(fnz er.1 hs).map V.int) (fun v x=>v= .int x) (fun x=>decide (x<0)) (fun x y _=>y= .int x) (fun _ _ _ _ h _=>h) (by rw[sizeLine_eq];lia) (rest:=[]) (by rfl) (SqL.of f3) (gP _ _) ?_ ?_ ?_
   ·rintro _ x G4 rfl hm s R hR;walk_at"go";exact hR _ (Same.refl _)
   ·rintro _ x G4 rfl hm hc s R hR;exact⟨_,rfl,hR _ _ rfl (Same.refl _)⟩
   intro ws G4 s4 hws;obtain rfl:=dW hws;have f34:=s4 _ _ f3;have e1G4:=s4 _ _ (T3 _ _ e1G2);walk_at"go";rename_i pw G5 m5 T5 f5 pe G6 m6 T6 f6;refine QX (SqL.of (T6 _ _ f5)) (SqL.of f6) ?_;have s06:Same H G6:=s0G.trans (s2.trans (T3.trans (s4.trans (T5.trans T6))));have hem:er∈rz:=List.mem_of_getElem? her;have e16:=s06 _ _ e1;have f36:=T6 _ _ (T5 _ _ f34);cases hfl:(fnz er.1 hs).filter fun x=>decide (x<0) with
   | cons y ys' =>
    have hy:y∈(fnz er.1 hs).filter fun x=>decide (x<0):=by rw[hfl];exact .head _
    obtain⟨hy1,hy2⟩:=List.mem_filter.mp hy;have hy2:y<0:=of_decide_eq_true hy2;show (_:V->Hp->Prop) (V.bl true) G6;walk_at"go";rename_i t7 G7 m7 T7 f7;exact k.ho ndG hsp (fun hf=>by have:=((hfi.mp hf) er hem).1 y hy1;lia) _ _ (s06.trans T7) f7
   | nil =>
    have hpos:∀j∈fnz er.1 hs,0<=j:=fun j hj=>by
     by_cases hj0:j<0
     ·have:j∈(fnz er.1 hs).filter fun x=>decide (x<0):=List.mem_filter.mpr ⟨hj,decide_eq_true hj0⟩;rw[hfl]at this;cases this
     ·lia
    have hz:er.1∈rz.map (·.1):=List.mem_map.mpr ⟨er,hem,rfl⟩;show (_:V->Hp->Prop) (V.bl false) G6;walk_at"go";refine L4 (aU hh s06) ho.nr hz fun G7 T7=> ?_;have f37:=T7 _ _ f36;have e17:=T7 _ _ e16;walk_at"go";refine aBB (SqL.of f37) ?_;walk_at"go";refine CZ (i:=er.2) (aU hh (s06.trans T7)) ho.nr hem fun G8 T8=> ?_;walk_at"go";refine fG (fun hc=> ?_) (fun hc=> ?_)
    ·walk_at"go";rename_i t9 G9 m9 T9 f9;exact k.ho ndG hsp (fun hf=>by have:=((hfi.mp hf) er hem).2;lia) _ _ (s06.trans (T7.trans (T8.trans T9))) f9
    ·walk_at"go";refine⟨sG.trans (s2.trans (T3.trans (s4.trans (T5.trans (T6.trans (T7.trans T8)))))),fun e he=> ?_,_,_,rfl⟩;rw[bR her]at he;rcases List.mem_append.mp he with he|he
     ·exact hgo e he
     ·rcases List.mem_cons.mp he with rfl|he
      ·exact⟨hpos,by lia⟩
      ·cases he
  rintro _ G hq_;walk_at"g1";obtain⟨sG,hgo,x8,x9,rfl⟩:=hq_;walk_at"g2";rw[List.length_map,List.length_map,List.take_length]at hgo;walk_at"go";exact k.ok ndG hsp (hfi.mpr hgo) _ (s0B.trans sG)
theorem zB (m:M K mg):Fc P w K mg base "_law_by_house" 4 ["_law_house","_law_happenings","_law_rooms"] (A9 K m.aI (aH P w K mg base (some 1)) (aH P w K mg base none)):=⟨_,_,m.BU,m.fP.F.kp,m.fP.b,yY m⟩
theorem Dup.uniq {ss:List Str}{y z:Str} (h1:Dup ss y) (h2:Dup ss z):y=z:=by
 walk_at"g1";obtain⟨i,a1,a2,a3⟩:=h1;walk_at"g2";walk_at"g1";obtain⟨j,b1,b2,b3⟩:=h2;walk_at"g2";have key:∀{i j:Nat}{y:Str},ss[i]? =some y->y∈ss.take i->(ss.take j).Nodup->j<=i:=fun {i j y} h m n=>by
  rcases Nat.lt_or_ge i j with hl|hl
  ·exact absurd (by rw[List.take_take,Nat.min_eq_left (Nat.le_of_lt hl)];exact m) (k8 n (by rw[List.getElem?_take_of_lt hl];exact h))
  ·exact hl
 obtain rfl:i=j:=Nat.le_antisymm (key b1 b2 a3) (key a1 a2 b3);rw[a1]at b1;exact Option.some.inj b1
theorem Dup.not {ss:List Str}{z:Str} (h:Dup ss z):¬ss.Nodup:=fun n=>by
 walk_at"g1";obtain⟨i,a1,a2,_⟩:=h;walk_at"g2";exact k8 n a1 a2
theorem Odd.uniq {rs ss:List Str}{y z:Str} (h1:Odd rs ss y) (h2:Odd rs ss z):y=z:=by
 walk_at"g1";obtain⟨i,a1,a2,a3⟩:=h1;walk_at"g2";walk_at"g1";obtain⟨j,b1,b2,b3⟩:=h2;walk_at"g2";have key:∀{i j:Nat}{y:Str},ss[i]? =some y->y∉rs->(∀x∈ss.take j,x∈rs)->j<=i:=fun {i j y} h m n=>by
  rcases Nat.lt_or_ge i j with hl|hl
  ·exact absurd (n y (List.mem_of_getElem? (by rw[List.getElem?_take_of_lt hl];exact h))) m
  ·exact hl
 obtain rfl:i=j:=Nat.le_antisymm (key b1 b2 a3) (key a1 a2 b3);rw[a1]at b1;exact Option.some.inj b1
theorem Odd.not {rs ss:List Str}{z:Str} (h:Odd rs ss z):¬∀y∈ss,y∈rs:=fun n=>by
 walk_at"g1";obtain⟨i,a1,a2,_⟩:=h;walk_at"g2";exact a2 (n z (List.mem_of_getElem? a1))
theorem Bad.uniq {ds:List aF}{hs:List Hap}{r q:Rs} (h1:Bad ds hs r) (n1:r≠ .good) (h2:Bad ds hs q) (n2:q≠ .good):r=q:=by
 walk_at"g1";obtain⟨i,h,a1,a2,a3⟩:=h1;walk_at"g2";walk_at"g1";obtain⟨j,h',b1,b2,b3⟩:=h2;walk_at"g2";rcases Nat.lt_trichotomy i j with c|rfl|c
 ·exact absurd (a2.symm.trans (b3 i h c a1)) n1
 ·rw[a1]at b1;cases b1;exact a2.symm.trans b2
 ·exact absurd (b2.symm.trans (a3 j h' c b1)) n2
theorem Bad.not {ds:List aF}{hs:List Hap}{r:Rs} (h:Bad ds hs r) (n:r≠ .good):¬qU ds hs:=fun g=>by
 walk_at"g1";obtain⟨i,h,a1,a2,_⟩:=h;walk_at"g2";exact n (a2.symm.trans (g i h a1))
open Classical in
noncomputable def vdF (f l t:Int) (rz ps:List (Str×Int)) (ds:List aF) (hs:List Hap) (rows:List aT):Rs :=
 if dB rz ps ds f l rows≠[] then .plan else if t<f∨l<t then .turn else if h:∃r,Bad ds hs r/\r≠ .good then h.choose else if h:∃z,Dup ((ds++frD hs).map (·.1)) z then .twice h.choose else if h:∃z,Odd (rz.map (·.1)) (cE (ds++frD hs) (psA rz ps hs)) z then .room h.choose else if g6 rz (psA rz ps hs) then .good else .house
theorem InT.n {f l t:Int}{rz ps:List (Str×Int)}{ds:List aF}{rows:List aT} (i:InT f l t rz ps ds rows):¬(t<f∨l<t):=by
 have:=i.t0;have:=i.t1
 lia
theorem Vd.is {f l t:Int}{rz ps:List (Str×Int)}{ds:List aF}{hs:List Hap}{rows:List aT}{r:Rs} (v:Vd f l t rz ps ds hs rows r):r=vdF f l t rz ps ds hs rows:=by
 unfold vdF;have nb:qU ds hs->¬∃r,Bad ds hs r/\r≠ .good:=fun g ⟨r,b,n⟩=>b.not n g;have nd:((ds++frD hs).map (·.1)).Nodup->¬∃z,Dup ((ds++frD hs).map (·.1)) z:=fun g ⟨z,d⟩=>d.not g;cases v with
 | plan a=>rw[if_pos a]
 | turn a b=>rw[if_neg (fun z=>z a),if_pos b]
 | unk i b =>
  have h:∃r,Bad ds hs r/\r≠ .good:=⟨_,b,fun z=>nomatch z⟩
  rw[if_neg (fun z=>z i.nf),if_neg i.n,dif_pos h];exact b.uniq (fun z=>nomatch z) h.choose_spec.1 h.choose_spec.2
 | nod i b =>
  have h:∃r,Bad ds hs r/\r≠ .good:=⟨_,b,fun z=>nomatch z⟩
  rw[if_neg (fun z=>z i.nf),if_neg i.n,dif_pos h];exact b.uniq (fun z=>nomatch z) h.choose_spec.1 h.choose_spec.2
 | twice i g d =>
  have h:∃z,Dup ((ds++frD hs).map (·.1)) z:=⟨_,d⟩
  rw[if_neg (fun z=>z i.nf),if_neg i.n,dif_neg (nb g),dif_pos h];exact congrArg _ (d.uniq h.choose_spec)
 | room i g d o =>
  have h:∃z,Odd (rz.map (·.1)) (cE (ds++frD hs) (psA rz ps hs)) z:=⟨_,o⟩
  rw[if_neg (fun z=>z i.nf),if_neg i.n,dif_neg (nb g),dif_neg (nd d),dif_pos h];exact congrArg _ (o.uniq h.choose_spec)
 | house i g d a n=>rw[if_neg (fun z=>z i.nf),if_neg i.n,dif_neg (nb g),dif_neg (nd d),dif_neg (fun⟨z,o⟩=>o.not a),if_neg n]
 | good i g d a n=>rw[if_neg (fun z=>z i.nf),if_neg i.n,dif_neg (nb g),dif_neg (nd d),dif_neg (fun⟨z,o⟩=>o.not a),if_pos n]
theorem Vd.uniq {f l t:Int}{rz ps:List (Str×Int)}{ds:List aF}{hs:List Hap}{rows:List aT}{r q:Rs} (v:Vd f l t rz ps ds hs rows r) (u:Vd f l t rz ps ds hs rows q):r=q:=v.is.trans u.is.symm
theorem ZV {rz ps:List (Str×Int)}{ds:List aF}{f l:Int} (nd:(rz.map (·.1)).Nodup) (hf:g6 rz ps) (p0:∀z,0<=bT ps z):dB rz ps ds f l []=[]:=by
 have h2:lfK rz ps (goL ds f l []) (goC ds f l []) (goL ds f l []) f l=[]:=by
  unfold lfK;rw[List.filter_eq_nil_iff.mpr];rfl;intro x hx z;have z:=of_decide_eq_true z;rw[vD (L:=goL ds f l []) (C:=goC ds f l []) (fun k=>rfl) (fun k=>rfl)]at z;have:=p0 x.1;have z:(0:Int)>bT ps x.1:=z
  lia
 have h3:ffK rz ps (goL ds f l []) (goC ds f l []) f l=[]:=by
  unfold ffK;rw[List.filter_eq_nil_iff.mpr];rfl;intro x hx z;have z:=of_decide_eq_true z;rw[vD (L:=goL ds f l []) (C:=goC ds f l []) (fun k=>rfl) (fun k=>rfl)]at z;obtain⟨hz,_⟩:=pairsN_mem.mp (show (x.1,x.2)∈_ from hx);obtain⟨e,he,q⟩:=List.mem_map.mp hz;have h1:=hf.2 e he;rw[←q,rH nd he]at z
  lia
 unfold dB;rw[h2,h3];rfl
theorem K9 {rz ps:List (Str×Int)}{ds:List aF}{f l:Int}{n:Str} (h:gK ds f l f n<4):dB rz ps ds f l [(f,n,4)]≠[]:=fun z=>by
 unfold dB at z;have z:=(List.append_eq_nil_iff.mp (List.append_eq_nil_iff.mp z).1).1;have:dfK ds f l [(f,n,4)]=[flK "door" (n,f)]:=by
  unfold dfK;show ((([.inl f,.inr n],V.int (0+4))::([]:List (List Key×V))).filter (dfB ds f l)).map _=_;rw[List.filter_cons_of_pos (show dfB ds f l ([.inl f,.inr n],V.int (0+4))=true from decide_eq_true (show (0+4:Int)>gK ds f l f n by lia))];rfl
 rw[this]at z;cases z
theorem aBT {X:Cx}{f:Value->Value->Sem Value}{r q:R2} (h1:OpR X f r) (h2:OpR X f q):OpR X f (fun x y H Q=>r x y H Q∨q x y H Q):=fun pins s σ H x y v u Q I rx ry h=>h.elim (h1 pins s σ H x y v u Q I rx ry) (h2 pins s σ H x y v u Q I rx ry)
def rsL:List Str:=["hall","yard","attic"]
def nsL:List Str:=["gate","hatch","a","stair","strong"]
theorem aBg:∀z∈rsL,cD z=true:=by decide +kernel
theorem aA1:∀z∈nsL,cD z=true:=by decide +kernel
theorem rsL_nd:rsL.Nodup:=by decide +kernel
theorem nsL_nd:nsL.Nodup:=by decide +kernel
structure DrO (rs:List Str)(d:aF):Prop where
 hin:iI rs d
 nm:NmD d
 lt:∀t,d.2.2.2 t<=3
theorem X5 {H:Hp}{p dx:Addr}{n st:Str}{e:V}{wd:Int} (m:M K mg) (h:H p=some (.ins m.dN dx (oO (.str n) (.str st) e (.int wd)))):(aH P w K mg base (some 1)).at' H (.ref p) (n,st,e,fun _=>wd) :=
 ⟨p,_,dx,_,[],rfl,h,m.lN,by walk_at"lk",by walk_at"lk",by walk_at"lk",by walk_at"lk",by walk_at"lk",qC m,(fun _ z=>nomatch z),fun kl hk=>by
  cases hk;exact⟨_,ID m,fun H' t Q hp _ ht k=>KA hp m.lN (by walk_at"lk") (k _ (Same.refl _))⟩⟩
theorem LC {D:aS}{H:Hp}:∀{cs:List Int}{vh:List V},Paired (fun _ y=>∃hp,HapAt D H y hp/\gM hp) cs vh->∃hs,Paired (HapAt D H) vh hs/\(∀h∈hs,gM h)/\hs.length=cs.length
 | _,_,.nil=>⟨[],.nil,(fun _ z=>nomatch z),rfl⟩
 | _,_,.cons ⟨hp,h1,h2⟩ t=>by
  walk_at"g1";obtain⟨hs,a,b,c⟩:=LC t;walk_at"g2";refine⟨hp::hs,.cons h1 a,fun h hh=> ?_,congrArg (·+1) c⟩;rcases List.mem_cons.mp hh with rfl|hh
  ·exact h2
  ·exact b h hh
theorem TR {ns:List Int}{r:Nat}:(DZ ns (some 4) (some ((4+r:Nat):Int))).length<=r:=by
 unfold DZ;rw[show (4:Int)=((4:Nat):Int) from rfl,HT.sIx_nat,HT.sIx_nat];rw[List.length_take]
 lia
def aDu (ds:List aF)(hs:List Hap)(G:Hp)(v:V):Prop:=(qU ds hs/\v= .non)∨∃r,Bad ds hs r/\(r= .door∨∃z,r= .unknown z)/\∃q,v= .ref q/\G q=some (.tup [.str (AW r),nmV (nmR r)])
theorem aCv {D:aS}{H:Hp}{Q:VK}{E:XK}{b n:Addr}{ds:List aF}{vh:List V}{hs:List Hap} (hn:H n=some (.lst ((ds.map (·.1)).map V.str))) (l8:ds.length<=8) (hb:SqL K H b vh) (hp:Paired (HapAt D H) vh hs) (ok:∀h∈hs,gM h) (l4:hs.length<=4) (k:∀v G,Same H G->aDu ds hs G v->Q v G):AU K D [.ref b,.ref n] H Q E :=
 ⟨_,_,_,_,_,rfl,hn,l8,hb,hp,ok,l4,fun g G s=>k _ _ s (.inl ⟨g,rfl⟩),fun z g t G s e=>k _ _ s (.inr ⟨_,g,.inr ⟨z,rfl⟩,t,rfl,e⟩),fun g t G s e=>k _ _ s (.inr ⟨_,g,.inl rfl,t,rfl,e⟩)⟩
theorem aCC {C:Addr}{D D0:aS}{H:Hp}{Q:VK}{E:XK}{h b rm:Addr}{f l t:Int}{rz ps:List (Str×Int)}{ds:List aF}{vh:List V}{hs:List Hap}{rows:List aT} (hh:aX C D H h f l rz ps ds) (ho:Hs rz ps ds f l) (l8:ds.length<=8) (p0:∀z,0<=bT ps z) (hr:H rm=some (.lst ((rz.map (·.1)).map V.str))) (hb:SqL K H b vh) (hp:Paired (HapAt D0 H) vh hs) (ok:∀h∈hs,gM h) (l4:hs.length<=4) (hg:qU ds hs) (k:∀v G,Same H G->(∃r,(InT f l t rz ps ds rows->Vd f l t rz ps ds hs rows r)/\ResAt G v r)->Q v G):A9 K C D D0 [.ref h,.ref b,.ref rm] H Q E :=
 ⟨_,_,_,_,_,_,_,_,_,_,rfl,hh,ho,l8,p0,hr,hb,hp,ok,l4,⟨fun z d q G s e=>k _ _ s ⟨_,fun i=> .twice i hg d,.inr ⟨(fun z=>nomatch z),q,rfl,e⟩⟩,fun d z o q G s e=>k _ _ s ⟨_,fun i=> .room i hg d o,.inr ⟨(fun z=>nomatch z),q,rfl,e⟩⟩,fun d a n q G s e=>k _ _ s ⟨_,fun i=> .house i hg d a n,.inr ⟨(fun z=>nomatch z),q,rfl,e⟩⟩,fun d a n G s=>k _ _ s ⟨_,fun i=> .good i hg d a n,.inl ⟨rfl,rfl⟩⟩⟩⟩
theorem ResAt.sm {H H':Hp}{v:V}{r:Rs} (x:ResAt H v r) (s:Same H H'):ResAt H' v r:=by
 rcases x with x|⟨a,q,e,g⟩
 ·exact .inl x
 ·exact .inr ⟨a,q,e,s _ _ g⟩
theorem KZ {ds:List aF}{rs:List Str}{f l t:Int}{n:Str} (h:∀d∈ds,DrO rs d):gK ds f l t n<4:=by
 unfold gK
 split
 ·rename_i d e;have hd:d∈ds:=List.mem_of_find?_eq_some e;have:=(h d hd).lt t;unfold lI
  split<;>lia
 ·decide
theorem UL (ss:List Str):(ss.map V.str).all tH=true:=by
 induction ss with
 | nil=>rfl
 | cons a l ih=>exact ih
theorem UG {α:Type}(g:α->Int)(l:List α):(l.map fun d=>V.int (g d)).all tH=true:=by
 induction l with
 | nil=>rfl
 | cons a l ih=>exact ih
theorem aAA {K:W.Frag}{H:Hp}{Q:VK}{v u:V}{r:Rs} (h1:ResAt H v r) (h2:ResAt H u r) (q:Q (.bl false) H):HU K false v u H Q∨rNe v u H Q:=by
 rcases h1 with⟨rfl,rfl⟩|⟨n,a,rfl,ea⟩
 ·rcases h2 with⟨_,rfl⟩|⟨n,_⟩
  ·exact .inr ⟨rfl,q⟩
  ·exact absurd rfl n
 ·rcases h2 with⟨e,_⟩|⟨_,b,rfl,eb⟩
  ·exact absurd e n
  ·refine .inl (VV ea eb (.cons (DeepEq.self rfl) (.cons (DeepEq.self ?_) .nil)) q);cases nmR r<;>rfl
inductive vP (K:W.Frag)(vs:List V)(H:Hp)(Q:VK)(E:XK):Prop
 | mk (a:Addr) (ns:List Int) (_:vs=[.ref a]) (_:SqL K H a (ns.map V.int)) (_:ns.length<=63) (_:∀H',Q (.bl true) H'):vP K vs H Q E
theorem aBI (m:M K mg):bD P w K mg base CX0 18 m.PR m.PQ ["_law_script"] (vP K):=by
 refine m.aDh.ok sc_law (fun vs H Q E h=> ?_) (fun cdv A outer s H vs Q E hr h=> ?_)
 ·walk_at"g1";obtain⟨a,ns,rfl,hS,hlen,k⟩:=h;walk_at"g2";rfl
 ·walk_at"g1";obtain⟨a,ns,rfl,hS,hlen,k⟩:=h;walk_at"g2";have nd:=sc_law.nd;walk_at"hu";have F__law_by_doors:= @yS P w K mg base m;have F__law_by_house:= @zB P w K mg base m;have F__law_cell_at:= @BG P w K mg base m;have F__law_drawn:= @uN P w K mg base m;have F__law_happening:= @w9 P w K mg base m;have F__law_told:= @JP P w K mg base m;have K_Door_0:= @Q3 P w K mg base m;have K_House_0:= @BP P w K mg base m;have w_dc_House:=m.bN;have w_dc_Door:=m.lN;have w_mc_House_doors:= @d8 P w K mg base m;have w_mc_House_total:= @C6 P w K mg base m;have w_mc_House_lets:= @uO P w K mg base m;refine⟨_,(aC (aP (i:=1) nd rfl (by walk_at"oi") (b9 F__law_cell_at hr (aA (pv 0) (aA aE aB))))
   (aC (aP (i:=2) nd rfl (by walk_at"oi") (aQ cQ (pv 1) aE))
   (aC (aP (i:=3) nd rfl (by walk_at"oi") (kZ rG (bY (aA aJ (aA aJ (aA aJ aB)))) rR (lG (aQ cG aE (aQ cQ (aQ r6 (pv 1) aE) aE)))))
   (aC (dR (i:=4) nd rfl (by walk_at"oi") (N:=["_law_room","_law_cell"]) (nl:=1) (ci:=[1]) rfl (blk (s.heap.objs.size+1) rfl rfl rfl (by kernel_rfl)) (bG (pv 3)) (fun _ _ _ _=>(aL (i:=0) (show (["_law_room","_law_cell"]:List Str).Nodup by decide +kernel) rfl (by walk_at"oi"))) (fun _ _ _ _=>dF) (fun _ _ _ _=>(bE (aA (pv 0) (aA (aQ cG aE (aQ cQ (b9 F__law_drawn hr (aA (pv 1) (aA aE aB))) aE)) aB)))))
   (aC (aP (i:=5) nd rfl (by walk_at"oi") (kZ rG (bY (aA aJ (aA aJ (aA aJ (aA aJ (aA aJ aB)))))) rR (lG (aQ cG aE (aQ cQ (b9 F__law_drawn hr (aA (pv 1) (aA aE aB))) aE)))))
   (aC (aP (i:=6) nd rfl (by walk_at"oi") (bY aB))
   (aC (cU PassesOwn.never rfl (QQ rfl m.D4 (aA (bM eT rfl m.nZ j2 (aA (pv 5) aB)) aB)) (aL (i:=7) nd rfl (by walk_at"oi")) (aC (aP (i:=8) nd rfl (by walk_at"oi") (b9 F__law_drawn hr (aA (pv 1) (aA (aQ cG aE (pv 7)) aB))))
   (aC (aP (i:=9) nd rfl (by walk_at"oi") (bS cW (aQ c6 (pv 3) (bY (aA dG aB))) (aQ cQ (aQ r6 (pv 8) aE) (aQ cG (bM eT rfl m.nZ j2 (aA (pv 3) aB)) aE)) (fun _ _=>rfl)))
   (aD (cC (wO PySem.F.plainAttrs_list PySem.F.slot_list_append PySem.F.type_list_append jO (pv 6) (aA (F6 K_Door_0 hr (aA (bS cW (pv 5) (pv 7) (fun _ _=>rfl)) (aA (bS cW (pv 3) (aQ cQ (pv 8) (bM eT rfl m.nZ j2 (aA (pv 3) aB))) (fun _ _=>rfl)) (aA (pv 9) (aA (aQ cQ (aQ r6 (pv 8) aE) aE) aB))))) aB)))))))
   (aC (aP (i:=10) nd rfl (by walk_at"oi") (bY (aA (bE (aA (bS cW (pv 3) aE (fun _ _=>rfl)) (aA aE aB))) (aA (bE (aA (bS cW (pv 3) aE (fun _ _=>rfl)) (aA (aQ cQ (b9 F__law_drawn hr (aA (pv 1) (aA aE aB))) aE) aB))) aB))))
   (aC (aP (i:=11) nd rfl (by walk_at"oi") (BF K_House_0 hr aB0 (aA (pv 4) (aA (pv 6) (aA (pv 10) (aA (aQ cG (aQ cG (pv 2) aE) (aQ cQ (b9 F__law_drawn hr (aA (pv 1) (aA aE aB))) aE)) (aA (pv 2) aB)))))))
   (aC (aP (i:=12) nd rfl (by walk_at"oi") (bY aB))
   (aC (bV (aV j6 (aQ cQ (b9 F__law_cell_at hr (aA (pv 0) (aA aE aB))) aE) aE (bL _)) (aD (aP (i:=12) nd rfl (by walk_at"oi") (bY (aA (bE (aA (pv 2) (aA (bS cW (pv 5) aE (fun _ _=>rfl)) (aA aE aB)))) aB)))) bJ)
   (aC (aP (i:=13) nd rfl (by walk_at"oi") (aQ cG (bM (QT rfl) rfl m.aDf aCf (aA aE (aA (aQ vK (pv 2) aE) aB))) (aQ cQ (b9 F__law_cell_at hr (aA (pv 0) (aA aE aB))) (aQ cG (aQ vK (bK (pv 11) rfl) (pv 2)) aE))))
   (aC (dR (i:=14) nd rfl (by walk_at"oi") (N:=["_law_one","_law_house","_law_names"]) (nl:=1) (ci:=[11,5]) rfl (blk (s.heap.objs.size+1) rfl rfl rfl (by kernel_rfl)) (bG (kZ rG (pv 0) (lG aE) (lG (aQ cG aE (aQ cQ (b9 F__law_cell_at hr (aA (pv 0) (aA aE aB))) aE))))) (fun _ _ _ _=>(aL (i:=0) (show (["_law_one","_law_house","_law_names"]:List Str).Nodup by decide +kernel) rfl (by walk_at"oi"))) (fun _ _ _ _=>dF) (fun _ _ _ _=>(b9 F__law_happening hr (aA (pv 0) (aA (pv 1) (aA (pv 2) aB))))))
   (aC (aP (i:=15) nd rfl (by walk_at"oi") (b9 F__law_by_doors hr (aA (pv 14) (aA (pv 5) aB))))
   (aC (bV (aV IK (pv 15) dG (bL _)) (aD (aP (i:=15) nd rfl (by walk_at"oi") (b9 F__law_by_house hr (aA (pv 11) (aA (pv 14) (aA (pv 3) aB)))))) bJ)
   (aC (bV (PW.pt (tT (aV iK (pv 13) (pv 2) (bL _)) (oP (aV qG (pv 13) (bK (pv 11) rfl) (bL _))))) (aD (aP (i:=15) nd rfl (by walk_at"oi") (bE (aA aJ (aA dG aB))))) bJ)
   (aC (bV (aV (SQ hu0) (pv 12) (bY aB) (bL _)) (aD (aP (i:=15) nd rfl (by walk_at"oi") (bE (aA aJ (aA dG aB))))) bJ)
   (aC (aP (i:=16) nd rfl (by walk_at"oi") (bY (aA (c7 1 hr (pv 11)) (aA (c7 1 hr (pv 11)) (aA (bK (pv 11) rfl) (aA (cI (N:=["_law_name","_law_first","_law_house"]) (nl:=1) (ci:=[2,11]) rfl (blk (s.heap.objs.size+1) rfl rfl rfl (by kernel_rfl)) (bG (pv 5)) (fun _ _ _ _=>(aL (i:=0) (show (["_law_name","_law_first","_law_house"]:List Str).Nodup by decide +kernel) rfl (by walk_at"oi"))) (fun _ _ _ _=>dF) (fun _ _ _ _=>(uU (P:=P) (w:=w) (K:=K) (mg:=mg) (base:=base) 3 hr (pv 2) (aA (pv 0) (aA (pv 1) aB))))) aB))))))
   (aC (bV (aV (aBT (YB hu9) NK) (b9 F__law_told hr (aA (pv 11) (aA (pv 12) (aA (pv 13) (aA (pv 14) aB))))) (pv 15) (bL _)) (aD (aW F5)) bJ)
   (aD (aW (rV (aCj hu9) (pv 16) (bY (aA (c7 1 hr (pv 11)) (aA (c7 1 hr (pv 11)) (aA (bK (pv 11) rfl) (aA (cI (N:=["_law_name","_law_first","_law_house"]) (nl:=1) (ci:=[2,11]) rfl (blk (s.heap.objs.size+1) rfl rfl rfl (by kernel_rfl)) (bG (pv 5)) (fun _ _ _ _=>(aL (i:=0) (show (["_law_name","_law_first","_law_house"]:List Str).Nodup by decide +kernel) rfl (by walk_at"oi"))) (fun _ _ _ _=>dF) (fun _ _ _ _=>(uU (P:=P) (w:=w) (K:=K) (mg:=mg) (base:=base) 3 hr (pv 2) (aA (pv 0) (aA (pv 1) aB))))) aB))))) (bL _))))))))))))))))))))))),?_⟩
  refine aM (σ:=[some (.ref a),none,none,none,none,none,none,none,none,none,none,none,none,none,none,none,none]) rfl ?_;walk_at"cx";walk_at"go";rename_i p0 H0 n0 S0 e0 pR H1 n1 S1 eR';obtain⟨c,hc0⟩:∃c,c=lR ns 0:=⟨_,rfl⟩
  rw[←hc0]at eR' ⊢;obtain⟨kr,hkr,kr2,kr3⟩:∃kr:Nat,2+c/4%2=(kr:Int)/\2<=kr/\kr<=3:=⟨(2+c/4%2).toNat,by lia,by lia,by lia⟩
  obtain⟨rs,hrs⟩:∃rs,rs=rsL.take kr:=⟨_,rfl⟩
  have eR:H1 pR=some (.lst (rs.map V.str)):=by
   rw[eR',hkr,hrs];exact congrArg (fun z=>some (HO.lst z)) ((DD (rsL.map V.str) kr).trans List.map_take.symm)
  have hrl:rs.length=kr:=by rw[hrs,List.length_take];exact Nat.min_eq_left kr3
  have hrn:∀z∈rs,cD z=true:=fun z hz=>aBg z (List.mem_of_mem_take (by rw[←hrs];exact hz));have hrd:rs.Nodup:=by rw[hrs];exact rsL_nd.sublist (List.take_sublist _ _)
  clear eR';have s01:Same H H1:=S0.trans S1;refine cR (α:=Str) (xs:=rs) (vs:=rs.map V.str) (fun v z=>v= .str z) (fun _=>true) (fun z y G=>b5 G y (z,3+fF c 1%6)) (fun _ _ _ _ ⟨q,h1,h2⟩ s=>⟨q,h1,s _ _ h2⟩) (by rw[sizeLine_eq];lia) (rest:=[some (.int c)]) (by rfl) (SqL.of eR) (gP _ rs) ?_ ?_ ?_
  ·exact fun v x H1 _ _ s1 R hR=>hR _ (Same.refl _)
  ·rintro _ z G rfl hm - s R hR;walk_at"go";rename_i a1 d1 a10 a11 q2 G2 m2 T2 f2;exact hR _ _ ⟨q2,rfl,by rw[f2,d1]⟩ T2
  intro ws H2 s2 hws;rw[cZ]at hws;have hra:Paired (b5 H2) ws (rs.map fun z=>(z,3+fF c 1%6)):=lH (fun z:Str=>(z,3+fF c 1%6)) hws;obtain⟨rz,hrz⟩:∃rz,rz=rs.map fun z=>(z,3+fF c 1%6):=⟨_,rfl⟩
  rw[←hrz]at hra;have rzn:rz.map (·.1)=rs:=by rw[hrz,List.map_map];exact(List.map_congr_left fun _ _=>rfl).trans (List.map_id rs)
  have rz3:∀e∈rz,3<=e.2:=fun e he=>by
   rw[hrz]at he;obtain⟨z,_,rfl⟩:=List.mem_map.mp he;show 3<=3+fF c 1%6
   lia
  have rzl:rz.length=kr:=by rw[hrz,List.length_map];exact hrl
  walk_at"go";rename_i pH H3 n3 S3 eH p5 H5 n5 S5 e5 a2 d2 a20 a21 pN H6 n6 S6 eN' pD H7 n7 S7 eD;obtain⟨kn,hkn,kn2,kn5⟩:∃kn:Nat,2+a2%4=(kn:Int)/\2<=kn/\kn<=5:=⟨(2+a2%4).toNat,by lia,by lia,by lia⟩
  obtain⟨nl,hnl⟩:∃nl,nl=nsL.take kn:=⟨_,rfl⟩
  have hcut:d7 [V.str "gate",V.str "hatch",V.str "a",V.str "stair",V.str "strong"] none (some (2+a2%4))=nl.map V.str:=by
   rw[hkn,hnl];exact(DD (nsL.map V.str) kn).trans List.map_take.symm
  have eN:H6 pN=some (.lst (nl.map V.str)):=by rw[eN',hcut]
  have hnll:nl.length=kn:=by rw[hnl,List.length_take];exact Nat.min_eq_left kn5
  have hnn:∀z∈nl,cD z=true:=fun z hz=>aA1 z (List.mem_of_mem_take (by rw[←hnl];exact hz));have hnd:nl.Nodup:=by rw[hnl];exact nsL_nd.sublist (List.take_sublist _ _)
  rw[hcut,List.length_map,hnll];refine EO (by lia) (by lia) ?_;rw[Int.toNat_natCast];have eR6:=(s2.trans (S3.trans (S5.trans S6))) _ _ eR;have eR7:=S7 _ _ eR6;have eN7:=S7 _ _ eN;let Pv1:Nat->St->Hp->Prop:=fun i σ' G=>SameBut pD H7 G/\(∃us ds,G pD=some (.lst us)/\Paired ((aH P w K mg base (some 1)).at' G) us ds/\(∀d∈ds,DrO rs d)/\ds.map (·.1)=nl.take i)/\∃x y z,σ'=[some (.ref a),some (.int c),some (.int (c%4)),some (.ref pR),some (.ref pH),some (.ref pN),some (.ref pD),x,y,z,none,none,none,none,none,none,none];refine K5 Pv1 ⟨SameBut.refl,⟨[],[],eD,.nil,(fun _ z=>nomatch z),rfl⟩,_,_,_,rfl⟩ ?_ ?_
  ·rintro i _ G hi hq_;walk_at"g1";obtain⟨sb,⟨us,ds,eu,hud,hdo,hnm⟩,x1,x2,x3,rfl⟩:=hq_;walk_at"g2";have eRG:=sb _ _ eR7 (aN eR6 n7);have eNG:=sb _ _ eN7 (aN eN n7);have hul:us.length=i:=by
    have h5:ds.length=i:=by rw[←List.length_map (f:=fun d:aF=>d.1),hnm,List.length_take];lia
    rw[Paired.length hud];exact h5
   obtain⟨zi,hzi⟩:∃zi,nl[i]? =some zi:=⟨_,List.getElem?_eq_getElem (by lia)⟩
   have hb1:=hnn zi (List.mem_of_getElem? hzi);have hlm:(rs.map V.str).length=kr:=by rw[List.length_map];exact hrl
   walk_at"go";rename_i dd ed hd0 hd1 pA G1 m1 T1 eA pB G2 m2 T2 eB hx0 hx1;refine QW (SqL.of eB) hx0 (by rw[List.length_append];show _<(((List.map V.str rs).length+1:Nat):Int);lia) fun v hv=> ?_;have hve:sN v/\(v= .non∨∃z,v= .str z/\z∈rs):=by
    rcases List.mem_append.mp hv with hv|hv
    ·obtain⟨z,hz,rfl⟩:=List.mem_map.mp hv;exact⟨.inr ⟨_,rfl,hrn z hz⟩,.inr ⟨_,rfl,hz⟩⟩
    ·have:v= .non:=by simpa using hv
     exact⟨.inl this,.inl this⟩
   obtain⟨hve,hvi⟩:=hve;clear hv;have eR2:=(T1.trans T2) _ _ eRG;have eN2:=(T1.trans T2) _ _ eNG;have eu2:=(T1.trans T2) _ _ eu;clear eA eB;walk_at"go";refine⟨pN,_,_,_,rfl,rfl,SqL.of eN2,(by rw[Int.zero_add];exact dA (by rw[List.getElem?_map,hzi];rfl)),?_⟩;walk_at"go";rename_i hy0 hy1;refine QW (SqL.of eR2) hy0 hy1 fun v2 hv2=> ?_;obtain⟨z2,hz2,rfl⟩:=List.mem_map.mp hv2;have hb2:=hrn z2 hz2;walk_at"go";rename_i q6 dx6 G6 m6 T6 e6;have sG6:=(T1.trans T2).trans T6;have eu6:G6 pD=some (.lst us):=sG6 _ _ eu;refine l6 eu6 (by rw[sizeLine_eq];lia) fun G7 B7 e7=> ?_;have hd6:(aH P w K mg base (some 1)).at' G6 (.ref q6) (zi,z2,v,fun _=>dd/81%4):=X5 (P:=P) (w:=w) (base:=base) m e6;walk_at"go";refine⟨(sb.trans sG6.but).trans B7,⟨us++[.ref q6],ds++[(zi,z2,v,fun _=>dd/81%4)],e7,L2.Paired.snoc (Paired.imp' (fun _ _ h=>(aH P w K mg base (some 1)).but ((aH P w K mg base (some 1)).same h sG6) eu6 trivial B7) hud) ((aH P w K mg base (some 1)).but hd6 eu6 trivial B7),?_,?_⟩,_,_,_,rfl⟩
   ·intro d' hd';rcases List.mem_append.mp hd' with hd'|hd'
    ·exact hdo d' hd'
    ·cases List.mem_singleton.mp hd';exact⟨⟨hz2,hvi⟩,⟨hb1,hb2,hve⟩,fun t=>by show dd/81%4<=3;lia⟩
   ·rw[List.map_append,hnm,bR hzi];rfl
  rintro _ HD hq_;walk_at"g1";obtain⟨sbD,⟨us,ds,eu,hud,hdo,hnm⟩,x1,x2,x3,rfl⟩:=hq_;walk_at"g2";rw[←hnll,List.take_length]at hnm;have s06:Same H H6:=s01.trans (s2.trans (S3.trans (S5.trans S6)));have s0D:Same H HD:=fun x o q=>sbD x o (S7 _ _ (s06 _ _ q)) (aN (s06 _ _ q) n7);have eRD:=sbD _ _ eR7 (aN eR6 n7);have eND:=sbD _ _ eN7 (aN eN n7);have eH6:=(S5.trans S6) _ _ eH;have eHD:=sbD _ _ (S7 _ _ eH6) (aN eH6 n7);have s26:Same H2 H6:=S3.trans (S5.trans S6);have hraD:RoomsAt HD ws rz:=Paired.imp' (fun _ _ ⟨q,e,h⟩=>⟨q,e,sbD _ _ (S7 _ _ (s26 _ _ h)) (aN (s26 _ _ h) n7)⟩) hra;obtain⟨r0,r1,rt,hre⟩:∃r0 r1 rt,rs=r0::r1::rt:=by
   match rs,hrl with
   | x::y::l,_=>exact⟨x,y,l,rfl⟩
   | [_],h=>exact absurd h (by simp only[List.length_cons,List.length_nil];lia)
   | [],h=>exact absurd h (by simp only[List.length_nil];lia)
  have eR0:HD pR=some (.lst (V.str r0::V.str r1::rt.map V.str)):=by rw[eRD,hre];rfl
  walk_at"go";refine⟨pR,_,_,_,rfl,rfl,SqL.of eR0,dA (j:=0) rfl,?_⟩;walk_at"go";rename_i t1 K1 m1 T1 f1;have eR1:=T1 _ _ eR0;refine⟨pR,_,_,_,rfl,rfl,SqL.of eR1,dA (j:=1) rfl,?_⟩;walk_at"go";rename_i a9 d9 a90 a91 t2 K2 m2 T2 f2 pP K3 m3 T3 f3 b0 e0' b00 b01;have s0K:Same HD K3:=T1.trans (T2.trans T3);obtain⟨ps,hps⟩:∃ps,ps=[(r0,(2:Int)),(r1,a9%4)]:=⟨_,rfl⟩
  have hpp:Paired (b5 K3) [.ref t1,.ref t2] ps:=by
   rw[hps];exact .cons ⟨t1,rfl,T3 _ _ (T2 _ _ f1)⟩ (.cons ⟨t2,rfl,T3 _ _ f2⟩ .nil)
  have hr0:r0∈rs:=by rw[hre];exact .head _
  have hr1:r1∈rs:=by rw[hre];exact .tail _ (.head _)
  have hrne:r0≠r1:=fun z=>by
   rw[hre,z]at hrd;exact(List.nodup_cons.mp hrd).1 (.head _)
  have psm:∀z,0<=bT ps z/\bT ps z<=3:=fun z=>by
   rw[hps];have e:bT [(r0,(2:Int)),(r1,a9%4)] z=(if r0=z then 2 else 0)+if r1=z then a9%4 else 0:=by
    rw[show [(r0,(2:Int)),(r1,a9%4)]=[]++[(r0,(2:Int))]++[(r1,a9%4)] from rfl,u7,u7];show 0+_+_=_;rw[Int.zero_add]
   rw[e]
   by_cases q:r0=z
   ·rw[if_pos q,if_neg fun x=>hrne (q.trans x.symm)];lia
   ·rw[if_neg q]
    split<;>lia
  have p0:∀z,0<=bT ps z:=fun z=>(psm z).1;have hps0:∀p∈ps,0<=p.2:=fun p hp=>by
   rw[hps]at hp;rcases List.mem_cons.mp hp with rfl|hp
   ·show (0:Int)<=2;lia
   ·rcases List.mem_cons.mp hp with rfl|hp
    ·show 0<=a9%4;lia
    ·cases hp
  have hfit:g6 rz ps:=⟨hps0,fun e he=>by have:=rz3 e he;have:=(psm e.1).2;lia⟩
  have hdl:ds.length=kn:=by rw[←List.length_map (f:=fun d:aF=>d.1),hnm];exact hnll
  obtain⟨f,hf⟩:∃f,f=c%4:=⟨_,rfl⟩
  obtain⟨l,hl⟩:∃l,l=f+2+b0%5:=⟨_,rfl⟩
  rw[←hf,←hl];have ff0:0<=f/\f<=3/\f+2<=l/\l<=f+6:=by lia
  have ho:Hs rz ps ds f l:=⟨by rw[rzn];exact hrd,by rw[hnm];exact hnd,fun d hd=>by rw[rzn];exact(hdo d hd).hin,by lia,by lia,by lia,by lia,by lia,by lia⟩
  have hspk:∀z∈cE ds ps,z∈rz.map (·.1):=fun z hz=>by
   rcases List.mem_append.mp hz with hz|hz
   ·exact DU ho.hin z hz
   ·rw[rzn];rw[hps]at hz;rcases List.mem_cons.mp hz with rfl|hz
    ·exact hr0
    ·rcases List.mem_cons.mp hz with rfl|hz
     ·exact hr1
     ·cases hz
  refine ER (rz:=rz) (ds:=ds) (ps:=ps) (us:=us) rfl (by assumption) (s0K _ _ eHD) (hraD.sm s0K) (SqL.of (s0K _ _ eu)) (Paired.imp' (fun _ _ h=>d10 ((aH P w K mg base (some 1)).same h s0K)) hud) (SqL.of f3) hpp (fun d hd=>EndS.of (hdo d hd).nm) (by lia) (by lia) (by rw[hps];show 2<=40;lia) ?_;refine⟨fun z=>by rcases z with z|z<;>lia,fun _ _ z hz=>absurd ho.nr hz.not,fun _ _ _ z hz=>absurd ho.nd hz.not,fun _ _ _ _ z hz=>absurd hspk hz.not,fun _ _ _ _ _ hf=>absurd hfit hf,fun _ _ _ _ _ _ h HI nI SI hU=> ?_⟩;have sDI:Same HD HI:=s0K.trans SI;have hh:aX m.aI (aH P w K mg base (some 1)) HI h f l rz ps ds:=hU.house (Paired.imp' (fun _ _ x=>(aH P w K mg base (some 1)).same x sDI) hud);have s0I:Same H HI:=s0D.trans sDI;have eRI:=sDI _ _ eRD;have eNI:=sDI _ _ eND;have hSI:=s0I.seq hS;walk_at"g1";obtain⟨dx,qs,qp,qd,nk,kvs,eh,_⟩:=id hh.ex;walk_at"g2";clear eR0 eR1 eR7 eR6 eN7 eN' hU e0 eR hws hra eH eH6 e5 eN eD hcut eu hud sbD eRD eND eHD hraD T1 f1 T2 f2 T3 f3 s0K hpp SI sDI s01 s06 s0D s26 S0 S1 s2 S3 S5 S6 S7 n0 n1 n3 n5 n6 n7 m1 m2 m3 nI psm hps0 hps hspk hre hr0 hr1 hrne rz3 d9 e0' d2;obtain⟨z0,nt,hne⟩:∃z0 nt,nl=z0::nt:=by
   match nl,hnll with
   | x::l,_=>exact⟨x,l,rfl⟩
   | [],h=>exact absurd h (by simp only[List.length_nil];lia)
  have eN0:HI pN=some (.lst (V.str z0::nt.map V.str)):=by rw[eNI,hne];rfl
  walk_at"gs";rename_i pL0 HJ nJ SJ eL0;have hSJ:=SJ.seq hSI;have eN0J:=SJ _ _ eN0;refine kW (fun σ' G=>Same HJ G/\∃(pL:Addr) (up:List V) (rows:List aT),G pL=some (.lst up)/\cP G up rows/\(rows=[]∨rows=[(f,z0,4)])/\σ'=[some (.ref a),some (.int c),some (.int f),some (.ref pR),some (.ref pH),some (.ref pN),some (.ref pD),x1,x2,x3,some (.ref pP),some (.ref h),some (.ref pL),none,none,none,none]) ?_ ?_
  rotate_left
  ·intro nx' hnx;walk_at"go";refine fG (fun hq=> ?_) (fun hq=> ?_)
   ·walk_at"go";refine⟨pN,_,_,_,rfl,rfl,SqL.of eN0J,dA (j:=0) rfl,?_⟩;walk_at"go";rename_i tq G1 m1 T1 f1 pq G2 m2 T2 f2;exact hnx _ _ ⟨T1.trans T2,pq,_,[(f,z0,4)],f2,.cons ⟨tq,rfl,T2 _ _ f1⟩ .nil,.inr rfl,rfl⟩
   ·walk_at"go";exact hnx _ _ ⟨Same.refl _,pL0,[],[],eL0,.nil,.inl rfl,rfl⟩
  rintro _ HK hq_;walk_at"g1";obtain⟨sK,pL,up,rows,eL,hpl,hrow,rfl⟩:=hq_;walk_at"g2";have sIK:Same HI HK:=SJ.trans sK;have s0K':Same H HK:=s0I.trans sIK;have hhK:=aU hh sIK;have ehK:=sIK _ _ eh;have hSK:=s0K'.seq hS;have eRK:=sIK _ _ eRI;have eNK:=sIK _ _ eNI;walk_at"go";rename_i hm0 hm1 pC HL nL SL eC;obtain⟨r5,hr5,r54⟩:∃r5:Nat,(4+lR ns 3%5:Int)=((4+r5:Nat):Int)/\r5<=4:=⟨(lR ns 3%5).toNat,by lia,by lia⟩
  rw[hr5]at eC;obtain⟨cs,hcs⟩:∃cs,cs=DZ ns (some 4) (some ((4+r5:Nat):Int)):=⟨_,rfl⟩
  have csl:cs.length<=4:=by rw[hcs];exact Nat.le_trans TR r54
  rw[←hcs]at eC;obtain⟨t,ht⟩:∃t,t=max 0 (f - 1)+lR ns 2%(l - f+3):=⟨_,rfl⟩
  rw[←ht];have t0:0<=t:=by lia
  refine cR (α:=Int) (xs:=cs) (vs:=cs.map V.int) (fun v x=>v= .int x) (fun _=>true) (fun x y G=>∃hp,HapAt (aH P w K mg base none) G y hp/\gM hp) (fun _ _ _ _ ⟨hp,h1,h2⟩ s=>⟨hp,h1.same s,h2⟩) (by rw[sizeLine_eq];lia) (rest:=[some (.ref h),some (.ref pN)]) (by rfl) (SqL.of eC) (gP _ _) ?_ ?_ ?_
  ·exact fun v x H1 _ _ s1 R hR=>hR _ (Same.refl _)
  ·rintro _ x G rfl hm - s R hR;walk_at"go";exact⟨x,h,pN,f,l,rz,ps,ds,nl,rfl,aU hhK (SL.trans s),(SL.trans s) _ _ eNK,by lia,by lia,by lia,by lia,hnn,fun e he=>hrn e.1 (by rw[←rzn];exact List.mem_map.mpr ⟨e,he,rfl⟩),by lia,by lia,fun q hp G' s' h1 h2=>hR _ _ ⟨hp,h1,h2⟩ s'⟩
  intro vh HM sM hvh;rw[cZ]at hvh;walk_at"g1";obtain⟨hs,hhp,hok,hsl⟩:=LC hvh;walk_at"g2";have sKM:Same HK HM:=SL.trans sM;have eNM:=sKM _ _ eNK;have eRM:=sKM _ _ eRK;have ehM:=sKM _ _ ehK;have eLM:=sKM _ _ eL;have s0M:Same H HM:=s0K'.trans sKM;have hhM:=aU hhK sKM;walk_at"go";rename_i pV HN nN SN eV;refine aCv (ds:=ds) (hs:=hs) (by rw[hnm];exact SN _ _ eNM) (by lia) (SqL.of eV) (Paired.imp' (fun _ _ x=>x.same SN) hhp) hok (by lia) fun v15 HO sNO hdue=> ?_;have sMO:Same HM HO:=SN.trans sNO;have ehO:=sMO _ _ ehM;have eRO:=sMO _ _ eRM;have eNO:=sMO _ _ eNM;have eLO:=sMO _ _ eLM;have eVO:=sNO _ _ eV;have hhO:=aU hhM sMO;have hhpO:Paired (HapAt (aH P w K mg base none) HO) vh hs:=Paired.imp' (fun _ _ x=>x.same sMO) hhp;have s0O:Same H HO:=s0M.trans sMO;have sKO:Same HK HO:=sKM.trans sMO;walk_at"gs";refine kW (fun σ' G=>Same HO G/\∃v r,(InT f l t rz ps ds rows->Vd f l t rz ps ds hs rows r)/\ResAt G v r/\σ'=[some (.ref a),some (.int c),some (.int f),some (.ref pR),some (.ref pH),some (.ref pN),some (.ref pD),x1,x2,x3,some (.ref pP),some (.ref h),some (.ref pL),some (.int t),some (.ref pV),some v,none]) ?_ ?_
  rotate_left
  ·intro nx' hnx;rcases hdue with⟨hg,rfl⟩|⟨r,hb,hr,q,rfl,eq⟩
   ·walk_at"go";refine aCC (t:=t) (rows:=rows) hhO ho (by lia) p0 (by rw[rzn];exact eRO) (SqL.of eVO) hhpO hok (by lia) hg fun v G s hd=> ?_;obtain⟨r,h1,h2⟩:=hd;walk_at"go";exact hnx _ _ ⟨s,v,r,h1,h2,rfl⟩
   ·walk_at"go";refine hnx _ _ ⟨Same.refl _,_,r,fun i=> ?_,?_,rfl⟩
    ·rcases hr with rfl|⟨z,rfl⟩
     ·exact .nod i hb
     ·exact .unk i hb
    ·rcases hr with rfl|⟨z,rfl⟩<;>exact .inr ⟨(fun z=>nomatch z),q,rfl,eq⟩
  rintro _ HP hq_;walk_at"g1";obtain⟨sOP,v,r,hv,hres,rfl⟩:=hq_;walk_at"g2";have ehP:=sOP _ _ ehO;have hfl:rows=[]->dB rz ps ds f l rows=[]:=by rintro rfl;exact ZV ho.nr hfit p0
  walk_at"gs";refine kW (fun σ' G=>Same HP G/\∃v r,(rows=[]->Vd f l t rz ps ds hs rows r)/\ResAt G v r/\σ'=[some (.ref a),some (.int c),some (.int f),some (.ref pR),some (.ref pH),some (.ref pN),some (.ref pD),x1,x2,x3,some (.ref pP),some (.ref h),some (.ref pL),some (.int t),some (.ref pV),some v,none]) ?_ ?_
  rotate_left
  ·intro nx' hnx
   by_cases c1:t<f
   ·walk_at"go";rename_i tq G1 m1 T1 f1;exact hnx _ _ ⟨T1,_,.turn,fun e=> .turn (hfl e) (.inl c1),.inr ⟨(fun z=>nomatch z),tq,rfl,f1⟩,rfl⟩
   by_cases c2:l<t
   ·walk_at"go";rename_i tq G1 m1 T1 f1;exact hnx _ _ ⟨T1,_,.turn,fun e=> .turn (hfl e) (.inr c2),.inr ⟨(fun z=>nomatch z),tq,rfl,f1⟩,rfl⟩
   walk_at"go";exact hnx _ _ ⟨Same.refl _,v,r,fun e=>hv ⟨hfl e,by lia,by lia⟩,hres,rfl⟩
  rintro _ HQ hq_;walk_at"g1";obtain⟨sPQ,v,r,hv,hres,rfl⟩:=hq_;walk_at"g2";have eLQ:=(sOP.trans sPQ) _ _ eLO;walk_at"gs";refine kW (fun σ' G=>Same HQ G/\∃v r,Vd f l t rz ps ds hs rows r/\ResAt G v r/\σ'=[some (.ref a),some (.int c),some (.int f),some (.ref pR),some (.ref pH),some (.ref pN),some (.ref pD),x1,x2,x3,some (.ref pP),some (.ref h),some (.ref pL),some (.int t),some (.ref pV),some v,none]) ?_ ?_
  rotate_left
  ·intro nx' hnx;walk_at"go";rename_i pe G1 m1 T1 f1;refine QX (SqL.of (T1 _ _ eLQ)) (SqL.of f1) ?_;rcases hrow with rfl|rfl
   ·cases hpl;show (_:V->Hp->Prop) (V.bl false) G1;walk_at"go";exact hnx _ _ ⟨T1,v,r,hv rfl,hres.sm T1,rfl⟩
   ·cases hpl with
    | cons h1 h2 =>
     cases h2;show (_:V->Hp->Prop) (V.bl true) G1;walk_at"go";rename_i tq G2 m2 T2 f2;exact hnx _ _ ⟨T1.trans T2,_,.plan,.plan (K9 (KZ hdo)),.inr ⟨(fun z=>nomatch z),tq,rfl,f2⟩,rfl⟩
  rintro _ HR hq_;walk_at"g1";obtain⟨sQR,v,r,hv,hres,rfl⟩:=hq_;walk_at"g2";have sOR:Same HO HR:=sOP.trans (sPQ.trans sQR);have hhR:=aU hhO sOR;have ehR:=sOR _ _ ehO;have eNR:=sOR _ _ eNO;have eLR:=sOR _ _ eLO;have eVR:=sOR _ _ eVO;have hlr:rows.length<=1:=by rcases hrow with rfl|rfl;exact Nat.zero_le _;exact Nat.le_refl _
  have hpn:dB rz ps ds f l rows=[]->rows=[]:=fun e=>by
   rcases hrow with rfl|rfl
   ·rfl
   ·exact absurd e (K9 (KZ hdo))
  have sKR:=sKO.trans sOR;clear hdue hhp hvh hfl hhM hhK hhO ehK ehM ehO ehP eLO eLM eLQ eVO eV eNO eNM eNK eRO eRM eRK eNI eRI eN0 eN0J eL0 eC eL eh hh SJ sK sIK SL sM sKM SN sNO sMO sOP sPQ sQR hm0 hm1 hSI hSJ hSK nJ nL nN;walk_at"go";refine fJ hhR fun pd1 HS1 nS1 SS1 eS1=> ?_;have hhS1:=aU hhR SS1;have ehS1:=SS1 _ _ ehR;walk_at"go";refine KR hhS1 ho.nr fun HT1 ST1=> ?_;have sT1:Same HR HT1:=SS1.trans ST1;have ehT1:=sT1 _ _ ehR;have eNT1:=sT1 _ _ eNR;have hhT1:=aU hhR sT1;walk_at"go";refine cR (α:=aF) (xs:=ds) (vs:=nl.map V.str) (fun v d=>v= .str d.1) (fun _=>true) (fun d y _=>y=V.int (lI f l d f)) (fun _ _ _ _ h _=>h) (by rw[sizeLine_eq];lia) (rest:=[some (.int f),some (.ref h)]) (by rfl) (SqL.of eNT1) (by rw[←hnm,List.map_map];exact gP _ ds) ?_ ?_ ?_
  ·exact fun v x H1 _ _ s1 R hR=>hR _ (Same.refl _)
  ·rintro _ d G rfl hm - s R hR;have ehG:=s _ _ ehT1;walk_at"go";exact DY (aU hhT1 s) ho.nd hm ho.f0 fun G1 s1=>hR _ _ rfl s1
  intro ys1 HU1 sU1 hys1;rw[cZ]at hys1;obtain rfl:=dW hys1;walk_at"go";rename_i pl1 HV1 nV1 SV1 eV1 pB1 HW1 nW1 SW1 eB1;have sW1:Same HR HW1:=sT1.trans (sU1.trans (SV1.trans SW1));have eSW1:=(ST1.trans (sU1.trans (SV1.trans SW1))) _ _ eS1;have eVW1:=SW1 _ _ eV1;refine⟨h,pL,pV,f,l,t,rz,ps,ds,up,rows,vh,hs,rfl,⟨aU hhR sW1,ho,fun d hd=>(hdo d hd).nm,by lia,SqL.of (sW1 _ _ eLR),gN hpl (sKR.trans sW1),hlr,hpn,SqL.of (sW1 _ _ eVR),Paired.imp' (fun _ _ x=>x.same (sOR.trans sW1)) hhpO,hok,by lia⟩,fun r' hv' v' HX sX hres'=> ?_⟩;obtain rfl:=hv'.uniq hv;have sRX:Same HR HX:=sW1.trans sX;have hhX:=aU hhR sRX;have ehX:=sRX _ _ ehR;have eNX:=sRX _ _ eNR;refine⟨_,rfl,aAA hres' (hres.sm sRX) ?_⟩;walk_at"go";refine fJ hhX fun pd2 HS2 nS2 SS2 eS2=> ?_;have hhS2:=aU hhX SS2;have ehS2:=SS2 _ _ ehX;walk_at"go";refine KR hhS2 ho.nr fun HT2 ST2=> ?_;have sT2:Same HX HT2:=SS2.trans ST2;have ehT2:=sT2 _ _ ehX;have eNT2:=sT2 _ _ eNX;have hhT2:=aU hhX sT2;walk_at"go";refine cR (α:=aF) (xs:=ds) (vs:=nl.map V.str) (fun v d=>v= .str d.1) (fun _=>true) (fun d y _=>y=V.int (lI f l d f)) (fun _ _ _ _ h _=>h) (by rw[sizeLine_eq];lia) (rest:=[some (.int f),some (.ref h)]) (by rfl) (SqL.of eNT2) (by rw[←hnm,List.map_map];exact gP _ ds) ?_ ?_ ?_
  ·exact fun v x H1 _ _ s1 R hR=>hR _ (Same.refl _)
  ·rintro _ d G rfl hm - s R hR;have ehG:=s _ _ ehT2;walk_at"go";exact DY (aU hhT2 s) ho.nd hm ho.f0 fun G1 s1=>hR _ _ rfl s1
  intro ys2 HU2 sU2 hys2;rw[cZ]at hys2;obtain rfl:=dW hys2;walk_at"go";rename_i pl2 HV2 nV2 SV2 eV2 pB2 HW2 nW2 SW2 eB2;have sW2:Same HX HW2:=sT2.trans (sU2.trans (SV2.trans SW2));have eSW2:=(ST2.trans (sU2.trans (SV2.trans SW2))) _ _ eS2;have eVW2:=SW2 _ _ eV2;have sXW:=sX.trans sW2;refine UE (SqL.of (sXW _ _ eB1)) (SqL.of eB2) (.cons (DeepEq.lst (SqL.of (sXW _ _ eSW1)) (SqL.of eSW2) (tS (UL _))) (.cons (DeepEq.self rfl) (.cons (DeepEq.self rfl) (.cons (DeepEq.lst (SqL.of (sXW _ _ eVW1)) (SqL.of eVW2) (tS (UG _ _))) .nil)))) ?_;exact k _
end
theorem all_mk {l:W.OpenLaw}{w:World}{K:W.Frag}{h:Heap}{mg:Str->Option Value}{fa:Addr} (X:K.In h) (G:h.Ns mainGlobals mg) (hfa:mg "law" =some (.ref fa))
  {f0:Addr}
  {f1:Addr}
  {f2:Addr}
  {f3:Addr}
  {f4:Addr}
  {f5:Addr}
  {f6:Addr}
  {f7:Addr}
  {f8:Addr}
  {f9:Addr}
  {f10:Addr}
  {f11:Addr}
  {f12:Addr}
  {f13:Addr}
  {f14:Addr}
  {f15:Addr}
  {f16:Addr}
  {f17:Addr}
  {f18:Addr}
  {f19:Addr}
  {f20:Addr}
  {f21:Addr}
  {f22:Addr}
  {f23:Addr}
  {f24:Addr}
  {f25:Addr}
  {f26:Addr}
  {f27:Addr}
  {f28:Addr}
  {f29:Addr}
  {f30:Addr}
  {f31:Addr}
  {f32:Addr}
  {f33:Addr}
  {C34:Addr}
  {C35:Addr}
  {C36:Addr}
  {C37:Addr}
  {C38:Addr}
  {C39:Addr}
  {C40:Addr}
  {C41:Addr}
  {C42:Addr}
  {C43:Addr}
  {C44:Addr}
  {C45:Addr}
  {C46:Addr}
  {f47:Addr}
  {f48:Addr}
  {f49:Addr}
  {f50:Addr}
  {f51:Addr}
  {f52:Addr}
  {f53:Addr}
  {f54:Addr}
  {f55:Addr}
  {f56:Addr}
  {f57:Addr}
  {f58:Addr}
  {f59:Addr}
  {f60:Addr}
  {f61:Addr}
  {f62:Addr}
  {f63:Addr}
  {f64:Addr}
  {zaa zab:Option Addr}{zac:Array (Option Value)}{zad zae zaf zag zah zai:Value}
  {T74:Addr}
  {zaj:Value}{zak:Option Addr}{zal:Nat}{zam:Array (Option Value)}
  {zan zao:Option Addr}{zap:Array (Option Value)}{zaq zar zas zat zau zav:Value}
  {zaw zax:Option Addr}{zay:Array (Option Value)}{zaz zba zbb zbc zbd zbe:Value}
  {T97:Addr}
  {zbf:Tok}
  {zbg:Value}{zbh:Option Addr}{zbi:Nat}{zbj:Array (Option Value)}
  {zbk zbl:Option Addr}{zbm:Array (Option Value)}{zbn zbo zbp zbq zbr zbs:Value}
  {zbt:Addr}
  {zbu:Tok}
  {zbv:Value}{zbw:Option Addr}{zbx:Nat}{zby:Array (Option Value)}
  {zbz:Tok}
  (y0:W.nsIn K mainGlobals "is_whole" =some (some (.ref f0)))
  (y1:W.nsIn K mainGlobals "is_name" =some (some (.ref f1)))
  (y2:W.nsIn K mainGlobals "need_name" =some (some (.ref f2)))
  (y3:W.nsIn K mainGlobals "need_whole" =some (some (.ref f3)))
  (y4:W.nsIn K mainGlobals "need_turns" =some (some (.ref f4)))
  (y5:W.nsIn K mainGlobals "need_each_once" =some (some (.ref f5)))
  (y6:W.nsIn K mainGlobals "rooms_spoken_of" =some (some (.ref f6)))
  (y7:W.nsIn K mainGlobals "need_rooms" =some (some (.ref f7)))
  (y8:W.nsIn K mainGlobals "added_people" =some (some (.ref f8)))
  (y9:W.nsIn K mainGlobals "need_space" =some (some (.ref f9)))
  (y10:W.nsIn K mainGlobals "added_up" =some (some (.ref f10)))
  (y11:W.nsIn K mainGlobals "rows_that_count" =some (some (.ref f11)))
  (y12:W.nsIn K mainGlobals "leaving" =some (some (.ref f12)))
  (y13:W.nsIn K mainGlobals "coming" =some (some (.ref f13)))
  (y14:W.nsIn K mainGlobals "there" =some (some (.ref f14)))
  (y15:W.nsIn K mainGlobals "most_through" =some (some (.ref f15)))
  (y16:W.nsIn K mainGlobals "door_faults" =some (some (.ref f16)))
  (y17:W.nsIn K mainGlobals "leave_faults" =some (some (.ref f17)))
  (y18:W.nsIn K mainGlobals "full_faults" =some (some (.ref f18)))
  (y19:W.nsIn K mainGlobals "faults" =some (some (.ref f19)))
  (y20:W.nsIn K mainGlobals "need_lawful" =some (some (.ref f20)))
  (y21:W.nsIn K mainGlobals "place_of" =some (some (.ref f21)))
  (y22:W.nsIn K mainGlobals "changed_door" =some (some (.ref f22)))
  (y23:W.nsIn K mainGlobals "doors_after" =some (some (.ref f23)))
  (y24:W.nsIn K mainGlobals "anew" =some (some (.ref f24)))
  (y25:W.nsIn K mainGlobals "_law_cell_at" =some (some (.ref f25)))
  (y26:W.nsIn K mainGlobals "_law_drawn" =some (some (.ref f26)))
  (y27:W.nsIn K mainGlobals "_law_happening" =some (some (.ref f27)))
  (y28:W.nsIn K mainGlobals "_law_number" =some (some (.ref f28)))
  (y29:W.nsIn K mainGlobals "_law_by_doors" =some (some (.ref f29)))
  (y30:W.nsIn K mainGlobals "_law_by_house" =some (some (.ref f30)))
  (y31:W.nsIn K mainGlobals "_law_word" =some (some (.ref f31)))
  (y32:W.nsIn K mainGlobals "_law_told" =some (some (.ref f32)))
  (y33:W.nsIn K mainGlobals "law" =some (some (.ref f33)))
  (y34:W.nsIn K mainGlobals "Door" =some (some (.ref C34)))
  (y35:W.nsIn K mainGlobals "Shut" =some (some (.ref C35)))
  (y36:W.nsIn K mainGlobals "Wider" =some (some (.ref C36)))
  (y37:W.nsIn K mainGlobals "House" =some (some (.ref C37)))
  (y38:W.nsIn K mainGlobals "OutError" =some (some (.ref C38)))
  (y39:W.nsIn K mainGlobals "NoDoor" =some (some (.ref C39)))
  (y40:W.nsIn K mainGlobals "NoHouse" =some (some (.ref C40)))
  (y41:W.nsIn K mainGlobals "NoPlan" =some (some (.ref C41)))
  (y42:W.nsIn K mainGlobals "NoTurn" =some (some (.ref C42)))
  (y43:W.nsIn K mainGlobals "NoText" =some (some (.ref C43)))
  (y44:W.nsIn K mainGlobals "Twice" =some (some (.ref C44)))
  (y45:W.nsIn K mainGlobals "NoRoom" =some (some (.ref C45)))
  (y46:W.nsIn K mainGlobals "Unknown" =some (some (.ref C46)))
  (y47:Mk K C34 f50)
  (y48:Mk K C35 f53)
  (y49:Mk K C36 f54)
  (y50:Mk K C37 f55)
  (y51:Meth K C34 "lets" f51)
  (y52:Meth K C34 "is_exit" f52)
  (y53:Meth K C35 "is_exit" f52)
  (y54:Meth K C36 "is_exit" f52)
  (y55:Meth K C37 "rooms" f56)
  (y56:Meth K C37 "doors" f57)
  (y57:Meth K C37 "need_room" f58)
  (y58:Meth K C37 "holds" f59)
  (y59:Meth K C37 "found" f60)
  (y60:Meth K C37 "door" f61)
  (y61:Meth K C37 "lets" f62)
  (y62:Meth K C37 "total" f63)
  (y63:Meth K C37 "pairs" f64)
  (y64:W.findIn K (.ref C44) "__init__" =some (some (.ref f47)))
  (y65:W.findIn K (.ref C45) "__init__" =some (some (.ref f48)))
  (y66:W.findIn K (.ref C46) "__init__" =some (some (.ref f49)))
  (y67:FnL K "is_whole" "is_whole" tO f0)
  (y68:FnL K "is_name" "is_name" uX f1)
  (y69:FnL K "need_name" "need_name" qT f2)
  (y70:FnL K "need_whole" "need_whole" o6 f3)
  (y71:FnL K "need_turns" "need_turns" oR f4)
  (y72:FnL K "need_each_once" "need_each_once" iZ f5)
  (y73:FnL K "rooms_spoken_of" "rooms_spoken_of" g0 f6)
  (y74:FnL K "need_rooms" "need_rooms" oJ f7)
  (y75:FnL K "added_people" "added_people" kS f8)
  (y76:FnL K "need_space" "need_space" oQ f9)
  (y77:FnL K "added_up" "added_up" tL f10)
  (y78:FnL K "rows_that_count" "rows_that_count" gZ f11)
  (y79:FnL K "leaving" "leaving" u9 f12)
  (y80:FnL K "coming" "coming" zI f13)
  (y81:FnL K "there" "there" DT f14)
  (y82:FnL K "most_through" "most_through" kY f15)
  (y83:FnL K "door_faults" "door_faults" mR f16)
  (y84:FnL K "leave_faults" "leave_faults" kT f17)
  (y85:FnL K "full_faults" "full_faults" mM f18)
  (y86:FnL K "faults" "faults" zJ f19)
  (y87:FnL K "need_lawful" "need_lawful" mQ f20)
  (y88:FnL K "place_of" "place_of" tR f21)
  (y89:FnL K "changed_door" "changed_door" lA f22)
  (y90:FnL K "doors_after" "doors_after" mP f23)
  (y91:K.lookup f24=some ⟨zad,zaa,.func (W.fnOf "anew" "anew" (dP u6) (cY u6) (aG u6) (.ref T74) zae zaf zag zab zah zai),zac⟩)
  (y92:W.codeIn K zah "anew" =true)
  (y93:W.keepIn K (.ref f24)=true)
  (y94:K.lookup T74=some ⟨zaj,zak,.seq #[.none] zal,zam⟩)
  (y95:FnL K "_law_cell_at" "_law_cell_at" kO f25)
  (y96:FnL K "_law_drawn" "_law_drawn" oT f26)
  (y97:FnL K "_law_happening" "_law_happening" i8 f27)
  (y98:FnL K "_law_number" "_law_number" mJ f28)
  (y99:FnL K "_law_by_doors" "_law_by_doors" kB f29)
  (zca:FnL K "_law_by_house" "_law_by_house" jR f30)
  (zcb:FnL K "_law_word" "_law_word" qV f31)
  (zcc:FnL K "_law_told" "_law_told" qS f32)
  (zcd:K.lookup f33=some ⟨zaq,zan,.func (W.fnOf "law" "law" (dP qM) (cY qM) (aG qM) .none zar zas zat zao zau zav),zap⟩)
  (zce:W.codeIn K zau "law" =true)
  (zcf:W.keepIn K (.ref f33)=true)
  (zcg:FnL K "__init__" "Twice.__init__" iW f47)
  (zch:FnL K "__init__" "NoRoom.__init__" gY f48)
  (zci:FnL K "__init__" "Unknown.__init__" gD f49)
  (zcj:K.lookup f50=some ⟨zaz,zaw,.func (W.fnOf "__init__" "Door.__init__" (dP dS) (cY dS) (aG dS) (.ref T97) zba zbb zbc zax zbd zbe),zay⟩)
  (zck:W.codeIn K zbd "Door.__init__" =true)
  (zcl:W.keepIn K (.ref f50)=true)
  (zcm:K.lookup T97=some ⟨zbg,zbh,.seq #[.none,.int 1 zbf] zbi,zbj⟩)
  (zcn:FnL K "lets" "Door.lets" qW f51)
  (zco:FnL K "is_exit" "Door.is_exit" kX f52)
  (zcp:FnL K "__init__" "Shut.__init__" jV f53)
  (zcq:FnL K "__init__" "Wider.__init__" i9 f54)
  (zcr:K.lookup f55=some ⟨zbn,zbk,.func (W.fnOf "__init__" "House.__init__" (dP dL) (cY dL) (aG dL) (.ref zbt) zbo zbp zbq zbl zbr zbs),zbm⟩)
  (zcs:W.codeIn K zbr "House.__init__" =true)
  (zct:W.keepIn K (.ref f55)=true)
  (zcu:K.lookup zbt=some ⟨zbv,zbw,.seq #[.int 0 zbu] zbx,zby⟩)
  (zcv:FnL K "rooms" "House.rooms" mS f56)
  (zcw:FnL K "doors" "House.doors" mK f57)
  (zcx:FnL K "need_room" "House.need_room" g4 f58)
  (zcy:FnL K "holds" "House.holds" mL f59)
  (zcz:FnL K "found" "House.found" mI f60)
  (zda:FnL K "door" "House.door" oX f61)
  (zdb:FnL K "lets" "House.lets" oV f62)
  (zdc:FnL K "total" "House.total" mO f63)
  (zdd:FnL K "pairs" "House.pairs" mT f64)
  (zde:DCls K C34)
  (zdf:DCls K C35)
  (zdg:DCls K C36)
  (zdh:DCls K C37)
  (zdi:W.specialIn K (.ref C34) "__getattribute__" =some (some (.builtin "type.__getattribute__")))
  (zdj:W.readsIn K C34 (.type "type")=true)
  (zdk:W.findCls K (.ref C34) (.type "type") "__init__" =some (.val (.ref f50)))
  (zdl:W.nsIn K mainGlobals "ValueError" =some none)
  (zdm:W.nsIn K mainGlobals "any" =some none)
  (zdn:W.nsIn K mainGlobals "sorted" =some none)
  (zdo:W.nsIn K mainGlobals "list" =some none)
  (zdp:W.nsIn K mainGlobals "range" =some none)
  (zdq:W.nsIn K mainGlobals "isinstance" =some none)
  (zdr:W.nsIn K mainGlobals "int" =some none)
  (zds:W.nsIn K mainGlobals "str" =some none)
  (zdt:W.nsIn K mainGlobals "all" =some none)
  (zdu:W.nsIn K mainGlobals "dict" =some none)
  (zdv:W.nsIn K mainGlobals "sum" =some none)
  (zdw:W.nsIn K mainGlobals "len" =some none)
  (zdx:W.nsIn K mainGlobals "max" =some none)
  (zdy:W.nsIn K mainGlobals "bool" =some none)
  (zdz:W.nsIn K mainGlobals "LONGEST_NAME" =some (some (.int 8 zbz)))
  (zea:W.excIn K C42 bmV "ValueError.__new__" =true)
  (zeb:ExcK K C42)
  (zec:W.excIn K C40 bmV "ValueError.__new__" =true)
  (zed:ExcK K C40)
  (zee:W.excIn K C39 bmV "ValueError.__new__" =true)
  (zef:ExcK K C39)
  (zeg:W.excIn K C41 bmV "ValueError.__new__" =true)
  (zeh:ExcK K C41)
  (zei:tP K C44 f47=true)
  (zej:ExcK K C44)
  (zek:dQ K C44=true)
  (zel:W.findIn K (.ref C44) "__setattr__" =some (some (.builtin "object.__setattr__")))
  (zem:W.findIn K (.ref C44) "name" =some none)
  (zen:tP K C45 f48=true)
  (zeo:ExcK K C45)
  (zep:dQ K C45=true)
  (zeq:W.findIn K (.ref C45) "__setattr__" =some (some (.builtin "object.__setattr__")))
  (zer:W.findIn K (.ref C45) "name" =some none)
  (zes:tP K C46 f49=true)
  (zet:ExcK K C46)
  (zeu:dQ K C46=true)
  (zev:W.findIn K (.ref C46) "__setattr__" =some (some (.builtin "object.__setattr__")))
  (zew:W.findIn K (.ref C46) "name" =some none)
  (zex:W.exmOne K (.ref C41) (.ref C38)=some true)
  (zey:W.exmOne K (.ref C42) (.ref C38)=some true)
  (zez:W.exmOne K (.ref C46) (.ref C38)=some true)
  (zfa:W.exmOne K (.ref C39) (.ref C38)=some true)
  (zfb:W.exmOne K (.ref C44) (.ref C38)=some true)
  (zfc:W.exmOne K (.ref C45) (.ref C38)=some true)
  (zfd:W.exmOne K (.ref C40) (.ref C38)=some true)
  (zfe:W.kitOne K (.ref C41) (.ref C42)=some false)
  (zff:W.kitOne K (.ref C41) (.ref C46)=some false)
  (zfg:W.kitOne K (.ref C41) (.ref C39)=some false)
  (zfh:W.kitOne K (.ref C41) (.ref C44)=some false)
  (zfi:W.kitOne K (.ref C41) (.ref C45)=some false)
  (zfj:W.kitOne K (.ref C41) (.ref C40)=some false)
  (zfk:W.kitOne K (.ref C41) (.ref C43)=some false)
  (zfl:W.kitOne K (.ref C41) (.type "ValueError")=some true)
  (zfm:W.kitOne K (.ref C42) (.ref C41)=some false)
  (zfn:W.kitOne K (.ref C42) (.ref C46)=some false)
  (zfo:W.kitOne K (.ref C42) (.ref C39)=some false)
  (zfp:W.kitOne K (.ref C42) (.ref C44)=some false)
  (zfq:W.kitOne K (.ref C42) (.ref C45)=some false)
  (zfr:W.kitOne K (.ref C42) (.ref C40)=some false)
  (zfs:W.kitOne K (.ref C42) (.ref C43)=some false)
  (zft:W.kitOne K (.ref C42) (.type "ValueError")=some true)
  (zfu:W.kitOne K (.ref C46) (.ref C41)=some false)
  (zfv:W.kitOne K (.ref C46) (.ref C42)=some false)
  (zfw:W.kitOne K (.ref C46) (.ref C39)=some false)
  (zfx:W.kitOne K (.ref C46) (.ref C44)=some false)
  (zfy:W.kitOne K (.ref C46) (.ref C45)=some false)
  (zfz:W.kitOne K (.ref C46) (.ref C40)=some false)
  (zga:W.kitOne K (.ref C46) (.ref C43)=some false)
  (zgb:W.kitOne K (.ref C46) (.type "ValueError")=some true)
  (zgc:W.kitOne K (.ref C39) (.ref C41)=some false)
  (zgd:W.kitOne K (.ref C39) (.ref C42)=some false)
  (zge:W.kitOne K (.ref C39) (.ref C46)=some false)
  (zgf:W.kitOne K (.ref C39) (.ref C44)=some false)
  (zgg:W.kitOne K (.ref C39) (.ref C45)=some false)
  (zgh:W.kitOne K (.ref C39) (.ref C40)=some false)
  (zgi:W.kitOne K (.ref C39) (.ref C43)=some false)
  (zgj:W.kitOne K (.ref C39) (.type "ValueError")=some true)
  (zgk:W.kitOne K (.ref C44) (.ref C41)=some false)
  (zgl:W.kitOne K (.ref C44) (.ref C42)=some false)
  (zgm:W.kitOne K (.ref C44) (.ref C46)=some false)
  (zgn:W.kitOne K (.ref C44) (.ref C39)=some false)
  (zgo:W.kitOne K (.ref C44) (.ref C45)=some false)
  (zgp:W.kitOne K (.ref C44) (.ref C40)=some false)
  (zgq:W.kitOne K (.ref C44) (.ref C43)=some false)
  (zgr:W.kitOne K (.ref C44) (.type "ValueError")=some true)
  (zgs:W.kitOne K (.ref C45) (.ref C41)=some false)
  (zgt:W.kitOne K (.ref C45) (.ref C42)=some false)
  (zgu:W.kitOne K (.ref C45) (.ref C46)=some false)
  (zgv:W.kitOne K (.ref C45) (.ref C39)=some false)
  (zgw:W.kitOne K (.ref C45) (.ref C44)=some false)
  (zgx:W.kitOne K (.ref C45) (.ref C40)=some false)
  (zgy:W.kitOne K (.ref C45) (.ref C43)=some false)
  (zgz:W.kitOne K (.ref C45) (.type "ValueError")=some true)
  (zha:W.kitOne K (.ref C40) (.ref C41)=some false)
  (zhb:W.kitOne K (.ref C40) (.ref C42)=some false)
  (zhc:W.kitOne K (.ref C40) (.ref C46)=some false)
  (zhd:W.kitOne K (.ref C40) (.ref C39)=some false)
  (zhe:W.kitOne K (.ref C40) (.ref C44)=some false)
  (zhf:W.kitOne K (.ref C40) (.ref C45)=some false)
  (zhg:W.kitOne K (.ref C40) (.ref C43)=some false)
  (zhh:W.kitOne K (.ref C40) (.type "ValueError")=some true) :
  ∃fd:FuncData,(∀(s:Shared) (v:Value),BindsTo s fd ⟨[v],[]⟩ [("_law_script",v)])/\∀base:Heap,K.In base->base.Ns mainGlobals mg->bD l.prog w K mg base CX0 18 fa fd ["_law_script"] (vP K):=by
 have e:=hfa.symm.trans (W.mg_of X G y33);cases e;exact⟨(W.fnOf "law" "law" (dP qM) (cY qM) (aG qM) .none zar zas zat zao zau zav),fun s v=> .of_eq rfl,fun base _ _=>aBI ⟨f0,y67.x1 fun _ _ _ _ _ _ _=>rfl,
  f1,y68.x1 fun _ _ _ _ _ _ _=>rfl,
  f2,y69.x2 fun _ _ _ _ _ _ _ _=>rfl,
  f3,y70.x3 fun _ _ _ _ _ _ _ _ _=>rfl,
  f4,y71.x2 fun _ _ _ _ _ _ _ _=>rfl,
  f5,y72.x1 fun _ _ _ _ _ _ _=>rfl,
  f6,y73.x2 fun _ _ _ _ _ _ _ _=>rfl,
  f7,y74.x2 fun _ _ _ _ _ _ _ _=>rfl,
  f8,y75.x2 fun _ _ _ _ _ _ _ _=>rfl,
  f9,y76.x2 fun _ _ _ _ _ _ _ _=>rfl,
  f10,y77.x1 fun _ _ _ _ _ _ _=>rfl,
  f11,y78.x2 fun _ _ _ _ _ _ _ _=>rfl,
  f12,y79.x2 fun _ _ _ _ _ _ _ _=>rfl,
  f13,y80.x2 fun _ _ _ _ _ _ _ _=>rfl,
  f14,y81.x2 fun _ _ _ _ _ _ _ _=>rfl,
  f15,y82.x3 fun _ _ _ _ _ _ _ _ _=>rfl,
  f16,y83.x2 fun _ _ _ _ _ _ _ _=>rfl,
  f17,y84.x3 fun _ _ _ _ _ _ _ _ _=>rfl,
  f18,y85.x2 fun _ _ _ _ _ _ _ _=>rfl,
  f19,y86.x2 fun _ _ _ _ _ _ _ _=>rfl,
  f20,y87.x2 fun _ _ _ _ _ _ _ _=>rfl,
  f21,y88.x2 fun _ _ _ _ _ _ _ _=>rfl,
  f22,y89.x2 fun _ _ _ _ _ _ _ _=>rfl,
  f23,y90.x2 fun _ _ _ _ _ _ _ _=>rfl,
  f24,_,rM y91 y92 y93,(k7 (ds:=[]) 4 y94 (by rintro us h;obtain _|⟨_,_|⟨_,_|⟨_,_|⟨_,_|⟨_,us⟩⟩⟩⟩⟩:=us<;>first|(cases h;done)|exact⟨_,rfl,rfl⟩)),
  f25,y95.x2 fun _ _ _ _ _ _ _ _=>rfl,
  f26,y96.x2 fun _ _ _ _ _ _ _ _=>rfl,
  f27,y97.x3 fun _ _ _ _ _ _ _ _ _=>rfl,
  f28,y98.x1 fun _ _ _ _ _ _ _=>rfl,
  f29,y99.x2 fun _ _ _ _ _ _ _ _=>rfl,
  f30,zca.x3 fun _ _ _ _ _ _ _ _ _=>rfl,
  f31,zcb.x1 fun _ _ _ _ _ _ _=>rfl,
  f32,zcc.x4 fun _ _ _ _ _ _ _ _ _ _=>rfl,
  fa,_,rM zcd zce zcf,(.all (by rintro us h;obtain _|⟨_,_|⟨_,us⟩⟩:=us<;>first|(cases h;done)|rfl)),
  f47,zcg.x2 fun _ _ _ _ _ _ _ _=>rfl,
  f48,zch.x2 fun _ _ _ _ _ _ _ _=>rfl,
  f49,zci.x2 fun _ _ _ _ _ _ _ _=>rfl,
  f50,_,rM zcj zck zcl,(k7 (ds:=[]) 5 zcm (by rintro us h;obtain _|⟨_,_|⟨_,_|⟨_,_|⟨_,_|⟨_,_|⟨_,us⟩⟩⟩⟩⟩⟩:=us<;>first|(cases h;done)|exact⟨_,rfl,rfl⟩)),
  f51,zcn.x2 fun _ _ _ _ _ _ _ _=>rfl,
  f52,zco.x1 fun _ _ _ _ _ _ _=>rfl,
  f53,zcp.x3 fun _ _ _ _ _ _ _ _ _=>rfl,
  f54,zcq.x4 fun _ _ _ _ _ _ _ _ _ _=>rfl,
  f55,_,rM zcr zcs zct,(k7 (ds:=[]) 6 zcu (by rintro us h;obtain _|⟨_,_|⟨_,_|⟨_,_|⟨_,_|⟨_,_|⟨_,_|⟨_,us⟩⟩⟩⟩⟩⟩⟩:=us<;>first|(cases h;done)|exact⟨_,rfl,rfl⟩)),
  f56,zcv.x1 fun _ _ _ _ _ _ _=>rfl,
  f57,zcw.x1 fun _ _ _ _ _ _ _=>rfl,
  f58,zcx.x2 fun _ _ _ _ _ _ _ _=>rfl,
  f59,zcy.x2 fun _ _ _ _ _ _ _ _=>rfl,
  f60,zcz.x2 fun _ _ _ _ _ _ _ _=>rfl,
  f61,zda.x2 fun _ _ _ _ _ _ _ _=>rfl,
  f62,zdb.x3 fun _ _ _ _ _ _ _ _ _=>rfl,
  f63,zdc.x1 fun _ _ _ _ _ _ _=>rfl,
  f64,zdd.x1 fun _ _ _ _ _ _ _=>rfl,
  W.mg_of X G y0,
  W.mg_of X G y1,
  W.mg_of X G y2,
  W.mg_of X G y3,
  W.mg_of X G y4,
  W.mg_of X G y5,
  W.mg_of X G y6,
  W.mg_of X G y7,
  W.mg_of X G y8,
  W.mg_of X G y9,
  W.mg_of X G y10,
  W.mg_of X G y11,
  W.mg_of X G y12,
  W.mg_of X G y13,
  W.mg_of X G y14,
  W.mg_of X G y15,
  W.mg_of X G y16,
  W.mg_of X G y17,
  W.mg_of X G y18,
  W.mg_of X G y19,
  W.mg_of X G y20,
  W.mg_of X G y21,
  W.mg_of X G y22,
  W.mg_of X G y23,
  W.mg_of X G y24,
  W.mg_of X G y25,
  W.mg_of X G y26,
  W.mg_of X G y27,
  W.mg_of X G y28,
  W.mg_of X G y29,
  W.mg_of X G y30,
  W.mg_of X G y31,
  W.mg_of X G y32,
  W.mg_of X G y33,
  ⟨[.none],.cons rfl (.nil),k7 3 y94 (by rintro us h;obtain _|⟨_,_|⟨_,_|⟨_,_|⟨_,us⟩⟩⟩⟩:=us<;>first|(cases h;done)|exact⟨_,rfl,rfl⟩)⟩,
  ⟨[.int 1 zbf],.cons ⟨_,rfl⟩ (.nil),k7 4 zcm (by rintro us h;obtain _|⟨_,_|⟨_,_|⟨_,_|⟨_,_|⟨_,us⟩⟩⟩⟩⟩:=us<;>first|(cases h;done)|exact⟨_,rfl,rfl⟩)⟩,
  ⟨[.none,.int 1 zbf],.cons rfl (.cons ⟨_,rfl⟩ (.nil)),k7 3 zcm (by rintro us h;obtain _|⟨_,_|⟨_,_|⟨_,_|⟨_,us⟩⟩⟩⟩:=us<;>first|(cases h;done)|exact⟨_,rfl,rfl⟩)⟩,
  ⟨[.int 0 zbu],.cons ⟨_,rfl⟩ (.nil),k7 5 zcu (by rintro us h;obtain _|⟨_,_|⟨_,_|⟨_,_|⟨_,_|⟨_,_|⟨_,us⟩⟩⟩⟩⟩⟩:=us<;>first|(cases h;done)|exact⟨_,rfl,rfl⟩)⟩,
  C34,W.mg_of X G y34,
  C35,W.mg_of X G y35,
  C36,W.mg_of X G y36,
  C37,W.mg_of X G y37,
  C38,W.mg_of X G y38,
  C39,W.mg_of X G y39,
  C40,W.mg_of X G y40,
  C41,W.mg_of X G y41,
  C42,W.mg_of X G y42,
  C43,W.mg_of X G y43,
  C44,W.mg_of X G y44,
  C45,W.mg_of X G y45,
  C46,W.mg_of X G y46,
  zde,
  y47,
  y51,
  y52,
  zdf,
  y48,
  y53,
  zdg,
  y49,
  y54,
  zdh,
  y50,
  y55,
  y56,
  y57,
  y58,
  y59,
  y60,
  y61,
  y62,
  y63,
  ⟨zdi,zdj,zdk⟩,
  zea,
  zeb,
  zec,
  zed,
  zee,
  zef,
  zeg,
  zeh,
  zei,⟨zej,zek,zel⟩,zem,
  zen,⟨zeo,zep,zeq⟩,zer,
  zes,⟨zet,zeu,zev⟩,zew,
  zex,
  zey,
  zez,
  zfa,
  zfb,
  zfc,
  zfd,
  iY,
  zfe,
  zff,
  zfg,
  zfh,
  zfi,
  zfj,
  zfk,
  zfl,
  zfm,
  iY,
  zfn,
  zfo,
  zfp,
  zfq,
  zfr,
  zfs,
  zft,
  zfu,
  zfv,
  iY,
  zfw,
  zfx,
  zfy,
  zfz,
  zga,
  zgb,
  zgc,
  zgd,
  zge,
  iY,
  zgf,
  zgg,
  zgh,
  zgi,
  zgj,
  zgk,
  zgl,
  zgm,
  zgn,
  iY,
  zgo,
  zgp,
  zgq,
  zgr,
  zgs,
  zgt,
  zgu,
  zgv,
  zgw,
  iY,
  zgx,
  zgy,
  zgz,
  zha,
  zhb,
  zhc,
  zhd,
  zhe,
  zhf,
  iY,
  zhg,
  zhh,
  W.mg_none_of X G zdl,
  W.mg_none_of X G zdm,
  W.mg_none_of X G zdn,
  W.mg_none_of X G zdo,
  W.mg_none_of X G zdp,
  W.mg_none_of X G zdq,
  W.mg_none_of X G zdr,
  W.mg_none_of X G zds,
  W.mg_none_of X G zdt,
  W.mg_none_of X G zdu,
  W.mg_none_of X G zdv,
  W.mg_none_of X G zdw,
  W.mg_none_of X G zdx,
  W.mg_none_of X G zdy,
  ⟨zbz,W.mg_of X G zdz⟩⟩⟩
theorem walk {l:W.OpenLaw}{q:Program}{loose:List Str}{XP:(Str->Option Value)->Heap->Prop}{YP:World->Heap->Prop}{d:DefRec}{K:Params->W.Frag} (hn:l.most=some 63) (hdf:d.params.defaults=[])
  (hY:∀(w:World) (h:Heap),YP w h->(K w.params).In h)
  (F:∀(w:World) (mg:Str->Option Value) (fa:Addr) (h:Heap),(K w.params).In h->h.Ns mainGlobals mg->mg d.name=some (.ref fa) →
   ∃fd:FuncData,(∀(s:Shared) (u:Value),BindsTo s fd ⟨[u],[]⟩ [("_law_script",u)])/\∀base:Heap,(K w.params).In base->base.Ns mainGlobals mg->bD l.prog w (K w.params) mg base CX0 18 fa fd ["_law_script"] (vP (K w.params))) :
  W.WalkO q loose XP YP l.row.toRowW d [] (fun f vs=>PySem.call f vs) :=
 L2.walk_of (n:=63) (k:=18) (x:= "_law_script") (CX:=fun _=>CX0) (sp:=fun w=>vP (K w.params)) hn (by decide) hdf ⟨rfl,by decide,by decide⟩ hY F (fun _ _ a ns hl _ hS=>⟨a,ns,rfl,hS,hl,fun _=>rfl⟩) fun _ _ _ _ _ z=>z
end Prf
open PySem PySem.W PyProof.Rows
set_option maxRecDepth 100000 in
set_option maxHeartbeats 0 in
theorem PySem.Challenge.cw_firstout_k63_anew_refused_holds : PySem.Challenge.rw_firstout_k63_anew_refused.Holds := by
 w_on;o_law;k_head;(case hw=>w_witness2)
 k_fill
 refine Prf.walk (l:=PySem.Challenge.rw_firstout_k63_anew_refused) rfl rfl (fun w h Y=>W.kIn_of Y) ?F
 case F =>
  intro w mg fa h KX G hmg;refine' Prf.all_mk KX G hmg ?_ ?_ ?_ ?_ ?_ ?_ ?_ ?_ ?_ ?_ ?_ ?_ ?_ ?_ ?_ ?_ ?_ ?_ ?_ ?_ ?_ ?_ ?_ ?_ ?_ ?_ ?_ ?_ ?_ ?_ ?_ ?_ ?_ ?_ ?_ ?_ ?_ ?_ ?_ ?_ ?_ ?_ ?_ ?_ ?_ ?_ ?_ ?_ ?_ ?_ ?_ ?_ ?_ ?_ ?_ ?_ ?_ ?_ ?_ ?_ ?_ ?_ ?_ ?_ ?_ ?_ ?_ ?_ ?_ ?_ ?_ ?_ ?_ ?_ ?_ ?_ ?_ ?_ ?_ ?_ ?_ ?_ ?_ ?_ ?_ ?_ ?_ ?_ ?_ ?_ ?_ ?_ ?_ ?_ ?_ ?_ ?_ ?_ ?_ ?_ ?_ ?_ ?_ ?_ ?_ ?_ ?_ ?_ ?_ ?_ ?_ ?_ ?_ ?_ ?_ ?_ ?_ ?_ ?_ ?_ ?_ ?_ ?_ ?_ ?_ ?_ ?_ ?_ ?_ ?_ ?_ ?_ ?_ ?_ ?_ ?_ ?_ ?_ ?_ ?_ ?_ ?_ ?_ ?_ ?_ ?_ ?_ ?_ ?_ ?_ ?_ ?_ ?zea ?_ ?zec ?_ ?zee ?_ ?zeg ?_ ?zei ?_ ?zek ?_ ?_ ?zen ?_ ?zep ?_ ?_ ?zes ?_ ?zeu ?_ ?_ ?_ ?_ ?_ ?_ ?_ ?_ ?_ ?_ ?_ ?_ ?_ ?_ ?_ ?_ ?_ ?_ ?_ ?_ ?_ ?_ ?_ ?_ ?_ ?_ ?_ ?_ ?_ ?_ ?_ ?_ ?_ ?_ ?_ ?_ ?_ ?_ ?_ ?_ ?_ ?_ ?_ ?_ ?_ ?_ ?_ ?_ ?_ ?_ ?_ ?_ ?_ ?_ ?_ ?_ ?_ ?_ ?_ ?_ ?_ ?_ ?_ ?_ ?_
  any_goals first|k_is|(apply L2.FnL.mk<;>k_is)|exact L2.FnL.mk (by k_is) (by k_is) (by k_is)|(apply L2.Meth.mk<;>k_is)|(apply L2.Mk.mk<;>k_is)|(apply L2.exm_mk<;>k_is)|(apply L2.kit_ne<;>first|k_is|rfl)|(apply L2.kit_vt L2.kitMeta_ValueError;k_is)|(apply L2.ExcK.mk<;>first|k_is|exact⟨_,by k_is⟩)|(refine' Prf.DCls.mk (L2.ICls.mk (L2.Cls.mk ?_ ?_ ?_ ?_) ?_ ?_ ?_ ?_) ?_<;>first|k_is|kernel_rfl)|skip
  (case zea=>k_exc)
  (case zec=>k_exc)
  (case zee=>k_exc)
  (case zeg=>k_exc)
  (case zei=>kernel_rfl)
  (case zek=>kernel_rfl)
  (case zen=>kernel_rfl)
  (case zep=>kernel_rfl)
  (case zes=>kernel_rfl)
  (case zeu=>kernel_rfl)
