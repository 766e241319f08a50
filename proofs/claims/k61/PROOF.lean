import PyProof.Rows.All
import Wide.All
import OpenK.AllK
import Wide.FinOn
import Lean
import PyProof.EqAt
import PyProof.EqKinds
import PyProof.TupleCall
import KE.KSortTup
import PyProof.Rows.DictUnroll
import PyProof.DictItems
import KE.LcSums
import PyProof.IsiH_list
import KE.KDictOf
import PyProof.DictWalks
import PyProof.ListRange
import PyProof.EnumStmt
import PyProof.EnumMake
import KE.KDictSum
import PyProof.StrOps2
import PyProof.Rows.CallKwBuiltin
import KE.KRevSl
import PySem.Challenge.RW_firstout_k61_the_house_at_a_turn
namespace PySem.W.Fast
def tw10763344074572534048:=()
def tw15583729398607198752:=()
def tw10040319778387230466:=()
def tw17681070456976231875:=()
def tw13156149377194012198:=()
def tw4660751992236378984:=()
def tw7945248621913141865:=()
def tw16544930669815745643:=()
def tw12231220962634857451:=()
def tw12787428746814919788:=()
def tw10983579252578621229:=()
def tw10208785104461326157:=()
def tw11441798190415987597:=()
def tw10261723627602147446:=()
def tw9221290423840207350:=()
def tw9762935580695449494:=()
def tw13921462488301046710:=()
def tw1886686407464689719:=()
def tw10385430495864546999:=()
def tw15491506305964377084:=()
def tw11381534962111663422:=()
def tw16591298528380584574:=()
def tw13141967140593415231:=()
def tw4594790556813309535:=()
def tw2690789062686016760:=()
def tw7972120139598644702:=()
def tw14004354724102217622:=()
def tw10824290094613272644:=()
def tw42268243320333819:=()
def tw8648636863064757563:=()
def tw2064307242090082893:=()
def tw13298967972039718112:=()
def tw10339811230733259588:=()
def tw13305172190479499339:=()
def tw13693757030045907578:=()
def tw6006815619948614023:=()
def tw14185852471042739459:=()
def tw6439975880504341010:=()
def tw8298815063795574400:=()
def tw17927242677966146275:=()
def tw10293816995483988246:=()
def tw9545532100537210130:=()
def tw2715422676080100553:=()
def tw14763568947445255306:=()
def tw7435299973627478029:=()
def tw6444530286519823644:=()
def tw14397170800832425830:=()
def tw12428068455914828601:=()
def tw5617113239771039052:=()
def tw3611101097530198867:=()
def tw9417987578307410362:=()
def tw5506047267712976901:=()
def tw13540145869295930284:=()
def tw7764042648466636774:=()
def tw4434921873677293033:=()
def tw1375283140690555329:=()
def tw1941947022760634199:=()
def tw5655522874386451421:=()
def tw13017573297551406752:=()
def tw10374946177111773127:=()
def tw12604037942381787390:=()
def tw3144371722420355136:=()
def tw9436150955830023719:=()
def tw9022834421426069769:=()
def tw350334505507414817:=()
def tw11005604672136519632:=()
def tw6947214660138815269:=()
def tw9347703401772911778:=()
def tw17621782664872761242:=()
def tw8772570661375844438:=()
def tw2424205856265846296:=()
def tw14093347730829487668:=()
def tw3669528196882060045:=()
def tw15511139472446299648:=()
def tw16051893710720816230:=()
def tw8493373681453280308:=()
def tw13369547529486497553:=()
def tw7233204709277346377:=()
def tw17093585005631054988:=()
def tw15497232168079211708:=()
def tw4313886676595259581:=()
def tw5542183293229928112:=()
def tw740174615420431400:=()
def tw14124662421784688156:=()
def tw7633586004973225892:=()
def tw6931213841079136767:=()
def tw15694515074104001685:=()
def tw10490880762068906003:=()
def tw457076846481387734:=()
def tw9143406285756120357:=()
def tw9040881451425585026:=()
def tw5295423673273185601:=()
def tw7909217156507768056:=()
def tw11589214237275372708:=()
def tw2519248067051025803:=()
def tw142195381278118619:=()
def tw9944556937279250111:=()
def tw990591173557568989:=()
def tw5964409619728206743:=()
def tw4471946674237025738:=()
def tw4360226285771054923:=()
def tw10802516274308520598:=()
def tw17318903885934551351:=()
def tw15724713092861848641:=()
def tw8802261898622415709:=()
def tw783143441141074021:=()
def tw792445125782741785:=()
def tw5372353985044985715:=()
def tw3051767665513737894:=()
def tw4397425579566553573:=()
def tw6788199347614689088:=()
def tw17999363659899610696:=()
def tw10843797746321869157:=()
def tw11214200925617912779:=()
def tw6155642082197055172:=()
def tw13907965069800947583:=()
def tw5818436143575255887:=()
def tw16184868923357907801:=()
def tw3550083495493614394:=()
def tw15119554463197117815:=()
def tw8027165856156535371:=()
def tw14097339397846243811:=()
def tw6456238754928951195:=()
def tw3765017095483252648:=()
def tw15778986672250191417:=()
def tw11857322624009576421:=()
def tw15952898143789472238:=()
def tw3750756444160871328:=()
def tw10651374005822589205:=()
def tw9652885242980800308:=()
def tw2724012014026132139:=()
def tw13022289046335811917:=()
def tw17321328880705571747:=()
def tw1705330036955977345:=()
def tw12590867054589502714:=()
def tw9262449730673173906:=()
def tw8021284633007025665:=()
def tw2395799575388360615:=()
def tw16736660415119098243:=()
def tw7888221072877683611:=()
def tw11093910236443823009:=()
def tw5731876990836525023:=()
def tw6006768950511135705:=()
def tw18035182864939429579:=()
def tw15102207671458297940:=()
def tw13209793552362855264:=()
def tw5098892255817126246:=()
def tw815807877222824085:=()
def tw1630183802589446395:=()
def tw6501433474724491839:=()
def tw8375655046285446262:=()
def tw10173194618431029180:=()
def tw8016247341803863854:=()
def tw17375864043785213853:=()
def tw16182276834160173378:=()
def tw4833806877280800210:=()
def tw117996773554169431:=()
def tw15263558484841678452:=()
def tw11300576852472745841:=()
def tw5845111388386260043:=()
def tw11973788653247647898:=()
def tw10937974017246249833:=()
def tw9486023376286838257:=()
def tw8647358441482831129:=()
def tw9291283310644321295:=()
def tw9227766982713275924:=()
def tw2841050109816821562:=()
def tw10061552379307331353:=()
def tw17968121905501969325:=()
def tw7376575623074072389:=()
def tw18234740831575400723:=()
def tw9940313307185449355:=()
def tw16741321853038756502:=()
def tw18431662044848265301:=()
def tw14685878536081530753:=()
def tw4410867018235994850:=()
def tw13449438671267194633:=()
def tw18391579648020570978:=()
def tw775225283959993295:=()
def tw4739278770758676936:=()
def tw2800403464445835938:=()
def tw7230028183168930130:=()
def tw10524195460985655912:=()
def tw729251981103549314:=()
def tw16515301133023282410:=()
def tw2714979300855920097:=()
def tw7587521135890935710:=()
def tw8871285983687094197:=()
def tw8996854001826060937:=()
def tw7986385958240299437:=()
def tw13433414043962089244:=()
def tw4191754763643974912:=()
def tw11836514203511575982:=()
def tw8339028629024906797:=()
def tw9749498634362345309:=()
def tw13090872044085684791:=()
def tw13437681481679914576:=()
def tw7944832560834544331:=()
def tw7741441256279619455:=()
def tw3319519978988369482:=()
def tw9493149458815799164:=()
def tw2672316453486284688:=()
def tw1701158849268338138:=()
def tw17859538282256578876:=()
def tw6983966227517355480:=()
def tw14907923917311965958:=()
def tw17773017173790870310:=()
def tw4725590874204128470:=()
def tw10018719237293698235:=()
def tw7443795282886530734:=()
def tw12815294746513783587:=()
end PySem.W.Fast
set_option compiler.extract_closed false
local macro_rules| `(tactic| walk_at"oi")=> `(tactic| first|exact Or.inl rfl|exact Or.inr rfl)
set_option Elab.async false
set_option linter.all false
set_option maxRecDepth 100000
namespace L2
open PySem PySem.Spec PyProof.Rows
abbrev Key:=Sum Int Str
def yM:Key->Value->Bool
 | .inl k,v=>Value.isInt k v
 | .inr x,v=>Value.isStrOf x v
def aER (w:World):Key->Int
 | .inl k=>hashInt k
 | .inr x=>hashStr w x
theorem dO:∀{k:Key}{v:Value},yM k v=true->(∃i t,k=Sum.inl i/\v=Value.int i t)∨(∃x t,k=Sum.inr x/\v=Value.str x t)
 | .inl i,v,h=>by
  obtain⟨t,e⟩:=Value.isInt_shape (k:=i) (v:=v) h;exact .inl ⟨i,t,rfl,e⟩
 | .inr x,v,h=>by
  obtain⟨t,e⟩:=Value.isStrOf_shape (x:=x) (v:=v) h;exact .inr ⟨x,t,rfl,e⟩
theorem UC (i:Int)(t:Tok):yM (.inl i) (.int i t)=true:=by simp[yM,Value.isInt]
theorem UA (x:Str)(t:Tok):yM (.inr x) (.str x t)=true:=by simp[yM,Value.isStrOf]
theorem aBL (a b:Int):decide ((Sum.inl a:Key)=Sum.inl b)=(a==b):=by
 by_cases e:a=b
 ·subst e;simp
 ·have h:¬(Sum.inl a:Key)=Sum.inl b:=fun q=>e (Sum.inl.inj q);rw[decide_eq_false h];exact(beq_eq_false_iff_ne.mpr e).symm
theorem aCF (a b:Str):decide ((Sum.inr a:Key)=Sum.inr b)=decide (a=b):=by
 by_cases e:a=b
 ·subst e;simp
 ·have h:¬(Sum.inr a:Key)=Sum.inr b:=fun q=>e (Sum.inr.inj q);rw[decide_eq_false h,decide_eq_false e]
theorem aCq (a:Int)(b:Str):decide ((Sum.inl a:Key)=Sum.inr b)=false:=decide_eq_false (fun q=>nomatch q)
theorem aCk (a:Str)(b:Int):decide ((Sum.inr a:Key)=Sum.inl b)=false:=decide_eq_false (fun q=>nomatch q)
def bQ (prog:Program)(w:World):PySem.KeyKind prog w Key where
 is:=yM
 hash:=aER w
 inj:=fun v a b ha hb=>by
  rcases dO ha with⟨i,t,rfl,rfl⟩|⟨x,t,rfl,rfl⟩
  ·rcases dO hb with⟨j,u,rfl,e⟩|⟨y,u,rfl,e⟩
   ·injection e with e1 _;rw[e1]
   ·exact nomatch e
  ·rcases dO hb with⟨j,u,rfl,e⟩|⟨y,u,rfl,e⟩
   ·exact nomatch e
   ·injection e with e1 _;rw[e1]
 byValue:=fun k v h=>by
  rcases dO h with⟨i,t,rfl,rfl⟩|⟨x,t,rfl,rfl⟩<;>rfl
 pyHash:=fun hv h=>by
  rcases dO hv with⟨i,t,rfl,rfl⟩|⟨x,t,rfl,rfl⟩
  ·exact wpAny_pyHash_int h
  ·exact wpAny_pyHash_str h
 eqBool:=fun hu hv h=>by
  rcases dO hu with⟨i,t,rfl,rfl⟩|⟨x,t,rfl,rfl⟩
  ·rcases dO hv with⟨j,u,rfl,rfl⟩|⟨y,u,rfl,rfl⟩
   ·rw[aBL]at h;exact wpAny_eqBool_int h
   ·rw[aCq]at h;exact SeqAt.EqAt.int_str i t y u _ _ _ _ h
  ·rcases dO hv with⟨j,u,rfl,rfl⟩|⟨y,u,rfl,rfl⟩
   ·rw[aCk]at h;exact SeqAt.EqAt.str_int x t j u _ _ _ _ h
   ·rw[aCF]at h;exact wpAny_eqBool_str h
 «strs»:=fun k x t v h=>by
  rcases dO h with⟨i,u,rfl,e⟩|⟨y,u,rfl,e⟩
  ·exact nomatch e
  ·injection e with e1 _;subst e1;cases v<;>rfl
theorem L9 (prog:Program)(w:World)(i:Int)(t:Tok):(bQ prog w).is (.inl i) (.int i t)=true:=UC i t
theorem MF (prog:Program)(w:World)(x:Str)(t:Tok):(bQ prog w).is (.inr x) (.str x t)=true:=UA x t
end L2
namespace L2
open PySem PySem.Spec PyProof.Rows
inductive V where
 | non|bl (b:Bool)|int (i:Int)|str (x:Str)|byt (b:Array UInt8)|flt (b:UInt64)|ref (a:Addr)|ty (n:String)
 deriving DecidableEq
def RelV:V->Value->Prop
 | .non,u=>u=Value.none
 | .bl b,u=>u=Value.bool b
 | .int i,u=>∃t,u=Value.int i t
 | .str x,u=>∃t,u=Value.str x t
 | .byt b,u=>∃t,u=Value.bytes b t
 | .flt b,u=>∃t,u=Value.float b t
 | .ref a,u=>u=Value.ref a
 | .ty n,u=>u=Value.type n
abbrev Vals:List V->List Value->Prop:=Paired RelV
theorem Vals.length {xs:List V}{us:List Value} (r:Vals xs us):xs.length=us.length:=Paired.length r
theorem Vals.get:∀{xs:List V}{us:List Value}{i:Nat}{x:V},Vals xs us->xs[i]? =some x->∃u,us[i]? =some u/\RelV x u
 | _,_,_,_,.nil,e=>by simp at e
 | _,_,0,_,.cons r _,e=>by simp at e;subst e;exact⟨_,rfl,r⟩
 | _,_,i+1,x,.cons _ t,e=>by
  obtain⟨u,h1,h2⟩:=Vals.get (i:=i) (x:=x) t (by simpa using e);exact⟨u,by simpa using h1,h2⟩
theorem Vals.append:∀{xs ys:List V}{us ws:List Value},Vals xs us->Vals ys ws->Vals (xs++ys) (us++ws)
 | _,_,_,_,.nil,s=>s
 | _,_,_,_,.cons r t,s=> .cons r (Vals.append t s)
theorem Vals.take:∀{xs:List V}{us:List Value} (n:Nat),Vals xs us->Vals (xs.take n) (us.take n)
 | _,_,0,_=> .nil
 | _,_,_+1,.nil=> .nil
 | _,_,n+1,.cons r t=> .cons r (Vals.take n t)
theorem Vals.drop:∀{xs:List V}{us:List Value} (n:Nat),Vals xs us->Vals (xs.drop n) (us.drop n)
 | _,_,0,r=>r
 | _,_,_+1,.nil=> .nil
 | _,_,n+1,.cons _ t=>Vals.drop n t
def RelO:Option V->Option Value->Prop
 | some v,some u=>RelV v u
 | none,none=>True
 | _,_=>False
def KV {κ:Type}:List (κ×V)->List (κ×Value)->Prop:=Paired fun (p:κ×V) (q:κ×Value)=>p.1=q.1/\RelV p.2 q.2
def kV:Key->V
 | .inl i=> .int i
 | .inr x=> .str x
inductive HO where
  | lst (xs:List V)
  | tup (xs:List V)
  | dK (kvs:List (Key×V))|dT (kvs:List (List Key×V))
  | set (S:Int->Bool) (n:Nat)
  | ins (C dx:Addr) (fs:List (Str×V))
  | own (x:Addr)
  | xd (fs:List (Str×V))
  | met (f x:Addr)
  | rng (lo hi:Int)
  | frz (o:Obj) (u:HO)
  | tbl (ps:Array Value)
  | ext (φ:Heap->Prop)
abbrev Hp:=Addr->Option HO
def upd (H:Hp)(a:Addr)(o:HO):Hp:=fun b=>if b=a then some o else H b
theorem bE {H:Hp}{a:Addr}{o:HO}:upd H a o a=some o:=by unfold upd;rw[if_pos rfl]
theorem aS {H:Hp}{a b:Addr}{o:HO} (h:b≠a):upd H a o b=H b:=by unfold upd;rw[if_neg h]
theorem aAy {H:Hp}{a:Addr}{o u:HO}:upd (upd H a o) a u=upd H a u:=by
 funext b;unfold upd;split<;>rfl
theorem aDY {H:Hp}{a b:Addr}{o u:HO} (h:H a=some o) (h':H b=some u) (d:o≠u):a≠b:=by
 intro e;subst e;rw[h]at h';exact d (Option.some.inj h')
theorem bJ {H:Hp}{a b:Addr}{o:HO} (h:H a=some o) (h':H b=none):a≠b:=by
 intro e;subst e;rw[h]at h';cases h'
section
variable (P:Program)(w:World)
def ObjOk (H:Hp)(h:Heap)(a:Addr):HO->Prop
 | .lst xs=>xs.length<=sizeLine/\∃(its:List Value) (n:Nat),Vals xs its/\h.get? a=some { cls:= .type "list",data:= .seq its.toArray n }
 | .tup xs=>xs.length<=sizeLine/\∃its:List Value,Vals xs its/\IsTup h a its.toArray
 | .dK kvs=>kvs.length<=sizeLine/\(a==sysModules)=false/\∃vs,KV kvs vs/\h.DictOf (bQ P w) a vs
 | .dT kvs=>kvs.length<=sizeLine/\(a==sysModules)=false/\∃xs:List (List Key×Addr×Value),
   Paired (fun (p:List Key×V) (q:List Key×Addr×Value)=>p.1=q.1/\H q.2.1=some (.tup (p.1.map kV))/\RelV p.2 q.2.2) kvs xs ∧
   ∃o es ep,h.get? a=some o/\o.ExactDict/\o.data= .dict es ep/\es.toList=xs.map (entryOfKey (tupleKind (bQ P w)))/\(xs.map (·.1)).Nodup
 | .set S n=>h.SetOf (intKind P w) a S n
 | .ins C dx fs=>H dx=some (.own a)/\fs.length<=1000/\dx≠a/\h.get? a=some (PySem.W.instObj C dx) ∧
   ∃mA,h.Ns1 dx mA/\(∀f,RelO (fs.lookup f) (mA f))/\PySem.Within mA (fs.map (·.1))
 | .own _=>∃o,h.get? a=some o
 | .xd fs=>∃mA,h.Ns1 a mA/\∀f,RelO (fs.lookup f) (mA f)
 | .rng lo hi=>∃t u v,h.get? a=some { cls:= .type "range",data:= .fields #[.int lo t,.int hi u,.int 1 v] }
 | .frz o u=>h.get? a=some o/\ObjOk H h a u
 | .tbl ps=>h.get? a=some { cls:= .none,data:= .fields ps }
 | .met f x=>h.get? a=some (PySem.W.methodObj (.ref f) (.ref x))
 | .ext φ=>φ h/\(∃o,h.get? a=some o)/\∀h1 h2:Heap,φ h1->(∀o,h1.get? a=some o->h2.get? a=some o)->φ h2
def HOk (H:Hp)(h:Heap):Prop:=∀a o,H a=some o->ObjOk P w H h a o
end
section
variable {P:Program}{w:World}{H H':Hp}{h h':Heap}{a:Addr}{o:HO}
theorem ObjOk.lt (x:ObjOk P w H h a o):a<h.objs.size:=by
 cases o with
 | lst xs=>obtain⟨_,_,_,_,e⟩:=x;exact Heap.lt_size e
 | tup xs=>obtain⟨_,_,_,p⟩:=x;exact p.lt
 | dK kvs=>obtain⟨_,_,_,_,o,_,_,e,_⟩:=x;exact Heap.lt_size e
 | dT kvs=>obtain⟨_,_,_,_,o,_,_,e,_⟩:=x;exact Heap.lt_size e
 | set S n=>obtain⟨o,_,_,_,e,_⟩:=x;exact Heap.lt_size e
 | ins C dx fs=>obtain⟨_,_,_,e,_⟩:=x;exact Heap.lt_size e
 | own y=>obtain⟨_,e⟩:=x;exact Heap.lt_size e
 | xd fs=>obtain⟨_,⟨_,_,_,e,_⟩,_⟩:=x;exact Heap.lt_size e
 | rng lo hi=>obtain⟨_,_,_,e⟩:=x;exact Heap.lt_size e
 | frz ob u=>obtain⟨e,_⟩:=x;exact Heap.lt_size e
 | tbl ps=>exact Heap.lt_size (show h.get? a=some _ from x)
 | met f y=>exact Heap.lt_size (show h.get? a=some _ from x)
 | ext φ=>obtain⟨_,⟨_,e⟩,_⟩:=x;exact Heap.lt_size e
theorem Paired.mapP {α β:Type}{F G:α->β->Prop}:∀{l₁:List α}{l₂:List β},Paired F l₁ l₂->(∀a b,F a b->G a b)->Paired G l₁ l₂
 | _,_,.nil,_=> .nil
 | _,_,.cons r t,f=> .cons (f _ _ r) (Paired.mapP t f)
theorem Paired.imp' {α β:Type}{F G:α->β->Prop} (f:∀a b,F a b->G a b) {l₁:List α}{l₂:List β} (r:Paired F l₁ l₂):Paired G l₁ l₂:=Paired.mapP r f
theorem ObjOk.stay (x:ObjOk P w H h a o)(k:∀b u,(b=a∨H b=some (.own a))->h.get? b=some u->h'.get? b=some u)
  (ho:∀b,H b=some (.own a)->H' b=some (.own a))(ht:∀b xs,H b=some (.tup xs)->H' b=some (.tup xs)):ObjOk P w H' h' a o:=by
 induction o with
 | lst xs=>obtain⟨z,its,n,r,e⟩:=x;exact⟨z,its,n,r,k _ _ (.inl rfl) e⟩
 | tup xs=>obtain⟨z,its,r,ob,e,c⟩:=x;exact⟨z,its,r,ob,k _ _ (.inl rfl) e,c⟩
 | dK kvs=>obtain⟨z,y,vs,r,ob,es,ep,e,c⟩:=x;exact⟨z,y,vs,r,ob,es,ep,k _ _ (.inl rfl) e,c⟩
 | dT kvs =>
  obtain⟨z,y,xs,r,ob,es,ep,e,c⟩:=x;exact⟨z,y,xs,Paired.mapP r fun p q z=>⟨z.1,ht _ _ z.2.1,z.2.2⟩,ob,es,ep,k _ _ (.inl rfl) e,c⟩
 | set S n=>obtain⟨ob,es,ep,t,e,c⟩:=x;exact⟨ob,es,ep,t,k _ _ (.inl rfl) e,c⟩
 | ins C dx fs =>
  obtain⟨d,z,ne,e,mA,⟨od,es,ep,e2,c⟩,r⟩:=x;exact⟨ho _ d,z,ne,k _ _ (.inl rfl) e,mA,⟨od,es,ep,k _ _ (.inr d) e2,c⟩,r⟩
 | own y=>obtain⟨ob,e⟩:=x;exact⟨ob,k _ _ (.inl rfl) e⟩
 | xd fs=>obtain⟨mA,⟨od,es,ep,e,c⟩,r⟩:=x;exact⟨mA,⟨od,es,ep,k _ _ (.inl rfl) e,c⟩,r⟩
 | rng lo hi=>obtain⟨t,u,v,e⟩:=x;exact⟨t,u,v,k _ _ (.inl rfl) e⟩
 | frz ob u ih=>obtain⟨e,q⟩:=x;exact⟨k _ _ (.inl rfl) e,ih q⟩
 | tbl ps =>
  have e:h.get? a=some { cls:= .none,data:= .fields ps }:=x;show h'.get? a=some { cls:= .none,data:= .fields ps };exact k a _ (.inl rfl) e
 | met f y =>
  have e:h.get? a=some (PySem.W.methodObj (.ref f) (.ref y)):=x;show h'.get? a=some (PySem.W.methodObj (.ref f) (.ref y));exact k a _ (.inl rfl) e
 | ext φ=>obtain⟨p,⟨o,e⟩,st⟩:=x;exact⟨st _ _ p fun o q=>k _ _ (.inl rfl) q,⟨o,k _ _ (.inl rfl) e⟩,st⟩
theorem HOk.lt (x:HOk P w H h)(e:H a=some o):a<h.objs.size:=(x a o e).lt
theorem HOk.fresh (x:HOk P w H h)(e:h.objs.size<=a):H a=none:=by
 cases q:H a with
 | none=>rfl
 | some u=>exact absurd (Nat.lt_of_lt_of_le (x.lt q) e) (Nat.lt_irrefl _)
theorem HOk.kept (x:HOk P w H h)(k:∀b u,h.get? b=some u->h'.get? b=some u):HOk P w H h':=fun a o e =>
 (x a o e).stay (fun b u _ q=>k b u q) (fun _ q=>q) fun _ _ q=>q
theorem HOk.laid (x:HOk P w H h)(k:∀b u,h.get? b=some u->h'.get? b=some u)(hp:h.objs.size<=a)(new:ObjOk P w (upd H a o) h' a o):HOk P w (upd H a o) h':=fun b u e=>by
 have hn:=x.fresh hp
 by_cases hb:b=a
 ·subst hb;rw[bE]at e;cases e;exact new
 ·rw[aS hb]at e;exact(x b u e).stay (fun c v _ q=>k c v q) (fun c q=>by rw[aS (bJ q hn)];exact q) fun c xs q=>by rw[aS (bJ q hn)];exact q
end
def Rd (H:Hp)(a:Addr)(u:HO):Prop:=H a=some u∨∃o,H a=some (.frz o u)
theorem Rd.ok {P:Program}{w:World}{H:Hp}{h:Heap}{a:Addr}{u:HO} (r:Rd H a u) (x:HOk P w H h):ObjOk P w H h a u:=by
 rcases r with r|⟨o,r⟩
 ·exact x a u r
 ·obtain⟨_,q⟩:=x a _ r;exact q
def Mut:Option HO->Prop
 | some (.lst _)=>True
 | some (.dK _)=>True
 | some (.dT _)=>True
 | some (.set _ _)=>True
 | some (.ins _ _ _)=>True
 | some (.ext _)=>True
 | _=>False
section
variable {P:Program}{w:World}{H:Hp}{h h':Heap}{x e:Addr}{o':HO}
theorem HOk.write (ok:HOk P w H h)(mu:Mut (H x))(he:e=x∨H e=some (.own x))(k:∀b u,b≠e->h.get? b=some u->h'.get? b=some u)(heo:∃u,h'.get? e=some u)
  (new:ObjOk P w (upd H x o') h' x o'):HOk P w (upd H x o') h':=fun b u q=>by
 have nown:∀c y,H c=some (.own y)->c≠x:=fun c y r z=>by subst z;rw[r]at mu;exact mu
 have ntup:∀c xs,H c=some (.tup xs)->c≠x:=fun c xs r z=>by subst z;rw[r]at mu;exact mu
 by_cases hb:b=x
 ·subst hb;rw[bE]at q;cases q;exact new
 ·rw[aS hb]at q
  by_cases hbe:b=e
  ·have q':H b=some (.own x):=by
    rcases he with z|z
    ·exact absurd (hbe.trans z) hb
    ·rw[hbe];exact z
   rw[q]at q';cases q';obtain⟨v,hv⟩:=heo;exact⟨v,by rw[hbe];exact hv⟩
  ·refine(ok b u q).stay (fun c v hc r=>k c v ?_ r) (fun c r=>by rw[aS (nown c b r)];exact r) fun c xs r=>by rw[aS (ntup c xs r)];exact r
   rcases hc with rfl|hc
   ·exact hbe
   ·rintro rfl;rcases he with z|z
    ·exact nown c b hc z
    ·rw[hc]at z;cases z;exact hb rfl
end
structure Un (fs ex:List Addr)(H H':Hp)(h h':Heap):Prop where
 keep:∀b o,h.get? b=some o->H b=none->b∉fs->b∉ex->h'.get? b=some o
 slot:∀b o,h.get? b=some o->H b=none->b∈fs->b∉ex->∃sl,h'.get? b=some { o with slots:=sl }
 free:∀b o,h.get? b=some o->H b=none->b∉ex->H' b=none
 there:∀b o,h.get? b=some o->b∉ex->∃o',h'.get? b=some o'
 tups:∀b xs,H b=some (.tup xs)->H' b=some (.tup xs)
 frzs:∀b o u,H b=some (.frz o u)->H' b=some (.frz o u)
 tbls:∀b ps,H b=some (.tbl ps)->∃more,H' b=some (.tbl (ps++more))
section
variable {fs fs' ex ex':List Addr}{H H1 H2:Hp}{h h1 h2 h':Heap}{a x e:Addr}{o:HO}
theorem Un.any (u:Un fs ex H H1 h h1){b:Addr}{ob:Obj} (q:h.get? b=some ob) (n:H b=none) (hx:b∉ex):∃sl,h1.get? b=some { ob with slots:=sl }:=by
 by_cases hb:b∈fs
 ·exact u.slot b ob q n hb hx
 ·exact⟨ob.slots,u.keep b ob q n hb hx⟩
theorem Un.kept (k:∀b u,h.get? b=some u->h'.get? b=some u):Un fs ex H H h h' :=
 ⟨fun b ob q _ _ _=>k b ob q,fun b ob q _ _ _=>⟨ob.slots,k b ob q⟩,fun _ _ _ n _=>n,fun b ob q _=>⟨ob,k b ob q⟩,fun _ _ q=>q,fun _ _ _ q=>q,fun _ ps q=>⟨#[],by rw[q];simp⟩⟩
theorem Un.refl:Un fs ex H H h h:=Un.kept fun _ _ q=>q
theorem Un.laid (k:∀b u,h.get? b=some u->h'.get? b=some u)(hp:h.objs.size<=a)(hn:H a=none):Un fs ex H (upd H a o) h h' where
 keep:=fun b u q _ _ _=>k b u q
 slot:=fun b u q _ _ _=>⟨u.slots,k b u q⟩
 free:=fun b u q n _=>by rw[aS (Nat.ne_of_lt (Nat.lt_of_lt_of_le (Heap.lt_size q) hp))];exact n
 there:=fun b u q _=>⟨u,k b u q⟩
 tups:=fun b xs q=>by rw[aS (bJ q hn)];exact q
 frzs:=fun b u xs q=>by rw[aS (bJ q hn)];exact q
 tbls:=fun b ps q=>⟨#[],by rw[aS (bJ q hn),q];simp⟩
theorem Un.write (mu:Mut (H x))(he:e=x∨H e=some (.own x))(k:∀b u,b≠e->h.get? b=some u->h'.get? b=some u)(heo:∃u,h'.get? e=some u):Un fs ex H (upd H x o) h h':=by
 have hx:∀b,H b=none->b≠x:=fun b n z=>by subst z;rw[n]at mu;exact mu
 have hb:∀b,H b=none->b≠e:=fun b n z=>by
  subst z;rcases he with r|r
  ·exact hx b n r
  ·rw[n]at r;cases r
 have hm:∀b u,H b=some u->¬Mut (some u)->b≠x:=fun b u q nm z=>by subst z;rw[q]at mu;exact nm mu
 refine⟨fun b u q n _ _=>k b u (hb b n) q,fun b u q n _ _=>⟨u.slots,k b u (hb b n) q⟩,fun b u q n _=>by rw[aS (hx b n)];exact n,fun b u q _=> ?_,
  fun b xs q=>by rw[aS (hm b _ q fun z=>z)];exact q,fun b u xs q=>by rw[aS (hm b _ q fun z=>z)];exact q,fun b ps q=>⟨#[],by rw[aS (hm b _ q fun z=>z),q];simp⟩⟩
 by_cases hbe:b=e
 ·subst hbe;exact heo
 ·exact⟨u,k b u hbe q⟩
end
def trk (h:Heap)(H:Hp):List Addr:=(List.range h.objs.size).filter fun a=>(H a).isSome
def rS (h:Heap)(H:Hp):Heap:=PySem.W.hideAll h (trk h H)
theorem SW (h:Heap)(H:Hp):(rS h H).objs.size=h.objs.size:=PySem.W.hideAll_size _ _
theorem V7 {h:Heap}{H:Hp}{b:Addr}{o:Obj} (e:h.get? b=some o) (n:H b=none):(rS h H).get? b=some o :=
 PySem.W.hideAll_get _ e fun hm=>by
  have q:(H b).isSome=true:=(List.mem_filter.mp hm).2;rw[n]at q;simp at q
theorem aAS {h:Heap}{H:Hp}{b:Addr}{o:Obj} (e:(rS h H).get? b=some o):h.get? b=some o/\H b=none:=by
 have e':h.get? b=some o:=PySem.W.of_hideAll (trk h H) e;refine⟨e',?_⟩;cases q:H b with
 | none=>rfl
 | some x =>
  have hm:b∈trk h H:=List.mem_filter.mpr ⟨List.mem_range.mpr (Heap.lt_size e'),by simp[q]⟩;have z:(rS h H).get? b=none:=PySem.W.hideAll_none (trk h H) hm;rw[z]at e;cases e
end L2
namespace L2
open PySem PySem.Spec PyProof.Rows
structure Mod (K:PySem.W.Frag)(mg:Str->Option Value)(base:Heap):Prop where
 kin:K.In base
 glob:base.Ns mainGlobals mg
 blt:∃mb,base.Ns builtinsNs mb/\∀x:Str,x≠ "__name__" ->mb x=bootBuiltins x
 nolimit:base.NoLimit
structure Cx where
 prog:Program
 w:World
 K:PySem.W.Frag
 mg:Str->Option Value
 base:Heap
 A:Around
 N:List Str
 s₀:Shared
 H₀:Hp
 env:Env
 outer:List Env
 stack:List Env
 ex:List Addr
 fn:Str->Bool
 calm:Bool
 pn:List (Addr×Obj)
 xe:Value->Shared->Prop
def frs (l:List Env):List Addr:=l.filterMap (·.frame)
abbrev Cx.fs (X:Cx):List Addr:=frs X.outer
def Vis (sc:Scope)(x:Str):Prop:=sc.names.lookup x=some .local∨sc.names.lookup x=some .cell∨sc.names.lookup x=some .free
def Loc (sc:Scope)(x:Str):Prop:=sc.names.lookup x=some .local∨sc.names.lookup x=some .cell
def aEQ (env:Env)(h:Heap)(m:Str->Option Value)(x:Str)(u:Value):Prop :=
 (env.kindOf x=some .local/\m x=some u)∨((env.kindOf x=some .cell∨env.kindOf x=some .free)/\∃c,env.cells.lookup x=some c/\h.IsCell c (some u))
structure Cx.Ok (X:Cx):Prop where
 mod:Mod X.K X.mg X.base
 kind:X.env.scope.kind= .function
 glob:X.env.globals=mainGlobals
 blt:X.env.builtins=builtinsNs
 above:X.s₀.heap.objs.size<=X.env.locals
 inj:∀x y c,X.env.cells.lookup x=some c->X.env.cells.lookup y=some c->x=y
 has:∀x,(X.env.kindOf x=some .cell∨X.env.kindOf x=some .free)->∃c,X.env.cells.lookup x=some c
 cab:∀x c,X.fn x=true->X.env.cells.lookup x=some c->X.s₀.heap.objs.size<=c
 hd:X.calm=true->X.A.handled=none
 frames:X.A.frames=some X.stack
 stk:X.stack=X.outer∨(X.stack=X.env::X.outer/\X.env.frame=some X.env.locals)
 exf:∀b∈X.ex,b≠X.env.locals/\∀x c,X.env.cells.lookup x=some c->c≠b
 bs:∀b o,X.base.get? b=some o->X.s₀.heap.get? b=some o/\X.H₀ b=none
 bsz:X.base.objs.size<=X.s₀.heap.objs.size
 noex:∀b o,X.base.get? b=some o->b∉X.ex
 exfs:∀b∈X.ex,b∉X.fs
 funs:X.s₀.heap.FunFrames X.base X.outer
 frf:∀b∈X.fs,X.H₀ b=none
structure Inv (X:Cx)(pins:List (Addr×Obj))(σ:List (Option V))(H:Hp)(s:Shared):Prop where
 ok:X.Ok
 os:s.os=X.s₀.os
 bare:AllBare s.gens
 base:Un X.fs X.ex X.H₀ H X.s₀.heap s.heap
 loc:∃m,s.heap.Ns X.env.locals m/\∀(i:Nat) (x:Str) (v:V),X.N[i]? =some x->σ[i]? =some (some v)->Vis X.env.scope x->∃u,RelV v u/\aEQ X.env s.heap m x u
 cell:∀x c,X.env.cells.lookup x=some c->∃v,s.heap.IsCell c v
 free:H X.env.locals=none
 freeC:∀x c,X.env.cells.lookup x=some c->H c=none
 pin:∀p∈X.pn++pins,s.heap.get? p.1=some p.2/\H p.1=none/\p.1≠X.env.locals/\p.1∉X.fs/\∀v,p.2.data≠ .cell v
 hok:HOk X.prog X.w H s.heap
 len:σ.length=X.N.length
section
variable {X:Cx}{pins:List (Addr×Obj)}{σ:List (Option V)}{H H':Hp}{s:Shared}{h':Heap}
theorem Cx.Ok.nofr (ok:X.Ok){b:Addr}{o:Obj} (e:X.base.get? b=some o):b∉X.fs:=fun hb=>by
 have:=(ok.funs.mem hb).1;rw[e]at this;cases this
theorem Inv.bs (I:Inv X pins σ H s):∀b o,X.base.get? b=some o->s.heap.get? b=some o/\H b=none:=fun b o e =>
 ⟨I.base.keep b o (I.ok.bs b o e).1 (I.ok.bs b o e).2 (I.ok.nofr e) (I.ok.noex b o e),I.base.free b o (I.ok.bs b o e).1 (I.ok.bs b o e).2 (I.ok.noex b o e)⟩
theorem Inv.bk (I:Inv X pins σ H s):∀b o,X.base.get? b=some o->s.heap.get? b=some o:=fun b o e=>(I.bs b o e).1
theorem Inv.mod (I:Inv X pins σ H s):Mod X.K X.mg X.base:=I.ok.mod
theorem Inv.kIn (I:Inv X pins σ H s):X.K.In s.heap:=I.ok.mod.kin.keeps I.bk
theorem Inv.lt (I:Inv X pins σ H s):X.env.locals<s.heap.objs.size:=let ⟨_,hn,_⟩:=I.loc;hn.lt
theorem Inv.sz (I:Inv X pins σ H s):X.s₀.heap.objs.size<=s.heap.objs.size:=Nat.le_trans I.ok.above (Nat.le_of_lt I.lt)
theorem Inv.nofs (I:Inv X pins σ H s){a:Addr}(h:s.heap.objs.size<=a):a∉X.fs:=fun hb=>by
 obtain⟨_,o,ho,_⟩:=I.ok.funs.mem hb;exact absurd (Nat.lt_of_lt_of_le (Heap.lt_size ho) (Nat.le_trans I.sz h)) (Nat.lt_irrefl _)
theorem Inv.cne (I:Inv X pins σ H s):∀x c,X.env.cells.lookup x=some c->c≠X.env.locals:=fun x c e z=>by
 obtain⟨v,o,ho,hd⟩:=I.cell x c e;obtain⟨m,⟨o',es,ep,ho',hd',_⟩,_⟩:=I.loc;rw[z,ho']at ho;cases ho;rw[hd']at hd;cases hd
theorem Inv.funs (I:Inv X pins σ H s):s.heap.FunFrames X.base X.outer:=by
 have all:∀(l:List Env),(∀b∈frs l,b∈X.fs)->X.s₀.heap.FunFrames X.base l->s.heap.FunFrames X.base l:=by
  intro l
  induction l with
  | nil=>intro _ _;trivial
  | cons env r ih =>
   intro hs hl;obtain⟨hk,⟨L,o,hf,hn,ho,hd⟩,hr⟩:=hl;have hL:L∈X.fs:=hs L (by unfold frs;rw[List.filterMap_cons,hf];exact List.mem_cons_self);obtain⟨sl,e⟩:=I.base.slot L o ho (I.ok.frf L hL) hL fun z=>I.ok.exfs L z hL;exact⟨hk,⟨L,_,hf,hn,e,hd⟩,ih (fun b hb=>hs b (by unfold frs;rw[List.filterMap_cons,hf];exact List.mem_cons_of_mem _ hb)) hr⟩
 exact all X.outer (fun _ hb=>hb) I.ok.funs
theorem Inv.stack (I:Inv X pins σ H s):s.heap.FunFrames X.base X.stack:=by
 rcases I.ok.stk with e|⟨e,hf⟩
 ·rw[e];exact I.funs
 ·rw[e];obtain⟨m,hn,_⟩:=I.loc;refine .cons (by rw[I.ok.kind];decide) hf hn ?_ I.funs;exact Heap.get?_none_of_le (Nat.le_trans I.ok.bsz I.ok.above)
theorem Inv.stkSub (I:Inv X pins σ H s):∀b∈frs X.stack,b∈X.env.locals::X.fs:=fun b hb=>by
 rcases I.ok.stk with e|⟨e,hf⟩
 ·rw[e]at hb;exact List.mem_cons_of_mem _ hb
 ·rw[e]at hb;unfold frs at hb;rw[List.filterMap_cons,hf]at hb;exact hb
theorem Inv.stkFree (I:Inv X pins σ H s):∀b∈frs X.stack,H b=none:=fun b hb=>by
 rcases List.mem_cons.mp (I.stkSub b hb) with e|hb
 ·rw[e];exact I.free
 ·obtain⟨_,o,ho,_⟩:=I.ok.funs.mem hb;exact I.base.free b o ho (I.ok.frf b hb) fun z=>I.ok.exfs b z hb
theorem Inv.step {g':Array GenState}{t':Nat}{d':Drawn}{ch:List Addr} (I:Inv X pins σ H s)
  (hch:∀b∈ch,(b∈X.ex∨X.s₀.heap.objs.size<=b)/\b≠X.env.locals/\(∀x c,X.env.cells.lookup x=some c->c≠b)/\∀p∈X.pn++pins,p.1≠b)
  (keep:∀b o,b≠X.env.locals->b∉X.fs->b∉ch->s.heap.get? b=some o->H b=none->h'.get? b=some o)
  (slot:∀b o,b≠X.env.locals->b∈X.fs->b∉ch->s.heap.get? b=some o->H b=none->∃sl,h'.get? b=some { o with slots:=sl })(free:∀b o,b∉ch->s.heap.get? b=some o->H b=none->H' b=none)
  (there:∀b o,b∉ch->s.heap.get? b=some o->∃o',h'.get? b=some o')
  (tups:∀b xs,H b=some (.tup xs)->H' b=some (.tup xs))(frzs:∀b o u,H b=some (.frz o u)->H' b=some (.frz o u))(tbls:∀b ps,H b=some (.tbl ps)->∃more,H' b=some (.tbl (ps++more)))
  (ns:∀m,s.heap.Ns X.env.locals m->h'.Ns X.env.locals m)(hok:HOk X.prog X.w H' h')(hg:AllBare g') :
  Inv X pins σ H' { s with heap:=h',gens:=g',drawn:=d',toks:=t' }:=by
 have neL:∀b o,X.s₀.heap.get? b=some o->b≠X.env.locals:=fun b o e=>Nat.ne_of_lt (Nat.lt_of_lt_of_le (Heap.lt_size e) I.ok.above);have neC:∀b o,X.s₀.heap.get? b=some o->b∉X.ex->b∉ch:=fun b o e hx hb=>by
  rcases (hch b hb).1 with z|z
  ·exact hx z
  ·exact absurd (Nat.lt_of_lt_of_le (Heap.lt_size e) z) (Nat.lt_irrefl _)
 have cellK:∀x c,X.env.cells.lookup x=some c->∀v,s.heap.IsCell c v->h'.IsCell c v:=fun x c e v ⟨o,ho,hd⟩=>by
  have nch:c∉ch:=fun z=>(hch c z).2.2.1 x c e rfl
  by_cases hc:c∈X.fs
  ·obtain⟨sl,q⟩:=slot c o (I.cne x c e) hc nch ho (I.freeC x c e);exact⟨_,q,hd⟩
  ·exact⟨o,keep c o (I.cne x c e) hc nch ho (I.freeC x c e),hd⟩
 refine⟨I.ok,I.os,hg,⟨fun b o e n hb hx=> ?_,fun b o e n hb hx=> ?_,fun b o e n hx=> ?_,fun b o e hx=> ?_,fun b xs e=>tups b xs (I.base.tups b xs e),fun b o xs e=>frzs b o xs (I.base.frzs b o xs e),fun b ps e=> ?_⟩,?_,fun x c e=> ?_,?_,fun x c e=> ?_,fun p hp=> ?_,hok,I.len⟩
 ·exact keep b o (neL b o e) hb (neC b o e hx) (I.base.keep b o e n hb hx) (I.base.free b o e n hx)
 ·obtain⟨sl,e1⟩:=I.base.slot b o e n hb hx;obtain⟨sl',e2⟩:=slot b _ (neL b o e) hb (neC b o e hx) e1 (I.base.free b o e n hx);exact⟨sl',e2⟩
 ·obtain⟨o',e1⟩:=I.base.there b o e hx;exact free b o' (neC b o e hx) e1 (I.base.free b o e n hx)
 ·obtain⟨o',e1⟩:=I.base.there b o e hx;exact there b o' (neC b o e hx) e1
 ·obtain⟨m1,e1⟩:=I.base.tbls b ps e;obtain⟨m2,e2⟩:=tbls b _ e1;exact⟨m1++m2,by rw[e2,Array.append_assoc]⟩
 ·obtain⟨m,hn,hl⟩:=I.loc;refine⟨m,ns m hn,fun i x v e1 e2 e3=> ?_⟩;obtain⟨u,r,l⟩:=hl i x v e1 e2 e3;refine⟨u,r,?_⟩;rcases l with l|⟨k,c,e,z⟩
  ·exact .inl l
  ·exact .inr ⟨k,c,e,cellK x c e _ z⟩
 ·obtain⟨v,z⟩:=I.cell x c e;exact⟨v,cellK x c e v z⟩
 ·obtain⟨m,⟨o,_,_,ho,_⟩,_⟩:=I.loc;exact free _ o (fun z=>(hch _ z).2.1 rfl) ho I.free
 ·obtain⟨v,o,ho,hd⟩:=I.cell x c e;exact free c o (fun z=>(hch c z).2.2.1 x c e rfl) ho (I.freeC x c e)
 ·obtain⟨e,n,ne,nf,d⟩:=I.pin p hp;have nch:p.1∉ch:=fun z=>(hch p.1 z).2.2.2 p hp rfl;exact⟨keep p.1 p.2 ne nf nch e n,free p.1 p.2 nch e n,ne,nf,d⟩
theorem Inv.un {t':Nat}(I:Inv X pins σ H s)(u:Un X.fs [] H H' s.heap h')(hok:HOk X.prog X.w H' h'):Inv X pins σ H' { s with heap:=h',toks:=t' }:=by
 obtain⟨m,⟨o,es,ep,ho,r⟩,_⟩:=id I.loc;obtain⟨sl,hL⟩:=u.any ho I.free (by simp);exact I.step (g':=s.gens) (d':=s.drawn) (ch:=[]) (fun _ z=>nomatch z) (fun b o _ hb _ e n=>u.keep b o e n hb (by simp)) (fun b o _ hb _ e n=>u.slot b o e n hb (by simp)) (fun b o _ e n=>u.free b o e n (by simp)) (fun b o _ e=>u.there b o e (by simp)) u.tups u.frzs u.tbls (fun m' hm=>by
  obtain⟨o',es',ep',ho',r'⟩:=hm;rw[ho]at ho';cases ho';exact⟨_,es',ep',hL,r'⟩) hok I.bare
theorem Inv.call {g':Array GenState}{t':Nat}{d':Drawn}{ch:List Addr} (I:Inv X pins σ H s) (u:Un (frs X.stack) ch H H' s.heap h') (hok:HOk X.prog X.w H' h') (hg:AllBare g')
  (hch:∀b∈ch,(b∈X.ex∨X.s₀.heap.objs.size<=b)/\b≠X.env.locals/\(∀x c,X.env.cells.lookup x=some c->c≠b)/\∀p∈X.pn++pins,p.1≠b) :
  Inv X pins σ H' { s with heap:=h',gens:=g',drawn:=d',toks:=t' }:=by
 obtain⟨m,⟨o,es,ep,ho,r⟩,_⟩:=id I.loc;obtain⟨sl,hL⟩:=u.any ho I.free fun z=>(hch _ z).2.1 rfl;exact I.step (ch:=ch) hch (fun b o hL hb hc e n=>u.keep b o e n (fun z=>(List.mem_cons.mp (I.stkSub b z)).elim hL hb) hc) (fun b o _ _ hc e n=>u.any e n hc) (fun b o hc e n=>u.free b o e n hc) (fun b o hc e=>u.there b o e hc) u.tups u.frzs u.tbls (fun m' hm=>by
  obtain⟨o',es',ep',ho',r'⟩:=hm;rw[ho]at ho';cases ho';exact⟨_,es',ep',hL,r'⟩) hok hg
theorem Inv.turned {t':Nat}{it:Addr} (I:Inv X pins σ H s) (k:∀b o,b≠it->s.heap.get? b=some o->h'.get? b=some o) (hn:H it=none) (hL:it≠X.env.locals)
  (h1:it∈X.ex∨X.s₀.heap.objs.size<=it)(h2:∀x c,X.env.cells.lookup x=some c->c≠it)(h3:∀p∈X.pn++pins,p.1≠it):Inv X pins σ H { s with heap:=h',toks:=t' }:=by
 have nit:∀b u,H b=some u->b≠it:=fun b u e z=>by rw[z,hn]at e;cases e
 refine I.step (g':=s.gens) (d':=s.drawn) (ch:=[it]) (fun b hb=> ?_) (fun b o _ _ hc e _=>k b o (fun z=>hc (by simp[z])) e) (fun b o _ _ hc e _=>⟨o.slots,k b o (fun z=>hc (by simp[z])) e⟩) (fun _ _ _ _ n=>n)
  (fun b o hc e=>⟨o,k b o (fun z=>hc (by simp[z])) e⟩) (fun _ _ e=>e) (fun _ _ _ e=>e) (fun b ps e=>⟨#[],by rw[e];simp⟩) (fun m hm=> ?_) (fun b u e=> ?_) I.bare
 ·have e:b=it:=by simpa using hb
  subst e;exact⟨h1,hL,h2,h3⟩
 ·obtain⟨o,es,ep,ho,r⟩:=hm;exact⟨o,es,ep,k _ o (Ne.symm hL) ho,r⟩
 ·refine(I.hok b u e).stay (fun c v hc q=>k c v ?_ q) (fun _ q=>q) fun _ _ q=>q;rcases hc with z|z
  ·rw[z];exact nit b u e
  ·exact nit c _ z
theorem Inv.tok (I:Inv X pins σ H s)(t:Nat):Inv X pins σ H { s with toks:=t }:=I.un (h':=s.heap) (t':=t) Un.refl I.hok
theorem Inv.kept {t':Nat}(I:Inv X pins σ H s)(k:∀b u,s.heap.get? b=some u->h'.get? b=some u):Inv X pins σ H { s with heap:=h',toks:=t' }:=I.un (Un.kept k) (I.hok.kept k)
theorem Inv.laid {a:Addr}{o:HO}{t':Nat} (I:Inv X pins σ H s) (k:∀b u,s.heap.get? b=some u->h'.get? b=some u) (hp:s.heap.objs.size<=a) (new:ObjOk X.prog X.w (upd H a o) h' a o) :
  Inv X pins σ (upd H a o) { s with heap:=h',toks:=t' }:=I.un (Un.laid k hp (I.hok.fresh hp)) (I.hok.laid k hp new)
theorem Inv.write {x e:Addr}{o:HO}{t':Nat} (I:Inv X pins σ H s) (mu:Mut (H x)) (he:e=x∨H e=some (.own x)) (k:∀b u,b≠e->s.heap.get? b=some u->h'.get? b=some u) (heo:∃u,h'.get? e=some u)
  (new:ObjOk X.prog X.w (upd H x o) h' x o):Inv X pins σ (upd H x o) { s with heap:=h',toks:=t' }:=I.un (Un.write mu he k heo) (I.hok.write mu he k heo new)
theorem Inv.weak {σ':List (Option V)}(I:Inv X pins σ H s)(hl:σ'.length=σ.length)(w:∀(i:Nat) v,σ'[i]? =some (some v)->σ[i]? =some (some v)):Inv X pins σ' H s :=
 ⟨I.ok,I.os,I.bare,I.base,let ⟨m,hn,hl'⟩:=I.loc;⟨m,hn,fun i x v e1 e2 e3=>hl' i x v e1 (w i v e2) e3⟩,I.cell,I.free,I.freeC,I.pin,I.hok,hl.trans I.len⟩
theorem Inv.pins_of {pins':List (Addr×Obj)}(I:Inv X pins σ H s)(h:∀p∈pins',s.heap.get? p.1=some p.2/\H p.1=none/\p.1≠X.env.locals/\p.1∉X.fs/\∀v,p.2.data≠ .cell v):Inv X pins' σ H s :=
 ⟨I.ok,I.os,I.bare,I.base,I.loc,I.cell,I.free,I.freeC,fun p hp=>(List.mem_append.mp hp).elim (fun z=>I.pin p (List.mem_append_left _ z)) (h p),I.hok,I.len⟩
theorem KL {N:List Str}(hN:N.Nodup){i j:Nat}{x:Str} (a:N[i]? =some x) (b:N[j]? =some x):i=j:=by
 obtain⟨h1,e1⟩:=List.getElem?_eq_some_iff.mp a;obtain⟨h2,e2⟩:=List.getElem?_eq_some_iff.mp b;exact(List.getElem_inj hN).mp (e1.trans e2.symm)
theorem RS {M:Model}{A:Around}{E:Value->Shared->Prop}{i:Nat}{x:Str}{v:V}{u:Value}{Q:Unit->Shared->Prop} (I:Inv X pins σ H s) (hN:X.N.Nodup) (hi:X.N[i]? =some x) (hx:Loc X.env.scope x) (r:RelV v u)
  (h:∀s',Inv X pins (σ.set i (some v)) H s'->(∃a,Heap.SameBut a s.heap s'.heap/\(a=X.env.locals∨X.env.cells.lookup x=some a))->Q () s')(hf:X.fn x=true∨X.env.scope.names.lookup x=some .local:=by first|exact .inl rfl|exact .inr rfl|assumption):wpAny M A (storeName X.env x u) Q E s:=by
 obtain⟨m,hn,hl⟩:=id I.loc;have hcls:(X.env.scope.kind== .class||(X.env.scope.kind== .module&&X.env.locals !=X.env.globals))=false:=by rw[I.ok.kind];rfl
 have hiσ:i<σ.length:=by rw[I.len];exact(List.getElem?_eq_some_iff.mp hi).1
 have cne:=I.cne;have tracked:∀{a:Addr}{h':Heap},(∃o,s.heap.get? a=some o/\H a=none)->Heap.SameBut a s.heap h'->HOk X.prog X.w H h':=fun {a h'} ha hs b ob e=>by
  obtain⟨_,_,hfree⟩:=ha;refine(I.hok b ob e).stay (fun c w' hc q=>(hs.2 c ?_).trans q) (fun _ q=>q) fun _ _ q=>q;rintro rfl;rcases hc with rfl|hc
  ·rw[hfree]at e;cases e
  ·rw[hfree]at hc;cases hc
 rcases hx with hk|hk
 ·refine wpAny_storeName_local hk hn (fun h' hn' hs=> ?_) hcls;obtain⟨oL,_,_,hoL,_⟩:=id hn;refine h _ ⟨I.ok,I.os,I.bare,⟨fun b o e n hb hx=> ?_,fun b o e n hb hx=> ?_,I.base.free,fun b o e hx=> ?_,I.base.tups,I.base.frzs,I.base.tbls⟩,⟨_,hn',fun j y v' e1 e2 e3=> ?_⟩,fun y c e=> ?_,I.free,I.freeC,fun p hp=> ?_,tracked ⟨oL,hoL,I.free⟩ hs,by simpa using I.len⟩ ⟨_,hs,.inl rfl⟩
  ·exact(hs.2 b (Nat.ne_of_lt (Nat.lt_of_lt_of_le (Heap.lt_size e) I.ok.above))).trans (I.base.keep b o e n hb hx)
  ·obtain⟨sl,e1⟩:=I.base.slot b o e n hb hx;exact⟨sl,(hs.2 b (Nat.ne_of_lt (Nat.lt_of_lt_of_le (Heap.lt_size e) I.ok.above))).trans e1⟩
  ·obtain⟨o',e1⟩:=I.base.there b o e hx;exact⟨o',(hs.2 b (Nat.ne_of_lt (Nat.lt_of_lt_of_le (Heap.lt_size e) I.ok.above))).trans e1⟩
  ·by_cases hj:j=i
   ·subst hj;rw[hi]at e1;cases e1;rw[List.getElem?_set_self hiσ]at e2;cases e2;exact⟨u,r,.inl ⟨hk,by simp⟩⟩
   ·rw[List.getElem?_set_ne (Ne.symm hj)]at e2;obtain⟨u',r',q⟩:=hl j y v' e1 e2 e3;refine⟨u',r',?_⟩;rcases q with⟨k,e⟩|⟨k,c,e,z⟩
    ·refine .inl ⟨k,?_⟩;have:y≠x:=fun e=>hj (KL hN e1 (e▸hi));simp[this,e]
    ·exact .inr ⟨k,c,e,z.sameBut hs (cne y c e)⟩
  ·obtain⟨w',z⟩:=I.cell y c e;exact⟨w',z.sameBut hs (cne y c e)⟩
  ·obtain⟨e,n,ne,nf,d⟩:=I.pin p hp;exact⟨(hs.2 p.1 ne).trans e,n,ne,nf,d⟩
 ·have hfn:X.fn x=true:=by
   rcases hf with z|z
   ·exact z
   ·rw[z]at hk;cases hk
  obtain⟨c,hc⟩:=I.ok.has x (.inl hk);obtain⟨w',z⟩:=I.cell x c hc;refine wpAny_storeName_cell I.ok.kind hk hc z (fun h' hc' hs=> ?_);obtain⟨oc,hoc,hocd⟩:=id z;refine h { s with heap:=h' } ⟨I.ok,I.os,I.bare,⟨fun b o e n hb hx=> ?_,fun b o e n hb hx=> ?_,I.base.free,fun b o e hx=> ?_,I.base.tups,I.base.frzs,I.base.tbls⟩,⟨m,hn.sameBut hs (Ne.symm (cne x c hc)),fun j y v' e1 e2 e3=> ?_⟩,fun y c' e=> ?_,I.free,I.freeC,fun p hp=> ?_,tracked ⟨oc,hoc,I.freeC x c hc⟩ hs,by simpa using I.len⟩ ⟨c,hs,.inr hc⟩
  ·exact(hs.2 b (Nat.ne_of_lt (Nat.lt_of_lt_of_le (Heap.lt_size e) (I.ok.cab x c hfn hc)))).trans (I.base.keep b o e n hb hx)
  ·obtain⟨sl,e1⟩:=I.base.slot b o e n hb hx;exact⟨sl,(hs.2 b (Nat.ne_of_lt (Nat.lt_of_lt_of_le (Heap.lt_size e) (I.ok.cab x c hfn hc)))).trans e1⟩
  ·obtain⟨o',e1⟩:=I.base.there b o e hx;exact⟨o',(hs.2 b (Nat.ne_of_lt (Nat.lt_of_lt_of_le (Heap.lt_size e) (I.ok.cab x c hfn hc)))).trans e1⟩
  ·by_cases hj:j=i
   ·subst hj;rw[hi]at e1;cases e1;rw[List.getElem?_set_self hiσ]at e2;cases e2;exact⟨u,r,.inr ⟨.inl hk,c,hc,hc'⟩⟩
   ·rw[List.getElem?_set_ne (Ne.symm hj)]at e2;obtain⟨u',r',q⟩:=hl j y v' e1 e2 e3;refine⟨u',r',?_⟩;rcases q with q|⟨k,c',e,z'⟩
    ·exact .inl q
    ·refine .inr ⟨k,c',e,z'.sameBut hs ?_⟩;rintro rfl;exact hj (KL hN e1 (I.ok.inj _ _ _ e hc▸hi))
  ·by_cases hcc:c'=c
   ·subst hcc;exact⟨_,hc'⟩
   ·obtain⟨w2,z2⟩:=I.cell y c' e;exact⟨w2,z2.sameBut hs hcc⟩
  ·obtain⟨e,n,ne,nf,d⟩:=I.pin p hp;refine⟨(hs.2 p.1 ?_).trans e,n,ne,nf,d⟩;intro q;rw[q,hoc]at e;have q':oc=p.2:=Option.some.inj e;exact d w' (by rw[←q'];exact hocd)
theorem IJ {M:Model}{A:Around}{E:Value->Shared->Prop}{i:Nat}{x:Str}{v:V}{u:Value}{Q:Unit->Shared->Prop} (I:Inv X pins σ H s) (hN:X.N.Nodup) (hi:X.N[i]? =some x) (hx:Loc X.env.scope x) (r:RelV v u)
  (h:∀s',Inv X pins (σ.set i (some v)) H s'->Q () s')(hf:X.fn x=true∨X.env.scope.names.lookup x=some .local:=by first|exact .inl rfl|exact .inr rfl|assumption):wpAny M A (storeName X.env x u) Q E s :=
 RS I hN hi hx r (fun s' I' _=>h s' I') hf
theorem Inv.call' {s':Shared}{ch:List Addr} (I:Inv X pins σ H s) (ho:s'.os=s.os) (u:Un (frs X.stack) ch H H' s.heap s'.heap) (hok:HOk X.prog X.w H' s'.heap) (hg:AllBare s'.gens)
  (hch:∀b∈ch,(b∈X.ex∨X.s₀.heap.objs.size<=b)/\b≠X.env.locals/\(∀x c,X.env.cells.lookup x=some c->c≠b)/\∀p∈X.pn++pins,p.1≠b):Inv X pins σ H' s':=by
 obtain⟨h',g',d',t',o'⟩:=s';have e:o'=s.os:=ho;subst e;exact I.call (g':=g') (t':=t') (d':=d') u hok hg hch
end
abbrev XK:=Value->Option Addr->Hp->Prop
abbrev St:=List (Option V)
abbrev VK:=V->Hp->Prop
abbrev TE:=St->Hp->VK->Prop
abbrev TT:=St->Hp->(Bool->Hp->Prop)->Prop
abbrev TA:=St->Hp->(List V->Hp->Prop)->Prop
structure jZ where
 nx:St->Hp->Prop
 rt:VK
 bk:St->Hp->Prop:=fun _ _=>False
 ct:St->Hp->Prop:=fun _ _=>False
abbrev TS:=jZ->St->Hp->Prop
def EP (X:Cx)(pins:List (Addr×Obj))(σ:St)(Q:VK)(u:Value)(s':Shared):Prop:=∃v H',Inv X pins σ H' s'/\RelV v u/\Q v H'
def TP (X:Cx)(pins:List (Addr×Obj))(σ:St)(Q:Bool->Hp->Prop)(b:Bool)(s':Shared):Prop:=∃H',Inv X pins σ H' s'/\Q b H'
def AP (X:Cx)(pins:List (Addr×Obj))(σ:St)(Q:List V->Hp->Prop)(us:List Value)(s':Shared):Prop:=∃vs H',Inv X pins σ H' s'/\Vals vs us/\Q vs H'
def SP (X:Cx)(pins:List (Addr×Obj))(D:jZ)(f:Flow)(s':Shared):Prop :=
 match f with
 | .next=>∃σ' H',Inv X pins σ' H' s'/\D.nx σ' H'
 | .brk=>∃σ' H',Inv X pins σ' H' s'/\D.bk σ' H'
 | .cont=>∃σ' H',Inv X pins σ' H' s'/\D.ct σ' H'
 | .ret u=>∃v σ' H',Inv X pins σ' H' s'/\RelV v u/\D.rt v H'
def PE (X:Cx)(e:Expr)(t:TE):Prop :=
 ∀(pins:List (Addr×Obj)) (s:Shared) (σ:St) (H:Hp) (Q:VK),Inv X pins σ H s->t σ H Q->wpAny (model X.prog X.w) X.A (eval e X.env) (EP X pins σ Q) X.xe s
def PT (X:Cx)(e:Expr)(t:TT):Prop :=
 ∀(pins:List (Addr×Obj)) (s:Shared) (σ:St) (H:Hp) (Q:Bool->Hp->Prop),Inv X pins σ H s->t σ H Q->wpAny (model X.prog X.w) X.A (isTrue e X.env (eval e X.env)) (TP X pins σ Q) X.xe s
def PW (X:Cx)(e:Expr)(t:TT):Prop :=
 ∀(whole:Sem Value) (pins:List (Addr×Obj)) (s:Shared) (σ:St) (H:Hp) (Q:Bool->Hp->Prop),Inv X pins σ H s->t σ H Q->wpAny (model X.prog X.w) X.A (isTrue e X.env whole) (TP X pins σ Q) X.xe s
theorem PW.pt {X:Cx}{e:Expr}{t:TT} (h:PW X e t):PT X e t:=h _
def PA (X:Cx)(es:List Expr)(t:TA):Prop :=
 ∀(pos:Pos) (pins:List (Addr×Obj)) (s:Shared) (σ:St) (H:Hp) (Q:List V->Hp->Prop),Inv X pins σ H s->t σ H Q->wpAny (model X.prog X.w) X.A (spliced (backTo pos (starEach es X.env))) (AP X pins σ Q) X.xe s
def PS (X:Cx)(st:Stmt)(t:TS):Prop :=
 ∀(pins:List (Addr×Obj)) (s:Shared) (σ:St) (H:Hp) (D:jZ),Inv X pins σ H s->t D σ H->wpAny (model X.prog X.w) X.A (exec st X.env) (SP X pins D) X.xe s
def PSs (X:Cx)(st:List Stmt)(t:TS):Prop :=
 ∀(pins:List (Addr×Obj)) (s:Shared) (σ:St) (H:Hp) (D:jZ),Inv X pins σ H s->t D σ H->wpAny (model X.prog X.w) X.A (execs st X.env) (SP X pins D) X.xe s
theorem thn {α:Type}{t:Sem α}{Q Q':α->Shared->Prop}{M:Model}{A:Around}{E:Value->Shared->Prop}{s:Shared} (h:wpAny M A t Q E s) (hQ:∀a s,Q a s->Q' a s):wpAny M A t Q' E s:=wpAny_mono h hQ fun _ _ x=>x
end L2
namespace L2
open PySem PySem.Spec PyProof.Rows
section
variable {X:Cx}
def jS (i:Nat):TE:=fun σ H Q=>∃v,σ[i]? =some (some v)/\Q v H
def tC (v:V):TE:=fun _ H Q=>Q v H
theorem RE {i:Nat}{x:Str}{pos:Pos} (hN:X.N[i]? =some x) (hv:Vis X.env.scope x) (hd:(x==("__debug__" :Str))=false:=by decide) (hcd:(x==("__classdict__" :Str))=false:=by decide):PE X (.Name x pos) (jS i):=by
 intro pins s σ H Q I h;obtain⟨v,e,h⟩:=h;obtain⟨m,hn,hl⟩:=I.loc;obtain⟨u,r,l⟩:=hl i x v hN e hv;have fin:EP X pins σ Q u s:=⟨v,H,I,r,h⟩
 rcases l with⟨hk,hm⟩|⟨hk,c,hc,hcell⟩
 ·exact wpAny_Name (wpAny_loadName_local I.ok.kind hk hn hm fin) hd
 ·rcases hk with hk|hk
  ·exact wpAny_Name (wpAny_loadName_cell I.ok.kind hk hc hcell fin) hd
  ·exact wpAny_Name (wpAny_loadName_free I.ok.kind hk hc hcell fin hcd) hd
theorem aG {i j pos}:PE X (.Constant (.int i) j pos) (tC (.int i)):=fun _ _ _ H _ I h=>wpAny_Constant_int ⟨.int i,H,I.tok _,⟨_,rfl⟩,h⟩
theorem qR {b j pos}:PE X (.Constant (.bool b) j pos) (tC (.bl b)):=fun _ _ _ H _ I h=>Constant_bool ⟨.bl b,H,I,rfl,h⟩
theorem rJ {j pos}:PE X (.Constant .none j pos) (tC .non):=fun _ _ _ H _ I h=>Constant_none ⟨.non,H,I,rfl,h⟩
theorem gH {x j pos}:PE X (.Constant (.str x) j pos) (tC (.str x)):=fun _ _ _ H _ I h=>Calls.Constant_str ⟨.str x,H,I.tok _,⟨_,rfl⟩,h⟩
def Gl (X:Cx)(x:Str):Prop:=X.env.kindOf x=some .globalImplicit
theorem uT {E:Value->Shared->Prop}{pins:List (Addr×Obj)}{s:Shared}{σ:St}{H:Hp}{x:Str}{u:Value}{pos:Pos}{Q:Value->Shared->Prop} (I:Inv X pins σ H s) (hg:Gl X x) (hm:X.mg x=some u) (h:Q u s)
  (hd:(x==("__debug__" :Str))=false:=by decide):wpAny (model X.prog X.w) X.A (eval (.Name x pos) X.env) Q E s :=
 Calls.Name_function_global I.ok.kind hg (Calls.loadGlobal_global (by rw[I.ok.glob];exact I.mod.glob.keeps I.bk) hm h) hd
theorem xP {E:Value->Shared->Prop}{pins:List (Addr×Obj)}{s:Shared}{σ:St}{H:Hp}{x:Str}{u:Value}{pos:Pos}{Q:Value->Shared->Prop} (I:Inv X pins σ H s) (hg:Gl X x) (hm:X.mg x=none) (hv:bootBuiltins x=some u) (h:Q u s)
  (hn:x≠ "__name__" :=by decide)(hd:(x==("__debug__" :Str))=false:=by decide):wpAny (model X.prog X.w) X.A (eval (.Name x pos) X.env) Q E s:=by
 obtain⟨mb,h1,h2⟩:=I.mod.blt;exact Calls.Name_function_global I.ok.kind hg (Calls.loadGlobal_builtin (by rw[I.ok.glob];exact I.mod.glob.keeps I.bk) hm (by rw[I.ok.blt];exact h1.keeps I.bk) ((h2 x hn).trans hv) h) hd
theorem NP {x:Str}{v:V}{u:Value}{pos:Pos} (hg:Gl X x) (hm:X.mg x=some u) (r:RelV v u) (hd:(x==("__debug__" :Str))=false:=by decide):PE X (.Name x pos) (tC v) :=
 fun _ _ _ H _ I h=>uT I hg hm ⟨v,H,I,r,h⟩ hd
theorem aA5 {x:Str}{v:V}{u:Value}{pos:Pos} (hg:Gl X x) (hm:X.mg x=none) (hv:bootBuiltins x=some u) (r:RelV v u) (hn:x≠ "__name__" :=by decide) (hd:(x==("__debug__" :Str))=false:=by decide):PE X (.Name x pos) (tC v) :=
 fun _ _ _ H _ I h=>xP I hg hm hv ⟨v,H,I,r,h⟩ hn hd
variable {a b:Expr}{ta tb:TE}{pos:Pos}
def PC (X:Cx)(op:CmpOp)(a b:Expr)(t:TE):Prop :=
 ∀(pins:List (Addr×Obj)) (s:Shared) (σ:St) (H:Hp) (Q:VK),Inv X pins σ H s->t σ H Q →
  wpAny (model X.prog X.w) X.A (eval a X.env) (fun v s₁=>wpAny (model X.prog X.w) X.A (eval b X.env) (fun u s₂=>wpAny (model X.prog X.w) X.A (compareOp op v u) (EP X pins σ Q) X.xe s₂) X.xe s₁) X.xe s
def tB (t:TE):TT:=fun σ H Q=>t σ H fun x H1=>∃c,x= .bl c/\Q c H1
theorem JX {op:CmpOp}{t:TE} (h:PC X op a b t) (h1:behindInMarks op b=false:=by first|exact nobehind _ (by decide) (by decide)|rfl):PT X (.Compare a [op] [b] pos) (tB t):=by
 intro pins s σ H Q I hw;refine wpAny_isTrue_Compare1 (thn (h pins s σ H _ I hw) fun v s1 h1=>thn h1 fun u s2 h2=>thn h2 fun c s3 ⟨x,H1,I1,r1,q1⟩=> ?_) h1;obtain⟨d,rfl,q⟩:=q1;cases r1;exact wpAny_truthy_bool ⟨H1,I1,q⟩
theorem kY {e:Expr}{t:TE} (h:PE X e t) (he:∀whole,isTrue e X.env whole=(do let v ←whole;standAt e.pos;holding [v] (truthy v)):=by intro _;rfl):PT X e (tB t):=by
 intro pins s σ H Q I hw;refine isTrue_plain (thn (h pins s σ H _ I hw) fun v s1 ⟨x,H1,I1,r1,q1⟩=> ?_) (he _);obtain⟨d,rfl,q⟩:=q1;cases r1;exact wpAny_truthy_bool ⟨H1,I1,q⟩
variable {tA tB':TT}{rest:List Expr}
def aCX (t u:TT):TT:=fun σ H Q=>t σ H fun c H1=>if c=true then u σ H1 Q else Q false H1
def tOr (t u:TT):TT:=fun σ H Q=>t σ H fun c H1=>if c=true then Q true H1 else u σ H1 Q
def aB4 (t:TT):TT:=fun σ H Q=>t σ H fun c H1=>Q (!c) H1
theorem DJ (ha:PT X a tA):PW X (.BoolOp .And [a] pos) tA:=by
 intro wh pins s σ H Q I h;refine isTrue_and (thn (ha pins s σ H Q I h) fun c s1 e=> ?_);cases c with
 | true=>exact isTrue_and_nil e
 | false=>exact e
theorem rU (ha:PT X a tA):PW X (.BoolOp .Or [a] pos) tA:=by
 intro wh pins s σ H Q I h;refine isTrue_or (thn (ha pins s σ H Q I h) fun c s1 e=> ?_);cases c with
 | false=>exact isTrue_or_nil e
 | true=>exact e
theorem JR (ha:PT X a tA)(hb:PW X (.BoolOp .And (b::rest) pos) tB'):PW X (.BoolOp .And (a::b::rest) pos) (aCX tA tB'):=by
 intro wh pins s σ H Q I h;refine isTrue_and (thn (ha pins s σ H _ I h) fun c s1 ⟨H1,I1,q1⟩=> ?_);cases c with
 | true=>exact hb wh pins s1 σ H1 Q I1 q1
 | false=>exact⟨H1,I1,q1⟩
theorem qV (ha:PT X a tA)(hb:PW X (.BoolOp .Or (b::rest) pos) tB'):PW X (.BoolOp .Or (a::b::rest) pos) (tOr tA tB'):=by
 intro wh pins s σ H Q I h;refine isTrue_or (thn (ha pins s σ H _ I h) fun c s1 ⟨H1,I1,q1⟩=> ?_);cases c with
 | true=>exact⟨H1,I1,q1⟩
 | false=>exact hb wh pins s1 σ H1 Q I1 q1
theorem rP (ha:PT X a tA):PT X (.UnaryOp .Not a pos) (aB4 tA):=by
 intro pins s σ H Q I h;exact isTrue_not (ha pins s σ H (fun c H1=>Q (!c) H1) I h)
def aEz (ta tb:TE):TE:=fun σ H Q=>ta σ H fun x H1=>∃c,x= .bl c/\if c=true then tb σ H1 Q else Q (.bl false) H1
def aEc (ta:TE):TE:=fun σ H Q=>ta σ H fun x H1=>∃c,x= .bl c/\Q (.bl (!c)) H1
theorem TV {op}{t:TE} (h:PE X a t):PE X (.BoolOp op [a] pos) t:=fun pins s σ H Q I hw=>BoolOp_one (h pins s σ H Q I hw)
theorem SM (ha:PE X a ta)(hb:PE X (.BoolOp .And (b::rest) pos) tb):PE X (.BoolOp .And (a::b::rest) pos) (aEz ta tb):=by
 intro pins s σ H Q I h;refine BoolOp_and (thn (ha pins s σ H _ I h) fun v s1 ⟨x,H1,I1,r1,q1⟩=> ?_);obtain⟨c,rfl,q1⟩:=q1;cases r1;refine wpAny_truthy_bool ?_;cases c with
 | true=>exact hb pins s1 σ H1 Q I1 q1
 | false=>exact⟨.bl false,H1,I1,rfl,q1⟩
theorem aCD (ha:PE X a ta):PE X (.UnaryOp .Not a pos) (aEc ta):=by
 intro pins s σ H Q I h;refine UnaryOp_ (thn (ha pins s σ H _ I h) fun v s1 ⟨x,H1,I1,r1,q1⟩=> ?_);obtain⟨c,rfl,q1⟩:=q1;cases r1;exact not_of (wpAny_truthy_bool ⟨.bl (!c),H1,I1,rfl,q1⟩)
def tIf (t:TT)(ta tb:TE):TE:=fun σ H Q=>t σ H fun c H1=>if c=true then ta σ H1 Q else tb σ H1 Q
theorem vG {c:Expr}(hc:PT X c tA)(ha:PE X a ta)(hb:PE X b tb):PE X (.IfExp c a b pos) (tIf tA ta tb):=by
 intro pins s σ H Q I h;refine wpAny_IfExp (thn (hc pins s σ H _ I h) fun d s1 ⟨H1,I1,q1⟩=> ?_);cases d with
 | true=>exact ha pins s1 σ H1 Q I1 q1
 | false=>exact hb pins s1 σ H1 Q I1 q1
end
end L2
namespace L2
open PySem PySem.Spec PyProof.Rows
def SqL (K:PySem.W.Frag)(H:Hp)(a:Addr)(xs:List V):Prop :=
 Rd H a (.lst xs) ∨
  ∃(o:Obj) (its:Array Value) (n:Nat),K.lookup a=some o/\o.cls= .type "list" /\o.dict=none/\o.data= .seq its n/\its.size<=sizeLine/\Vals xs its.toList
def SqT (K:PySem.W.Frag)(H:Hp)(a:Addr)(xs:List V):Prop :=
 Rd H a (.tup xs) ∨
  ∃(o:Obj) (its:Array Value) (n:Nat),K.lookup a=some o/\o.cls= .type "tuple" /\o.data= .seq its n/\its.size<=sizeLine/\Vals xs its.toList
def aEX:Value->Option V
 | .none=>some .non
 | .bool b=>some (.bl b)
 | .int i _=>some (.int i)
 | .str x _=>some (.str x)
 | .bytes b _=>some (.byt b)
 | .float b _=>some (.flt b)
 | .ref a=>some (.ref a)
 | .type n=>some (.ty n)
 | _=>none
theorem RelV.abs {x:V}{u:Value} (r:RelV x u):aEX u=some x:=by
 cases x with
 | non=>cases r;rfl
 | bl _=>cases r;rfl
 | int _=>obtain⟨t,rfl⟩:=r;rfl
 | str _=>obtain⟨t,rfl⟩:=r;rfl
 | byt _=>obtain⟨t,rfl⟩:=r;rfl
 | flt _=>obtain⟨t,rfl⟩:=r;rfl
 | ref _=>cases r;rfl
 | ty _=>cases r;rfl
theorem RelV.inj {x y:V}{u:Value} (r:RelV x u) (q:RelV y u):x=y:=Option.some.inj (r.abs.symm.trans q.abs)
theorem Vals.inj:∀{xs ys:List V}{us:List Value},Vals xs us->Vals ys us->xs=ys
 | _,_,_,.nil,.nil=>rfl
 | _,_,_,.cons r t,.cons r' t'=>by rw[r.inj r',Vals.inj t t']
section
variable {X:Cx}{pins:List (Addr×Obj)}{σ:St}{H:Hp}{s:Shared}{a:Addr}{xs ys:List V}
theorem SqL.of {K:PySem.W.Frag}(h:H a=some (.lst xs)):SqL K H a xs:= .inl (.inl h)
theorem SqT.of {K:PySem.W.Frag}(h:H a=some (.tup xs)):SqT K H a xs:= .inl (.inl h)
theorem Inv.list (I:Inv X pins σ H s)(h:SqL X.K H a xs):∃its:List Value,Vals xs its/\PlainL s.heap a its.toArray/\xs.length<=sizeLine:=by
 rcases h with h|⟨o,its,n,hk,hc,hd,hs,hz,r⟩
 ·obtain⟨z,its,n,r,e⟩:=h.ok I.hok;exact⟨its,r,⟨_,n,e,rfl,rfl,rfl⟩,z⟩
 ·refine⟨its.toList,r,⟨o,n,I.kIn a o hk,hc,hd,by simpa using hs⟩,?_⟩;have e:=r.length;simp only[Array.length_toList]at e
  lia
theorem Inv.tuple (I:Inv X pins σ H s)(h:SqT X.K H a xs):∃its:List Value,Vals xs its/\IsTup s.heap a its.toArray/\xs.length<=sizeLine:=by
 rcases h with h|⟨o,its,n,hk,hc,hs,hz,r⟩
 ·obtain⟨z,its,r,p⟩:=h.ok I.hok;exact⟨its,r,p,z⟩
 ·refine⟨its.toList,r,⟨o,I.kIn a o hk,hc,n,by simpa using hs⟩,?_⟩;have e:=r.length;simp only[Array.length_toList]at e
  lia
theorem Inv.list_inj (I:Inv X pins σ H s)(h:SqL X.K H a xs)(h':SqL X.K H a ys):xs=ys:=by
 obtain⟨its,r,⟨o,n,e,_,_,d⟩,_⟩:=I.list h;obtain⟨its',r',⟨o',n',e',_,_,d'⟩,_⟩:=I.list h';rw[e]at e';cases e';rw[d]at d';injection d' with d1 _;have:its=its':=by simpa using congrArg Array.toList d1
 subst this;exact r.inj r'
end
abbrev Cx.wish (X:Cx)(E:Value->Shared->Prop):Cx:={ X with xe:=E }
abbrev Cx.nox (X:Cx):Cx:=X.wish fun _ _=>False
theorem Cx.Ok.wish {X:Cx}(ok:X.Ok)(E:Value->Shared->Prop):(X.wish E).Ok :=
 ⟨ok.mod,ok.kind,ok.glob,ok.blt,ok.above,ok.inj,ok.has,ok.cab,ok.hd,ok.frames,ok.stk,ok.exf,ok.bs,ok.bsz,ok.noex,ok.exfs,ok.funs,ok.frf⟩
theorem Cx.Ok.unwish {X:Cx}{E:Value->Shared->Prop} (ok:(X.wish E).Ok):X.Ok :=
 ⟨ok.mod,ok.kind,ok.glob,ok.blt,ok.above,ok.inj,ok.has,ok.cab,ok.hd,ok.frames,ok.stk,ok.exf,ok.bs,ok.bsz,ok.noex,ok.exfs,ok.funs,ok.frf⟩
section
variable {X:Cx}{pins:List (Addr×Obj)}{σ:St}{H:Hp}{s:Shared}{E:Value->Shared->Prop}
theorem Inv.wish (I:Inv X pins σ H s)(E:Value->Shared->Prop):Inv (X.wish E) pins σ H s:=⟨I.ok.wish E,I.os,I.bare,I.base,I.loc,I.cell,I.free,I.freeC,I.pin,I.hok,I.len⟩
theorem Inv.unwish (I:Inv (X.wish E) pins σ H s):Inv X pins σ H s:=⟨I.ok.unwish,I.os,I.bare,I.base,I.loc,I.cell,I.free,I.freeC,I.pin,I.hok,I.len⟩
theorem SP.unwish {D:jZ}{f:Flow}{s':Shared} (h:SP (X.wish E) pins D f s'):SP X pins D f s':=by
 cases f with
 | next=>obtain⟨σ',H',I,q⟩:=h;exact⟨σ',H',I.unwish,q⟩
 | brk=>obtain⟨σ',H',I,q⟩:=h;exact⟨σ',H',I.unwish,q⟩
 | cont=>obtain⟨σ',H',I,q⟩:=h;exact⟨σ',H',I.unwish,q⟩
 | ret u=>obtain⟨v,σ',H',I,r,q⟩:=h;exact⟨v,σ',H',I.unwish,r,q⟩
theorem PE.nox {e:Expr}{t:TE} (h:PE X.nox e t):PE X e t:=fun pins s σ H Q I hw =>
 wpAny_mono (h pins s σ H Q (I.wish _) hw) (fun _ _ ⟨v,H',I',r,q⟩=>⟨v,H',I'.unwish,r,q⟩) fun _ _ z=>False.elim z
theorem PSs.nox {st:List Stmt}{t:TS} (h:PSs X.nox st t):PSs X st t:=fun pins s σ H D I hw =>
 wpAny_mono (h pins s σ H D (I.wish _) hw) (fun _ _ q=>q.unwish) fun _ _ z=>False.elim z
end
section
variable {X:Cx}{st:Stmt}{rest:List Stmt}{t u:TS}{e:Expr}{te:TE}{pos:Pos}
def Y7:TS:=fun D σ H=>D.nx σ H
def KY (t u:TS):TS:=fun D σ H=>t { D with nx:=u D } σ H
theorem bN:PSs X [] Y7:=fun _ _ σ H _ I h=>wpAny_execs_nil ⟨σ,H,I,h⟩
theorem aC (h1:PS X st t)(h2:PSs X rest u):PSs X (st::rest) (KY t u):=by
 intro pins s σ H D I h;refine wpAny_execs_cons (thn (h1 pins s σ H { D with nx:=u D } I h) fun f s1 q=> ?_);cases f with
 | next =>
  obtain⟨σ',H',I',q⟩:=q;exact h2 pins s1 σ' H' D I' q
 | ret v=>exact q
 | brk=>exact q
 | cont=>exact q
theorem aF (h1:PS X st t):PSs X [st] t:=by
 intro pins s σ H D I h;refine wpAny_execs_cons (thn (h1 pins s σ H D I h) fun f s1 q=> ?_);cases f with
 | next=>exact wpAny_execs_nil q
 | ret v=>exact q
 | brk=>exact q
 | cont=>exact q
theorem Inv.quiet {pins:List (Addr×Obj)}{σ:St}{H:Hp}{s:Shared} (I:Inv X pins σ H s):interactive X.env=false:=by simp[interactive,I.ok.kind]
def YX (te:TE):TS:=fun D σ H=>te σ H fun _ H1=>D.nx σ H1
theorem bP (he:PE X e te)(hs:swapsWith e none pos.line X.env=pure false:=by rfl):PS X (.Expr e pos) (YX te):=by
 intro pins s σ H D I h;exact wpAny_Expr_any (thn (he pins s σ H _ I h) fun v s1 ⟨x,H1,I1,r1,q1⟩=>⟨σ,H1,I1,q1⟩) I.quiet hs
def aDh (te:TE):TS:=fun D σ H=>te σ H D.rt
theorem aY (he:PE X e te):PS X (.Return (some e) pos) (aDh te):=by
 intro pins s σ H D I h;exact wpAny_Return_some (thn (he pins s σ H _ I h) fun v s1 ⟨x,H1,I1,r1,q1⟩=>⟨x,σ,H1,I1,r1,q1⟩)
def QH (c:TT)(t u:TS):TS:=fun D σ H=>c σ H fun b H1=>if b=true then t D σ H1 else u D σ H1
theorem cC {c:Expr}{a b:List Stmt}{tc:TT} (hc:PT X c tc) (ha:PSs X a t) (hb:PSs X b u):PS X (.If c a b pos) (QH tc t u):=by
 intro pins s σ H D I h;refine wpAny_If (thn (hc pins s σ H _ I h) fun d s1 ⟨H1,I1,q1⟩=> ?_);cases d with
 | true=>exact ha pins s1 σ H1 D I1 q1
 | false=>exact hb pins s1 σ H1 D I1 q1
def aB8:TS:=fun _ _ _=>False
theorem fE:PS X st aB8:=fun _ _ _ _ _ _ h=>h.elim
end
abbrev TG:=V->St->Hp->(St->Hp->Prop)->Prop
abbrev TGs:=List V->St->Hp->(St->Hp->Prop)->Prop
def PG (X:Cx)(target:Expr)(t:TG):Prop :=
 ∀(pins:List (Addr×Obj)) (s:Shared) (σ:St) (H:Hp) (v:V) (u:Value) (Q:St->Hp->Prop),Inv X pins σ H s->RelV v u->t v σ H Q →
  wpAny (model X.prog X.w) X.A (assign target X.env u) (fun _ s'=>∃σ' H',Inv X pins σ' H' s'/\Q σ' H') X.xe s
def PGs (X:Cx)(ts:List Expr)(t:TGs):Prop :=
 ∀(pins:List (Addr×Obj)) (s:Shared) (σ:St) (H:Hp) (vs:List V) (us:List Value) (Q:St->Hp->Prop),Inv X pins σ H s->Vals vs us->t vs σ H Q →
  wpAny (model X.prog X.w) X.A (assignInOrder ((assignEach ts X.env).map (·.2)) us) (fun _ s'=>∃σ' H',Inv X pins σ' H' s'/\Q σ' H') X.xe s
section
variable {X:Cx}{pos:Pos}
def cH (i:Nat):TG:=fun v σ H Q=>Q (σ.set i (some v)) H
theorem aO {i:Nat}{x:Str} (hN:X.N.Nodup) (hi:X.N[i]? =some x) (hx:Loc X.env.scope x) (hf:X.fn x=true∨X.env.scope.names.lookup x=some .local:=by first|exact .inl rfl|exact .inr rfl|assumption):PG X (.Name x pos) (cH i):=by
 intro pins s σ H v u Q I r h;exact wpAny_assign_Name (IJ I hN hi hx r (fun s' I'=>⟨_,H,I',h⟩) hf)
def DY:TGs:=fun vs σ H Q=>vs=[]/\Q σ H
def mK (t:TG)(u:TGs):TGs:=fun vs σ H Q=>∃v r,vs=v::r/\t v σ H fun σ' H'=>u r σ' H' Q
theorem dW:PGs X [] DY:=by
 intro pins s σ H vs us Q I r h;obtain⟨e,h⟩:=h;subst e;cases r;exact assignInOrder_nil ⟨σ,H,I,h⟩
theorem bF {e:Expr}{es:List Expr}{t:TG}{u:TGs} (h1:PG X e t) (h2:PGs X es u)
  (hs:(assignEach (e::es) X.env).map (·.2)=assign e X.env::(assignEach es X.env).map (·.2):=by rfl):PGs X (e::es) (mK t u):=by
 intro pins s σ H vs us Q I r h;obtain⟨v,vr,e1,h⟩:=h;subst e1;cases r with
 | cons r rr =>
  rw[hs];refine assignInOrder_cons (thn (h1 pins s σ H _ _ _ I r h) fun _ s1 ⟨σ1,H1,I1,q1⟩=> ?_);exact h2 pins s1 σ1 H1 _ _ Q I1 rr q1
def z5 (K:PySem.W.Frag)(n:Nat)(t:TGs):TG:=fun v σ H Q=>∃a xs,v= .ref a/\SqT K H a xs/\xs.length=n/\t xs σ H Q
theorem o7 {es:List Expr}{k:Nat}{t:TGs}{n:Nat} (hc:X.calm=true) (h:PGs X es t)
  (hn:(assignEach es X.env).length=n:=by rfl)(hst:(assignEach es X.env).findIdx? (·.1)=none:=by rfl):PG X (.Tuple es k pos) (z5 X.K n t):=by
 intro pins s σ H v u Q I r hw;obtain⟨a,xs,e1,hq,hl,hw⟩:=hw;subst e1;cases r;obtain⟨its,rv,ht,hz⟩:=I.tuple hq;refine assign_Tuple_tuple (I.ok.hd hc) ht (by simp[hn,←hl,rv.length]) hst fun h' hx=> ?_;have I1:Inv X pins σ H { s with heap:=h' }:=I.kept (t':=s.toks) fun b o e=>hx b o (Nat.ne_of_lt (Heap.lt_size e)) e;exact h pins _ σ H xs _ Q I1 (by simpa using rv) hw
def ON (te:TE)(g:TG):TS:=fun D σ H=>te σ H fun x H1=>g x σ H1 D.nx
theorem SH {tg e:Expr}{te:TE}{g:TG} (he:PE X e te) (hg:PG X tg g) (hs:swapsWithSole [tg] e pos.line X.env=pure false:=by rfl) (hw:swappedStores [tg] e X.env=pure none:=by rfl)
  (h1:(assignEach [tg] X.env).map (·.2)=[assign tg X.env]:=by rfl):PS X (.Assign [tg] e pos) (ON te g):=by
 intro pins s σ H D I h;refine wpAny_Assign_stores (thn (he pins s σ H _ I h) fun v s1 ⟨x,H1,I1,r1,q1⟩=> ?_) hs hw;rw[h1];exact thn (hg pins s1 σ H1 x v _ I1 r1 q1) fun _ s2 q=>q
theorem aU {i:Nat}{x:Str}{e:Expr}{te:TE}{pos':Pos} (hN:X.N.Nodup) (hi:X.N[i]? =some x) (hx:Loc X.env.scope x) (he:PE X e te) (hs:swapsWith e (some (.Name x pos')) pos.line X.env=pure false:=by rfl) (hf:X.fn x=true∨X.env.scope.names.lookup x=some .local:=by first|exact .inl rfl|exact .inr rfl|assumption) :
  PS X (.Assign [.Name x pos'] e pos) (ON te (cH i)):=by
 intro pins s σ H D I h;refine wpAny_Assign_Name (thn (he pins s σ H _ I h) fun v s1 ⟨y,H1,I1,r1,q1⟩=> ?_) hs;exact IJ I1 hN hi hx r1 (fun s2 I2=>⟨_,H1,I2,q1⟩) hf
end
section
variable {X:Cx}{pos:Pos}
def RI (c:TT)(tb:TS):TS:=fun D σ H=>∃W:Nat->St->Hp->Prop,(∃m,W m σ H)/\∀m σ H,W m σ H →
 c σ H fun b H1=>if b=true then ∃N:St->Hp->Prop,(∀σ' H',N σ' H'->∃m',m'<m/\W m' σ' H')/\tb { D with nx:=N,ct:=N,bk:=D.nx } σ H1 else D.nx σ H1
theorem WY {c:Expr}{body:List Stmt}{tc:TT}{tb:TS} (hp:PassesOwn (model X.prog X.w) X.A X.env X.xe) (hc:PT X c tc) (hb:PSs X body tb):PS X (.While c body [] pos) (RI tc tb):=by
 intro pins s σ H D I h;obtain⟨W,⟨m0,w0⟩,turn⟩:=h;refine wpAny_While (codeAny_whileLoop (fun n s'=>∃σ' H',Inv X pins σ' H' s'/\W n σ' H') ?_ m0 ⟨σ,H,I,w0⟩);rintro n s1 ⟨σ1,H1,I1,w1⟩;refine wpAny_passesOwn hp (thn (hc pins s1 σ1 H1 _ I1 (turn n σ1 H1 w1)) fun b s2 ⟨H2,I2,q2⟩=> ?_);cases b with
 | true =>
  obtain⟨N,hN,q2⟩:=q2;rw[if_pos rfl];refine wpAny_passesOwn hp (thn (hb pins s2 σ1 H2 _ I2 q2) fun f s3 q3=> ?_);cases f with
  | next =>
   obtain⟨σ3,H3,I3,n3⟩:=q3;obtain⟨m',hm,w3⟩:=hN σ3 H3 n3;exact⟨m',hm,σ3,H3,I3,w3⟩
  | cont =>
   obtain⟨σ3,H3,I3,n3⟩:=q3;obtain⟨m',hm,w3⟩:=hN σ3 H3 n3;exact⟨m',hm,σ3,H3,I3,w3⟩
  | brk=>exact q3
  | ret v=>exact q3
 | false =>
  rw[if_neg Bool.false_ne_true];exact wpAny_execs_nil ⟨σ1,H2,I2,q2⟩
end
structure It where
 go:Nat->Hp->Prop
 yld:Nat->Hp->V->Hp->Prop
 stop:Nat->Hp->Prop
def rX (X:Cx)(pins:List (Addr×Obj))(H:Hp)(b:Addr):Prop :=
 H b=none/\b≠X.env.locals/\b∉X.fs/\(b∈X.ex∨X.s₀.heap.objs.size<=b)/\(∀x c,X.env.cells.lookup x=some c->c≠b)/\∀p∈X.pn++pins,p.1≠b
theorem Inv.fpOk {X:Cx}{pins:List (Addr×Obj)}{σ:St}{H H':Hp}{s:Shared}{b:Addr} (I:Inv X pins σ H s) (hb:s.heap.objs.size<=b) (hn:H' b=none):rX X pins H' b:=by
 refine⟨hn,Nat.ne_of_gt (Nat.lt_of_lt_of_le I.lt hb),I.nofs hb,.inr (Nat.le_trans I.sz hb),fun x c e z=> ?_,fun p hp z=> ?_⟩
 ·obtain⟨v,q⟩:=I.cell x c e;exact absurd (Nat.lt_of_lt_of_le q.lt (by rw[z];exact hb)) (Nat.lt_irrefl _)
 ·exact absurd (Nat.lt_of_lt_of_le (Heap.lt_size (I.pin p hp).1) (by rw[z];exact hb)) (Nat.lt_irrefl _)
structure xH (P:Program)(w:World)(K:PySem.W.Frag)(tg:Expr)(J:It)(fp:List Addr)(it:Addr)(tn:Nat->Heap->Prop):Prop where
 mem:it∈fp
 obj:∀i h,tn i h->∀b∈fp,∃o,h.get? b=some o/\∀v,o.data≠ .cell v
 keep:∀i h h',tn i h->(∀b∈fp,∀o,h.get? b=some o->h'.get? b=some o)->tn i h'
 item:∀(X:Cx),X.prog=P->X.w=w->X.K=K->X.calm=true->∀(i:Nat) (pins:List (Addr×Obj)) (s:Shared) (σ:St) (H:Hp) (E:Value->Shared->Prop),Inv X pins σ H s->(∀b∈fp,rX X pins H b)->tn i s.heap->J.go i H →
  wpAny (model P w) X.A (pyNext (.ref it)) (fun r s1=>∃u,r=some u ∧
   wpAny (model P w) X.A (letOwnedTupleGo tg (.ref it) u) (fun _ s2=>∃x H',Inv X pins σ H' s2/\RelV x u/\J.yld i H x H'/\tn (i+1) s2.heap/\∀b∈fp,H' b=none) E s1) E s
 done:∀(X:Cx),X.prog=P->X.w=w->X.K=K->X.calm=true->∀(i:Nat) (pins:List (Addr×Obj)) (s:Shared) (σ:St) (H:Hp) (E:Value->Shared->Prop),Inv X pins σ H s->(∀b∈fp,rX X pins H b)->tn i s.heap->J.stop i H →
  wpAny (model P w) X.A (pyNext (.ref it)) (fun r s1=>r=none/\Inv X pins σ H s1) E s
 self:∀(A:Around) (i:Nat) (s:Shared) (Q:Value->Shared->Prop) (E:Value->Shared->Prop),tn i s.heap->Q (.ref it) s->wpAny (model P w) A (pyIter (.ref it)) Q E s
abbrev TI:=St->Hp->(It->Hp->Prop)->Prop
def PIE (X:Cx)(pins:List (Addr×Obj))(σ:St)(tg:Expr)(R:It->Hp->Prop)(itv:Value)(s2:Shared):Prop :=
 ∃(it:Addr) (fp:List Addr) (tn:Nat->Heap->Prop) (J:It) (H':Hp),itv= .ref it/\Inv X pins σ H' s2/\xH X.prog X.w X.K tg J fp it tn/\tn 0 s2.heap/\(∀b∈fp,rX X pins H' b)/\R J H'
def PI (X:Cx)(tg iter:Expr)(wi:TI):Prop :=
 ∀(pins:List (Addr×Obj)) (s:Shared) (σ:St) (H:Hp) (R:It->Hp->Prop),Inv X pins σ H s->wi σ H R →
  wpAny (model X.prog X.w) X.A (eval iter X.env) (fun v s1=>wpAny (model X.prog X.w) X.A (pyIter v) (PIE X pins σ tg R) X.xe s1) X.xe s
theorem OW {M:Model}{A:Around}{E:Value->Shared->Prop}{s:Shared}{tg:Expr}{it:Addr}{u:Value}{o:Obj}{n:String}{vs:Array Value}{Q:Unit->Shared->Prop} (ho:s.heap.get? it=some o) (hc:o.cls= .type n) (hd:o.data= .fields vs)
  (hn:["enumerate","zip","dict_itemiterator","dict_reverseitemiterator","odict_iterator","itertools.zip_longest","itertools.pairwise"].contains n=false)(hQ:Q () s):wpAny M A (letOwnedTupleGo tg (.ref it) u) Q E s:=by
 unfold letOwnedTupleGo;cases tg<;>first
  | exact wpAny_pure hQ
  | (cases u<;>first
    | exact wpAny_pure hQ
    | (refine wpAny_bind (wpAny_load ho ?_);rw[hc,hd];show wpAny M A (if (["enumerate","zip","dict_itemiterator","dict_reverseitemiterator","odict_iterator","itertools.zip_longest","itertools.pairwise"].contains n&&vs[0]? ==some (rawInt _))=true then _ else _) Q E s;rw[if_neg (by intro h;rw[hn,Bool.false_and]at h;cases h)];exact wpAny_pure hQ))
def Itl (K:PySem.W.Frag)(a:Addr):It :=
 ⟨fun i H=>∃xs x,SqL K H a xs/\xs[i]? =some x,fun i H x H'=>H'=H/\∀xs,SqL K H a xs->xs[i]? =some x,fun i H=>∃xs,SqL K H a xs/\xs.length<=i⟩
def Itr (lo:Int)(n:Nat):It:=⟨fun i _=>i<n,fun i H x H'=>H'=H/\x= .int (lo+i),fun i _=>n<=i⟩
theorem Q7 {P:Program}{w:World}{K:PySem.W.Frag}{tg:Expr} (a it:Addr):xH P w K tg (Itl K a) [it] it (fun i h=>h.IsListIter it a i) where
 mem:=by simp
 obj:=fun i h st b hb=>by
  have e:b=it:=by simpa using hb
  subst e;obtain⟨o,e,c,d⟩:=st;exact⟨o,e,fun v z=>by rw[d]at z;cases z⟩
 keep:=fun i h h' st k=>st.at fun o e=>k it (by simp) o e
 item:=by
  intro X hP hw hK hc i pins s σ H E I hf st hg;subst hP hw hK;obtain⟨xs,x,hq,hx⟩:=hg;obtain⟨its,rv,p,hz⟩:=I.list hq;obtain⟨u,hu,ru⟩:=rv.get hx;obtain⟨f0,f1,f2,f3,f4,f5⟩:=hf it (by simp);refine wpAny_pyNext_list_item st p.isList (x:=u) (by simpa using hu) fun h' st' sb=> ?_;have I1:Inv X pins σ H { s with heap:=h' }:=I.turned (t':=s.toks) (fun b o hb e=>(sb.2 b hb).trans e) f0 f1 f3 f4 f5;obtain⟨o,e,c,d⟩:=id st';exact⟨u,rfl,OW (s:={ s with heap:=h' }) e c d (by decide) ⟨x,H,I1,ru,⟨rfl,fun ys hy=>by rw[I.list_inj hy hq];exact hx⟩,st',fun b hb=>(hf b hb).1⟩⟩
 done:=by
  intro X hP hw hK hc i pins s σ H E I hf st hg;subst hP hw hK;obtain⟨xs,hq,hx⟩:=hg;obtain⟨its,rv,p,hz⟩:=I.list hq;obtain⟨f0,f1,f2,f3,f4,f5⟩:=hf it (by simp);have hl:=rv.length;exact wpAny_pyNext_list_end (I.ok.hd hc) st p.isList (by simp;lia) fun h' eb=>⟨rfl,I.turned (t':=s.toks) (fun b o hb e=>eb b o hb e) f0 f1 f3 f4 f5⟩
 self:=fun _ _ _ _ _ st h=>wpAny_pyIter_listiter st h
theorem O0 {P:Program}{w:World}{K:PySem.W.Frag}{tg:Expr} (it:Addr) (lo:Int) (n:Nat):xH P w K tg (Itr lo n) [it] it (fun i h=>IsRangeIter h it (lo+(i:Nat) * 1) ((n:Int) - (i:Nat)) 1) where
 mem:=by simp
 obj:=fun i h st b hb=>by
  have e:b=it:=by simpa using hb
  subst e;exact⟨_,st,fun v z=>by
   have z':Data.fields _=Data.cell v:=z;cases z'⟩
 keep:=fun i h h' st k=>k it (by simp) _ st
 item:=by
  intro X hP hw hK hc i pins s σ H E I hf st hg;subst hP hw hK;obtain⟨f0,f1,f2,f3,f4,f5⟩:=hf it (by simp);have W:=Walks.range (prog:=X.prog) (w:=X.w) (I.ok.hd hc) it lo 1 n;refine W.item i s _ _ hg st fun v h' tk hv st' kk=> ?_;obtain⟨t,rfl⟩:=hv;have I1:Inv X pins σ H { s with heap:=h',toks:=tk }:=I.turned (fun b o hb e=>kk b o (by simpa using hb) e) f0 f1 f3 f4 f5;refine⟨_,rfl,OW (s:={ s with heap:=h',toks:=tk }) (n:= "range_iterator") st' rfl rfl (by decide) ⟨.int (lo+i),H,I1,⟨t,?_⟩,⟨rfl,rfl⟩,st',fun b hb=>(hf b hb).1⟩⟩;rw[Int.mul_one]
 done:=by
  intro X hP hw hK hc i pins s σ H E I hf st hg;subst hP hw hK;obtain⟨f0,f1,f2,f3,f4,f5⟩:=hf it (by simp);exact wpAny_pyNext_range_end (I.ok.hd hc) st (by have:n<=i:=hg;lia) fun h' eb=>⟨rfl,I.turned (t':=s.toks) (fun b o hb e=>eb b o hb e) f0 f1 f3 f4 f5⟩
 self:=fun _ _ _ _ _ st h=>wpAny_pyIter_rangeiter st h
end L2
namespace L2
open PySem PySem.Spec PyProof.Rows
section
variable {X:Cx}{tg:Expr}
def YF (K:PySem.W.Frag)(tl:TE):TI:=fun σ H R=>tl σ H fun x H1=>∃a,x= .ref a/\(∃xs,SqL K H1 a xs)/\R (Itl K a) H1
theorem bK {l:Expr}{tl:TE} (hl:PE X l tl):PI X tg l (YF X.K tl):=by
 intro pins s σ H R I h;refine thn (hl pins s σ H _ I h) fun v s1 ⟨x,H1,I1,r1,q1⟩=> ?_;obtain⟨a,e,⟨xs,hq⟩,q⟩:=q1;subst e;cases r1;obtain⟨its,rv,p,hz⟩:=I1.list hq;refine wpAny_pyIter_list p.isList ?_;refine⟨s1.heap.objs.size,[s1.heap.objs.size],_,_,H1,rfl,I1.kept (t':=s1.toks) fun b o e=>Heap.get?_push_of_some _ e,Q7 a _,⟨_,Heap.get?_push_size _ rfl,rfl,rfl⟩,fun b hb=> ?_,q⟩;have e:b=s1.heap.objs.size:=by simpa using hb
 subst e;exact I1.fpOk (Nat.le_refl _) (I1.hok.fresh (Nat.le_refl _))
theorem KR {pins:List (Addr×Obj)}{σ:St}{H:Hp}{s:Shared}{R:It->Hp->Prop}{E:Value->Shared->Prop}{lo hi:Int}{t u v:Tok}{tk:Nat} (I:Inv X pins σ H s) (h1: -(2^62)<=lo) (h2:lo<2^62) (h3: -(2^62)<=hi) (h4:hi<2^62)
  (q:R (Itr lo (hi - lo).toNat) H):wpAny (model X.prog X.w) X.A (pyIter (.ref s.heap.objs.size)) (PIE X pins σ tg R) E { s with heap:=s.heap.push { cls:= .type "range",data:= .fields #[.int lo t,.int hi u,.int 1 v] },toks:=tk }:=by
 refine wpAny_pyIter_range (IsRange.new ..) (small_one h1 h2 h3 h4) ?_;have I1:Inv X pins σ H { s with heap:=s.heap.push { cls:= .type "range",data:= .fields #[.int lo t,.int hi u,.int 1 v] },toks:=tk }:=I.kept fun b o e=>Heap.get?_push_of_some _ e;refine⟨(s.heap.push { cls:= .type "range",data:= .fields #[.int lo t,.int hi u,.int 1 v] }).objs.size,[(s.heap.push { cls:= .type "range",data:= .fields #[.int lo t,.int hi u,.int 1 v] }).objs.size],_,_,H,rfl,
  I1.kept (t':=tk) fun b o e=>Heap.get?_push_of_some _ e,O0 _ lo (hi - lo).toNat,?_,fun b hb=> ?_,q⟩
 ·have e1:lo+((0:Nat):Int) * 1=lo:=by simp
  have e2:(((hi - lo).toNat:Nat):Int) - ((0:Nat):Int)=Builtin.Range.rangeSize lo hi 1:=by rw[rangeSize_one];split<;>lia
  show IsRangeIter _ _ (lo+((0:Nat):Int) * 1) ((((hi - lo).toNat:Nat):Int) - ((0:Nat):Int)) 1;rw[e1,e2];exact Heap.get?_push_size _ rfl
 ·have e:b=(s.heap.push { cls:= .type "range",data:= .fields #[.int lo t,.int hi u,.int 1 v] }).objs.size:=by simpa using hb
  subst e;exact I1.fpOk (Nat.le_refl _) (I1.hok.fresh (Nat.le_refl _))
def Y3 (ta:TA):TI:=fun σ H R=>ta σ H fun vs H1=>∃j:Int,vs=[.int j]/\ -(2^62)<=j/\j<2^62/\R (Itr 0 j.toNat) H1
def YO (ta:TA):TI:=fun σ H R=>ta σ H fun vs H1=>∃i j:Int,vs=[.int i,.int j]/\(-(2^62)<=i/\i<2^62/\ -(2^62)<=j/\j<2^62)/\R (Itr i (j - i).toNat) H1
theorem mB {a:Expr}{ta:TA}{p pos:Pos} (hg:Gl X "range") (hm:X.mg "range" =none) (ha:PA X [a] ta) (hs:starEach [a] X.env=[(false,eval a X.env)]:=by rfl):PI X tg (.Call (.Name "range" p) [a] [] pos) (Y3 ta):=by
 intro pins s σ H R I h;refine Call_ (xP I hg hm boot_range (PyProof.Rows.callWith_type1 (thn (ha pos pins s σ H _ I h) fun us s1 ⟨vs,H1,I1,r1,q1⟩=> ?_) hs rfl));obtain⟨j,e,q1,q2,q⟩:=q1;subst e;cases r1 with
 | cons r rr =>
  cases rr;obtain⟨t,rfl⟩:=r;exact call_range_1 (KR I1 (by lia) (by lia) q1 q2 (by simpa using q))
theorem tS {a b:Expr}{ta:TA}{p pos:Pos} (hg:Gl X "range") (hm:X.mg "range" =none) (ha:PA X [a,b] ta) (hs:starEach [a,b] X.env=[(false,eval a X.env),(false,eval b X.env)]:=by rfl) (hs2:starEach [b] X.env=[(false,eval b X.env)]:=by rfl) :
  PI X tg (.Call (.Name "range" p) [a,b] [] pos) (YO ta):=by
 intro pins s σ H R I h;refine Call_ (xP I hg hm boot_range (PyProof.Rows.callWith_type1 (thn (ha pos pins s σ H _ I h) fun us s1 ⟨vs,H1,I1,r1,q1⟩=> ?_) (by rw[hs,hs2]) (by rw[hs2];rfl)));obtain⟨i,j,e,⟨q1,q2,q3,q4⟩,q⟩:=q1;subst e;cases r1 with
 | cons r rr =>
  cases rr with
  | cons r' rr =>
   cases rr;obtain⟨t,rfl⟩:=r;obtain⟨t',rfl⟩:=r';exact call_range_2 (KR I1 q1 q2 q3 q4 q)
def aDv (wi:TI)(g:TG)(tb:TS):TS:=fun D σ H=>wi σ H fun J H1=>∃W:Nat->Nat->St->Hp->Prop,(∃m,W 0 m σ H1)/\∀i m σ H,W i m σ H →
 (J.stop i H/\D.nx σ H)∨(J.go i H/\∃N:St->Hp->Prop,(∀σ' H',N σ' H'->∃m',m'<m/\W (i+1) m' σ' H')/\∀x H',J.yld i H x H'->g x σ H' fun σ2 H2=>tb { D with nx:=N,ct:=N,bk:=D.nx } σ2 H2)
def o6 (fp:List Addr)(h:Heap):List (Addr×Obj):=fp.filterMap fun b=>(h.get? b).map fun o=>(b,o)
theorem mP {fp:List Addr}{h:Heap}{b:Addr}{o:Obj} (hb:b∈fp) (e:h.get? b=some o):(b,o)∈o6 fp h:=List.mem_filterMap.mpr ⟨b,hb,by rw[e];rfl⟩
theorem F0 {fp:List Addr}{h:Heap}{p:Addr×Obj} (hp:p∈o6 fp h):p.1∈fp/\h.get? p.1=some p.2:=by
 obtain⟨b,hb,e⟩:=List.mem_filterMap.mp hp;cases q:h.get? b with
 | none=>rw[q]at e;cases e
 | some o =>
  rw[q]at e;have e':(b,o)=p:=Option.some.inj e;subst e';exact⟨hb,q⟩
theorem Inv.pinned {pins:List (Addr×Obj)}{σ:St}{H:Hp}{s:Shared}{fp:List Addr} (I:Inv X pins σ H s) (hf:∀b∈fp,rX X pins H b) (ho:∀b∈fp,∃o,s.heap.get? b=some o/\∀v,o.data≠ .cell v):Inv X (pins++o6 fp s.heap) σ H s :=
 I.pins_of fun p hp=>(List.mem_append.mp hp).elim (fun z=>I.pin p (List.mem_append_right _ z)) fun z=>by
  obtain⟨hb,e⟩:=F0 z;obtain⟨f0,f1,f2,_⟩:=hf p.1 hb;obtain⟨o,e',d⟩:=ho p.1 hb;rw[e]at e';cases e';exact⟨e,f0,f1,f2,d⟩
theorem Inv.unpinned {pins pl:List (Addr×Obj)}{σ:St}{H:Hp}{s:Shared} (I:Inv X (pins++pl) σ H s):Inv X pins σ H s:=I.pins_of fun p hp=>I.pin p (List.mem_append_right _ (List.mem_append_left _ hp))
theorem cS {iter:Expr}{body:List Stmt}{wi:TI}{g:TG}{tb:TS}{pos:Pos} (hp:PassesOwn (model X.prog X.w) X.A X.env X.xe) (hc:X.calm=true) (hi:PI X tg iter wi) (hg:PG X tg g) (hb:PSs X body tb)
  (hs:∀x,foldedSetIterable iter X.env x=pure x:=by intro _;rfl):PS X (.For tg iter body [] pos) (aDv wi g tb):=by
 intro pins s σ H D I h;refine wpAny_For (thn (hi pins s σ H _ I h) fun v s1 h1=>thn h1 fun itv s2 h2=> ?_) hs;obtain⟨it,fp,tn,J,H2,e,I2,T,st2,f2,W,⟨m0,w0⟩,turn⟩:=h2;subst e;have stat:∀{H':Hp},(∀b∈fp,H' b=none)->∀b∈fp,rX X pins H' b:=fun hn b hb=>⟨hn b hb,(f2 b hb).2⟩
 refine codeAny_forLoop_any (fun n s'=>∃i σ' H',Inv X pins σ' H' s'/\tn i s'.heap/\(∀b∈fp,H' b=none)/\W i n σ' H') ?_ m0 ⟨0,σ,H2,I2,st2,fun b hb=>(f2 b hb).1,w0⟩;rintro n s3 ⟨i,σ3,H3,I3,st3,fr3,w3⟩;rcases turn i n σ3 H3 w3 with⟨stop,qn⟩|⟨go,N,hN,step⟩
 ·refine wpAny_passesOwn hp (thn (T.done X rfl rfl rfl hc i pins s3 σ3 H3 X.xe I3 (stat fr3) st3 stop) fun r s4 ⟨hr,I4⟩=> ?_);subst hr;exact wpAny_execs_nil ⟨σ3,H3,I4,qn⟩
 ·refine wpAny_passesOwn hp (thn (T.item X rfl rfl rfl hc i pins s3 σ3 H3 X.xe I3 (stat fr3) st3 go) fun r s4 ⟨u,hr,h4⟩=> ?_);subst hr;refine wpAny_passesOwn hp (thn h4 fun _ s5 ⟨x,H5,I5,r5,y5,st5,fr5⟩=> ?_);have I5':=I5.pinned (stat fr5) (T.obj _ _ st5);refine wpAny_passesOwn hp (thn (hg _ s5 σ3 H5 x u _ I5' r5 (step x H5 y5)) fun _ s6 ⟨σ6,H6,I6,q6⟩=> ?_);refine wpAny_passesOwn hp (thn (hb _ s6 σ6 H6 _ I6 q6) fun f s7 q7=> ?_);have again:∀{σ7:St}{H7:Hp},Inv X (pins++o6 fp s5.heap) σ7 H7 s7->N σ7 H7->∃m,m<n/\∃i σ' H',Inv X pins σ' H' s7/\tn i s7.heap/\(∀b∈fp,H' b=none)/\W i m σ' H':=fun {σ7 H7} I7 n7=>by
   obtain⟨m',hm,w7⟩:=hN σ7 H7 n7;refine⟨m',hm,i+1,σ7,H7,I7.unpinned,T.keep _ _ _ st5 fun b hb o e=>(I7.pin (b,o) (List.mem_append_right _ (List.mem_append_right _ (mP hb e)))).1,fun b hb=> ?_,w7⟩;obtain⟨o,e,d⟩:=T.obj _ _ st5 b hb;exact(I7.pin (b,o) (List.mem_append_right _ (List.mem_append_right _ (mP hb e)))).2.1
  cases f with
  | next=>obtain⟨σ7,H7,I7,n7⟩:=q7;exact again I7 n7
  | cont=>obtain⟨σ7,H7,I7,n7⟩:=q7;exact again I7 n7
  | brk=>obtain⟨σ7,H7,I7,q7⟩:=q7;exact⟨σ7,H7,I7.unpinned,q7⟩
  | ret v=>obtain⟨x7,σ7,H7,I7,r7,q7⟩:=q7;exact⟨x7,σ7,H7,I7.unpinned,r7,q7⟩
end
theorem VW {K:PySem.W.Frag}{a:Addr}{xs:List V}{g:TG}{tb:TS}{D:jZ}{σ:St}{H:Hp} (Pv:Nat->St->Hp->Prop) (h0:Pv 0 σ H) (hl:∀i σ H,i<=xs.length->Pv i σ H->SqL K H a xs)
  (hs:∀i x σ H,xs[i]? =some x->Pv i σ H->g x σ H fun σ2 H2=>tb { D with nx:=Pv (i+1),ct:=Pv (i+1),bk:=D.nx } σ2 H2)(hd:∀σ H,Pv xs.length σ H->D.nx σ H) :
  ∃W:Nat->Nat->St->Hp->Prop,(∃m,W 0 m σ H)/\∀i m σ H,W i m σ H →
   ((Itl K a).stop i H/\D.nx σ H)∨((Itl K a).go i H/\∃N:St->Hp->Prop,(∀σ' H',N σ' H'->∃m',m'<m/\W (i+1) m' σ' H')/\∀x H',(Itl K a).yld i H x H'->g x σ H' fun σ2 H2=>tb { D with nx:=N,ct:=N,bk:=D.nx } σ2 H2):=by
 refine⟨fun i m σ H=>m=xs.length - i/\i<=xs.length/\Pv i σ H,⟨xs.length,by simp,Nat.zero_le _,h0⟩,?_⟩;rintro i m σ H ⟨rfl,hi,p⟩;have q:=hl i σ H hi p
 by_cases hlt:i<xs.length
 ·refine .inr ⟨⟨xs,xs[i],q,by simp[hlt]⟩,Pv (i+1),fun σ' H' p'=>⟨xs.length - (i+1),by lia,rfl,hlt,p'⟩,fun x H' y=> ?_⟩;obtain⟨e,y⟩:=y;subst e;exact hs i x σ _ (y xs q) p
 ·have e:i=xs.length:=by lia
  subst e;exact .inl ⟨⟨xs,q,Nat.le_refl _⟩,hd σ H p⟩
theorem TQ {lo:Int}{n:Nat}{g:TG}{tb:TS}{D:jZ}{σ:St}{H:Hp} (Pv:Nat->St->Hp->Prop) (h0:Pv 0 σ H)
  (hs:∀i σ H,i<n->Pv i σ H->g (.int (lo+i)) σ H fun σ2 H2=>tb { D with nx:=Pv (i+1),ct:=Pv (i+1),bk:=D.nx } σ2 H2)(hd:∀σ H,Pv n σ H->D.nx σ H) :
  ∃W:Nat->Nat->St->Hp->Prop,(∃m,W 0 m σ H)/\∀i m σ H,W i m σ H →
   ((Itr lo n).stop i H/\D.nx σ H)∨((Itr lo n).go i H/\∃N:St->Hp->Prop,(∀σ' H',N σ' H'->∃m',m'<m/\W (i+1) m' σ' H')/\∀x H',(Itr lo n).yld i H x H'->g x σ H' fun σ2 H2=>tb { D with nx:=N,ct:=N,bk:=D.nx } σ2 H2):=by
 refine⟨fun i m σ H=>m=n - i/\i<=n/\Pv i σ H,⟨n,by simp,Nat.zero_le _,h0⟩,?_⟩;rintro i m σ H ⟨rfl,hi,p⟩
 by_cases hlt:i<n
 ·refine .inr ⟨hlt,Pv (i+1),fun σ' H' p'=>⟨n - (i+1),by lia,rfl,hlt,p'⟩,fun x H' y=> ?_⟩;obtain⟨e,y⟩:=y;subst e y;exact hs i σ _ hlt p
 ·have e:i=n:=by lia
  subst e;exact .inl ⟨Nat.le_refl _,hd σ H p⟩
end L2
namespace L2
open PySem PySem.Spec PyProof.Rows
abbrev R2:=V->V->Hp->VK->Prop
def OpR (X:Cx)(f:Value->Value->Sem Value)(r:R2):Prop :=
 ∀(pins:List (Addr×Obj)) (s:Shared) (σ:St) (H:Hp) (x y:V) (v u:Value) (Q:VK),Inv X pins σ H s->RelV x v->RelV y u->r x y H Q →
  wpAny (model X.prog X.w) X.A (f v u) (EP X pins σ Q) X.xe s
def dH (X:Cx)(f:Value)(r:List V->Hp->VK->Prop):Prop :=
 ∀(pins:List (Addr×Obj)) (s:Shared) (σ:St) (H:Hp) (xs:List V) (us:List Value) (Q:VK),Inv X pins σ H s->Vals xs us->r xs H Q →
  wpAny (model X.prog X.w) X.A (call f us) (EP X pins σ Q) X.xe s
def tOp (r:R2)(ta tb:TE):TE:=fun σ H Q=>ta σ H fun x H1=>tb σ H1 fun y H2=>r x y H2 Q
def rI (C:Int->Int->Prop)(g:Int->Int->V):R2:=fun x y H Q=>∃i j,x= .int i/\y= .int j/\C i j/\Q (g i j) H
def rI0 (g:Int->Int->V):R2:=fun x y H Q=>∃i j,x= .int i/\y= .int j/\Q (g i j) H
section
variable {X:Cx}{a b c:Expr}{ta tb tc:TE}{pos:Pos}
theorem VD (ha:PE X a ta)(hb:PE X b tb){pins:List (Addr×Obj)}{s:Shared}{σ:St}{H:Hp}{R:V->V->Hp->Prop} (I:Inv X pins σ H s)
  (h:ta σ H fun x H1=>tb σ H1 fun y H2=>R x y H2){Q:Value->Shared->Prop}{f:Value->Value->Sem Value}
  (hf:∀v u s2 x y H2,Inv X pins σ H2 s2->RelV x v->RelV y u->R x y H2->wpAny (model X.prog X.w) X.A (f v u) Q X.xe s2) :
  wpAny (model X.prog X.w) X.A (eval a X.env) (fun v s₁=>wpAny (model X.prog X.w) X.A (eval b X.env) (fun u s₂=>wpAny (model X.prog X.w) X.A (f v u) Q X.xe s₂) X.xe s₁) X.xe s:=by
 refine thn (ha pins s σ H _ I h) fun v s1 ⟨x,H1,I1,r1,q1⟩=> ?_;refine thn (hb pins s1 σ H1 _ I1 q1) fun u s2 ⟨y,H2,I2,r2,q2⟩=> ?_;exact hf v u s2 x y H2 I2 r1 r2 q2
theorem aI {op:Operator}{r:R2} (ho:OpR X (binaryOp op) r) (ha:PE X a ta) (hb:PE X b tb):PE X (.BinOp a op b pos) (tOp r ta tb):=by
 intro pins s σ H Q I h;exact wpAny_BinOp (VD ha hb I h fun v u s2 x y H2 I2 rx ry q=>ho pins s2 σ H2 x y v u Q I2 rx ry q)
theorem opI {f:Value->Value->Sem Value}{C:Int->Int->Prop}{g:Int->Int->Int}
  (rule:∀(i j:Int) (t u:Tok) (s:Shared) (Q:Value->Shared->Prop) (E:Value->Shared->Prop),C i j->Q (.int (g i j) s.toks) { s with toks:=s.toks+1 }->wpAny (model X.prog X.w) X.A (f (.int i t) (.int j u)) Q E s) :
  OpR X f (rI C fun i j=> .int (g i j)):=by
 intro pins s σ H x y v u Q I rx ry h;obtain⟨i,j,rfl,rfl,hc,q⟩:=h;obtain⟨t,rfl⟩:=rx;obtain⟨t',rfl⟩:=ry;exact rule i j t t' s _ _ hc ⟨.int (g i j),H,I.tok _,⟨_,rfl⟩,q⟩
theorem aCE {f:Value->Value->Sem Value}{g:Int->Int->Int}
  (rule:∀(i j:Int) (t u:Tok) (s:Shared) (Q:Value->Shared->Prop) (E:Value->Shared->Prop),Q (.int (g i j) s.toks) { s with toks:=s.toks+1 }->wpAny (model X.prog X.w) X.A (f (.int i t) (.int j u)) Q E s) :
  OpR X f (rI0 fun i j=> .int (g i j)):=by
 intro pins s σ H x y v u Q I rx ry h;obtain⟨i,j,rfl,rfl,q⟩:=h;obtain⟨t,rfl⟩:=rx;obtain⟨t',rfl⟩:=ry;exact rule i j t t' s _ _ ⟨.int (g i j),H,I.tok _,⟨_,rfl⟩,q⟩
theorem O1 {f:Value->Value->Sem Value}{g:Int->Int->Bool}
  (rule:∀(i j:Int) (t u:Tok) (s:Shared) (Q:Value->Shared->Prop) (E:Value->Shared->Prop),Q (.bool (g i j)) s->wpAny (model X.prog X.w) X.A (f (.int i t) (.int j u)) Q E s) :
  OpR X f (rI0 fun i j=> .bl (g i j)):=by
 intro pins s σ H x y v u Q I rx ry h;obtain⟨i,j,rfl,rfl,q⟩:=h;obtain⟨t,rfl⟩:=rx;obtain⟨t',rfl⟩:=ry;exact rule i j t t' s _ _ ⟨.bl (g i j),H,I,rfl,q⟩
def aC3 (i j:Int):Prop:=0<j/\j<1073741824
def aCZ (i j:Int):Prop:=0<=j/\j<=1000000/\i.natAbs<2^64
def CMul (i j:Int):Prop:=(-(2^64)<i/\i<2^64)∨(-(2^64)<j/\j<2^64)
theorem CMul.ok {i j:Int}(h:CMul i j):IntMulOk i j:=by
 rcases h with⟨h1,h2⟩|⟨h1,h2⟩
 ·exact .of_left (intBits_le_64 h1 h2)
 ·exact .of_right (intBits_le_64 h1 h2)
theorem OQ (k:Nat):(0:Int)<=2^k:=by
 rw[two_pow_cast];exact Int.natCast_nonneg _
theorem bO:OpR X (binaryOp .Add) (rI0 fun i j=> .int (i+j)):=aCE fun _ _ _ _ _ _ _ q=>add_int q
theorem i8:OpR X (binaryOp .Sub) (rI0 fun i j=> .int (i - j)):=aCE fun _ _ _ _ _ _ _ q=>sub_int q
theorem i7:OpR X (binaryOp .Mult) (rI CMul fun i j=> .int (i * j)):=opI fun _ _ _ _ _ _ _ hc q=>mul_int q hc.ok
theorem dS:OpR X (binaryOp .FloorDiv) (rI aC3 fun i j=> .int (i/j)):=opI fun i j _ _ _ _ _ hc q=>by
 have h1:(0:Int)<j:=hc.1;have h2:j<1073741824:=hc.2;exact floordiv_int (by lia) (by rw[Int.fdiv_eq_ediv_of_nonneg i (by lia)];exact q) (.inl (PyProof.noPylong_small (by lia)))
theorem bU:OpR X (binaryOp .Mod) (rI (fun _ j=>0<j) fun i j=> .int (i%j)):=opI fun i j _ _ _ _ _ hc q=>by
 have h1:(0:Int)<j:=hc;exact mod_int' (by lia) (by rw[Int.fmod_eq_emod_of_nonneg i (by lia)];exact q)
theorem aDr:OpR X (binaryOp .Pow) (rI aCZ fun i j=> .int (i^j.toNat)):=opI fun _ _ _ _ _ _ _ hc q=>pow_int_small hc.1 hc.2.1 hc.2.2 q
theorem TC:OpR X (binaryOp .RShift) (rI (fun _ j=>0<=j) fun i j=> .int (i/2^j.toNat)):=opI fun i j _ _ _ _ _ hc q =>
 rshift_int hc (by rw[Int.fdiv_eq_ediv_of_nonneg i (OQ _)];exact q)
end
def aCR:V->V->Bool
 | .non,.non=>true| .non,.int _=>true| .int _,.non=>true| .non,.bl _=>true| .bl _,.non=>true| .non,.str _=>true| .str _,.non=>true
 | .int _,.int _=>true| .bl _,.bl _=>true| .str _,.str _=>true| .byt _,.byt _=>true
 | .int _,.str _=>true| .str _,.int _=>true| .bl _,.str _=>true| .str _,.bl _=>true
 | _,_=>false
def rEq:R2:=fun x y H Q=>aCR x y=true/\Q (.bl (decide (x=y))) H
def rNe:R2:=fun x y H Q=>aCR x y=true/\Q (.bl (!decide (x=y))) H
theorem M6 {i j:Int}:decide (V.int i=V.int j)=(i==j):=by
 rw[Bool.eq_iff_iff];simp
theorem TZ {i j:Bool}:decide (V.bl i=V.bl j)=(i==j):=by
 rw[Bool.eq_iff_iff];simp
theorem N0 {i j:Str}:decide (V.str i=V.str j)=(i==j):=by
 rw[Bool.eq_iff_iff];simp
theorem N7 {i j:Array UInt8}:decide (V.byt i=V.byt j)=(i.toList==j.toList):=by
 rw[Bool.eq_iff_iff];cases i;cases j;simp
section
variable {X:Cx}{a b c:Expr}{ta tb tc:TE}{pos:Pos}
theorem bX {pins:List (Addr×Obj)}{σ:St}{H:Hp}{s:Shared}{Q:VK}{k k':Bool} (I:Inv X pins σ H s) (q:Q (.bl k) H) (e:k=k'):EP X pins σ Q (.bool k') s:=by
 subst e;exact⟨.bl k,H,I,rfl,q⟩
theorem jK:OpR X (compareOp .Eq) rEq:=by
 intro pins s σ H x y v u Q I rx ry h;obtain⟨hs,q⟩:=h;cases x with
 | non =>
  cases rx;cases y with
  | non=>cases ry;exact PySem.EqNone.eq_none_none (bX I q (by simp))
  | bl j=>cases ry;exact PySem.EqNone.eq_none_bool (bX I q (by simp))
  | int j=>obtain⟨t',rfl⟩:=ry;exact PySem.EqNone.eq_none_int (bX I q (by simp))
  | str j=>obtain⟨t',rfl⟩:=ry;exact PySem.EqNone.eq_none_str (bX I q (by simp))
  | _=>exact absurd (show false=true from hs) Bool.false_ne_true
 | bl i =>
  cases rx;cases y with
  | non=>cases ry;exact PySem.EqNone.eq_bool_none (bX I q (by simp))
  | bl j=>cases ry;exact eq_bool (bX I q TZ)
  | str j=>obtain⟨t',rfl⟩:=ry;exact PySem.EqMixed.eq_bool_str (bX I q (by simp))
  | _=>exact absurd (show false=true from hs) Bool.false_ne_true
 | int i =>
  obtain⟨t,rfl⟩:=rx;cases y with
  | non=>cases ry;exact PySem.EqNone.eq_int_none (bX I q (by simp))
  | int j=>obtain⟨t',rfl⟩:=ry;exact eq_int (bX I q M6)
  | str j=>obtain⟨t',rfl⟩:=ry;exact PySem.EqMixed.eq_int_str (bX I q (by simp))
  | _=>exact absurd (show false=true from hs) Bool.false_ne_true
 | str i =>
  obtain⟨t,rfl⟩:=rx;cases y with
  | non=>cases ry;exact PySem.EqNone.eq_str_none (bX I q (by simp))
  | bl j=>cases ry;exact PySem.EqMixed.eq_str_bool (bX I q (by simp))
  | int j=>obtain⟨t',rfl⟩:=ry;exact PySem.EqMixed.eq_str_int (bX I q (by simp))
  | str j=>obtain⟨t',rfl⟩:=ry;exact eq_str (bX I q N0)
  | _=>exact absurd (show false=true from hs) Bool.false_ne_true
 | byt i =>
  obtain⟨t,rfl⟩:=rx;cases y with
  | byt j=>obtain⟨t',rfl⟩:=ry;exact PySem.W.eq_bytes (bX I q N7)
  | _=>exact absurd (show false=true from hs) Bool.false_ne_true
 | _=>cases y<;>exact absurd (show false=true from hs) Bool.false_ne_true
theorem CI:OpR X (compareOp .NotEq) rNe:=by
 intro pins s σ H x y v u Q I rx ry h;obtain⟨hs,q⟩:=h;cases x with
 | non =>
  cases rx;cases y with
  | non=>cases ry;exact PySem.EqNone.ne_none_none (bX I q (by simp))
  | bl j=>cases ry;exact PySem.EqNone.ne_none_bool (bX I q (by simp))
  | int j=>obtain⟨t',rfl⟩:=ry;exact PySem.EqNone.ne_none_int (bX I q (by simp))
  | str j=>obtain⟨t',rfl⟩:=ry;exact PySem.EqNone.ne_none_str (bX I q (by simp))
  | _=>exact absurd (show false=true from hs) Bool.false_ne_true
 | bl i =>
  cases rx;cases y with
  | non=>cases ry;exact PySem.EqNone.ne_bool_none (bX I q (by simp))
  | bl j=>cases ry;exact ne_bool (bX I q (congrArg not TZ))
  | str j=>obtain⟨t',rfl⟩:=ry;exact PySem.EqMixed.ne_bool_str (bX I q (by simp))
  | _=>exact absurd (show false=true from hs) Bool.false_ne_true
 | int i =>
  obtain⟨t,rfl⟩:=rx;cases y with
  | non=>cases ry;exact PySem.EqNone.ne_int_none (bX I q (by simp))
  | int j=>obtain⟨t',rfl⟩:=ry;exact ne_int (bX I q (congrArg not M6))
  | str j=>obtain⟨t',rfl⟩:=ry;exact PySem.EqMixed.ne_int_str (bX I q (by simp))
  | _=>exact absurd (show false=true from hs) Bool.false_ne_true
 | str i =>
  obtain⟨t,rfl⟩:=rx;cases y with
  | non=>cases ry;exact PySem.EqNone.ne_str_none (bX I q (by simp))
  | bl j=>cases ry;exact PySem.EqMixed.ne_str_bool (bX I q (by simp))
  | int j=>obtain⟨t',rfl⟩:=ry;exact PySem.EqMixed.ne_str_int (bX I q (by simp))
  | str j=>obtain⟨t',rfl⟩:=ry;exact ne_str (bX I q (congrArg not N0))
  | _=>exact absurd (show false=true from hs) Bool.false_ne_true
 | byt i =>
  obtain⟨t,rfl⟩:=rx;cases y with
  | byt j=>obtain⟨t',rfl⟩:=ry;exact PySem.W.ne_bytes (bX I q (congrArg not N7))
  | _=>exact absurd (show false=true from hs) Bool.false_ne_true
 | _=>cases y<;>exact absurd (show false=true from hs) Bool.false_ne_true
theorem mI:OpR X (compareOp .Lt) (rI0 fun i j=> .bl (decide (i<j))):=O1 fun _ _ _ _ _ _ _ q=>lt_int q
theorem QJ:OpR X (compareOp .LtE) (rI0 fun i j=> .bl (decide (i<=j))):=O1 fun _ _ _ _ _ _ _ q=>le_int q
theorem mU:OpR X (compareOp .Gt) (rI0 fun i j=> .bl (decide (j<i))):=O1 fun _ _ _ _ _ _ _ q=>gt_int q
theorem OO:OpR X (compareOp .GtE) (rI0 fun i j=> .bl (decide (j<=i))):=O1 fun _ _ _ _ _ _ _ q=>ge_int q
theorem aCG:OpR X (compareOp .Is) (fun x y H Q=>y= .non/\Q (.bl (decide (x= .non))) H):=by
 intro pins s σ H x y v u Q I rx ry h;obtain⟨rfl,q⟩:=h;cases ry;refine is_none_gen (bX I q ?_);cases x<;>first
  | (cases rx;rfl)
  | (obtain⟨t,rfl⟩:=rx;rfl)
theorem ZY:OpR X (compareOp .IsNot) (fun x y H Q=>y= .non/\Q (.bl (!decide (x= .non))) H):=by
 intro pins s σ H x y v u Q I rx ry h;obtain⟨rfl,q⟩:=h;cases ry;refine isnot_none_gen (bX I q ?_);cases x<;>first
  | (cases rx;rfl)
  | (obtain⟨t,rfl⟩:=rx;rfl)
theorem bD (b:Expr){op:CmpOp}(h:op≠ .In:=by decide)(h2:op≠ .NotIn:=by decide):behindInMarks op b=false:=by
 have e1:(op==CmpOp.In)=false:=by cases op<;>first|rfl|exact absurd rfl h
 have e2:(op==CmpOp.NotIn)=false:=by cases op<;>first|rfl|exact absurd rfl h2
 cases b<;>simp[behindInMarks,e1,e2]
theorem u8 {op:CmpOp}{r:R2} (ho:OpR X (compareOp op) r) (ha:PE X a ta) (hb:PE X b tb) (hm:behindInMarks op b=false):PE X (.Compare a [op] [b] pos) (tOp r ta tb):=by
 intro pins s σ H Q I h;exact wpAny_Compare1 (VD ha hb I h fun v u s2 x y H2 I2 rx ry q=>ho pins s2 σ H2 x y v u Q I2 rx ry q) hm
def O2 (t:TE):TT:=fun σ H Q=>t σ H fun x H'=>∃k,x= .bl k/\Q k H'
theorem aZ {op:CmpOp}{r:R2} (ho:OpR X (compareOp op) r) (ha:PE X a ta) (hb:PE X b tb) (hm:behindInMarks op b=false):PT X (.Compare a [op] [b] pos) (O2 (tOp r ta tb)):=by
 intro pins s σ H Q I h;refine wpAny_isTrue_Compare1 (thn (ha pins s σ H _ I h) fun v s1 ⟨x,H1,I1,r1,q1⟩=>thn (hb pins s1 σ H1 _ I1 q1) fun u s2 ⟨y,H2,I2,r2,q2⟩ =>
  thn (ho pins s2 σ H2 x y v u _ I2 r1 r2 q2) fun c s3 ⟨z,H3,I3,r3,k,e,q3⟩=> ?_) hm
 subst e;cases r3;exact wpAny_truthy_bool ⟨H3,I3,q3⟩
def KA (r r':R2)(ta tb tc:TE):TE:=fun σ H Q=>ta σ H fun x H1=>tb σ H1 fun y H2=>r x y H2 fun z H3=>∃k,z= .bl k ∧
 (if k=true then tc σ H3 fun w' H4=>r' y w' H4 Q else Q (.bl false) H3)
theorem KZ {op op':CmpOp}{r r':R2} (ho:OpR X (compareOp op) r) (ho':OpR X (compareOp op') r') (ha:PE X a ta) (hb:PE X b tb) (hc:PE X c tc)
  (hm:lastMarks [op,op'] [b,c]=false:=by with_unfolding_all rfl):PE X (.Compare a [op,op'] [b,c] pos) (KA r r' ta tb tc):=by
 intro pins s σ H Q I h;refine Compare_chain (thn (ha pins s σ H _ I h) fun v s1 ⟨x,H1,I1,r1,q1⟩=>chain_link (thn (hb pins s1 σ H1 _ I1 q1) fun u s2 ⟨y,H2,I2,r2,q2⟩ =>
  thn (ho pins s2 σ H2 x y v u _ I2 r1 r2 q2) fun d s3 ⟨z,H3,I3,r3,k,e,q3⟩=> ?_)) hm
 subst e;cases r3;refine wpAny_truthy_bool ?_;cases k with
 | false=>exact ite_ff ⟨.bl false,H3,I3,rfl,q3⟩
 | true=>exact ite_tt (chain_last (thn (hc pins s3 σ H3 _ I3 q3) fun w' s4 ⟨z',H4,I4,r4,q4⟩=>ho' pins s4 σ H4 y z' u w' Q I4 r2 r4 q4))
theorem WU {op op':CmpOp}{r r':R2} (ho:OpR X (compareOp op) r) (ho':OpR X (compareOp op') r') (ha:PE X a ta) (hb:PE X b tb) (hc:PE X c tc)
  (hm:lastMarks [op,op'] [b,c]=false:=by with_unfolding_all rfl):PT X (.Compare a [op,op'] [b,c] pos) (O2 (KA r r' ta tb tc)):=by
 intro pins s σ H Q I h;refine isTrue_chain (thn (ha pins s σ H _ I h) fun v s1 ⟨x,H1,I1,r1,q1⟩=>test_link (thn (hb pins s1 σ H1 _ I1 q1) fun u s2 ⟨y,H2,I2,r2,q2⟩ =>
  thn (ho pins s2 σ H2 x y v u _ I2 r1 r2 q2) fun d s3 ⟨z,H3,I3,r3,k,e,q3⟩=> ?_)) hm
 subst e;cases r3;refine wpAny_truthy_bool ?_;cases k with
 | false =>
  obtain⟨k',e',q'⟩:=q3;cases e';exact ite_ff ⟨H3,I3,q'⟩
 | true =>
  refine ite_tt (test_last (thn (hc pins s3 σ H3 _ I3 q3) fun w' s4 ⟨z',H4,I4,r4,q4⟩=>thn (ho' pins s4 σ H4 y z' u w' _ I4 r2 r4 q4) fun d' s5 ⟨z2,H5,I5,r5,k2,e2,q5⟩=> ?_));subst e2;cases r5;exact wpAny_truthy_bool ⟨H5,I5,q5⟩
theorem xX:(sizeLine:Nat)<2^63:=by rw[sizeLine_eq];decide
theorem P4:OpR X (binaryOp .Add) (fun x y H Q=>∃i j,x= .str i/\y= .str j/\i.length+j.length<=sizeLine/\Q (.str (i++j)) H):=by
 intro pins s σ H x y v u Q I rx ry h;obtain⟨i,j,rfl,rfl,hz,q⟩:=h;obtain⟨t,rfl⟩:=rx;obtain⟨t',rfl⟩:=ry;exact add_str (fun t' tk=>⟨.str (i++j),H,I.tok _,⟨_,rfl⟩,q⟩) hz
theorem kC {x:V}{us:List Value} (r:Vals [x] us):∃u,us=[u]/\RelV x u:=by
 cases r with
 | cons r1 r2=>cases r2;exact⟨_,rfl,r1⟩
theorem QA {x y:V}{us:List Value} (r:Vals [x,y] us):∃u w',us=[u,w']/\RelV x u/\RelV y w':=by
 cases r with
 | cons r1 r2 =>
  cases r2 with
  | cons r3 r4=>cases r4;exact⟨_,_,rfl,r1,r3⟩
theorem UG (hc:X.calm=true):dH X (.builtin "max") (fun xs H Q=>∃i j,xs=[.int i,.int j]/\Q (.int (if j>i then j else i)) H):=by
 intro pins s σ H xs us Q I r h;obtain⟨i,j,rfl,q⟩:=h;obtain⟨u,w',rfl,⟨t,rfl⟩,⟨t',rfl⟩⟩:=QA r;refine max_two_ints (I.ok.hd hc) fun h' tk k=>⟨_,H,I.kept k,?_,q⟩
 by_cases hj:j>i
 ·rw[if_pos hj,if_pos hj];exact⟨_,rfl⟩
 ·rw[if_neg hj,if_neg hj];exact⟨_,rfl⟩
theorem RO (hc:X.calm=true):dH X (.builtin "min") (fun xs H Q=>∃i j,xs=[.int i,.int j]/\Q (.int (if j<i then j else i)) H):=by
 intro pins s σ H xs us Q I r h;obtain⟨i,j,rfl,q⟩:=h;obtain⟨u,w',rfl,⟨t,rfl⟩,⟨t',rfl⟩⟩:=QA r;refine min_two_ints (I.ok.hd hc) fun h' tk k=>⟨_,H,I.kept k,?_,q⟩
 by_cases hj:j<i
 ·rw[if_pos hj,if_pos hj];exact⟨_,rfl⟩
 ·rw[if_neg hj,if_neg hj];exact⟨_,rfl⟩
theorem R6:dH X (.type "int") (fun xs H Q=>(∃i,xs=[.int i]/\Q (.int i) H)∨∃k,xs=[.bl k]/\Q (.int (if k then 1 else 0)) H):=by
 intro pins s σ H xs us Q I r h;rcases h with⟨i,rfl,q⟩|⟨k,rfl,q⟩
 ·obtain⟨u,rfl,t,rfl⟩:=kC r;exact call_int_int ⟨.int i,H,I,⟨_,rfl⟩,q⟩
 ·obtain⟨u,rfl,r1⟩:=kC r;cases r1;exact call_int_bool ⟨.int (if k then 1 else 0),H,I.tok _,⟨_,rfl⟩,q⟩
end
end L2
namespace L2
open PySem PySem.Spec PyProof.Rows
structure ObjM (h:Heap)(x dx C:Addr)(mA:Str->Option Value):Prop where
 obj:h.get? x=some (PySem.W.instObj C dx)
 ns:h.Ns1 dx mA
 ne:dx≠x
theorem TB {h:Heap}{dx:Addr}{mA:Str->Option Value} (n:h.Ns1 dx mA):∃od,h.get? dx=some od/\∀name,PySem.W.lookIn name od=some (mA name):=by
 obtain⟨o,es,ep,ho,hd,hk,_,hm⟩:=n;refine⟨o,ho,fun name=> ?_⟩;have e:=hm name;unfold nsFind findBy at e;rw[←Array.find?_toList]at e;unfold PySem.W.lookIn;rw[hd]
 dsimp only
 split
 ·rename_i y q;rw[q]at e;exact congrArg some e
 ·rename_i q;rw[q]at e;have a:es.toList.any (·.refKey)=false:=by
   rw[List.any_eq_false];intro y hy;obtain⟨z,t,hkey⟩:=hk y (Array.mem_toList_iff.mp hy);simp[DictEntry.refKey,hkey]
  have a':¬es.toList.any (·.refKey)=true:=by rw[a];exact Bool.false_ne_true
  rw[if_neg a'];exact congrArg some e
theorem ObjM.look {h:Heap}{x dx C:Addr}{mA:Str->Option Value} (I:ObjM h x dx C mA):∃od,PySem.W.InstAt h x (PySem.W.instObj C dx) C (some od)/\∀name,PySem.W.lookIn name od=some (mA name) :=
 let ⟨od,ho,hl⟩:=TB I.ns
 ⟨od,⟨I.obj,rfl,rfl,ho⟩,hl⟩
section
variable {prog:Program}{w:World}{A:Around}{E:Value->Shared->Prop}{s:Shared}{K:PySem.W.Frag}{x dx C f:Addr}{mA:Str->Option Value}{name:Str}{v:Value}
theorem aA6 {expr:Bool}{Q:Value->Shared->Prop} (X:K.In s.heap) (I:ObjM s.heap x dx C mA) (hg:PySem.W.plainGet K C name=true) (hh:PySem.W.hasDictIn K C=true)
  (ha:PySem.W.findIn K (.ref C) name=some none)(hv:mA name=some v)(hv':PySem.W.handedIn v=true)(h:Q v { s with toks:=s.toks+1 }) :
  wpAny (model prog w) A (getAttr (.ref x) name expr) Q E s:=by
 obtain⟨od,J,hl⟩:=I.look;exact PySem.W.get_value X J (PySem.W.plainGet_of hg).1 (PySem.W.findObj_own hh ha rfl (by rw[hl,hv])) hv' h
theorem W2 {pl:Sem Bool}{Q:Value×List Value->Shared->Prop} (X:K.In s.heap) (I:ObjM s.heap x dx C mA) (hg:PySem.W.plainGet K C name=true)
  (hf:PySem.W.findIn K (.ref C) name=some (some (.ref f)))(ht:PySem.W.isFn K (.ref f)=true)(hv:mA name=none)(h:Q (.ref f,[.ref x]) s) :
  wpAny (model prog w) A (getMethod (.ref x) name pl) Q E s:=by
 obtain⟨od,J,hl⟩:=I.look;exact PySem.W.method_fn X J (PySem.W.plainGet_of hg).1 (PySem.W.plainGet_of hg).2 hf (beq_iff_eq.mp ht) (by show (PySem.W.lookIn name od).map (·.isSome)=some false;rw[hl,hv];rfl) h
theorem aAA {ns:List Str}{Q:Unit->Shared->Prop} (X:K.In s.heap) (I:ObjM s.heap x dx C mA)
  (hs:PySem.W.findIn K (.ref C) "__setattr__" =some (some (.builtin "object.__setattr__")))(hp:PySem.W.plainOver K C=true)(ht:PySem.W.takerIn K C name=some none)(hh:PySem.W.hasDictIn K C=true)
  (hw:PySem.Within mA ns)(hsz:ns.length<=sizeLine)
  (h:∀h',ObjM h' x dx C (fun y=>if y=name then some v else mA y)->Heap.SameBut dx s.heap h'->Q () { s with heap:=h',toks:=s.toks+2 }) :
  wpAny (model prog w) A (setAttr (.ref x) name v) Q E s:=by
 obtain⟨od,J,hl⟩:=I.look;refine PySem.W.set_plain X J hs (PySem.W.osa_open (s:={ s with toks:=s.toks+1 }) (r:=none) X J hp ht fun b=> ?_);obtain⟨cd,hc,hd'⟩:=PySem.W.any_some hh;have hx:s.heap.get? x=some ⟨.ref C,some dx,.plain,#[]⟩:=I.obj;refine wpAny_bind (wpAny_pure (wpAny_bind (wpAny_bind (wpAny_loadPart hx (wpAny_bind (PySem.W.Looks.here (s:={ s with toks:=s.toks+1 }) (PySem.W.looks_clsIn X hc) ?_))))));rw[hd'];refine wpAny_pure (a:=some dx) (wpAny_bind (wpAny_pure (wpAny_bind ?_)));refine wpAny_nsSet1 (s:={ s with toks:=s.toks+1 }) I.ns fun h' hn2 hs2=> ?_;obtain⟨oD,esD,epD,hoD,hdD,hcD⟩:=hn2.count (PySem.Within.cons name v hw);refine wpAny_bind (wpAny_lookBehind hoD (by rw[hdD];exact pastItsLine_dict (Nat.le_trans hcD (by rw[List.length_cons];lia))) ?_);exact wpAny_pure (h _ ⟨(hs2.2 _ (Ne.symm I.ne)).trans I.obj,hn2,I.ne⟩ hs2)
theorem VU {R:Result->Shared->Prop}{vs:List Value}{kw:List (Str×Value)} (X:K.In s.heap) (hm:PySem.W.makesIn K C=true)
  (hi:PySem.W.findIn K (.ref C) "__init__" =some (some (.ref f)))(hf:PySem.W.typeIn K (.ref f)=some (.type "function"))
  (h:codeAny (model prog w) (A.under (.builtin "type.__call__" ⟨.ref C::vs,kw⟩)) (.call (.ref f) ⟨.ref (s.heap.objs.size+1)::vs,kw⟩) (PySem.W.InitBack (s.heap.objs.size+1) R)
   { s with heap:=(s.heap.push PySem.W.emptyDict).push (PySem.W.instObj C s.heap.objs.size) }) :
  codeAny (model prog w) A (.call (.ref C) ⟨vs,kw⟩) R s:=by
 obtain⟨hh,g,d,t,os⟩:=s;exact PySem.W.make_core (PySem.W.makes_of X hm) (PySem.W.looks_findIn X hi) (fun self=>PySem.W.bind_fn X self hf) (.inl rfl) h
end
def cZ (f:Str)(v:V):List (Str×V)->List (Str×V)
 | []=>[(f,v)]
 | (g,x)::r=>if g=f then (g,v)::r else (g,x)::cZ f v r
theorem oS (f g:Str)(v:V):∀fs:List (Str×V),(cZ f v fs).lookup g=if g=f then some v else fs.lookup g
 | []=>by
  show List.lookup g [(f,v)]=_
  by_cases h:g=f
  ·have hb:(g==f)=true:=beq_iff_eq.mpr h;simp only[List.lookup,hb,if_pos h]
  ·have hb:(g==f)=false:=beq_eq_false_iff_ne.mpr h;simp only[List.lookup,hb,if_neg h]
 | (k,x)::r=>by
  have ih:=oS f g v r;rw[show cZ f v ((k,x)::r)=(if k=f then (k,v)::r else (k,x)::cZ f v r) from rfl]
  by_cases hk:k=f
  ·rw[if_pos hk]
   by_cases h:g=k
   ·have hb:(g==k)=true:=beq_iff_eq.mpr h;simp only[List.lookup,hb,if_pos (h.trans hk)]
   ·have hb:(g==k)=false:=beq_eq_false_iff_ne.mpr h;simp only[List.lookup,hb,if_neg (fun e:g=f=>h (e.trans hk.symm))]
  ·rw[if_neg hk]
   by_cases h:g=k
   ·have hb:(g==k)=true:=beq_iff_eq.mpr h;simp only[List.lookup,hb,if_neg (fun e:g=f=>hk (h.symm.trans e))]
   ·have hb:(g==k)=false:=beq_eq_false_iff_ne.mpr h;simp only[List.lookup,hb];exact ih
theorem xK (f:Str)(v:V):∀fs:List (Str×V),f∈(cZ f v fs).map (·.1)/\∀g,g∈fs.map (·.1)->g∈(cZ f v fs).map (·.1)
 | []=>⟨by simp[cZ],fun g h=>by simp at h⟩
 | (k,x)::r=>by
  obtain⟨i1,i2⟩:=xK f v r;rw[show cZ f v ((k,x)::r)=(if k=f then (k,v)::r else (k,x)::cZ f v r) from rfl]
  by_cases hk:k=f
  ·rw[if_pos hk];subst hk;exact⟨by simp,fun g h=>by simpa using h⟩
  ·rw[if_neg hk];refine⟨?_,fun g h=> ?_⟩
   ·rw[List.map_cons];exact List.mem_cons_of_mem _ i1
   ·rw[List.map_cons]at h ⊢;rcases List.mem_cons.mp h with e|e
    ·exact List.mem_cons.mpr (.inl e)
    ·exact List.mem_cons_of_mem _ (i2 g e)
theorem zX (f:Str)(v:V):∀fs:List (Str×V),(cZ f v fs).length<=fs.length+1
 | []=>by simp[cZ]
 | (k,x)::r=>by
  have ih:=zX f v r;rw[show cZ f v ((k,x)::r)=(if k=f then (k,v)::r else (k,x)::cZ f v r) from rfl]
  by_cases hk:k=f
  ·rw[if_pos hk,List.length_cons,List.length_cons];lia
  ·rw[if_neg hk,List.length_cons,List.length_cons];lia
theorem RelO.some_of {v:V}{o:Option Value} (r:RelO (some v) o):∃u,o=some u/\RelV v u:=by
 cases o with
 | none=>exact(show False from r).elim
 | some u=>exact⟨u,rfl,r⟩
theorem RelO.none_of {o:Option Value}(r:RelO none o):o=none:=by
 cases o with
 | none=>rfl
 | some u=>exact(show False from r).elim
theorem xJ {v:V}{u:Value} (r:RelV v u):PySem.W.handedIn u=true:=by
 cases v with
 | non=>cases (show u=Value.none from r);rfl
 | bl b=>cases (show u=Value.bool b from r);rfl
 | int i=>obtain⟨t,e⟩:=(show ∃t,u=Value.int i t from r);cases e;rfl
 | str x=>obtain⟨t,e⟩:=(show ∃t,u=Value.str x t from r);cases e;rfl
 | byt b=>obtain⟨t,e⟩:=(show ∃t,u=Value.bytes b t from r);cases e;rfl
 | flt b=>obtain⟨t,e⟩:=(show ∃t,u=Value.float b t from r);cases e;rfl
 | ref a=>cases (show u=Value.ref a from r);rfl
 | ty n=>cases (show u=Value.type n from r);rfl
section
variable {P:Program}{w:World}{H H':Hp}{h h':Heap}{a C dx:Addr}{fs fs':List (Str×V)}
theorem yS (hok:HOk P w H h)(e:H a=some (.ins C dx fs)):∃mA,ObjM h a dx C mA/\(∀f,RelO (fs.lookup f) (mA f))/\PySem.Within mA (fs.map (·.1))/\fs.length<=1000/\H dx=some (.own a):=by
 obtain⟨d,z,ne,ob,mA,n,r,q⟩:=(show ObjOk P w H h a (.ins C dx fs) from hok a _ e)
 exact⟨mA,⟨ob,n,ne⟩,r,q,z,d⟩
end
structure Cls (K:PySem.W.Frag)(C:Addr):Prop where
 pg:PySem.W.plainGet K C Str.empty=true
 hd:PySem.W.hasDictIn K C=true
 po:PySem.W.plainOver K C=true
 sa:PySem.W.findIn K (.ref C) "__setattr__" =some (some (.builtin "object.__setattr__"))
theorem Cls.get {K:PySem.W.Frag}{C:Addr} (c:Cls K C) (f:Str):PySem.W.plainGet K C f=true:=c.pg
def NoAttr (K:PySem.W.Frag)(C:Addr)(f:Str):Prop:=PySem.W.findIn K (.ref C) f=some none
theorem NoAttr.taker {K:PySem.W.Frag}{C:Addr}{f:Str} (n:NoAttr K C f):PySem.W.takerIn K C f=some none:=by
 unfold PySem.W.takerIn;rw[show PySem.W.findIn K (.ref C) f=some none from n];rfl
structure cX (K:PySem.W.Frag)(C:Addr)(m:Str)(f:Addr):Prop where
 at_:PySem.W.findIn K (.ref C) m=some (some (.ref f))
 fn:PySem.W.isFn K (.ref f)=true
 kp:PySem.W.keepIn K (.ref f)=true
section
variable {X:Cx}{pins:List (Addr×Obj)}{σ:St}{H:Hp}{s:Shared}{a C dx:Addr}{fs:List (Str×V)}{f:Str}{v:V}{A:Around}{E:Value->Shared->Prop}
theorem O9 {b:Bool}{Q:Value->Shared->Prop} (I:Inv X pins σ H s) (e:H a=some (.ins C dx fs)) (c:Cls X.K C) (n:NoAttr X.K C f) (l:fs.lookup f=some v)
  (h:∀u s',Inv X pins σ H s'->RelV v u->Q u s'):wpAny (model X.prog X.w) A (getAttr (.ref a) f b) Q E s:=by
 obtain⟨mA,O,r,_,_,_⟩:=yS I.hok e;obtain⟨u,hu,ru⟩:=RelO.some_of (v:=v) (o:=mA f) (by rw[←l];exact r f);exact aA6 I.kIn O (c.get f) c.hd n hu (xJ ru) (h u _ (I.tok _) ru)
theorem BK {m:Str}{g:Addr}{pl:Sem Bool}{Q:Value×List Value->Shared->Prop} (I:Inv X pins σ H s) (e:H a=some (.ins C dx fs)) (c:Cls X.K C) (k:cX X.K C m g) (l:fs.lookup m=none)
  (h:Q (.ref g,[.ref a]) s):wpAny (model X.prog X.w) A (getMethod (.ref a) m pl) Q E s:=by
 obtain⟨mA,O,r,_,_,_⟩:=yS I.hok e;have hn:mA m=none:=RelO.none_of (by rw[←l];exact r m);exact W2 I.kIn O (c.get m) k.at_ k.fn hn h
theorem QS {y:V}{u:Value}{Q:Unit->Shared->Prop} (I:Inv X pins σ H s) (e:H a=some (.ins C dx fs)) (c:Cls X.K C) (n:NoAttr X.K C f) (hl:fs.length<1000) (ry:RelV y u)
  (h:∀s',Inv X pins σ (upd H a (.ins C dx (cZ f y fs))) s'->Q () s'):wpAny (model X.prog X.w) A (setAttr (.ref a) f u) Q E s:=by
 obtain⟨mA,O,r,wi,_,ho⟩:=yS I.hok e;have hz:(fs.map (·.1)).length<=sizeLine:=by rw[List.length_map,sizeLine_eq];lia
 refine aAA I.kIn O c.sa c.po n.taker c.hd wi hz fun h' O' sb=>h _ ?_;have hd:∃o,h'.get? dx=some o:=let ⟨o,_,_,e',_⟩:=O'.ns;⟨o,e'⟩;refine I.write (x:=a) (e:=dx) (by rw[e];exact True.intro) (.inr ho) (fun b q hb z=>(sb.2 b hb).trans z) hd ?_;refine⟨by rw[aS O.ne];exact ho,?_,O.ne,O'.obj,_,O'.ns,fun g=> ?_,fun g hg=> ?_⟩
 ·have:=zX f y fs;lia
 ·show RelO ((cZ f y fs).lookup g) (if g=f then some u else mA g);rw[oS]
  by_cases q:g=f
  ·rw[if_pos q,if_pos q];exact ry
  ·rw[if_neg q,if_neg q];exact r g
 ·by_cases q:g=f
  ·rw[q];exact(xK f y fs).1
  ·refine(xK f y fs).2 g (wi g fun z=>hg ?_);show (if g=f then some u else mA g)=none;rw[if_neg q];exact z
theorem Inv.made (I:Inv X pins σ H s):Inv X pins σ (upd (upd H s.heap.objs.size (.own (s.heap.objs.size+1))) (s.heap.objs.size+1) (.ins C s.heap.objs.size []))
  { s with heap:=(s.heap.push PySem.W.emptyDict).push (PySem.W.instObj C s.heap.objs.size) }:=by
 have e1:(s.heap.push PySem.W.emptyDict).get? s.heap.objs.size=some PySem.W.emptyDict:=Heap.get?_push_size s.heap rfl;have e2:((s.heap.push PySem.W.emptyDict).push (PySem.W.instObj C s.heap.objs.size)).get? (s.heap.objs.size+1)=some (PySem.W.instObj C s.heap.objs.size):=by
  have:=Heap.get?_push_size (s.heap.push PySem.W.emptyDict) (o:=PySem.W.instObj C s.heap.objs.size) rfl
  rwa [Heap.size_push]at this
 have e3:(s.heap.push PySem.W.emptyDict).Ns s.heap.objs.size (fun _=>none):=⟨PySem.W.emptyDict,#[],_,e1,rfl,(fun e he=>absurd he (by simp)),fun _=>rfl⟩
 have I1:=I.laid (a:=s.heap.objs.size) (o:= .own (s.heap.objs.size+1)) (h':=s.heap.push PySem.W.emptyDict) (t':=s.toks) (fun b u q=>Heap.get?_push_of_some _ q) (Nat.le_refl _) ⟨_,e1⟩;refine I1.laid (a:=s.heap.objs.size+1) (o:= .ins C s.heap.objs.size []) (t':=s.toks) (fun b u q=>Heap.get?_push_of_some _ q) (Nat.le_of_eq (Heap.size_push _ _)) ?_;have ne:s.heap.objs.size≠s.heap.objs.size+1:=Nat.ne_of_lt (Nat.lt_succ_self _);refine⟨by rw[aS ne,bE],Nat.zero_le _,ne,e2,fun _=>none,(Heap.Ns1.of_empty e3).at fun o q=>Heap.get?_push_of_some _ q,fun _=>True.intro,fun y hy=>absurd rfl hy⟩
theorem aAw {prog:Program}{w:World}{env:Env}{e:Expr}{f:Str}{pos:Pos}{s:Shared}{Q:Value->Shared->Prop} (hb:attributeBase e f env (eval e env)=eval e env)
  (h:wpAny (model prog w) A (eval e env) (fun o s₁=>wpAny (model prog w) A (getAttr o f true) Q E s₁) E s):wpAny (model prog w) A (eval (.Attribute e f pos) env) Q E s :=
 Attribute_any_ h (by rw[arm_eval_Attribute,hb])
end
def WC (K:PySem.W.Frag)(ta:TE)(f:Str):TE:=fun σ H Q=>ta σ H fun x H1=>∃a C dx fs v,x= .ref a/\H1 a=some (.ins C dx fs)/\Cls K C/\NoAttr K C f/\fs.lookup f=some v/\Q v H1
def aC6 (K:PySem.W.Frag)(ta tv:TE)(f:Str):TS:=fun D σ H=>tv σ H fun y H1=>ta σ H1 fun x H2=>∃a C dx fs,x= .ref a/\H2 a=some (.ins C dx fs)/\Cls K C/\NoAttr K C f/\fs.length<1000 ∧
 D.nx σ (upd H2 a (.ins C dx (cZ f y fs)))
def aDi (X:Cx)(op:Operator)(rd:V->V->Hp->VK->Prop):Prop :=
 ∀(pins:List (Addr×Obj)) (s:Shared) (σ:St) (H:Hp) (x y:V) (u v:Value) (Q:VK),Inv X pins σ H s->RelV x u->RelV y v->rd x y H Q->wpAny (model X.prog X.w) X.A (inplaceOp op u v) (EP X pins σ Q) X.xe s
section
variable {X:Cx}{o e value:Expr}{f:Str}{pos pos' tpos:Pos}{ta tv:TE}
theorem aX (he:PE X e ta)(hb:attributeBase e f X.env (eval e X.env)=eval e X.env):PE X (.Attribute e f pos) (WC X.K ta f):=by
 intro pins s σ H Q I h;refine aAw hb (thn (he pins s σ H _ I h) fun u s1 ⟨x,H1,I1,rx,a,C,dx,fs,v,ex,ea,c,n,l,q⟩=> ?_);subst ex;obtain rfl:u=Value.ref a:=rx;exact O9 I1 ea c n l fun u' s2 I2 ru=>⟨v,H1,I2,ru,q⟩
theorem gT (ha:PE X o ta)(hv:PE X value tv)(hs:swapsWith value (some (.Attribute o f pos')) pos.line X.env=pure false):PS X (.Assign [.Attribute o f pos'] value pos) (aC6 X.K ta tv f):=by
 intro pins s σ H D I h;refine plainObj_wpAny_Assign_Attribute (thn (hv pins s σ H _ I h) fun u s1 ⟨y,H1,I1,ry,q⟩=>thn (ha pins s1 σ H1 _ I1 q) fun ov s2 ⟨x,H2,I2,rx,a,C,dx,fs,ex,ea,c,n,l,q2⟩=> ?_) hs;subst ex;obtain rfl:ov=Value.ref a:=rx;exact QS I2 ea c n l ry fun s3 I3=>⟨σ,_,I3,q2⟩
def aCo:V->V->Hp->VK->Prop:=fun x y H Q=>∃i j,x= .int i/\y= .int j/\Q (.int (i+j)) H
theorem aCI:aDi X .Add aCo:=by
 rintro pins s σ H x y u v Q I rx ry ⟨i,j,rfl,rfl,q⟩;obtain⟨t,rfl⟩:=(show ∃t,u=Value.int i t from rx)
 obtain⟨t',rfl⟩:=(show ∃t',v=Value.int j t' from ry)
 exact PyProof.Rows.iadd_int ⟨.int (i+j),H,I.tok _,⟨_,rfl⟩,q⟩
end
section
variable {X:Cx}{pins:List (Addr×Obj)}{σ:St}{H:Hp}{s:Shared}{A:Around}{E:Value->Shared->Prop}{Q:Value->Shared->Prop}{c:Value}{b:Bool}
inductive lO (K:PySem.W.Frag)(H:Hp):V->Value->Prop where
 | non:lO K H .non (.type "NoneType")
 | bl (x:Bool):lO K H (.bl x) (.type "bool")
 | int (i:Int):lO K H (.int i) (.type "int")
 | str (x:Str):lO K H (.str x) (.type "str")
 | flt (x:UInt64):lO K H (.flt x) (.type "float")
 | lst {a:Addr}{xs:List V} (e:H a=some (.lst xs)):lO K H (.ref a) (.type "list")
 | frz {a:Addr}{o:Obj}{xs:List V} (e:H a=some (.frz o (.lst xs))):lO K H (.ref a) (.type "list")
 | tup {a:Addr}{xs:List V} (e:H a=some (.tup xs)):lO K H (.ref a) (.type "tuple")
 | dK {a:Addr}{kvs:List (Key×V)} (e:H a=some (.dK kvs)):lO K H (.ref a) (.type "dict")
 | dT {a:Addr}{kvs:List (List Key×V)} (e:H a=some (.dT kvs)):lO K H (.ref a) (.type "dict")
 | ins {a C dx:Addr}{fs:List (Str×V)} (e:H a=some (.ins C dx fs)) (cl:Cls K C) (ha:PySem.W.findIn K (.ref C) "__class__" =some (some (.builtin "object.__class__")))
   (hn:PySem.W.specialIn K (.builtin "object.__class__") "__get__" =some (some (.builtin "getset_descriptor.__get__")))(htk:PySem.W.takesIn K (.builtin "object.__class__")=some true)
   (hm:PySem.W.mroIn K C (.type "object")=some true):lO K H (.ref a) (.ref C)
theorem S0 {x:V}{u t:Value} (I:Inv X pins σ H s) (rx:RelV x u) (ty:lO X.K H x t) (e:PySem.W.kitOne X.K t c=some b) (h:∀tk,Q (.bool b) { s with toks:=tk }) :
  wpAny (model X.prog X.w) A (call (.builtin "isinstance") [u,c]) Q E s:=by
 cases ty with
 | non=>cases (show u=Value.none from rx);exact PySem.W.kia_one PySem.W.kitx_none I.kIn True.intro e (fun z=>nomatch z) h
 | bl y=>cases (show u=Value.bool y from rx);exact PySem.W.kia_one PySem.W.kitx_bool I.kIn True.intro e (fun z=>nomatch z) h
 | int i=>obtain⟨t,q⟩:=(show ∃t,u=Value.int i t from rx);cases q;exact PySem.W.kia_one PySem.W.kitx_int I.kIn True.intro e (fun z=>nomatch z) h
 | str y=>obtain⟨t,q⟩:=(show ∃t,u=Value.str y t from rx);cases q;exact PySem.W.kia_one PySem.W.kitx_str I.kIn True.intro e (fun z=>nomatch z) h
 | flt y=>obtain⟨t,q⟩:=(show ∃t,u=Value.float y t from rx);cases q;exact PySem.W.kia_one PySem.W.kitx_float I.kIn True.intro e (fun z=>nomatch z) h
 | @lst a xs ea =>
  cases (show u=Value.ref a from rx);obtain⟨_,_,n,_,h1⟩:=(show ObjOk X.prog X.w H s.heap a (.lst xs) from I.hok a _ ea)
  exact PySem.W.kia_one PySem.W.kitx_list I.kIn ⟨_,h1,rfl⟩ e (fun z=>nomatch z) h
 | @frz a ob xs ea =>
  cases (show u=Value.ref a from rx);obtain⟨_,_,_,n,_,h1⟩:=(show ObjOk X.prog X.w H s.heap a (.frz ob (.lst xs)) from I.hok a _ ea)
  exact PySem.W.kia_one PySem.W.kitx_list I.kIn ⟨_,h1,rfl⟩ e (fun z=>nomatch z) h
 | @tup a xs ea =>
  cases (show u=Value.ref a from rx);obtain⟨_,_,_,p⟩:=(show ObjOk X.prog X.w H s.heap a (.tup xs) from I.hok a _ ea)
  obtain⟨o,h1,h2,_⟩:=p;exact PySem.W.kia_one PySem.W.kitx_tuple I.kIn ⟨o,h1,h2⟩ e (fun z=>nomatch z) h
 | @dK a kvs ea =>
  cases (show u=Value.ref a from rx);obtain⟨_,_,vs,_,p⟩:=(show ObjOk X.prog X.w H s.heap a (.dK kvs) from I.hok a _ ea)
  obtain⟨o,es,ep,h1,h2,_⟩:=p;exact PySem.W.kia_one PySem.W.kitx_dict I.kIn ⟨o,h1,h2.1⟩ e (fun z=>nomatch z) h
 | @dT a kvs ea =>
  cases (show u=Value.ref a from rx);obtain⟨_,_,xs,_,o,es,ep,h1,h2,_⟩:=(show ObjOk X.prog X.w H s.heap a (.dT kvs) from I.hok a _ ea)
  exact PySem.W.kia_one PySem.W.kitx_dict I.kIn ⟨o,h1,h2.1⟩ e (fun z=>nomatch z) h
 | @ins a C dx fs ea cl ha hn htk hm =>
  cases (show u=Value.ref a from rx);obtain⟨mA,O,_⟩:=yS I.hok ea;obtain⟨od,J,_⟩:=O.look;exact PySem.W.kia_one (PySem.W.kitx_own (cl.get _) cl.hd ha hn htk hm) I.kIn J e (fun z=>nomatch z) h
end
end L2
namespace L2
open PySem PySem.Spec PyProof.Rows
structure Room (k:Nat)(A:Around):Prop where
 hd:A.handled=none
 dp:A.depth+3 * k+5<recursionLimit
 un:A.units+16 * k+200<cLine
theorem Room.mono {j k:Nat}{A:Around} (r:Room k A) (h:j<=k):Room j A:=⟨r.hd,by have:=r.dp;lia,by have:=r.un;lia⟩
theorem Room.deeper {k:Nat}{A:Around} (r:Room (k+1) A) (env:Env):Room k (A.deeper env) :=
 ⟨r.hd,by have:=r.dp;show A.depth+1+3 * k+5<_;lia,by have:=r.un;show A.units+3+16 * k+200<_;lia⟩
theorem OP {A:Around}{C:Addr}{us:List Value}{kw:List (Str×Value)}:(A.under (.builtin "type.__call__" ⟨.ref C::us,kw⟩)).depth=A.depth+1:=by
 first|rfl|simp[Around.under,Code.weight,Code.isCreation,Code.isGuard,Code.isCaller,Code.frames,Code.isFrame,guardIds]
theorem O8 {A:Around}{C:Addr}{us:List Value}{kw:List (Str×Value)}:(A.under (.builtin "type.__call__" ⟨.ref C::us,kw⟩)).units=A.units+1:=by
 first|rfl|simp[Around.under,Code.cUnits,Code.frames,Code.isFrame]
theorem Room.make {k:Nat}{A:Around} (r:Room (k+1) A) (C:Addr) (us:List Value) (kw:List (Str×Value)):Room k (A.under (.builtin "type.__call__" ⟨.ref C::us,kw⟩)) :=
 ⟨r.hd,by have:=r.dp;rw[OP];lia,by have:=r.un;rw[O8];lia⟩
theorem Room.depth {k:Nat}{A:Around} (r:Room k A):A.depth<recursionLimit:=by have:=r.dp;lia
theorem Room.units0 {k:Nat}{A:Around} (r:Room k A):A.units<cLine:=by have:=r.un;lia
def OR:TA:=fun _ H Q=>Q [] H
def YV (ta:TE)(tr:TA):TA:=fun σ H Q=>ta σ H fun x H1=>tr σ H1 fun xs H2=>Q (x::xs) H2
section
variable {X:Cx}{e:Expr}{es:List Expr}{te:TE}{t:TA}{pos:Pos}
theorem aD:PA X [] OR:=fun _ _ _ _ H Q I h=>Calls.spliced_nil ⟨[],H,I,.nil,h⟩
theorem aA (ha:PE X e te)(hr:PA X es t)(hs:starEach (e::es) X.env=(false,eval e X.env)::starEach es X.env:=by rfl):PA X (e::es) (YV te t):=by
 intro pos pins s σ H Q I h;rw[hs];show wpAny _ _ (spliced ((false,eval e X.env)::backTo pos (starEach es X.env))) _ _ s;refine Calls.spliced_cons (thn (ha pins s σ H _ I h) fun u s1 ⟨x,H1,I1,r1,q1⟩=> ?_);exact thn (hr pos pins s1 σ H1 _ I1 q1) fun us s2 ⟨xs,H2,I2,r2,q2⟩=>⟨x::xs,H2,I2,.cons r1 r2,q2⟩
def aCV (t:TA):TE:=fun σ H Q=>t σ H fun xs H1=>xs.length<=sizeLine/\∀p,H1 p=none->Q (.ref p) (upd H1 p (.tup xs))
def aDu (t:TA):TE:=fun σ H Q=>t σ H fun xs H1=>xs.length<=sizeLine/\∀p,H1 p=none->Q (.ref p) (upd H1 p (.lst xs))
theorem cD {x1}(h:PA X es t):PE X (.Tuple es x1 pos) (aCV t):=by
 intro pins s σ H Q I hq;refine wpAny_Tuple_spliced (thn (h pos pins s σ H _ I hq) fun us s1 ⟨xs,H1,I1,r,z,q⟩=>⟨by rw[←r.length];exact z,?_⟩);have hf:H1 s1.heap.objs.size=none:=I1.hok.fresh (Nat.le_refl _);refine⟨.ref s1.heap.objs.size,upd H1 s1.heap.objs.size (.tup xs),I1.laid (t':=s1.toks) (fun b u e=>Heap.get?_push_of_some _ e) (Nat.le_refl _) ?_,rfl,q _ hf⟩;exact⟨z,us,r,⟨_,Heap.get?_push_size _ rfl,rfl,_,rfl⟩⟩
theorem fN (h:PA X es t):PE X (.List es pos) (aDu t):=by
 intro pins s σ H Q I hq;refine wpAny_List_spliced (thn (h pos pins s σ H _ I hq) fun us s1 ⟨xs,H1,I1,r,z,q⟩=>⟨by rw[←r.length];exact z,?_⟩);have hf:H1 s1.heap.objs.size=none:=I1.hok.fresh (Nat.le_refl _);refine⟨.ref s1.heap.objs.size,upd H1 s1.heap.objs.size (.lst xs),I1.laid (t':=s1.toks) (fun b u e=>Heap.get?_push_of_some _ e) (Nat.le_refl _) ?_,rfl,q _ hf⟩;exact⟨z,us,0,r,Heap.get?_push_size _ rfl⟩
end
abbrev Sp:=List V->Hp->VK->XK->Prop
abbrev CXT:=List Env->Hp->Shared->XK->Value->Shared->Prop
structure Env0 (P:Program)(w:World)(K:PySem.W.Frag)(mg:Str->Option Value)(base:Heap)(A:Around)(outer:List Env)(s:Shared)(H:Hp):Prop where
 frames:A.frames=some outer
 mod:Mod K mg base
 bs:∀b o,base.get? b=some o->s.heap.get? b=some o/\H b=none
 bsz:base.objs.size<=s.heap.objs.size
 funs:s.heap.FunFrames base outer
 frf:∀b∈frs outer,H b=none
 hok:HOk P w H s.heap
 bare:AllBare s.gens
def CE (outer:List Env)(P:Program)(w:World)(H:Hp)(s:Shared)(Q:VK)(u:Value)(s':Shared):Prop :=
 ∃v H',s'.os=s.os/\AllBare s'.gens/\Un (frs outer) [] H H' s.heap s'.heap/\HOk P w H' s'.heap/\RelV v u/\Q v H'
def CR (CX:CXT)(outer:List Env)(P:Program)(w:World)(H:Hp)(s:Shared)(Q:VK)(E:XK)(r:Result)(s':Shared):Prop :=
 match r with
 | .ok (.ret u)=>CE outer P w H s Q u s'
 | .ok _=>False
 | .error e=>CX outer H s E e s'
structure FnOk (P:Program)(w:World)(K:PySem.W.Frag)(mg:Str->Option Value)(base:Heap)(CX:CXT)(k:Nat)(f:Addr)(fd:FuncData)(ps:List Str)(sp:Sp):Prop where
 len:∀vs H Q E,sp vs H Q E->vs.length=ps.length
 run:∀(A:Around) (outer:List Env) (s:Shared) (H:Hp) (args:Args) (us:List Value) (vs:List V) (Q:VK) (E:XK),Room k A->Env0 P w K mg base A outer s H->BindsTo s fd args (ps.zip us)->Vals vs us->sp vs H Q E →
  codeAny (model P w) A (.call (.ref f) args) (CR CX outer P w H s Q E) s
theorem FnOk.mono {P:Program}{w:World}{K:PySem.W.Frag}{mg:Str->Option Value}{base:Heap}{CX:CXT}{j k:Nat}{f:Addr}{fd:FuncData}{ps:List Str}{sp:Sp} (F:FnOk P w K mg base CX j f fd ps sp) (h:j<=k) :
  FnOk P w K mg base CX k f fd ps sp:=⟨F.len,fun A outer s H args us vs Q E hr=>F.run A outer s H args us vs Q E (hr.mono h)⟩
theorem Env0.make {P:Program}{w:World}{K:PySem.W.Frag}{mg:Str->Option Value}{base:Heap}{A:Around}{outer:List Env}{s:Shared}{H:Hp} (e:Env0 P w K mg base A outer s H) (C:Addr) (us:List Value) (kw:List (Str×Value)) :
  Env0 P w K mg base (A.under (.builtin "type.__call__" ⟨.ref C::us,kw⟩)) outer s H:=⟨by first|exact e.frames|(simpa [Around.under,Code.envs,Code.isFrame,pushEnvs] using e.frames),e.mod,e.bs,e.bsz,e.funs,e.frf,e.hok,e.bare⟩
section
variable {X:Cx}{pins:List (Addr×Obj)}{σ:St}{H:Hp}{s s':Shared}
theorem Inv.env0 (I:Inv X pins σ H s):Env0 X.prog X.w X.K X.mg X.base X.A X.stack s H :=
 ⟨I.ok.frames,I.ok.mod,I.bs,Nat.le_trans I.ok.bsz I.sz,I.stack,I.stkFree,I.hok,I.bare⟩
theorem Inv.after {Q:VK}{u:Value} (I:Inv X pins σ H s) (h:CE X.stack X.prog X.w H s Q u s'):EP X pins σ Q u s':=by
 obtain⟨v,H',os,bare,un,hok,r,q⟩:=h;obtain⟨hh,g,d,t,os'⟩:=s';obtain rfl:os'=s.os:=os;exact⟨v,H',I.call (h':=hh) (g':=g) (d':=d) (t':=t) (ch:=[]) un hok bare (fun b z=>absurd z (by simp)),r,q⟩
end
def tV (sp:Sp)(dvs:List V)(E:XK)(t:TA):TE:=fun σ H Q=>t σ H fun vs H1=>sp (vs++dvs) H1 Q E
def QN (C:Addr)(sp:Sp)(dvs:List V)(E:XK)(t:TA):TE:=fun σ H Q=>t σ H fun vs H1=>∀x dx,H1 x=none->H1 dx=none->dx≠x →
 sp (.ref x::(vs++dvs)) (upd (upd H1 dx (.own x)) x (.ins C dx [])) (fun v H2=>v= .non/\Q (.ref x) H2) E
def Binds (K:PySem.W.Frag)(fd:FuncData)(ps:List Str)(ds:List Value):Prop :=
 ∀(s:Shared) (us:List Value),K.In s.heap->(us++ds).length=ps.length->BindsTo s fd ⟨us,[]⟩ (ps.zip (us++ds))
theorem Binds.all {K:PySem.W.Frag}{fd:FuncData}{ps:List Str} (h:∀us:List Value,us.length=ps.length->bindArgs fd ⟨us,[]⟩=pure (ps.zip us)):Binds K fd ps []:=fun s us _ hl=>by
 rw[List.append_nil]at hl ⊢;exact .of_eq (h us hl)
def xN (CX:CXT)(X:Cx)(E:XK):Prop:=∀(pins:List (Addr×Obj)) (σ:St) (H:Hp) (s:Shared) (e:Value) (s':Shared),Inv X pins σ H s->CX X.stack H s E e s'->X.xe e s'
section
variable {X:Cx}{CX:CXT}{k:Nat}{f C:Addr}{fd:FuncData}{ps:List Str}{sp:Sp}{dvs:List V}{ds:List Value}{E:XK}{x m:Str}{p pos apos:Pos}{e o:Expr}{es:List Expr}{ta:TE}{t:TA}
theorem u0 {pins:List (Addr×Obj)}{σ:St}{H:Hp}{s:Shared}{Q:VK}{us:List Value}{vs:List V} (F:FnOk X.prog X.w X.K X.mg X.base CX k f fd ps sp) (hr:Room k X.A) (hb:Binds X.K fd ps ds) (hd:Vals dvs ds) (hx:xN CX X E)
  (I:Inv X pins σ H s)(r:Vals vs us)(h:sp (vs++dvs) H Q E):wpAny (model X.prog X.w) X.A (call (.ref f) us) (EP X pins σ Q) X.xe s:=by
 have r2:Vals (vs++dvs) (us++ds):=r.append hd;have hl:(us++ds).length=ps.length:=by rw[←r2.length];exact F.len _ _ _ _ h
 refine wpAny_call (codeAny_mono (F.run X.A X.stack s H ⟨us,[]⟩ (us++ds) (vs++dvs) Q E hr I.env0 (hb s us I.kIn hl) r2 h) fun r s' hq=> ?_);cases r with
 | error e=>exact hx pins σ H s e s' I hq
 | ok fl =>
  cases fl with
  | ret u=>exact I.after hq
  | next=>exact False.elim hq
  | brk=>exact False.elim hq
  | cont=>exact False.elim hq
theorem NC (F:FnOk X.prog X.w X.K X.mg X.base CX k f fd ps sp)(hr:Room k X.A)(hg:Gl X x)(hm:X.mg x=some (.ref f))(hk:PySem.W.keepIn X.K (.ref f)=true)(hb:Binds X.K fd ps ds)(hd:Vals dvs ds)(hx:xN CX X E)
  (ha:PA X (e::es) t)(hdb:(x==("__debug__" :Str))=false:=by decide)(he:starEach (e::es) X.env=(false,eval e X.env)::starEach es X.env:=by rfl)(hpl:(backTo pos (starEach es X.env)).any (·.1)=false:=by rfl) :
  PE X (.Call (.Name x p) (e::es) [] pos) (tV sp dvs E t):=by
 intro pins s σ H Q I h;refine wpAny_Call_Name_kw (uT I hg hm ?_ hdb);refine PySem.W.callWith_K (h₀:=X.base) I.ok.mod.kin hk (thn (ha pos pins s σ H _ I h) fun us s1 ⟨vs,H1,I1,r,q⟩=>⟨I1.kIn,?_⟩) he hpl;exact u0 F hr hb hd hx I1 r q
structure Mk (K:PySem.W.Frag)(C f:Addr):Prop where
 makes:PySem.W.makesIn K C=true
 init:PySem.W.findIn K (.ref C) "__init__" =some (some (.ref f))
 fn:PySem.W.isFn K (.ref f)=true
 kp:PySem.W.keepIn K (.ref C)=true
theorem WL {pins:List (Addr×Obj)}{σ:St}{H:Hp}{s:Shared}{Q:VK}{us:List Value}{vs:List V} (M:Mk X.K C f) (F:FnOk X.prog X.w X.K X.mg X.base CX k f fd ps sp) (hr:Room (k+1) X.A) (hb:Binds X.K fd ps ds) (hd:Vals dvs ds)
  (hx:xN CX X E)(I:Inv X pins σ H s)(r:Vals vs us)
  (h:∀x dx,H x=none->H dx=none->dx≠x->sp (.ref x::(vs++dvs)) (upd (upd H dx (.own x)) x (.ins C dx [])) (fun v H2=>v= .non/\Q (.ref x) H2) E) :
  wpAny (model X.prog X.w) X.A (call (.ref C) us) (EP X pins σ Q) X.xe s:=by
 have hq:=h (s.heap.objs.size+1) s.heap.objs.size (I.hok.fresh (Nat.le_succ _)) (I.hok.fresh (Nat.le_refl _)) (Nat.ne_of_lt (Nat.lt_succ_self _));have I2:=Inv.made (C:=C) I;have r2:Vals (V.ref (s.heap.objs.size+1)::(vs++dvs)) (Value.ref (s.heap.objs.size+1)::(us++ds)):= .cons rfl (r.append hd);have hl:(Value.ref (s.heap.objs.size+1)::us++ds).length=ps.length:=by
  have e:=r2.length;rw[F.len _ _ _ _ hq]at e;exact e.symm
 refine wpAny_call (VU (f:=f) I.kIn M.makes M.init (beq_iff_eq.mp M.fn) (codeAny_mono (F.run _ X.stack _ _ ⟨Value.ref (s.heap.objs.size+1)::us,[]⟩ (Value.ref (s.heap.objs.size+1)::(us++ds)) _ _ E (hr.make C us [])
  (I2.env0.make C us []) (hb _ (Value.ref (s.heap.objs.size+1)::us) I2.kIn hl) r2 hq) fun r s' hq'=> ?_))
 cases r with
 | error e=>exact hx pins σ _ _ e s' I2 hq'
 | ok fl =>
  cases fl with
  | ret u =>
   obtain⟨v,H',I3,rv,ev,q3⟩:=I2.after hq';subst ev;exact⟨rv,⟨V.ref (s.heap.objs.size+1),H',I3,rfl,q3⟩⟩
  | next=>exact False.elim hq'
  | brk=>exact False.elim hq'
  | cont=>exact False.elim hq'
theorem aAh (M:Mk X.K C f)(F:FnOk X.prog X.w X.K X.mg X.base CX k f fd ps sp)(hr:Room (k+1) X.A)(hg:Gl X x)(hm:X.mg x=some (.ref C))(hb:Binds X.K fd ps ds)(hd:Vals dvs ds)(hx:xN CX X E)
  (ha:PA X (e::es) t)(hdb:(x==("__debug__" :Str))=false:=by decide)(he:starEach (e::es) X.env=(false,eval e X.env)::starEach es X.env:=by rfl)(hpl:(backTo pos (starEach es X.env)).any (·.1)=false:=by rfl) :
  PE X (.Call (.Name x p) (e::es) [] pos) (QN C sp dvs E t):=by
 intro pins s σ H Q I h;refine wpAny_Call_Name_kw (uT I hg hm ?_ hdb);refine PySem.W.callWith_K (h₀:=X.base) I.ok.mod.kin M.kp (thn (ha pos pins s σ H _ I h) fun us s1 ⟨vs,H1,I1,r,q⟩=>⟨I1.kIn,?_⟩) he hpl;exact WL M F hr hb hd hx I1 r q
end
section
variable {X:Cx}{CX:CXT}{k:Nat}{f C:Addr}{fd:FuncData}{ps ks:List Str}{sp:Sp}{E:XK}{x m:Str}{p pos apos kpos:Pos}{e o:Expr}{es:List Expr}{kws:List Keyword}{te ta:TE}{t tk:TA}{nm:Option Str}
variable {g:List Value->List Value->List Value}{gV:List V->List V->List V}
end
structure aV (N P:List Str)(sc:Scope):Prop where
 kind:sc.kind= .function
 co:sc.isCoroutine=false
 gen:sc.isGenerator=false
 nd:N.Nodup
 pre:N.take P.length=P
 par:∀x∈P,sc.names.lookup x=some .local∨sc.names.lookup x=some .cell
 nofree:∀y∈sc.names,y.2≠ .free
theorem E6 {kindOf:Str->Option NameKind}{x:Str}:∀{binds:List (Str×Value)}{m:Str->Option Value},(∀v,(x,v)∉binds)->bindL kindOf binds m x=m x
 | [],_,_=>rfl
 | (n,v)::r,m,h=>by
  unfold bindL;rw[E6 fun w hw=>h w (List.mem_cons_of_mem _ hw)]
  split
  ·have:x≠n:=by rintro rfl;exact h v List.mem_cons_self
   simp[this]
  ·rfl
theorem E5 {kindOf:Str->Option NameKind}{x:Str}:∀{binds:List (Str×Value)}{m:Str->Option Value},(∀v,(x,v)∉binds)->bindC kindOf binds m x=m x
 | [],_,_=>rfl
 | (n,v)::r,m,h=>by
  unfold bindC;rw[E5 fun w hw=>h w (List.mem_cons_of_mem _ hw)]
  split
  ·rfl
  ·have:x≠n:=by rintro rfl;exact h v List.mem_cons_self
   simp[this]
theorem F3 {kindOf:Str->Option NameKind}{x:Str}{v:Value}:∀{P:List Str}{vs:List Value}{i:Nat}{m:Str->Option Value},P.Nodup->P[i]? =some x->vs[i]? =some v->kindOf x=some .local →
  bindL kindOf (P.zip vs) m x=some v
 | [],_,_,_,_,h,_,_=>by simp at h
 | _::_,[],_,_,_,_,h,_=>by simp at h
 | p::P,w::vs,0,m,nd,h1,h2,hk=>by
  simp at h1 h2;subst h1;subst h2;show bindL kindOf ((p,w)::P.zip vs) m p=_;unfold bindL;rw[E6 fun v hv=>(List.nodup_cons.mp nd).1 (List.of_mem_zip hv).1,if_pos hk];simp
 | p::P,w::vs,i+1,m,nd,h1,h2,hk=>by
  show bindL kindOf ((p,w)::P.zip vs) m x=_;unfold bindL;exact F3 (i:=i) (List.nodup_cons.mp nd).2 (by simpa using h1) (by simpa using h2) hk
theorem FX {kindOf:Str->Option NameKind}{x:Str}{v:Value}:∀{P:List Str}{vs:List Value}{i:Nat}{m:Str->Option Value},P.Nodup->P[i]? =some x->vs[i]? =some v->kindOf x≠some .local →
  bindC kindOf (P.zip vs) m x=some v
 | [],_,_,_,_,h,_,_=>by simp at h
 | _::_,[],_,_,_,_,h,_=>by simp at h
 | p::P,w::vs,0,m,nd,h1,h2,hk=>by
  simp at h1 h2;subst h1;subst h2;show bindC kindOf ((p,w)::P.zip vs) m p=_;unfold bindC;rw[E5 fun v hv=>(List.nodup_cons.mp nd).1 (List.of_mem_zip hv).1,if_neg hk];simp
 | p::P,w::vs,i+1,m,nd,h1,h2,hk=>by
  show bindC kindOf ((p,w)::P.zip vs) m x=_;unfold bindC;exact FX (i:=i) (List.nodup_cons.mp nd).2 (by simpa using h1) (by simpa using h2) hk
def start (N:List Str)(vs:List V):St:=vs.map some++List.replicate (N.length - vs.length) none
def vN (CX:CXT)(P:Program)(w:World)(K:PySem.W.Frag)(mg:Str->Option Value)(base:Heap)(N:List Str)(qual:Str)(scope:Scope)(f:Addr)(cd:Value)(A:Around)(outer:List Env)(s:Shared)(H:Hp)(E:XK):Cx where
 prog:=P
 w:=w
 K:=K
 mg:=mg
 base:=base
 A:=A.deeper (envOfC qual scope s.heap.objs.size f cd)
 N:=N
 s₀:=s
 H₀:=H
 env:=envOfC qual scope s.heap.objs.size f cd
 outer:=outer
 stack:=envOfC qual scope s.heap.objs.size f cd::outer
 ex:=[]
 calm:=true
 fn:=fun _=>true
 pn:=[]
 xe:=fun e s'=>wpAny (model P w) (A.deeper (envOfC qual scope s.heap.objs.size f cd)) (leaving (envOfC qual scope s.heap.objs.size f cd) e) (fun _ s''=>CX outer H s E e s'') (fun e' s''=>CX outer H s E e' s'') s'
theorem vT {sc:Scope}{n:Nat}{x:Str} (h:sc.names.lookup x=some .cell):∃c,(cellsFrom n sc.names []).lookup x=some c:=by
 have q:=PySem.W.cellsFrom_some sc.names n [] (.inl h);exact Option.isSome_iff_exists.mp q
theorem FZ {CX:CXT}{P:Program}{w:World}{K:PySem.W.Frag}{mg:Str->Option Value}{base:Heap}{N ps:List Str}{qual:Str}{scope:Scope}{f:Addr}{cd:Value}{A:Around}{outer:List Env}{s s1:Shared}{H:Hp}{E:XK}{us:List Value}{vs:List V}
  (S:aV N ps scope)(hd:A.handled=none)(e0:Env0 P w K mg base A outer s H)(hl:vs.length=ps.length)(r:Vals vs us)
  (x:InCallC s s.heap.objs.size (bindL (envOfC qual scope s.heap.objs.size f cd).kindOf (ps.zip us) fun _=>none) (cellsFrom (s.heap.objs.size+1) scope.names []) (bindC (envOfC qual scope s.heap.objs.size f cd).kindOf (ps.zip us) fun _=>none) s1) :
  Inv (vN CX P w K mg base N qual scope f cd A outer s H E) [] (start N vs) H s1:=by
 have hpl:ps.length<=N.length:=by have:=congrArg List.length S.pre;rw[List.length_take]at this;lia
 obtain⟨h1,tk,rfl,hk⟩:=x.done;have noA:∀b:Addr,b∉(vN CX P w K mg base N qual scope f cd A outer s H E).ex:=fun b z=>absurd (show b∈([]:List Addr) from z) (by simp);refine⟨⟨e0.mod,S.kind,rfl,rfl,Nat.le_refl _,fun y z c h1 h2=> ?_,fun y hy=> ?_,fun y c _ h=> ?_,fun _=>hd,Around.frames_deeper e0.frames,.inr ⟨rfl,rfl⟩,fun b z=>absurd z (noA b),e0.bs,e0.bsz,fun b _ _=>noA b,fun b z=>absurd z (noA b),e0.funs,e0.frf⟩,
  rfl,e0.bare,Un.kept hk,⟨_,x.toInCall.ns,fun i y v h1 h2 h3=> ?_⟩,fun y c h=>⟨_,x.cell y c h⟩,e0.hok.fresh (Nat.le_refl _),fun y c h=> ?_,fun p hp=>absurd (show p∈([]:List (Addr×Obj)) from hp) (by simp),e0.hok.kept hk,?_⟩
 ·exact name_of_addr x.apart (PySem.mem_of_lookup h1) (PySem.mem_of_lookup h2)
 ·have hy:scope.names.lookup y=some .cell∨scope.names.lookup y=some .free:=hy;rcases hy with hy|hy
  ·exact vT hy
  ·exact absurd rfl (S.nofree _ (PySem.mem_of_lookup hy))
 ·exact Nat.le_of_lt (x.above y c (PySem.mem_of_lookup h))
 ·have hi:i<vs.length:=by
   unfold start at h2
   by_cases hi:i<vs.length
   ·exact hi
   ·rw[List.getElem?_append_right (by simpa using hi)]at h2;rw[List.getElem?_replicate]at h2
    split at h2<;>cases h2
  have ha:vs[i]? =some v:=by
   unfold start at h2;rw[List.getElem?_append_left (by simpa using hi),List.getElem?_map]at h2;cases e:vs[i]? with
   | none=>rw[e]at h2;cases h2
   | some a=>rw[e]at h2;cases h2;rfl
  obtain⟨u,hu,rv⟩:=r.get ha;have hp:ps[i]? =some y:=by
   rw[←S.pre,List.getElem?_take_of_lt (by lia)];exact h1
  have ndP:ps.Nodup:=by rw[←S.pre];exact S.nd.sublist (List.take_sublist _ _)
  refine⟨u,rv,?_⟩;rcases S.par y (List.mem_of_getElem? hp) with k|k
  ·exact .inl ⟨k,F3 ndP hp hu k⟩
  ·obtain⟨c,e⟩:=vT (n:=s.heap.objs.size+1) k;refine .inr ⟨.inl k,c,e,?_⟩;have q:=x.cell y c e;rw[FX ndP hp hu (by show scope.names.lookup y≠_;rw[k];decide)]at q;exact q
 ·exact e0.hok.fresh (Nat.le_of_lt (x.above y c (PySem.mem_of_lookup h)))
 ·unfold start;show _=N.length;rw[List.length_append,List.length_map,List.length_replicate]
  lia
theorem aDV {CX:CXT}{P:Program}{w:World}{K:PySem.W.Frag}{mg:Str->Option Value}{base:Heap}{k:Nat}{f:Addr}{name qual:Str}{params:Arguments}{body:List Stmt}{scope:Scope}{dV kV doc pm cdv ct oc:Value}{an od:Option Addr}
  {osl:Array (Option Value)}{N ps:List Str}{sp:Sp} (lk:K.lookup f=some ⟨oc,od,.func (PySem.W.fnOf name qual params body scope dV kV doc pm an cdv ct),osl⟩) (hcd:PySem.W.codeIn K cdv qual=true) (S:aV N ps scope)
  (len:∀vs H Q E,sp vs H Q E->vs.length=ps.length)
  (hbody:∀(A:Around) (outer:List Env) (s:Shared) (H:Hp) (vs:List V) (Q:VK) (E:XK),Room k (A.deeper (envOfC qual scope s.heap.objs.size f cdv))->sp vs H Q E →
   ∃t,PSs (vN CX P w K mg base N qual scope f cdv A outer s H E) body t/\t { nx:=fun _ H'=>Q .non H',rt:=Q } (start N vs) H) :
  FnOk P w K mg base CX (k+1) f (PySem.W.fnOf name qual params body scope dV kV doc pm an cdv ct) ps sp:=by
 refine⟨len,fun A outer s H args us vs Q E hr e0 hb r hsp=> ?_⟩;have hl:=len _ _ _ _ hsp;have KX:K.In s.heap:=e0.mod.kin.keeps fun b o e=>(e0.bs b o e).1;have lim:s.heap.NoLimit:=e0.mod.nolimit.keeps fun b o e=>(e0.bs b o e).1;have hkind:∀y∈ps.zip us,scope.names.lookup y.1=some .local∨(scope.names.lookup y.1=some .cell/\((cellsFrom (s.heap.objs.size+1) scope.names []).lookup y.1).isSome=true):=fun⟨n,v⟩ hy=>by
  rcases S.par n (List.of_mem_zip hy).1 with q|q
  ·exact .inl q
  ·exact .inr ⟨q,PySem.W.cellsFrom_some _ _ _ (.inl q)⟩
 refine codeAny_call_function hr.depth (KX _ _ lk) rfl S.co S.gen rfl (PySem.W.codeRec_of KX hcd) (hb _ _ _ _ ?_);refine wpAny_newFunctionEnv_cells S.kind hkind fun env he s1 x=> ?_;subst he;refine⟨lim.keeps x.toInCall.keep,codeAny_func ?_⟩;obtain⟨t,ht,hq⟩:=hbody A outer s H vs Q E (hr.deeper _) hsp;have I:Inv (vN CX P w K mg base N qual scope f cdv A outer s H E) [] (start N vs) H s1:=FZ S hr.hd e0 hl r x;refine wpAny_mono (ht [] s1 (start N vs) H _ I hq) (fun fl s' hs=> ?_) fun e s' hs=>hs;have fin:∀{σ':St}{H':Hp}{v:V}{u:Value},Inv (vN CX P w K mg base N qual scope f cdv A outer s H E) [] σ' H' s'->RelV v u->Q v H'->CE outer P w H s Q u s' :=
  fun {σ' H' v u} J rv q=>⟨v,H',J.os,J.bare,J.base,J.hok,rv,q⟩
 cases fl with
 | ret u =>
  obtain⟨v,σ',H',J,rv,q⟩:=hs;exact fin J rv q
 | next =>
  obtain⟨σ',H',J,q⟩:=hs;exact fin (v:=V.non) (u:=Value.none) J rfl q
 | brk =>
  obtain⟨_,_,_,q⟩:=hs;exact False.elim q
 | cont =>
  obtain⟨_,_,_,q⟩:=hs;exact False.elim q
end L2
namespace L2
open PySem PySem.Spec PyProof.Rows
section
variable {X:Cx}{x:Str}{p pos:Pos}{e:Expr}{es:List Expr}{t:TA}{id T:String}{r:List V->Hp->VK->Prop}
def tCB (r:List V->Hp->VK->Prop)(t:TA):TE:=fun σ H Q=>t σ H fun vs H1=>r vs H1 Q
theorem bV (hc:dH X (.builtin id) r)(hg:Gl X x)(hm:X.mg x=none)(hv:bootBuiltins x=some (.builtin id))(ha:PA X (e::es) t)(hn:x≠ "__name__" :=by decide)(hdb:(x==("__debug__" :Str))=false:=by decide)
  (he:starEach (e::es) X.env=(false,eval e X.env)::starEach es X.env:=by rfl)(hpl:(backTo pos (starEach es X.env)).any (·.1)=false:=by rfl):PE X (.Call (.Name x p) (e::es) [] pos) (tCB r t):=by
 intro pins s σ H Q I h;refine wpAny_Call_Name_kw (xP I hg hm hv ?_ hn hdb);exact PyProof.Rows.callWith_builtin1 (thn (ha pos pins s σ H _ I h) fun us s1 ⟨vs,H1,I1,r1,q1⟩=>hc pins s1 σ H1 vs us Q I1 r1 q1) he hpl
theorem mD (hc:dH X (.type T) r)(hg:Gl X x)(hm:X.mg x=none)(hv:bootBuiltins x=some (.type T))(ha:PA X (e::es) t)(hn:x≠ "__name__" :=by decide)(hdb:(x==("__debug__" :Str))=false:=by decide)
  (he:starEach (e::es) X.env=(false,eval e X.env)::starEach es X.env:=by rfl)(hpl:(backTo pos (starEach es X.env)).any (·.1)=false:=by rfl):PE X (.Call (.Name x p) (e::es) [] pos) (tCB r t):=by
 intro pins s σ H Q I h;refine wpAny_Call_Name_kw (xP I hg hm hv ?_ hn hdb);exact PyProof.Rows.callWith_type1 (thn (ha pos pins s σ H _ I h) fun us s1 ⟨vs,H1,I1,r1,q1⟩=>hc pins s1 σ H1 vs us Q I1 r1 q1) he hpl
end
end L2
namespace HT
open PySem PyProof.Rows
section
open PySem.SeqAt
open PySem.AutoSeq1 (wpAny_loadPart')
open PySem.MeetsSeq PySem.MeetsSeq2 PySem.MeetsSeq3
end
section
variable {prog:Program}{w:World}{A:Around}{E:Value->Shared->Prop}{s:Shared}
def sIx (n d:Nat):Option Int->Nat
 | none=>d
 | some v=>if v<0 then (v+(n:Int)).toNat else min v.toNat n
end
end HT
namespace L2
open PySem PySem.Spec PyProof.Rows
abbrev TO:=St->Hp->(Option Int->Hp->Prop)->Prop
def PO (X:Cx)(e:Option Expr)(t:TO):Prop :=
 ∀(pins:List (Addr×Obj)) (s:Shared) (σ:St) (H:Hp) (Q:Option Int->Hp->Prop),Inv X pins σ H s->t σ H Q →
  wpAny (model X.prog X.w) X.A (evalPart e X.env) (fun u s'=>∃o H',Inv X pins σ H' s'/\IsPart u o/\Q o H') X.xe s
def NW:TO:=fun _ H Q=>Q none H
def YM (t:TE):TO:=fun σ H Q=>t σ H fun x H1=>∃i,x= .int i/\Q (some i) H1
section
variable {X:Cx}{e:Expr}{te:TE}{lo hi:Option Expr}{tl th:TO}{pos p2:Pos}
theorem yN:PO X none NW:=by
 intro pins s σ H Q I h;rw[evalPart_none];exact wpAny_pure ⟨none,H,I,.none,h⟩
theorem rD (h:PE X e te):PO X (some e) (YM te):=by
 intro pins s σ H Q I hw;rw[evalPart_some];refine thn (h pins s σ H _ I hw) fun u s1 ⟨x,H1,I1,r1,q1⟩=> ?_;obtain⟨i,rfl,q⟩:=q1;obtain⟨t,rfl⟩:=r1;exact⟨some i,H1,I1,.int i t,q⟩
def SlR (X:Cx)(r:V->Option Int->Option Int->Hp->VK->Prop):Prop :=
 ∀(pins:List (Addr×Obj)) (s:Shared) (σ:St) (H:Hp) (x:V) (v vl vu:Value) (lo hi:Option Int) (sl:Addr) (Q:VK),Inv X pins σ H s->RelV x v->s.heap.IsSliceOf sl vl vu .none->IsPart vl lo->IsPart vu hi->r x lo hi H Q →
  ∃T id,typeLookup (.type T) "__getitem__" =pure (some (.builtin id))/\s.TypeIs v T/\wpAny (model X.prog X.w) X.A (getItem v (.ref sl)) (EP X pins σ Q) X.xe s
def tSl (r:V->Option Int->Option Int->Hp->VK->Prop)(te:TE)(tl th:TO):TE:=fun σ H Q=>te σ H fun x H1=>tl σ H1 fun l H2=>th σ H2 fun u H3=>r x l u H3 Q
theorem rN {r:V->Option Int->Option Int->Hp->VK->Prop}(hr:SlR X r)(he:PE X e te)(hl:PO X lo tl)(hu:PO X hi th):PE X (.Subscript e (.Slice lo hi none p2) pos) (tSl r te tl th):=by
 intro pins s σ H Q I h;refine Subscript_ (thn (he pins s σ H _ I h) fun v s1 ⟨x,H1,I1,r1,q1⟩=> ?_);refine wpAny_Slice (thn (hl pins s1 σ H1 _ I1 q1) fun vl s2 ⟨l,H2,I2,pl,q2⟩=>thn (hu pins s2 σ H2 _ I2 q2) fun vu s3 ⟨u,H3,I3,pu,q3⟩=> ?_);rw[evalPart_none];refine wpAny_pure ?_;have I4:Inv X pins σ H3 { s3 with heap:=s3.heap.push { cls:= .type "slice",data:= .fields #[vl,vu,.none] } }:=I3.kept (t':=s3.toks) fun b ob q=>Heap.get?_push_of_some _ q;obtain⟨T,id,hT,ht,hg⟩:=hr pins { s3 with heap:=s3.heap.push { cls:= .type "slice",data:= .fields #[vl,vu,.none] } } σ H3 x v vl vu l u s3.heap.objs.size Q I4 r1 (Heap.IsSliceOf.new ..) pl pu q3;show wpAny (model X.prog X.w) X.A (subscriptTail e (.Slice lo hi none p2) v (.ref s3.heap.objs.size)) (EP X pins σ Q) X.xe { s3 with heap:=s3.heap.push { cls:= .type "slice",data:= .fields #[vl,vu,.none] } };exact tail_any (ops:=[.ref s3.heap.objs.size,v]) ht hT hg (by with_unfolding_all rfl)
def AC (xs:List V)(lo hi:Option Int):List V:=(xs.drop (HT.sIx xs.length 0 lo)).take (HT.sIx xs.length xs.length hi - HT.sIx xs.length 0 lo)
theorem L5 (xs:List V)(lo hi:Option Int):(AC xs lo hi).length<=xs.length:=by
 unfold AC;rw[List.length_take,List.length_drop]
 lia
end
end L2
namespace L2
open PySem PySem.Spec PyProof.Rows
def ixN (n:Nat)(i:Int):Option Nat:=if 0<=i then (if i<n then some i.toNat else none) else if -(n:Int)<=i then some (i+n).toNat else none
def atI {α:Type}(xs:List α)(i:Int):Option α:=(ixN xs.length i).bind fun j=>xs[j]?
theorem ZZ {n:Nat}{i:Int}{j:Nat} (h:ixN n i=some j):seqIndex? i n=some j/\j<n/\ -(n:Int)<=i/\i<n:=by
 unfold ixN at h
 by_cases h0:0<=i
 ·rw[if_pos h0]at h
  by_cases h1:i<n
  ·rw[if_pos h1]at h;have e:i.toNat=j:=Option.some.inj h;exact⟨by rw[seqIndex_of h0 h1,e],by lia,by lia,h1⟩
  ·rw[if_neg h1]at h;cases h
 ·rw[if_neg h0]at h
  by_cases h1: -(n:Int)<=i
  ·rw[if_pos h1]at h;have e:(i+n).toNat=j:=Option.some.inj h;exact⟨by rw[seqIndex_neg (by lia) h1,e],by lia,h1,by lia⟩
  ·rw[if_neg h1]at h;cases h
theorem DQ {α:Type}{xs:List α}{i:Int}{v:α} (h:atI xs i=some v):∃j,seqIndex? i xs.length=some j/\xs[j]? =some v/\j<xs.length/\ -(xs.length:Int)<=i/\i<xs.length:=by
 unfold atI at h;cases e:ixN xs.length i with
 | none=>rw[e]at h;cases h
 | some j =>
  rw[e]at h;obtain⟨h1,h2,h3,h4⟩:=ZZ e;exact⟨j,h1,h,h2,h3,h4⟩
theorem zB {α:Type}{xs:List α}{j:Nat}{v:α} (h:xs[j]? =some v):atI xs (j:Int)=some v:=by
 have hj:j<xs.length:=(List.getElem?_eq_some_iff.mp h).1;have e:ixN xs.length (j:Int)=some j:=by
  unfold ixN;rw[if_pos (by lia),if_pos (by lia)];simp
 unfold atI;rw[e];exact h
def ZM (b:Expr):Prop:=∀o i,subscripted b false o i=operate [o,i] (getItem o i)
def IxR (X:Cx)(r:R2):Prop :=
 ∀(value slice:Expr) (pins:List (Addr×Obj)) (s:Shared) (σ:St) (H:Hp) (x y:V) (v u:Value) (Q:VK),Inv X pins σ H s->RelV x v->RelV y u->r x y H Q →
  subscripted slice false v u=operate [v,u] (getItem v u)->wpAny (model X.prog X.w) X.A (subscriptTail value slice v u) (EP X pins σ Q) X.xe s
def MtR (X:Cx)(id:String)(r:V->List V->Hp->VK->Prop):Prop :=
 ∀(pins:List (Addr×Obj)) (s:Shared) (σ:St) (H:Hp) (x:V) (xs:List V) (v:Value) (us:List Value) (Q:VK),Inv X pins σ H s->RelV x v->Vals xs us->r x xs H Q →
  wpAny (model X.prog X.w) X.A (call (.builtin id) (v::us)) (EP X pins σ Q) X.xe s
section
variable {X:Cx}{a b:Expr}{ta tb:TE}{pos:Pos}
theorem eY {r:R2}(hr:IxR X r)(ha:PE X a ta)(hb:PE X b tb)(hs:ZM b):PE X (.Subscript a b pos) (tOp r ta tb):=by
 intro pins s σ H Q I h;exact Subscript_ (VD ha hb I h fun v u s2 x y H2 I2 rx ry q=>hr a b pins s2 σ H2 x y v u Q I2 rx ry q (hs _ _))
def JC (K:PySem.W.Frag):R2:=fun x y H Q=>∃p xs i v,x= .ref p/\y= .int i/\SqL K H p xs/\atI xs i=some v/\Q v H
def aCe (K:PySem.W.Frag):R2:=fun x y H Q=>∃p xs i v,x= .ref p/\y= .int i/\SqT K H p xs/\atI xs i=some v/\Q v H
def aEW:R2:=fun x y H Q=>∃z i c,x= .str z/\y= .int i/\z.length<=sizeLine/\atI z.cps.toList i=some c/\Q (.str ⟨#[c]⟩) H
theorem iG:IxR X (JC X.K):=by
 intro value slice pins s σ H x y v u Q I rx ry h hs;obtain⟨p,xs,i,z,rfl,rfl,hq,he,q⟩:=h;cases rx;obtain⟨t,rfl⟩:=ry;obtain⟨its,r,pl,hz⟩:=I.list hq;obtain⟨j,h1,h2,h3,h4,h5⟩:=DQ he;obtain⟨w,ew,rw'⟩:=r.get h2;have hl:=r.length;have hn:=xX;have fin:EP X pins σ Q w s:=⟨z,H,I,rw',q⟩
 by_cases h0:0<=i
 ·have hj:i.toNat=j:=by
   rw[seqIndex_of h0 h5]at h1;exact Option.some.inj h1
  exact item_listR pl.isList h0 (by lia) (by rw[hj];simpa using ew) fin hs
 ·have hj:(i+(its.toArray.size:Int)).toNat=j:=by
   rw[seqIndex_neg (by lia) h4]at h1;rw[List.size_toArray,←hl];exact Option.some.inj h1
  exact subscriptTail_builtinR (x:=w) pl.isList.typeIs slot_list_getitem.lookup
   (wpAny_getItem_list_neg (Q:=fun r s'=>r=w/\EP X pins σ Q r s') pl.isList (by lia) (by rw[List.size_toArray]<;>lia) (by lia) (by rw[hj];simpa using ew) ⟨rfl,fin⟩) hs
theorem JF:IxR X (aCe X.K):=by
 intro value slice pins s σ H x y v u Q I rx ry h hs;obtain⟨p,xs,i,z,rfl,rfl,hq,he,q⟩:=h;cases rx;obtain⟨t,rfl⟩:=ry;obtain⟨its,r,pl,hz⟩:=I.tuple hq;obtain⟨j,h1,h2,h3,h4,h5⟩:=DQ he;obtain⟨w,ew,rw'⟩:=r.get h2;have hl:=r.length;have hn:=xX;have fin:EP X pins σ Q w s:=⟨z,H,I,rw',q⟩
 exact subscriptTail_builtinR (x:=w) pl.typeIs slot_tuple_getitem.lookup
  (getItem_tuple (j:=j) (Q:=fun r s'=>r=w/\EP X pins σ Q r s') pl (by lia) (by lia) (by rw[List.size_toArray,←hl];exact h1) (by simpa using ew) ⟨rfl,fin⟩) hs
theorem aCJ:IxR X aEW:=by
 intro value slice pins s σ H x y v u Q I rx ry h hs;obtain⟨z,i,c,rfl,rfl,hz,he,q⟩:=h;obtain⟨t,rfl⟩:=rx;obtain⟨t',rfl⟩:=ry;obtain⟨j,h1,h2,h3,h4,h5⟩:=DQ he;have hl:z.cps.toList.length=z.length:=by simp[Str.length]
 rw[hl]at h1 h4 h5;have hn:=xX;exact tail_any (typeIs_str s z t) slot_str_getitem.lookup (getItem_str (c:=c) (by
  have e1:decide (i< -(2^63:Int))=false:=decide_eq_false (by lia);have e2:decide (i≥2^63)=false:=decide_eq_false (by lia);rw[e1,e2,Bool.or_false]) (by rw[h1];simpa using h2) ⟨.str ⟨#[c]⟩,H,I.tok _,⟨_,rfl⟩,q⟩) hs
theorem I0 (lo hi:Option Int)(n:Nat):(sliceBounds lo hi none n).1=((HT.sIx n 0 lo:Nat):Int)/\(sliceBounds lo hi none n).2.1=((HT.sIx n n hi:Nat):Int)/\(sliceBounds lo hi none n).2.2=1:=by
 refine⟨?_,?_,rfl⟩
 ·cases lo with
  | none=>simp[sliceBounds,HT.sIx]
  | some i =>
   simp only[sliceBounds,HT.sIx,Option.getD_none,show (1:Int)>0 by decide,if_true]
   by_cases h:i<0
   ·simp only[h,if_true]<;>lia
   ·simp only[h,if_false]<;>lia
 ·cases hi with
  | none=>simp[sliceBounds,HT.sIx]
  | some i =>
   simp only[sliceBounds,HT.sIx,Option.getD_none,show (1:Int)>0 by decide,if_true]
   by_cases h:i<0
   ·simp only[h,if_true]<;>lia
   ·simp only[h,if_false]<;>lia
theorem GL (its:List Value)(lo hi:Option Int):slicePick its.toArray lo hi none=((its.drop (HT.sIx its.length 0 lo)).take (HT.sIx its.length its.length hi - HT.sIx its.length 0 lo)).toArray:=by
 obtain⟨h1,h2,h3⟩:=I0 lo hi its.toArray.size;unfold slicePick;rw[h1,h2,h3];simp only[sliceRange_one,pick_run,List.size_toArray]<;>rfl
def VR (K:PySem.W.Frag):V->Option Int->Option Int->Hp->VK->Prop:=fun x lo hi H Q=>∃a xs,x= .ref a/\SqL K H a xs/\∀p,H p=none->Q (.ref p) (upd H p (.lst (AC xs lo hi)))
theorem aAr:SlR X (VR X.K):=by
 intro pins s σ H x v vl vu lo hi sl Q I rx hs pl pu h;obtain⟨a,xs,rfl,hx,q⟩:=h;cases rx;obtain⟨its,r,ht,hz⟩:=I.list hx;have hlen:=r.length;refine⟨"list",_,slot_list_getitem.lookup,ht.isList.typeIs,?_⟩;refine wpAny_getItem_list_slice ht.isList hs pl pu .none (by simp) ?_ (by rw[List.size_toArray]<;>lia);rw[GL,←hlen];refine⟨.ref s.heap.objs.size,_,I.laid (t':=s.toks) (o:= .lst (AC xs lo hi)) (fun b ob q=>Heap.get?_push_of_some _ q) (Nat.le_refl _) ?_,rfl,q _ (I.hok.fresh (Nat.le_refl _))⟩;exact⟨Nat.le_trans (L5 xs lo hi) hz,_,0,(r.drop (HT.sIx xs.length 0 lo)).take (HT.sIx xs.length xs.length hi - HT.sIx xs.length 0 lo),Heap.get?_push_size _ rfl⟩
def mO:V->Bool
 | .non=>true
 | .bl _=>true
 | .int _=>true
 | .str _=>true
 | _=>false
def eqV:V->V->Bool
 | .non,.non=>true
 | .bl a,.bl b=>a==b
 | .bl a,.int b=>(if a then 1 else 0)==b
 | .int a,.bl b=>a==(if b then 1 else 0)
 | .int a,.int b=>a==b
 | .str a,.str b=>a==b
 | _,_=>false
theorem SU {A:Around}{s:Shared}{y x:V}{u v:Value} (ry:RelV y u) (rx:RelV x v) (fy:mO y=true) (fx:mO x=true):SeqAt.EqAt A s u v (eqV y x):=by
 cases y with
 | non =>
  cases ry;cases x with
  | non=>cases rx;exact SeqAt.EqAt.same _
  | bl b=>cases rx;exact SeqAt.EqAt.none_bool b
  | int b=>obtain⟨t,rfl⟩:=rx;exact SeqAt.EqAt.none_int b t
  | str b=>obtain⟨t,rfl⟩:=rx;exact SeqAt.EqAt.none_str b t
  | _=>exact absurd (show false=true from fx) Bool.false_ne_true
 | bl a =>
  cases ry;cases x with
  | non=>cases rx;exact SeqAt.EqAt.bool_none a
  | bl b=>cases rx;exact SeqAt.EqAt.bool_bool a b
  | int b=>obtain⟨t,rfl⟩:=rx;exact SeqAt.EqAt.bool_int a b t
  | str b=>obtain⟨t,rfl⟩:=rx;exact SeqAt.EqAt.bool_str a b t
  | _=>exact absurd (show false=true from fx) Bool.false_ne_true
 | int a =>
  obtain⟨t',rfl⟩:=ry;cases x with
  | non=>cases rx;exact SeqAt.EqAt.int_none a t'
  | bl b=>cases rx;exact SeqAt.EqAt.int_bool a t' b
  | int b=>obtain⟨t,rfl⟩:=rx;exact SeqAt.EqAt.int_int a t' b t
  | str b=>obtain⟨t,rfl⟩:=rx;exact SeqAt.EqAt.int_str a t' b t
  | _=>exact absurd (show false=true from fx) Bool.false_ne_true
 | str a =>
  obtain⟨t',rfl⟩:=ry;cases x with
  | non=>cases rx;exact SeqAt.EqAt.str_none a t'
  | bl b=>cases rx;exact SeqAt.EqAt.str_bool a t' b
  | int b=>obtain⟨t,rfl⟩:=rx;exact SeqAt.EqAt.str_int a t' b t
  | str b=>obtain⟨t,rfl⟩:=rx;exact SeqAt.EqAt.str_str a t' b t
  | _=>exact absurd (show false=true from fx) Bool.false_ne_true
 | _=>exact absurd (show false=true from fy) Bool.false_ne_true
def eqU (x:V)(u:Value):Bool:=match u with
 | .none=>eqV .non x
 | .bool b=>eqV (.bl b) x
 | .int i _=>eqV (.int i) x
 | .str z _=>eqV (.str z) x
 | _=>false
theorem US {x y:V}{u:Value} (r:RelV y u) (f:mO y=true):eqU x u=eqV y x:=by
 cases y with
 | non=>cases r;rfl
 | bl b=>cases r;rfl
 | int i=>obtain⟨t,rfl⟩:=r;rfl
 | str z=>obtain⟨t,rfl⟩:=r;rfl
 | _=>exact absurd (show false=true from f) Bool.false_ne_true
theorem uU {x:V}:∀{xs:List V}{us:List Value},Vals xs us->xs.all mO=true->us.any (eqU x)=xs.any fun y=>eqV y x
 | _,_,.nil,_=>rfl
 | y::xs,u::us,.cons r t,f=>by
  rw[List.all_cons,Bool.and_eq_true]at f;rw[List.any_cons,List.any_cons,US r f.1,uU t f.2]
theorem rL {A:Around}{s:Shared}{x:V}{v:Value} (rx:RelV x v) (fx:mO x=true):∀{xs:List V}{us:List Value},Vals xs us->xs.all mO=true->∀u∈us,SeqAt.EqAt A s u v (eqU x u)
 | _,_,.nil,_=>fun u hu=>by cases hu
 | y::xs,u::us,.cons r t,f=>fun u' hu=>by
  rw[List.all_cons,Bool.and_eq_true]at f;rcases List.mem_cons.mp hu with rfl|hu
  ·rw[US r f.1];exact SU r rx f.1 fx
  ·exact rL rx fx t f.2 u' hu
def inV (x:V)(xs:List V):Bool:=xs.any fun y=>eqV y x
def rIn (K:PySem.W.Frag)(neg:Bool):R2:=fun x y H Q=>∃p xs,y= .ref p/\(SqL K H p xs∨SqT K H p xs)/\mO x=true/\xs.all mO=true/\Q (.bl (if neg then !inV x xs else inV x xs)) H
theorem Q6:OpR X (compareOp .In) (rIn X.K false):=by
 intro pins s σ H x y v u Q I rx ry h;obtain⟨p,xs,rfl,hq,fx,fs,q⟩:=h;cases ry;rcases hq with hq|hq
 ·obtain⟨its,r,pl,hz⟩:=I.list hq;refine SeqAt.in_listAt (eqU x) pl.isList (fun w hw=>rL rx fx r fs w (by simpa using hw)) ⟨.bl _,H,I,rfl,?_⟩;rw[show its.toArray.any (eqU x)=its.any (eqU x) by simp,uU r fs];exact q
 ·obtain⟨its,r,pl,hz⟩:=I.tuple hq;refine SeqAt.in_tupleAt (eqU x) pl (fun w hw=>rL rx fx r fs w (by simpa using hw)) ⟨.bl _,H,I,rfl,?_⟩;rw[show its.toArray.any (eqU x)=its.any (eqU x) by simp,uU r fs];exact q
theorem JD:OpR X (compareOp .NotIn) (rIn X.K true):=by
 intro pins s σ H x y v u Q I rx ry h;obtain⟨p,xs,rfl,hq,fx,fs,q⟩:=h;cases ry;rcases hq with hq|hq
 ·obtain⟨its,r,pl,hz⟩:=I.list hq;refine SeqAt.notIn_listAt (eqU x) pl.isList (fun w hw=>rL rx fx r fs w (by simpa using hw)) ⟨.bl _,H,I,rfl,?_⟩;rw[show its.toArray.any (eqU x)=its.any (eqU x) by simp,uU r fs];exact q
 ·obtain⟨its,r,pl,hz⟩:=I.tuple hq;refine SeqAt.notIn_tupleAt (eqU x) pl (fun w hw=>rL rx fx r fs w (by simpa using hw)) ⟨.bl _,H,I,rfl,?_⟩;rw[show its.toArray.any (eqU x)=its.any (eqU x) by simp,uU r fs];exact q
theorem II:dH X (.builtin "len") (fun xs H Q=>∃p ys,xs=[.ref p]/\(SqL X.K H p ys∨SqT X.K H p ys)/\Q (.int ys.length) H):=by
 intro pins s σ H xs us Q I r h;obtain⟨p,ys,rfl,hq,q⟩:=h;obtain⟨u,rfl,rx⟩:=kC r;cases rx;have hn:=xX;rcases hq with hq|hq
 ·obtain⟨its,r',pl,hz⟩:=I.list hq;have hlen:=r'.length;exact Calls.call_len_list pl.isList (by simp only[List.size_toArray]<;>lia) ⟨.int ys.length,H,I.tok _,⟨s.toks+1,by rw[List.size_toArray,hlen]⟩,q⟩
 ·obtain⟨its,r',pl,hz⟩:=I.tuple hq;have hlen:=r'.length;exact len_tuple pl (by simp only[List.size_toArray]<;>lia) ⟨.int ys.length,H,I.tok _,⟨s.toks+1,by rw[List.size_toArray,hlen]⟩,q⟩
theorem KN:dH X (.builtin "len") (fun xs H Q=>∃z,xs=[.str z]/\z.length<=sizeLine/\Q (.int z.length) H):=by
 intro pins s σ H xs us Q I r h;obtain⟨z,rfl,hz,q⟩:=h;obtain⟨u,rfl,t,rfl⟩:=kC r;have hn:=xX;exact len_str (by lia) ⟨.int z.length,H,I.tok _,⟨_,rfl⟩,q⟩
theorem J4:dH X (.type "list") (fun xs H Q=>∃p ys,xs=[.ref p]/\(SqL X.K H p ys∨SqT X.K H p ys)/\∀l,H l=none->Q (.ref l) (upd H l (.lst ys))):=by
 intro pins s σ H xs us Q I r h;obtain⟨p,ys,rfl,hq,q⟩:=h;obtain⟨u,rfl,rx⟩:=kC r;cases rx;have fin:∀(its:List Value),Vals ys its->ys.length<=sizeLine->∀(h':Heap) (c':Nat),(∀b o',s.heap.get? b=some o'->h'.get? b=some o') →
   h'.get? s.heap.objs.size=some { cls:= .type "list",dict:=none,data:= .seq its.toArray c',slots:= #[] }->EP X pins σ Q (.ref s.heap.objs.size) { s with heap:=h' }:=fun its r' hz h' c' kp e =>
  ⟨.ref s.heap.objs.size,_,I.laid (t':=s.toks) kp (Nat.le_refl _) (show ObjOk X.prog X.w _ h' _ (.lst ys) from⟨hz,its,c',r',e⟩),rfl,q _ (I.hok.fresh (Nat.le_refl _))⟩
 rcases hq with hq|hq
 ·obtain⟨its,r',pl,hz⟩:=I.list hq;have hlen:=r'.length;obtain⟨o,ho,hc,n,hd⟩:=pl.isList;exact call_list_seq p (.inl rfl) ho hc hd (fun h' c' kp e=>fin its r' hz h' c' kp e) (by simp only[List.size_toArray]<;>lia)
 ·obtain⟨its,r',pl,hz⟩:=I.tuple hq;have hlen:=r'.length;obtain⟨o,ho,hc,n,hd⟩:=pl;exact call_list_seq p (.inr rfl) ho hc hd (fun h' c' kp e=>fin its r' hz h' c' kp e) (by simp only[List.size_toArray]<;>lia)
def tyV (K:PySem.W.Frag)(T:String)(x:V)(H:Hp):Prop:=match x with
 | .str _=>T= "str"
 | .int _=>T= "int"
 | .ref p=>(T= "list" /\∃xs,SqL K H p xs)∨(T= "tuple" /\∃o,K.lookup p=some o/\o.cls= .type "tuple" /\o.dict=none) ∨
   (T= "dict" /\((∃kvs,H p=some (.dK kvs))∨∃kvs,H p=some (.dT kvs)))∨(T= "set" /\∃S n,H p=some (.set S n))
 | _=>False
theorem aB5 {pins:List (Addr×Obj)}{σ:St}{H:Hp}{s:Shared}{T:String}{x:V}{v:Value} (I:Inv X pins σ H s) (r:RelV x v) (ty:tyV X.K T x H) :
  s.TypeIs v T/\∀a,v= .ref a->∃ob,s.heap.get? a=some ob/\ob.dict=none:=by
 cases x with
 | str z =>
  obtain⟨t,rfl⟩:=r;cases (show T= "str" from ty);exact⟨typeIs_str s z t,fun _ e=>nomatch e⟩
 | int i =>
  obtain⟨t,rfl⟩:=r;cases (show T= "int" from ty);exact⟨typeIs_int s i t,fun _ e=>nomatch e⟩
 | ref p =>
  cases r;rcases ty with⟨rfl,xs,hq⟩|⟨rfl,o,hk,hc,hd⟩|⟨rfl,hk⟩|⟨rfl,S,n,hk⟩
  ·obtain⟨its,_,pl,_⟩:=I.list hq;refine⟨pl.isList.typeIs,fun a e=> ?_⟩;cases e;obtain⟨o,n,e,c,hd,_⟩:=pl;exact⟨o,e,hd⟩
  ·refine⟨⟨o,I.kIn p o hk,hc⟩,fun a e=> ?_⟩;cases e;exact⟨o,I.kIn _ o hk,hd⟩
  ·have z:∃o,s.heap.get? p=some o/\o.ExactDict:=by
    rcases hk with⟨kvs,hk⟩|⟨kvs,hk⟩
    ·obtain⟨_,_,_,_,o,_,_,e,ex,_⟩:=I.hok p _ hk;exact⟨o,e,ex⟩
    ·obtain⟨_,_,_,_,o,_,_,e,ex,_⟩:=I.hok p _ hk;exact⟨o,e,ex⟩
   obtain⟨o,e,ex⟩:=z;refine⟨⟨o,e,ex.1⟩,fun a e2=> ?_⟩;cases e2;exact⟨o,e,ex.2.1⟩
  ·obtain⟨o,_,_,_,e,ex,_⟩:=I.hok p _ hk;refine⟨⟨o,e,ex.1⟩,fun a e2=> ?_⟩;cases e2;exact⟨o,e,ex.2.1⟩
 | _=>exact False.elim ty
def tBM (K:PySem.W.Frag)(T:String)(r:V->List V->Hp->VK->Prop)(to:TE)(t:TA):TE:=fun σ H Q=>to σ H fun x H1=>tyV K T x H1/\t σ H1 fun xs H2=>r x xs H2 Q
variable {o e:Expr}{es:List Expr}{to:TE}{t:TA}{name:Str}{apos cpos:Pos}{T id:String}{r:V->List V->Hp->VK->Prop}
theorem tQ (pa:PlainAttrs T)(slot:Slot T name id)(hty:typeOf (.builtin id)=pure (.type "method_descriptor"))(hm:MtR X id r)(ho:PE X o to)(ha:PA X (e::es) t)
  (hbase:attributeBase o name X.env (eval o X.env)=eval o X.env:=by rfl)
  (hfew:((backTo cpos (starEach (e::es) X.env)).all (fun x=> !x.1)&&(backToKw cpos (keywordEach [] X.env)).all (fun x=>x.1.isSome)
   && decide ((e::es).length+([]:List Keyword).length+(if ([]:List Keyword).isEmpty then 0 else 1)<30))=true:=by rfl)
  (hline:(apos.endLine==cpos.line)=true:=by rfl)(hs:starEach (e::es) X.env=(false,eval e X.env)::starEach es X.env:=by rfl)(hplain:(backTo cpos (starEach es X.env)).any (·.1)=false:=by rfl) :
  PE X (.Call (.Attribute o name apos) (e::es) [] cpos) (tBM X.K T r to t):=by
 intro pins s σ H Q I h;refine wpAny_Call_method_late hbase hfew hline rfl (thn (ho pins s σ H _ I h) fun v s1 ⟨x,H1,I1,r1,ty,q1⟩=> ?_);obtain⟨h1,h2⟩:=aB5 I1 r1 ty;refine⟨T,id,pa,slot,hty,h1,h2,?_⟩;have hA:=ha cpos pins s1 σ H1 _ I1 q1;rw[hs]at hA ⊢;refine Calls.callWith_builtin (by show (false||(backTo cpos (starEach es X.env)).any (·.1))=false;rw[hplain]<;>rfl) (Calls.evalArgs_plain ?_);exact thn hA fun us s2 ⟨vs,H2,I2,r2,q2⟩=>hm pins s2 σ H2 x vs v us Q I2 r1 r2 q2
end
end L2
namespace L2
open PySem PySem.Spec PyProof.Rows
def MtM (X:Cx)(id:String)(r:V->List V->Hp->VK->Prop):Prop :=
 ∀(pins:List (Addr×Obj)) (s:Shared) (σ:St) (H:Hp) (x:V) (xs:List V) (v:Value) (us:List Value) (Q:VK),Inv X pins σ H s->RelV x v->Vals xs us->r x xs H Q →
  wpAny (model X.prog X.w) X.A (call (.builtin id) (v::us)) (EP X pins σ Q) X.xe s
theorem Vals.one:∀{x:V}{us:List Value},Vals [x] us->∃u,us=[u]/\RelV x u
 | _,_,.cons r .nil=>⟨_,rfl,r⟩
section
variable {X:Cx}{pins:List (Addr×Obj)}{σ:St}{H:Hp}{s:Shared}{l b:Addr}{xs ys zs:List V}
theorem Inv.lset {its its':List Value}{n:Nat}{f:Array Value->Array Value}{t':Nat} (I:Inv X pins σ H s) (hH:H l=some (.lst xs))
  (e:s.heap.get? l=some { cls:= .type "list",data:= .seq its.toArray n })(hf:f its.toArray=its'.toArray)(hv:Vals ys its')(hz:ys.length<=sizeLine) :
  Inv X pins σ (upd H l (.lst ys)) { s with heap:=s.heap.update l (Obj.mapSeq f),toks:=t' }:=by
 have q:=PySem.IsL.update e f;rw[hf]at q;refine I.write (x:=l) (e:=l) (by rw[hH];exact trivial) (.inl rfl) (fun b' u hb hu=>(Heap.get?_update_other s.heap (Obj.mapSeq f) (Ne.symm hb)).trans hu) ⟨_,q⟩ ?_;exact⟨hz,its',_,hv,q⟩
theorem Inv.lnew {its:List Value}{t':Nat} (I:Inv X pins σ H s) (hv:Vals ys its) (hz:ys.length<=sizeLine) :
  Inv X pins σ (upd H s.heap.objs.size (.lst ys)) { s with heap:=s.heap.push { cls:= .type "list",data:= .seq its.toArray },toks:=t' } :=
 I.laid (fun _ _ q=>Heap.get?_push_of_some _ q) (Nat.le_refl _) ⟨hz,its,0,hv,Heap.get?_push_size _ rfl⟩
theorem Inv.fresh (I:Inv X pins σ H s):H s.heap.objs.size=none:=I.hok.fresh (Nat.le_refl _)
theorem Inv.lstM (I:Inv X pins σ H s)(hH:H l=some (.lst xs)):xs.length<=sizeLine/\∃(its:List Value) (n:Nat),Vals xs its/\xs.length=its.length/\s.heap.get? l=some { cls:= .type "list",data:= .seq its.toArray n }:=by
 obtain⟨z,its,n,r,e⟩:=I.hok l _ hH;exact⟨z,its,n,r,r.length,e⟩
theorem W7 {n:Nat}(h:n<=sizeLine):Builtin.List.listTooLong n=false:=by
 unfold Builtin.List.listTooLong;exact decide_eq_false (by lia)
end
section
variable {X:Cx}
def NL:V->List V->Hp->VK->Prop:=fun x vs H Q=>∃l xs y,x= .ref l/\vs=[y]/\H l=some (.lst xs)/\xs.length<sizeLine/\Q .non (upd H l (.lst (xs++[y])))
theorem iU:MtM X "list.append" NL:=by
 intro pins s σ H x vs v us Q I rx rv h;obtain⟨l,xs,y,rfl,rfl,hH,hz,q⟩:=h;cases rx;obtain⟨u,rfl,ru⟩:=rv.one;obtain⟨z,its,n,r,hl,e⟩:=I.lstM hH;refine call_meets F.slot_list_append ⟨_,e,rfl⟩ F.entry_list_append (F.args_list_append_2 _ _) (PySem.list_append l its.toArray n u (by rw[List.size_toArray];lia)) ⟨e,?_⟩;refine⟨.non,_,I.lset (its':=its++[u]) hH e (by simp) (r.append (.cons ru .nil)) ?_,rfl,q⟩;rw[List.length_append,List.length_singleton]
 lia
def NI:V->List V->Hp->VK->Prop:=fun x vs H Q=>∃l b xs zs,x= .ref l/\vs=[.ref b]/\H l=some (.lst xs)/\H b=some (.lst zs)/\xs.length+zs.length<=sizeLine/\Q .non (upd H l (.lst (xs++zs)))
theorem RW:MtM X "list.extend" NI:=by
 intro pins s σ H x vs v us Q I rx rv h;obtain⟨l,b,xs,zs,rfl,rfl,hH,hB,hz,q⟩:=h;cases rx;obtain⟨u,rfl,ru⟩:=rv.one;cases ru;obtain⟨z,its,n,r,hl,e⟩:=I.lstM hH;obtain⟨z2,its2,n2,r2,hl2,e2⟩:=I.lstM hB;have hsz:its.toArray.size+its2.toArray.size<=sizeLine:=by rw[List.size_toArray,List.size_toArray];lia
 have hlong:¬(!its.toArray.isEmpty&&Builtin.List.listTooLong (its.toArray.size+its2.toArray.size))=true:=by
  rw[W7 hsz,Bool.and_false];exact Bool.false_ne_true
 refine call_meets F.slot_list_extend ⟨_,e,rfl⟩ F.entry_list_extend (F.args_list_extend_2 _ _)
  (AutoSeq1.list_extend_list_list_0 l its.toArray n b its2.toArray n2 hlong (by rw[List.size_toArray];lia) (by lia)) ⟨e,e2,?_⟩
 refine⟨.non,_,I.lset (its':=its++its2) hH e (by simp) (r.append r2) ?_,rfl,q⟩;rw[List.length_append]
 lia
def aB0:R2:=fun x y H Q=>∃l b xs zs,x= .ref l/\y= .ref b/\H l=some (.lst xs)/\H b=some (.lst zs)/\xs.length+zs.length<=sizeLine/\∀p,H p=none->Q (.ref p) (upd H p (.lst (xs++zs)))
theorem w9:OpR X (binaryOp .Add) aB0:=by
 intro pins s σ H x y v u Q I rx ry h;obtain⟨l,b,xs,zs,rfl,rfl,hH,hB,hz,q⟩:=h;cases rx;cases ry;obtain⟨z,its,n,r,hl,e⟩:=I.lstM hH;obtain⟨z2,its2,n2,r2,hl2,e2⟩:=I.lstM hB;refine PySem.P.add_list e e2 ?_ (by rw[List.size_toArray,List.size_toArray];lia);have ea:its.toArray++its2.toArray=(its++its2).toArray:=by simp
 rw[ea];exact⟨.ref _,_,I.lnew (t':=s.toks) (r.append r2) (by rw[List.length_append];lia),rfl,q _ I.fresh⟩
end
section
variable {prog:Program}{w:World}{A:Around}{E:Value->Shared->Prop}{s:Shared}
set_option maxRecDepth 100000 in
end
section
variable {X:Cx}
end
end L2
namespace Att
open PySem PySem.W PySem.Calls PyProof.Rows
theorem CQ {P:Params}{h:Heap}:∀(ns:List Int) (vs:List Value),WellAll P h vs (ns.map WData.int)->IntsAre vs ns:=by
 intro ns
 induction ns with
 | nil =>
  intro vs w;rw[List.map_nil]at w;cases w;exact .nil
 | cons n ns ih =>
  intro vs w;rw[List.map_cons]at w;cases w with
  | cons a b =>
   cases a;exact .cons _ _ (ih _ b)
theorem RN {l:OpenLaw}{n:Nat} (hn:l.most=some n) {P:Params}{h:Heap}{args:List WData}{vals:List Value}
  (hpre:l.row.toRowW.claim.pre args=true)(hwl:WellAll P h vals args) :
  ∃a vs ns,vals=[Value.ref a]/\args=[WData.list (ns.map WData.int)]/\h.get? a=some { cls:= .type "list",data:= .seq vs.toArray }/\IntsAre vs ns/\ns.length<=n:=by
 have hsh:WShape.hasAll [] args [.list .int]=true:=(pre_splitW hpre).1;have hc:l.pre.holds [] { args:=args }=true:=(pre_splitW hpre).2;obtain⟨d,r,rfl,h1,h2⟩:=hasAllW_cons hsh;obtain rfl:=hasAllW_nil h2;obtain⟨xs,rfl,h3⟩:=hasW_list h1;obtain⟨ns,rfl⟩:=items_int h3;have hlen:ns.length<=n:=by
  unfold OpenLaw.pre at hc;have h4:(WTm.not (.lt (.lit (.int (n:Int))) (.len (.arg 0)))).holds [] { args:=[.list (ns.map .int)] }=true:=by
   have h4:=(holds_andW hc).1;rw[hn]at h4;exact h4
  have h5:=condW_of h4 (w_not (w_lt w_lit (w_len_list (w_arg rfl))));rw[List.length_map]at h5;refine Nat.le_of_not_lt fun q=> ?_;have q':(n:Int)<((ns.length:Nat):Int):=by lia
  first
   | (rw[decide_eq_true q']at h5;exact absurd h5 (by decide))
   | (simp at h5;lia)
 cases hwl with
 | cons w1 w2 =>
  cases w2;cases w1 with
  | list ho hall=>exact⟨_,_,ns,rfl,rfl,ho,CQ ns _ hall,hlen⟩
theorem T9 (l:OpenLaw)(args:List WData):l.row.toRowW.claim.post args (.bool true) args=true :=
 postW_of (r:=l.row.toRowW) (X:=(true==true))
  (show WShape.has [] (.bool true) .bool=true by first|rfl|decide|simp[WShape.has,WShape.arms,WShape.armsAll])
  (show (WTm.eq .res (.lit (.bool true))).value [] { args:=args,res:=some (.bool true),after:=args }=some (.bool (true==true)) from w_eq_bool (w_res rfl) w_lit) rfl
theorem attach_call {l:OpenLaw}{n:Nat}{q:Program}{loose:List Str}{XP:(Str->Option Value)->Heap->Prop}{YP:World->Heap->Prop}{d:DefRec}
  (hn:l.most=some n)(hdf:d.params.defaults=[])
  (call:∀(w:World) (s₀ s₁:Shared) (mg mb:Str->Option Value) (fa:Addr) (o:Obj) (pm cd doc:Value) (a:Addr) (vs:List Value) (ns:List Int),
   Ground q loose [] XP w s₀ mg mb s₁.heap->YP w s₁.heap →
   s₁.heap.get? fa=some o->o.data= .func (docDef d.name d.params d.body d.scope pm cd doc)->s₁.heap.CodeRec cd d.name->mg d.name=some (.ref fa) →
   s₁.heap.get? a=some { cls:= .type "list",data:= .seq vs.toArray }->IntsAre vs ns->ns.length<=n->s₁.gens= #[] →
   codeAny (model l.prog w) callerA (.call (.ref fa) ⟨[.ref a],[]⟩) (fun r s'=>r= .ok (.ret (.bool true))/\OldK s₁.heap s'.heap/\s'.os=s₁.os/\AllBare s'.gens) s₁) :
  WalkO q loose XP YP l.row.toRowW d [] (fun f vs=>PySem.call f vs):=by
 intro w s₀ s₁ mg mb G Y fa o pm cd doc dV kV ho hd hcd hD hmg hg args vals as hpre hlay hrd hwl hlo;obtain rfl:dV= .none:=Dflts.none hD hdf;obtain rfl:kV= .none:=Dflts.noKw hD;obtain⟨a,vs,ns,rfl,rfl,hobj,hints,hlen⟩:=RN hn hpre hwl;refine enter_call (codeAny_mono (call w s₀ s₁ mg mb fa o pm cd doc a vs ns G Y ho (fd_plain hd) hcd hmg hobj hints hlen hg) fun r s' hq=> ?_);obtain⟨rfl,h2,h3,h4⟩:=hq;exact⟨.inl ⟨.bool true,.bool true,[],rfl,fun _=>rfl,.bool true,T9 l _,fun _=>⟨List.Pairwise.nil,fun _ hm=>(nomatch hm)⟩⟩,h2,h3,h4⟩
section
variable {prog:Program}{w:World}{A:Around}{E:Value->Shared->Prop}{s:Shared}{K:Frag}
end
end Att
namespace L2
open PySem PySem.Spec PyProof.Rows
theorem FM:∀{vs:List Value}{ns:List Int},IntsAre vs ns->Vals (ns.map V.int) vs
 | _,_,.nil=> .nil
 | _,_,.cons n t h=> .cons ⟨t,rfl⟩ (FM h)
end L2
namespace L2
open PySem PySem.Spec PyProof.Rows
end L2
namespace L2
open PySem PySem.Spec PyProof.Rows
def bM (s:Stmt)(j:Nat):Stmt:=match s with
 | .ClassDef _ _ _ body _ _ _ _ _ _ _=>body.getD j (.Pass ⟨0,0,0,0⟩)
 | _=> .Pass ⟨0,0,0,0⟩
def aL (s:Stmt):Arguments:=match s with
 | .FunctionDef _ a _ _ _ _ _ _ _ _=>a
 | _=>{ posonlyargs:=[],args:=[],vararg:=none,kwonlyargs:=[],kw_defaults:=[],kwarg:=none,defaults:=[] }
def aJ (s:Stmt):List Stmt:=match s with
 | .FunctionDef _ _ b _ _ _ _ _ _ _=>b
 | _=>[]
def aB (s:Stmt):Scope:=match s with
 | .FunctionDef _ _ _ _ _ _ sc _ _ _=>sc
 | _=>{ kind:= .function,names:=[],isGenerator:=false,isCoroutine:=false }
abbrev CX0:CXT:=fun _ _ _ _ _ _=>False
abbrev E0:XK:=fun _ _ _=>False
theorem tL {X:Cx}:xN CX0 X E0:=fun _ _ _ _ _ _ _ h=>h.elim
section
variable {P:Program}{w:World}{K:PySem.W.Frag}{mg:Str->Option Value}{base:Heap}
end
theorem SL {n:Nat}(h:n<=1000):n<sizeLine:=Nat.lt_of_le_of_lt h (by decide)
section
variable {X:Cx}
theorem pv (i:Nat){x:Str}{pos:Pos} (hN:X.N[i]? =some x:=by rfl) (hv:Vis X.env.scope x:=by first|exact Or.inl rfl|exact Or.inr (Or.inl rfl)|exact Or.inr (Or.inr rfl)) (hd:(x==("__debug__" :Str))=false:=by decide)
  (hcd:(x==("__classdict__" :Str))=false:=by decide):PE X (.Name x pos) (jS i):=RE hN hv hd hcd
end
theorem DK {c A B:Prop}[Decidable c](h1:c->A)(h2:¬c->B):if c then A else B:=by
 by_cases h:c
 ·rw[if_pos h];exact h1 h
 ·rw[if_neg h];exact h2 h
def Same (H H':Hp):Prop:=∀b o,H b=some o->H' b=some o
theorem Same.refl (H:Hp):Same H H:=fun _ _ h=>h
theorem Same.trans {H H1 H2:Hp}(a:Same H H1)(b:Same H1 H2):Same H H2:=fun c o h=>b c o (a c o h)
theorem Same.seq {K:PySem.W.Frag}{H H':Hp}{a:Addr}{xs:List V} (e:Same H H') (h:SqL K H a xs):SqL K H' a xs:=by
 rcases h with (h|⟨o,h⟩)|h
 ·exact .inl (.inl (e _ _ h))
 ·exact .inl (.inr ⟨o,e _ _ h⟩)
 ·exact .inr h
end L2
namespace L2
open PySem PySem.Spec PyProof.Rows
section
variable {X:Cx}{pins:List (Addr×Obj)}{σ:St}{H:Hp}{s:Shared}{D:Addr}{ys:List V}
theorem HOk.adds {P:Program}{w:World}{h:Heap}{o:HO} (x:HOk P w H h) (hn:H D=none) (new:ObjOk P w (upd H D o) h D o):HOk P w (upd H D o) h:=fun b u e=>by
 by_cases hb:b=D
 ·subst hb;rw[bE]at e;cases e;exact new
 ·rw[aS hb]at e;exact(x b u e).stay (fun c v _ q=>q) (fun c q=>by rw[aS (bJ q hn)];exact q) fun c xs q=>by rw[aS (bJ q hn)];exact q
theorem HOk.drops {P:Program}{w:World}{h:Heap} (x:HOk P w (upd H D (.lst ys)) h) (hn:H D=none):HOk P w H h:=fun b u e=>by
 have hb:b≠D:=bJ e hn;refine(x b u (by rw[aS hb];exact e)).stay (fun c v _ q=>q) (fun c q=> ?_) fun c xs q=> ?_
 ·by_cases hc:c=D
  ·subst hc;rw[bE]at q;cases q
  ·rw[aS hc]at q;exact q
 ·by_cases hc:c=D
  ·subst hc;rw[bE]at q;cases q
  ·rw[aS hc]at q;exact q
theorem Inv.track {its:List Value}{n:Nat} (I:Inv X pins σ H s) (hn:H D=none) (e:s.heap.get? D=some { cls:= .type "list",data:= .seq its.toArray n }) (r:Vals ys its) (hz:ys.length<=sizeLine)
  (h0:X.s₀.heap.objs.size<=D)(h1:D≠X.env.locals)(h2:∀x c,X.env.cells.lookup x=some c->c≠D)(h3:∀p∈X.pn++pins,p.1≠D):Inv X pins σ (upd H D (.lst ys)) s where
 ok:=I.ok
 os:=I.os
 bare:=I.bare
 base:=by
  have lt:∀b o,X.s₀.heap.get? b=some o->b≠D:=fun b o q=>Nat.ne_of_lt (Nat.lt_of_lt_of_le (Heap.lt_size q) h0);refine⟨I.base.keep,I.base.slot,fun b o q n' hx=> ?_,I.base.there,fun b xs q=> ?_,fun b o u q=> ?_,fun b ps q=> ?_⟩
  ·rw[aS (lt b o q)];exact I.base.free b o q n' hx
  ·have z:=I.base.tups b xs q;rw[aS (bJ z hn)];exact z
  ·have z:=I.base.frzs b o u q;rw[aS (bJ z hn)];exact z
  ·obtain⟨more,z⟩:=I.base.tbls b ps q;exact⟨more,by rw[aS (bJ z hn)];exact z⟩
 loc:=I.loc
 cell:=I.cell
 free:=by rw[aS (Ne.symm h1)];exact I.free
 freeC:=fun x c q=>by rw[aS (h2 x c q)];exact I.freeC x c q
 pin:=fun p hp=>by
  obtain⟨a,b,c⟩:=I.pin p hp;exact⟨a,by rw[aS (h3 p hp)];exact b,c⟩
 hok:=I.hok.adds hn ⟨hz,its,n,r,e⟩
 len:=I.len
theorem Inv.untrack (I:Inv X pins σ (upd H D (.lst ys)) s)(hn:H D=none):Inv X pins σ H s where
 ok:=I.ok
 os:=I.os
 bare:=I.bare
 base:=by
  have low:∀b u,upd H D (.lst ys) b=some u->(∀xs,u≠ .lst xs)->H b=some u:=fun b u q nl=>by
   by_cases hb:b=D
   ·subst hb;rw[bE]at q;cases q;exact absurd rfl (nl ys)
   ·rw[aS hb]at q;exact q
  refine⟨I.base.keep,I.base.slot,fun b o q n' hx=> ?_,I.base.there,fun b xs q=> ?_,fun b o u q=> ?_,fun b ps q=> ?_⟩
  ·have z:=I.base.free b o q n' hx
   by_cases hb:b=D
   ·subst hb;exact hn
   ·rw[aS hb]at z;exact z
  ·exact low _ _ (I.base.tups b xs q) (fun _ z=>by cases z)
  ·exact low _ _ (I.base.frzs b o u q) (fun _ z=>by cases z)
  ·obtain⟨more,z⟩:=I.base.tbls b ps q;exact⟨more,low _ _ z (fun _ z=>by cases z)⟩
 loc:=I.loc
 cell:=I.cell
 free:=by
  have z:=I.free
  by_cases hb:X.env.locals=D
  ·rw[hb];exact hn
  ·rw[aS hb]at z;exact z
 freeC:=fun x c q=>by
  have z:=I.freeC x c q
  by_cases hb:c=D
  ·rw[hb];exact hn
  ·rw[aS hb]at z;exact z
 pin:=fun p hp=>by
  obtain⟨a,b,c⟩:=I.pin p hp;refine⟨a,?_,c⟩
  by_cases hb:p.1=D
  ·rw[hb];exact hn
  ·rw[aS hb]at b;exact b
 hok:=I.hok.drops hn
 len:=I.len
end
def bW (X:Cx)(scope:Scope)(cl:List (Str×Addr))(N:List Str)(C:Addr)(s0:Shared)(H0:Hp)(fp:List Addr):Cx where
 prog:=X.prog
 w:=X.w
 K:=X.K
 mg:=X.mg
 base:=X.base
 A:=X.A
 N:=N
 s₀:=s0
 H₀:=H0
 env:=compEnvC scope cl C X.env
 outer:=X.stack
 stack:=X.stack
 ex:=fp
 fn:=fun _=>false
 calm:=X.calm
 pn:=[]
 xe:=fun _ _=>False
structure Blk (X:Cx)(scope:Scope)(cl:List (Str×Addr))(N:List Str)(nl:Nat)(ci:List Nat):Prop where
 kind:scope.kind= .function
 names:∀y∈scope.names,y.2= .local->scope.names.lookup y.1=some .local
 nocell:∀y∈scope.names,y.2≠ .cell
 clos:closureFor scope X.env=pure cl
 sub:∀n c,cl.lookup n=some c->X.env.cells.lookup n=some c
 has:∀n,((relabel scope X.env).names.lookup n=some .cell∨(relabel scope X.env).names.lookup n=some .free)->∃c,cl.lookup n=some c
 len:N.length=nl+ci.length
 cap:∀(j i:Nat),ci[j]? =some i->∃n,N[nl+j]? =some n/\X.N[i]? =some n/\(X.env.scope.names.lookup n=some .cell∨X.env.scope.names.lookup n=some .free) ∧
  ((relabel scope X.env).names.lookup n=some .cell∨(relabel scope X.env).names.lookup n=some .free)/\cl.lookup n=X.env.cells.lookup n
def cG (nl:Nat)(ci:List Nat)(σ:St):St:=List.replicate nl none++ci.map fun i=>(σ[i]?).join
theorem TR {nl:Nat}{ci:List Nat}{σ:St}{k:Nat}{v:V} (h:(cG nl ci σ)[k]? =some (some v)):∃j i,k=nl+j/\ci[j]? =some i/\σ[i]? =some (some v):=by
 unfold cG at h
 by_cases hk:k<nl
 ·rw[List.getElem?_append_left (by simpa using hk),List.getElem?_replicate]at h
  split at h<;>cases h
 ·rw[List.getElem?_append_right (by simpa using hk),List.length_replicate,List.getElem?_map]at h;cases e:ci[k - nl]? with
  | none=>rw[e]at h;cases h
  | some i =>
   rw[e]at h;have h':(σ[i]?).join=some v:=by simpa using h
   refine⟨k - nl,i,by lia,e,?_⟩;cases q:σ[i]? with
   | none=>rw[q]at h';cases h'
   | some o=>rw[q]at h';simp at h';rw[h']
theorem IM {nl:Nat}{ci:List Nat}{σ:St}:(cG nl ci σ).length=nl+ci.length:=by unfold cG;simp
section
variable {X:Cx}{scope:Scope}{cl:List (Str×Addr)}{N:List Str}{nl:Nat}{ci:List Nat}{pins:List (Addr×Obj)}{σ:St}{H2:Hp}{s2:Shared}{fp:List Addr}
theorem MH (B:Blk X scope cl N nl ci)(I:Inv X pins σ H2 s2)(f2:∀b∈fp,rX X pins H2 b)(fo:∀b∈fp,∃o,s2.heap.get? b=some o){C:Addr}{h4:Heap}{t4:Nat}{m4:Str->Option Value} (hC:s2.heap.objs.size<=C) (hns:h4.Ns C m4)
  (hk:∀b o,s2.heap.get? b=some o->h4.get? b=some o):Inv (bW X scope cl N C s2 H2 fp) [] (cG nl ci σ) H2 { s2 with heap:=h4,toks:=t4 }:=by
 have lt2:∀b∈fp,b<s2.heap.objs.size:=fun b hb=>by obtain⟨o,e⟩:=fo b hb;exact Heap.lt_size e
 have ok:(bW X scope cl N C s2 H2 fp).Ok:=by
  refine⟨I.ok.mod,B.kind,I.ok.glob,I.ok.blt,hC,fun x y c h1 h2=>I.ok.inj x y c (B.sub x c h1) (B.sub y c h2),fun x hx=>B.has x hx,fun x c hf _=>(by cases hf),I.ok.hd,I.ok.frames,.inl rfl,fun b hb=>⟨?_,?_⟩,I.bs,?_,fun b o e hb=> ?_,fun b hb z=> ?_,I.stack,I.stkFree⟩
  ·exact Nat.ne_of_lt (Nat.lt_of_lt_of_le (lt2 b hb) hC)
  ·exact fun x c h=>(f2 b hb).2.2.2.2.1 x c (B.sub x c h)
  ·exact Nat.le_trans I.ok.bsz I.sz
  ·rcases (f2 b hb).2.2.2.1 with z|z
   ·exact I.ok.noex b o e z
   ·exact absurd (Nat.lt_of_lt_of_le (Heap.lt_size e) (Nat.le_trans I.ok.bsz z)) (Nat.lt_irrefl _)
  ·rcases List.mem_cons.mp (I.stkSub b z) with q|q
   ·exact(f2 b hb).2.1 q
   ·exact(f2 b hb).2.2.1 q
 refine⟨ok,rfl,I.bare,Un.kept hk,⟨m4,hns,fun k x v e1 e2 e3=> ?_⟩,fun x c e=> ?_,I.hok.fresh hC,fun x c e=>I.freeC x c (B.sub x c e),fun p hp=>(by cases hp),I.hok.kept hk,?_⟩
 ·obtain⟨j,i,rfl,hj,hσ⟩:=TR e2;obtain⟨n,hn1,hn2,hk1,hk2,hl⟩:=B.cap j i hj;have en:x=n:=by
   have e1':N[nl+j]? =some x:=e1;rw[hn1]at e1';exact(Option.some.inj e1').symm
  subst en;obtain⟨m,hm,hloc⟩:=I.loc;have vis:Vis X.env.scope x:= .inr hk1;obtain⟨u,ru,lk⟩:=hloc i x v hn2 hσ vis;refine⟨u,ru,.inr ⟨hk2,?_⟩⟩;rcases lk with⟨kl,_⟩|⟨_,c,ec,hc⟩
  ·have kl':X.env.scope.names.lookup x=some .local:=kl;rcases hk1 with z|z<;>· rw[z]at kl';cases kl'
  ·refine⟨c,hl.trans ec,?_⟩;obtain⟨o,ho,hd⟩:=hc;exact⟨o,hk _ _ ho,hd⟩
 ·obtain⟨v,o,ho,hd⟩:=I.cell x c (B.sub x c e);exact⟨v,o,hk _ _ ho,hd⟩
 ·show (cG nl ci σ).length=N.length;rw[IM,B.len]
theorem TL {C:Addr}{σ':St}{H':Hp}{s':Shared}{pb:List (Addr×Obj)} (I:Inv X pins σ H2 s2) (f2:∀b∈fp,rX X pins H2 b) (J:Inv (bW X scope cl N C s2 H2 fp) pb σ' H' s'):Inv X pins σ H' s' :=
 I.call' J.os J.base J.hok J.bare fun b hb=>⟨(f2 b hb).2.2.2.1,(f2 b hb).2.1,(f2 b hb).2.2.2.2.1,(f2 b hb).2.2.2.2.2⟩
end
section
variable {prog:Program}{w:World}{A:Around}{R:Result->Shared->Prop}{s:Shared}
theorem MP {elt target iter:Expr}{ifs:List Expr}{scope:Scope}{pos:Pos}{it acc:Value}{env:Env} (I:Nat->Shared->Prop)
  (turn:∀n s,I n s->wpAny (model prog w) A (pyNext it) (fun r s₁=>match r with
   | none=>R (.ok .next) s₁
   | some v=>wpAny (model prog w) A (letOwnedTupleGo target it v) (fun _ s₁'=>wpAny (model prog w) A (assign target env v) (fun _ s₂ =>
     wpAny (model prog w) A (forIn ifs true fun c r=>if r=true then do let ok ←isTrue c env (eval c env);pure (ForInStep.yield ok) else pure (ForInStep.yield r)) (fun ok s₃ =>
      if ok=true then wpAny (model prog w) A (eval elt env) (fun x s₄ =>
       wpAny (model prog w) A (call (.builtin "list.append") [acc,x]) (fun _ s₅=>∃m,m<n/\I m s₅) (notedBy (model prog w) A env fun e s'=>R (.error e) s') s₄) (notedBy (model prog w) A env fun e s'=>R (.error e) s') s₃
      else ∃m,m<n/\I m s₃) (notedBy (model prog w) A env fun e s'=>R (.error e) s') s₂) (notedBy (model prog w) A env fun e s'=>R (.error e) s') s₁') (notedBy (model prog w) A env fun e s'=>R (.error e) s') s₁) (notedBy (model prog w) A env fun e s'=>R (.error e) s') s)
  (n:Nat)(h:I n s) :
  codeAny (model prog w) A (.compLoop (.ListComp elt [⟨target,iter,ifs,0⟩] scope pos) 0 it acc env) R s:=by
 refine codeAny_loop rfl I (fun n s hI=> ?_) n h;show wpAny _ A ((compTurn (.ListComp elt [⟨target,iter,ifs,0⟩] scope pos) 0 it acc env).onRaise (fun x=>do noteFrame x env;theTreesLotGoes x)) _ _ s;refine wpAny_noted ?_;rw[compTurn_list];refine wpAny_bind (wpAny_standAt (wpAny_bind (wpAny_mono (turn n s hI) (fun r s₁ h₁=> ?_) fun _ _ h'=>h')));cases r with
 | none=>exact wpAny_pure h₁
 | some v =>
  refine wpAny_bind (wpAny_mono h₁ (fun _ s₁' h₁'=> ?_) fun _ _ h'=>h');refine wpAny_bind (wpAny_mono h₁' (fun _ s₂ h₂=>wpAny_bind (wpAny_mono h₂ (fun ok s₃ h₃=> ?_) fun _ _ h'=>h')) fun _ _ h'=>h');cases ok with
  | false=>exact wpAny_pure ⟨rfl,h₃⟩
  | true =>
   exact wpAny_bind (wpAny_bind (wpAny_mono h₃ (fun x s₄ h₄=>wpAny_bind (wpAny_mono h₄ (fun _ s₅ h₅=>wpAny_pure (wpAny_pure ⟨rfl,h₅⟩)) fun _ _ h'=>h')) fun _ _ h'=>h'))
end
def PF (X:Cx)(ifs:List Expr)(t:TT):Prop :=
 ∀(pins:List (Addr×Obj)) (s:Shared) (σ:St) (H:Hp) (Q:Bool->Hp->Prop),Inv X pins σ H s->t σ H Q →
  wpAny (model X.prog X.w) X.A (forIn ifs true fun c r=>if r=true then do let ok ←isTrue c X.env (eval c X.env);pure (ForInStep.yield ok) else pure (ForInStep.yield r)) (TP X pins σ Q) X.xe s
def AT:TT:=fun _ H Q=>Q true H
theorem eU {X:Cx}:PF X [] AT:=fun _ _ _ H _ I h=>wpAny_tests_nil ⟨H,I,h⟩
theorem jT {X:Cx}{c:Expr}{t:TT} (h:PT X c t):PF X [c] t:=fun pins s σ H Q I q=>wpAny_tests_one (h pins s σ H Q I q)
def fO (J:It)(g:TG)(ti:TT)(te:TE)(σ0:St)(fin:List V->Hp->Prop)(H1:Hp):Prop :=
 ∃W:Nat->Nat->List V->Hp->Prop,(∃m,W 0 m [] H1)/\∀i m ys H,W i m ys H →
  (J.stop i H/\fin ys H) ∨
  (J.go i H/\∀x H',J.yld i H x H'->g x σ0 H' fun σ2 H2=>(σ2.length=σ0.length/\∀(j:Nat) v,σ0[j]? =some (some v)->σ2[j]? =some (some v)) ∧
   ti σ2 H2 fun b H3=>if b=true then te σ2 H3 fun y H4=>ys.length<sizeLine/\∃m',m'<m/\W (i+1) m' (ys++[y]) H4 else ∃m',m'<m/\W (i+1) m' ys H3)
def PQ (wi:TI)(nl:Nat)(ci:List Nat)(g:TG)(ti:TT)(te:TE):TE:=fun σ H Q =>
 wi σ H fun J H1=>fO J g ti te (cG nl ci σ) (fun ys H'=>∀p,H' p=none->Q (.ref p) (upd H' p (.lst ys))) H1
section
variable {X:Cx}{scope:Scope}{cl:List (Str×Addr)}{N:List Str}{nl:Nat}{ci:List Nat}{tg elt iter:Expr}{ifs:List Expr}{pos:Pos}{wi:TI}{g:TG}{ti:TT}{te:TE}
theorem E9 {pins:List (Addr×Obj)}{σ:St}{H2:Hp}{s2:Shared}{fp:List Addr}{it:Addr}{J:It}{tn:Nat->Heap->Prop}{E:Value->Shared->Prop}{RR:Value->Addr->Result->Shared->Prop}{fin:List V->Hp->Prop}
  (hc:X.calm=true)(B:Blk X scope cl N nl ci)(hg:∀C s0 H0 fp,PG (bW X scope cl N C s0 H0 fp) tg g)(hi:∀C s0 H0 fp,PF (bW X scope cl N C s0 H0 fp) ifs ti)(he:∀C s0 H0 fp,PE (bW X scope cl N C s0 H0 fp) elt te)
  (I2:Inv X pins σ H2 s2)(T:xH X.prog X.w X.K tg J fp it tn)(st2:tn 0 s2.heap)(f2:∀b∈fp,rX X pins H2 b)(hW:fO J g ti te (cG nl ci σ) fin H2)
  (hfin:∀(D C:Addr) (s':Shared) (H':Hp) (ys:List V) (oC:Obj) (m:Str->Option Value),H' D=none->Inv X (pins++[(C,oC)]) σ (upd H' D (.lst ys)) s'->s'.heap.Ns C m->s2.heap.objs.size<=C->fin ys H'->RR (.ref D) C (.ok .next) s') :
  wpAny (model X.prog X.w) X.A (newList []) (fun acc s₃=>wpAny (model X.prog X.w) X.A (newFunctionEnv scope X.env.globals cl [] X.env.qual none .none (some X.env)) (fun cenv s₄ =>
   codeAny (model X.prog X.w) X.A (.compStart (.ListComp elt [⟨tg,iter,ifs,0⟩] scope pos) 0 (.ref it) acc { cenv with scope:=relabel scope X.env }) (RR acc cenv.locals) s₄) E s₃) E s2:=by
 obtain⟨W,⟨m0,w0⟩,turn⟩:=hW;refine wpAny_newObj_type (wpAny_newFunctionEnv B.nocell (by intro y hy;simp at hy) (fun h1 hns1 hsb1=> ?_) B.kind)
 dsimp only at hns1 hsb1 ⊢
 generalize hH2:s2.heap.push { cls:= .type "list",dict:=none,data:= .seq ([]:List Value).toArray }=G2 at hns1 hsb1 ⊢;have hCs:G2.objs.size=s2.heap.objs.size+1:=by rw[←hH2,Heap.size_push]
 generalize hCe:G2.objs.size=C at hns1 hsb1 hCs ⊢;have hDC:s2.heap.objs.size≠C:=by rw[hCs];exact Nat.ne_of_lt (Nat.lt_succ_self _)
 have hCle:s2.heap.objs.size<=C:=by rw[hCs];exact Nat.le_succ _
 have old:∀b o,s2.heap.get? b=some o->h1.get? b=some o:=fun b o e=>hsb1.extBut b o (by rw[hCs];exact Nat.ne_of_lt (Nat.lt_succ_of_lt (Heap.lt_size e))) (Heap.get?_push_of_some _ (hH2▸Heap.get?_push_of_some _ e));have hacc:h1.get? s2.heap.objs.size=some { cls:= .type "list",data:= .seq ([]:List Value).toArray 0 }:=hsb1.extBut _ _ hDC (Heap.get?_push_of_some _ (hH2▸Heap.get?_push_size _ rfl));have fo:∀b∈fp,∃o,s2.heap.get? b=some o:=fun b hb=>let ⟨o,e,_⟩:=T.obj 0 _ st2 b hb;⟨o,e⟩;have lt2:∀b∈fp,b<s2.heap.objs.size:=fun b hb=>let ⟨o,e⟩:=fo b hb;Heap.lt_size e;have hDfp:s2.heap.objs.size∉fp:=fun z=>Nat.lt_irrefl _ (lt2 _ z);have hCfp:C∉fp:=fun z=>Nat.lt_irrefl _ (Nat.lt_of_lt_of_le (lt2 _ z) hCle);generalize hDe:s2.heap.objs.size=D at hCs hDC hCle hacc hDfp lt2;have loop:∀s3:Shared,s3={ s2 with heap:=h1,toks:=s2.toks+([]:List (Str×Value)).length } →
   codeAny (model X.prog X.w) X.A (.compLoop (.ListComp elt [⟨tg,iter,ifs,0⟩] scope pos) 0 (.ref it) (.ref D) (compEnvC scope cl C X.env)) (RR (.ref D) C) s3:=by
  rintro s3 rfl;have I4:Inv (bW X scope cl N C s2 H2 fp) [] (cG nl ci σ) H2 { s2 with heap:=h1,toks:=s2.toks+([]:List (Str×Value)).length }:=MH B I2 f2 fo (by rw[hDe];exact hCle) hns1 old;have fpk:∀{H':Hp},(∀b∈fp,H' b=none)->∀b∈fp,rX (bW X scope cl N C s2 H2 fp) [] H' b:=fun hn b hb =>
   ⟨hn b hb,(I4.ok.exf b hb).1,I4.ok.exfs b hb,.inl hb,(I4.ok.exf b hb).2,fun p hp=>by cases hp⟩
  have hDX:∀x c,(bW X scope cl N C s2 H2 fp).env.cells.lookup x=some c->c≠D:=fun x c e=>by
   obtain⟨v,o,ho,_⟩:=I2.cell x c (B.sub x c e);rw[←hDe];exact Nat.ne_of_lt (Heap.lt_size ho)
  have hDL:D≠(bW X scope cl N C s2 H2 fp).env.locals:=hDC;have hDf:D∉(bW X scope cl N C s2 H2 fp).fs:=fun z=>by
   rcases List.mem_cons.mp (I2.stkSub D z) with q|q
   ·exact Nat.lt_irrefl _ (by have:=I2.lt;rw[hDe,←q]at this;exact this)
   ·exact I2.nofs (by rw[hDe];exact Nat.le_refl _) q
  refine MP (fun n s'=>∃i ys its k H',W i n ys H'/\Inv (bW X scope cl N C s2 H2 fp) [] (cG nl ci σ) H' s'/\tn i s'.heap/\(∀b∈fp,H' b=none)/\H' D=none ∧
   s'.heap.get? D=some { cls:= .type "list",data:= .seq its.toArray k }/\Vals ys its/\ys.length<=sizeLine) ?_ m0 ?_
  ·rintro n s' ⟨i,ys,its,k,H',w',I',st',fr',hD',eD,rv,hz⟩;have IP:Inv (bW X scope cl N C s2 H2 fp) [(D,{ cls:= .type "list",data:= .seq its.toArray k })] (cG nl ci σ) H' s':=I'.pins_of fun p hp=>by
    obtain rfl:p=_:=by simpa using hp
    exact⟨eD,hD',hDL,hDf,fun v z=>by cases z⟩
   have fpD:∀{H'':Hp},(∀b∈fp,H'' b=none)->∀b∈fp,rX (bW X scope cl N C s2 H2 fp) [(D,{ cls:= .type "list",data:= .seq its.toArray k })] H'' b:=fun hn b hb =>
    ⟨hn b hb,(I4.ok.exf b hb).1,I4.ok.exfs b hb,.inl hb,(I4.ok.exf b hb).2,fun p hp=>by
     obtain rfl:p=_:=by simpa [bW] using hp
     exact fun z=>hDfp ((show D=b from z)▸hb)⟩
   rcases turn i n ys H' w' with⟨stop,q⟩|⟨go,step⟩
   ·refine thn (T.done (bW X scope cl N C s2 H2 fp) rfl rfl rfl hc i _ s' (cG nl ci σ) H' _ IP (fpD fr') st' stop) fun r s'' ⟨hr,I''⟩=> ?_;subst hr;have eD2:=(I''.pin (D,_) (List.mem_append_right _ List.mem_cons_self)).1;have J1:Inv (bW X scope cl N C s2 H2 fp) [] (cG nl ci σ) (upd H' D (.lst ys)) s'' :=
     (I''.pins_of (pins':=[]) fun p hp=>by cases hp).track hD' eD2 rv hz (by show s2.heap.objs.size<=D;rw[hDe];exact Nat.le_refl _) hDL hDX fun p hp=>by cases hp
    have K1:Inv X pins σ (upd H' D (.lst ys)) s'':=TL I2 f2 J1;obtain⟨mC,nsC,_⟩:=J1.loc;obtain⟨oC,es,ep,hoC,hdC,rC⟩:=id nsC;refine hfin D C s'' H' ys oC mC hD' (K1.pins_of fun p hp=> ?_) nsC (by rw[hDe];exact hCle) q;rcases List.mem_append.mp hp with hp|hp
    ·exact K1.pin p (List.mem_append_right _ hp)
    ·obtain rfl:p=(C,oC):=by simpa using hp
     refine⟨hoC,J1.free,Nat.ne_of_gt (Nat.lt_of_lt_of_le I2.lt (by rw[hDe];exact hCle)),I2.nofs (by rw[hDe];exact hCle),fun v z=> ?_⟩;rw[hdC]at z;cases z
   ·refine thn (T.item (bW X scope cl N C s2 H2 fp) rfl rfl rfl hc i _ s' (cG nl ci σ) H' _ IP (fpD fr') st' go) fun r s4 ⟨u,hr,h4⟩=> ?_;subst hr;refine thn h4 fun _ s5 ⟨x,H5,I5,r5,y5,st5,fr5⟩=> ?_;have I5':=I5.pinned (fpD fr5) (T.obj _ _ st5);refine wpAny_mono (hg C s2 H2 fp _ s5 (cG nl ci σ) H5 x u _ I5' r5 (step x H5 y5)) (fun _ s6 ⟨σ6,H6,I6,⟨hl6,hk6⟩,q6⟩=> ?_) fun _ _ f=>f.elim;refine wpAny_mono (hi C s2 H2 fp _ s6 σ6 H6 _ I6 q6) (fun b s7 ⟨H7,I7,q7⟩=> ?_) fun _ _ f=>f.elim;have pinD:∀{pp:List (Addr×Obj)}{σx:St}{Hx:Hp}{sx:Shared},Inv (bW X scope cl N C s2 H2 fp) ([(D,({ cls:= .type "list",data:= .seq its.toArray k }:Obj))]++o6 fp s5.heap) σx Hx sx →
      sx.heap.get? D=some { cls:= .type "list",data:= .seq its.toArray k }/\Hx D=none/\tn (i+1) sx.heap/\(∀b∈fp,Hx b=none):=fun {pp σx Hx sx} Ix=>by
     refine⟨(Ix.pin (D,_) (List.mem_append_right _ (List.mem_append_left _ List.mem_cons_self))).1,(Ix.pin (D,_) (List.mem_append_right _ (List.mem_append_left _ List.mem_cons_self))).2.1,T.keep _ _ _ st5 fun b hb o e=>(Ix.pin (b,o) (List.mem_append_right _ (List.mem_append_right _ (mP hb e)))).1,fun b hb=> ?_⟩;obtain⟨o,e,d⟩:=T.obj _ _ st5 b hb;exact(Ix.pin (b,o) (List.mem_append_right _ (List.mem_append_right _ (mP hb e)))).2.1
    cases b with
    | false =>
     rw[if_neg Bool.false_ne_true]at q7 ⊢;obtain⟨m',hm',w7⟩:=q7;obtain⟨e7,n7,st7,fr7⟩:=pinD (pp:=[]) I7;exact⟨m',hm',i+1,ys,its,k,H7,w7,(I7.pins_of (pins':=[]) fun p hp=>by cases hp).weak hl6.symm hk6,st7,fr7,n7,e7,rv,hz⟩
    | true =>
     rw[if_pos rfl]at q7 ⊢;refine wpAny_mono (he C s2 H2 fp _ s7 σ6 H7 _ I7 q7) (fun y' s8 ⟨y,H8,I8,r8,hlt,m',hm',w8⟩=> ?_) fun _ _ f=>f.elim;obtain⟨e8,n8,st8,fr8⟩:=pinD (pp:=[]) I8;have I8f:Inv (bW X scope cl N C s2 H2 fp) (o6 fp s5.heap) σ6 H8 s8:=I8.pins_of fun p hp=>I8.pin p (List.mem_append_right _ (List.mem_append_right _ hp));have I8t:=I8f.track n8 e8 rv hz (by show s2.heap.objs.size<=D;rw[hDe];exact Nat.le_refl _) hDL hDX fun p hp=>by
      have hp':p∈o6 fp s5.heap:=by simpa [bW] using hp
      exact fun z=>hDfp (z▸(F0 hp').1)
     refine wpAny_mono (iU (X:=bW X scope cl N C s2 H2 fp) (o6 fp s5.heap) s8 σ6 _ (.ref D) [y] (.ref D) [y'] (fun _ H9=>H9=upd H8 D (.lst (ys++[y]))) I8t rfl (.cons r8 .nil)
      ⟨D,ys,y,rfl,rfl,bE,hlt,aAy⟩) (fun _ s9 ⟨_,H9,I9,_,e9⟩=> ?_) fun _ _ f=>f.elim
     subst e9;obtain⟨hz9,its9,k9,rv9,e9⟩:=I9.hok D _ bE;have I9u:=I9.untrack n8;refine⟨m',hm',i+1,ys++[y],its9,k9,H8,w8,(I9u.pins_of (pins':=[]) fun p hp=>by cases hp).weak hl6.symm hk6,?_,fr8,n8,e9,rv9,hz9⟩;exact T.keep _ _ _ st5 fun b hb o e=>(I9u.pin (b,o) (List.mem_append_right _ (mP hb e))).1
  ·exact⟨0,[],[],0,H2,w0,I4,T.keep _ _ _ st2 fun b hb o e=>old b o e,fun b hb=>(f2 b hb).1,I2.hok.fresh (by rw[hDe];exact Nat.le_refl _),hacc,.nil,Nat.zero_le _⟩
 exact codeAny_compStart_list (loop _ rfl) (T.self _ 0 _ _ _ (T.keep _ _ _ st2 fun b hb o e=>old b o e) (loop _ rfl))
theorem cM (hc:X.calm=true)(B:Blk X scope cl N nl ci)(hp:PI X tg iter wi)(hg:∀C s0 H0 fp,PG (bW X scope cl N C s0 H0 fp) tg g)(hi:∀C s0 H0 fp,PF (bW X scope cl N C s0 H0 fp) ifs ti)
  (he:∀C s0 H0 fp,PE (bW X scope cl N C s0 H0 fp) elt te)(hs:∀x,foldedSetIterable iter X.env x=pure x:=by intro _;rfl):PE X (.ListComp elt [⟨tg,iter,ifs,0⟩] scope pos) (PQ wi nl ci g ti te):=by
 intro pins s σ H Q I h;rw[eval_ListComp];refine wpAny_comprehension_free (use:=none) rfl hs B.clos B.kind B.names (thn (hp pins s σ H _ I h) fun v s1 h1=>thn h1 fun itv s2 h2=> ?_);obtain⟨it,fp,tn,J,H2,e,I2,T,st2,f2,hW⟩:=h2;subst e;refine E9 (RR:=fun acc C=>compPost (model X.prog X.w) X.A X.xe none (EP X pins σ Q) acc C) hc B hg hi he I2 T st2 f2 hW ?_;intro D C s' H' ys oC m hD K1 hn hC q;refine⟨m,hn,fun h' hs'=> ?_⟩;have hL:C≠X.env.locals:=(K1.pin (C,oC) (by simp)).2.2.1;have I9:Inv X pins σ (upd H' D (.lst ys)) { s' with heap:=h',toks:=s'.toks }:=K1.unpinned.turned (t':=s'.toks) (it:=C) (fun b o hb e=>hs'.extBut b o hb e) (K1.pin (C,oC) (by simp)).2.1 hL (.inr (Nat.le_trans I2.sz hC)) (fun x c e z=> ?_) fun p hp z=> ?_
 ·exact⟨.ref D,_,I9,rfl,q D hD⟩
 ·obtain⟨v,o,ho,_⟩:=I2.cell x c e;exact absurd (Nat.lt_of_lt_of_le (Heap.lt_size ho) (z▸hC)) (Nat.lt_irrefl _)
 ·exact absurd (Nat.lt_of_lt_of_le (Heap.lt_size (I2.pin p hp).1) (z▸hC)) (Nat.lt_irrefl _)
theorem iV {i:Nat}{x:Str}{pos' spos:Pos} (hN:X.N.Nodup) (hix:X.N[i]? =some x) (hx:Loc X.env.scope x) (hc:X.calm=true) (B:Blk X scope cl N nl ci) (hp:PI X tg iter wi) (hg:∀C s0 H0 fp,PG (bW X scope cl N C s0 H0 fp) tg g)
  (hi:∀C s0 H0 fp,PF (bW X scope cl N C s0 H0 fp) ifs ti)(he:∀C s0 H0 fp,PE (bW X scope cl N C s0 H0 fp) elt te)
  (hsw:swapsWith (.ListComp elt [⟨tg,iter,ifs,0⟩] scope pos) (some (.Name x pos')) spos.line X.env=pure true:=by rfl)(hs:∀x,foldedSetIterable iter X.env x=pure x:=by intro _;rfl)
  (hf:X.fn x=true∨X.env.scope.names.lookup x=some .local:=by first|exact .inl rfl|exact .inr rfl|assumption) :
  PS X (.Assign [.Name x pos'] (.ListComp elt [⟨tg,iter,ifs,0⟩] scope pos) spos) (ON (PQ wi nl ci g ti te) (cH i)):=by
 intro pins s σ H D I h;rw[exec_Assign_Name_used _ _ _ _ hsw];refine wpAny_bind (wpAny_standAt (wpAny_bind ?_));show wpAny _ X.A (do let _ ←comprehension (.ListComp elt [⟨tg,iter,ifs,0⟩] scope pos) scope X.env _ (newList []) false (eval iter X.env) (some (assign (.Name x pos') X.env))) _ _ s;refine wpAny_bind (wpAny_mono (wpAny_comprehension_free (use:=some (assign (.Name x pos') X.env)) (Q:=fun _ s'=>SP X pins D .next s') rfl hs B.clos B.kind B.names
  (thn (hp pins s σ H _ I h) fun v s1 h1=>thn h1 fun itv s2 h2=> ?_)) (fun _ s' hq=>wpAny_pure (wpAny_pure hq)) fun _ _ e=>e)
 obtain⟨it,fp,tn,J,H2,e,I2,T,st2,f2,hW⟩:=h2;subst e;refine E9 (RR:=fun acc C=>compPost (model X.prog X.w) X.A X.xe (some (assign (.Name x pos') X.env)) (fun _ s'=>SP X pins D .next s') acc C) hc B hg hi he I2 T st2 f2 hW ?_;intro Dd C s' H' ys oC m hD K1 hn hC q;show wpAny _ X.A (assign (.Name x pos') X.env (.ref Dd)) _ _ _;refine thn (aO (i:=i) hN hix hx hf (pins++[(C,oC)]) s' σ (upd H' Dd (.lst ys)) (.ref Dd) (.ref Dd) (fun σ' H''=>D.nx σ' H'') K1 rfl (q Dd hD)) fun _ s'' ⟨σ',H'',K2,q2⟩=> ?_;have eC:=K2.pin (C,oC) (by simp);obtain⟨oC',es,ep,hoC,hdC,rC⟩:=id hn;have eo:oC'=oC:=by
  have:=(K1.pin (C,oC) (by simp)).1;rw[hoC]at this;exact Option.some.inj this
 subst eo;refine⟨m,⟨oC',es,ep,eC.1,hdC,rC⟩,fun h' hs'=> ?_⟩;have hL:C≠X.env.locals:=eC.2.2.1;have I9:Inv X pins σ' H'' { s'' with heap:=h',toks:=s''.toks }:=K2.unpinned.turned (t':=s''.toks) (it:=C) (fun b o hb e=>hs'.extBut b o hb e) eC.2.1 hL (.inr (Nat.le_trans I2.sz hC)) (fun x c e z=> ?_) fun p hp z=> ?_
 ·exact⟨σ',H'',I9,q2⟩
 ·obtain⟨v,o,ho,_⟩:=I2.cell x c e;exact absurd (Nat.lt_of_lt_of_le (Heap.lt_size ho) (z▸hC)) (Nat.lt_irrefl _)
 ·exact absurd (Nat.lt_of_lt_of_le (Heap.lt_size (I2.pin p hp).1) (z▸hC)) (Nat.lt_irrefl _)
end
end L2
namespace L2
open PySem PySem.Spec PyProof.Rows
def Its (x:Str):It:=⟨fun i _=>i<x.cps.size,fun i H v H'=>H'=H/\∃c,x.cps[i]? =some c/\v= .str ⟨#[c]⟩,fun i _=>i=x.cps.size⟩
theorem IH {P:Program}{w:World}{K:PySem.W.Frag}{tg:Expr} (it:Addr) (x:Str) (t:Tok) (ty:String)
  (hty:["enumerate","zip","dict_itemiterator","dict_reverseitemiterator","odict_iterator","itertools.zip_longest","itertools.pairwise"].contains ty=false)
  (W:∀A':Around,A'.handled=none->Walks P w A' it [it] [it] x.cps.size (SignAt x) (fun i h=>h.IsStrIter it ty x t i))
  (hself:∀(A:Around) (i:Nat) (s:Shared) (Q:Value->Shared->Prop) (E:Value->Shared->Prop),s.heap.IsStrIter it ty x t i->Q (.ref it) s->wpAny (model P w) A (pyIter (.ref it)) Q E s) :
  xH P w K tg (Its x) [it] it (fun i h=>h.IsStrIter it ty x t i) where
 mem:=by simp
 obj:=fun i h st b hb=>by
  have e:b=it:=by simpa using hb
  subst e;obtain⟨o,e,c,d⟩:=st;exact⟨o,e,fun v z=>by rw[d]at z;cases z⟩
 keep:=fun i h h' st k=>let ⟨o,ho,r⟩:=st;⟨o,k it (by simp) o ho,r⟩
 item:=by
  intro X hP hw hK hc i pins s σ H E I hf st hg;subst hP hw hK;obtain⟨f0,f1,f2,f3,f4,f5⟩:=hf it (by simp);refine(W X.A (I.ok.hd hc)).item i s _ _ hg st fun v h' tk hv st' kk=> ?_;obtain⟨c,u,hc',rfl⟩:=hv;have I1:Inv X pins σ H { s with heap:=h',toks:=tk }:=I.turned (fun b o hb e=>kk b o (by simpa using hb) e) f0 f1 f3 f4 f5;obtain⟨o,e,c1,d⟩:=id st';exact⟨_,rfl,OW (s:={ s with heap:=h',toks:=tk }) e c1 d hty ⟨.str ⟨#[c]⟩,H,I1,⟨u,rfl⟩,⟨rfl,c,hc',rfl⟩,st',fun b hb=>(hf b hb).1⟩⟩
 done:=by
  intro X hP hw hK hc i pins s σ H E I hf st hg;subst hP hw hK;obtain⟨f0,f1,f2,f3,f4,f5⟩:=hf it (by simp);have e:i=x.cps.size:=hg;subst e;exact(W X.A (I.ok.hd hc)).done s _ _ st fun h' tk kk=>⟨rfl,I.turned (fun b o hb e=>kk b o (by simpa using hb) e) f0 f1 f3 f4 f5⟩
 self:=hself
def aEU (tl:TE):TI:=fun σ H R=>tl σ H fun x H1=>∃z,x= .str z/\R (Its z) H1
theorem aDp {X:Cx}{tg l:Expr}{tl:TE} (hl:PE X l tl):PI X tg l (aEU tl):=by
 intro pins s σ H R I h;refine thn (hl pins s σ H _ I h) fun v s1 ⟨x,H1,I1,rx,z,ez,q⟩=> ?_;subst ez;obtain⟨t,rfl⟩:=rx;cases ha:z.cps.all (·<128)
 ·refine wpAny_pyIter_wide ha ⟨s1.heap.objs.size,[s1.heap.objs.size],_,Its z,H1,rfl,I1.kept (t':=s1.toks) fun b u e=>Heap.get?_push_of_some _ e,IH _ z t "str_iterator" (by decide) (fun A' hA=>Walks.strWide hA _ z t) (fun _ _ _ _ _ st h=>wpAny_pyIter_striter_wide st h),⟨_,Heap.get?_push_size _ rfl,rfl,rfl⟩,fun b hb=> ?_,q⟩;have e:b=s1.heap.objs.size:=by simpa using hb
  subst e;exact I1.fpOk (Nat.le_refl _) (I1.hok.fresh (Nat.le_refl _))
 ·refine wpAny_pyIter_ascii ha ⟨s1.heap.objs.size,[s1.heap.objs.size],_,Its z,H1,rfl,I1.kept (t':=s1.toks) fun b u e=>Heap.get?_push_of_some _ e,IH _ z t "str_ascii_iterator" (by decide) (fun A' hA=>Walks.strAscii hA _ z t) (fun _ _ _ _ _ st h=>wpAny_pyIter_striter_ascii st h),⟨_,Heap.get?_push_size _ rfl,rfl,rfl⟩,fun b hb=> ?_,q⟩;have e:b=s1.heap.objs.size:=by simpa using hb
  subst e;exact I1.fpOk (Nat.le_refl _) (I1.hok.fresh (Nat.le_refl _))
theorem aAi {J:It}{g:TG}{ti:TT}{te:TE}{σ0:St}{fin:List V->Hp->Prop}{H1:Hp} (n:Nat) (f:Nat->V) (hn:n<=sizeLine) (Ok:Hp->Prop) (h0:Ok H1)
  (hst:∀H,Ok H->J.stop n H)(hgo:∀i H,i<n->Ok H->J.go i H)
  (hstep:∀i H x H',i<n->Ok H->J.yld i H x H'->g x σ0 H' fun σ2 H2=>(σ2.length=σ0.length/\∀(j:Nat) v,σ0[j]? =some (some v)->σ2[j]? =some (some v))/\ti σ2 H2 fun b H3=>b=true/\te σ2 H3 fun y H4=>y=f i/\Ok H4)
  (mono:∀σ H (Q Q':Bool->Hp->Prop),(∀b H',Q b H'->Q' b H')->ti σ H Q->ti σ H Q')(mono2:∀σ H (Q Q':VK),(∀b H',Q b H'->Q' b H')->te σ H Q->te σ H Q')(mono3:∀x σ H (Q Q':St->Hp->Prop),(∀σ' H',Q σ' H'->Q' σ' H')->g x σ H Q->g x σ H Q')
  (hfin:∀H,Ok H->fin ((List.range n).map f) H):fO J g ti te σ0 fin H1:=by
 refine⟨fun i m ys H=>m=n - i/\i<=n/\ys=(List.range i).map f/\Ok H,⟨n,by simp,Nat.zero_le _,rfl,h0⟩,?_⟩;rintro i m ys H ⟨rfl,hi,rfl,ok⟩
 by_cases hlt:i<n
 ·refine .inr ⟨hgo i H hlt ok,fun x H' y=> ?_⟩;refine mono3 _ _ _ _ _ (fun σ' H'' q=>⟨q.1,mono _ _ _ _ (fun b H3 q=> ?_) q.2⟩) (hstep i H x H' hlt ok y);obtain⟨rfl,q⟩:=q;rw[if_pos rfl];refine mono2 _ _ _ _ (fun v H4 q=> ?_) q;obtain⟨rfl,ok4⟩:=q;refine⟨by rw[List.length_map,List.length_range];lia,n - (i+1),by lia,rfl,hlt,?_,ok4⟩;rw[List.range_succ,List.map_append];rfl
 ·have e:i=n:=by lia
  subst e;exact .inl ⟨hst H ok,hfin H ok⟩
section
variable {X:Cx}
theorem KM:∀bs:List Bool,(List.range bs.length).all (fun i=>bs.getD i true)=bs.all id
 | []=>rfl
 | b::bs=>by
  rw[List.length_cons,List.range_succ_eq_map,List.all_cons,List.all_map,List.all_cons,←KM bs];rfl
theorem DV (hc:X.calm=true):dH X (.builtin "all") (fun xs H Q=>∃(p:Addr) (bs:List Bool),xs=[.ref p]/\SqL X.K H p (bs.map V.bl)/\Q (.bl (bs.all id)) H):=by
 intro pins s σ H xs us Q I r h;obtain⟨p,bs,rfl,hq,q⟩:=h;obtain⟨u,rfl,rx⟩:=kC r;cases rx;obtain⟨its,r',pl,hz⟩:=I.list hq;have hl:=pl.isList;have hlt:p<s.heap.objs.size:=by obtain⟨_,e,_⟩:=hl;exact Heap.lt_size e
 have hlen:bs.length=its.length:=by have:=r'.length;rw[List.length_map]at this;exact this
 refine call_all_walk (wpAny_pyIter_list hl ?_);refine⟨s.heap.objs.size,_,_,its.toArray.size,_,_,fun i=>bs.getD i true,rfl,Walks.list (show X.A.in1.handled=none from I.ok.hd hc) s.heap.objs.size p (Nat.ne_of_lt hlt) its.toArray,⟨⟨_,Heap.get?_push_size _ rfl,rfl,rfl⟩,hl.push _⟩,?_,?_⟩
 ·intro i v s' Q' E' hi hQ;have hi':its[i]? =some v:=by simpa using hi
  have hib:i<bs.length:=by rw[hlen];exact(List.getElem?_eq_some_iff.mp hi').1
  obtain⟨u,hu,ru⟩:=r'.get (i:=i) (x:=V.bl bs[i]) (by rw[List.getElem?_map,List.getElem?_eq_getElem hib];rfl);rw[hi']at hu;cases hu;have:v=Value.bool bs[i]:=ru;subst this;refine wpAny_truthy_bool ?_;have eb:bs.getD i true=bs[i]:=by rw[List.getD_eq_getElem?_getD,List.getElem?_eq_getElem hib];rfl
  have hQ':Q' (bs.getD i true) s':=hQ;rw[eb]at hQ';exact hQ'
 ·intro h' tk hk;have eall:(List.range its.toArray.size).all (fun i=>bs.getD i true)=bs.all id:=by
   rw[List.size_toArray,←hlen];exact KM bs
  rw[eall];refine⟨.bl (bs.all id),H,?_,rfl,q⟩;have I1:Inv X pins σ H { s with heap:=s.heap.push { cls:= .type "list_iterator",data:= .fields #[.ref p,.int 0 0] },toks:=s.toks }:=I.kept fun b u e=>Heap.get?_push_of_some _ e;obtain⟨f0,f1,f2,f3,f4,f5⟩:=I.fpOk (Nat.le_refl _) (I.hok.fresh (Nat.le_refl _));exact I1.turned (fun b o hb e=>hk b o (by simpa using hb) e) f0 f1 f3 f4 f5
theorem L7:dH X (.builtin "isinstance") (fun xs H Q=>∃x c t u b,xs=[x,c]/\lO X.K H x t/\RelV c u/\PySem.W.kitOne X.K t u=some b/\Q (.bl b) H):=by
 intro pins s σ H xs us Q I r h;obtain⟨x,c,t,u,b,rfl,ty,rc,e,q⟩:=h;obtain⟨v1,v2,rfl,r1,r2⟩:=QA r;have e2:v2=u:=by
  cases c with
  | non=>exact(show v2=_ from r2).trans (show u=_ from rc).symm
  | bl b=>exact(show v2=_ from r2).trans (show u=_ from rc).symm
  | ref b=>exact(show v2=_ from r2).trans (show u=_ from rc).symm
  | ty b=>exact(show v2=_ from r2).trans (show u=_ from rc).symm
  | int i =>
   obtain⟨t1,rfl⟩:=(show ∃t,u=_ from rc)
   cases ty<;>simp[PySem.W.kitOne,PySem.W.kitCls]at e
  | str i =>
   obtain⟨t1,rfl⟩:=(show ∃t,u=_ from rc)
   cases ty<;>simp[PySem.W.kitOne,PySem.W.kitCls]at e
  | byt i =>
   obtain⟨t1,rfl⟩:=(show ∃t,u=_ from rc)
   cases ty<;>simp[PySem.W.kitOne,PySem.W.kitCls]at e
  | flt i =>
   obtain⟨t1,rfl⟩:=(show ∃t,u=_ from rc)
   cases ty<;>simp[PySem.W.kitOne,PySem.W.kitCls]at e
 subst e2;exact S0 I r1 ty e fun tk=>⟨.bl b,H,I.tok tk,rfl,q⟩
theorem SA:OpR X (compareOp .LtE) (fun x y H Q=>∃i j,x= .str i/\y= .str j/\Q (.bl (!decide (j.cps.toList<i.cps.toList))) H):=by
 intro pins s σ H x y v u Q I rx ry h;obtain⟨i,j,rfl,rfl,q⟩:=h;obtain⟨t,rfl⟩:=rx;obtain⟨t',rfl⟩:=ry;exact P.le_str ⟨.bl _,H,I,rfl,q⟩
theorem CK {v:Value}{o:Option Int} (p:IsPart v o):∃l:Option (Int×Tok),v=partValue l/\o=l.map (·.1):=by
 cases p with
 | none=>exact⟨none,rfl,rfl⟩
 | int i u=>exact⟨some (i,u),rfl,rfl⟩
def aCP:V->Option Int->Option Int->Hp->VK->Prop:=fun x lo hi H Q=>∃z,x= .str z/\z.length<=sizeLine/\Q (.str (Txt.slice z lo hi)) H
theorem BO:SlR X aCP:=by
 intro pins s σ H x v vl vu lo hi sl Q I rx hs pl pu h;obtain⟨z,rfl,hz,q⟩:=h;obtain⟨t,rfl⟩:=rx;obtain⟨l,rfl,rfl⟩:=CK pl;obtain⟨u,rfl,rfl⟩:=CK pu;refine⟨"str",_,F.slot_str_getitem.lookup,typeIs_str _ _ _,?_⟩;exact wpAny_getItem_str_slice (l:=l) (u:=u) (st:=none) hs rfl (post_val_or_str ⟨Nat.le_trans (Txt.slice_le z _ _) hz,fun t' k=>⟨.str _,H,I.tok k,⟨t',rfl⟩,q⟩⟩)
end
end L2
namespace L2
open PySem PySem.Spec PyProof.Rows
def YD (xs:List (Str×NameKind))(XN:List Str)(ns:List (Str×NameKind))(N:List Str)(nl:Nat)(ci:List Nat):Bool :=
 (ns.all fun y=>y.2 != .cell&&(y.2 != .local||ns.lookup y.1==some .local)&&(y.2 != .free||(xs.lookup y.1==some .cell&&ns.lookup y.1==some .free))) &&
 (N.length==nl+ci.length) &&
 (List.range ci.length).all fun j=>match ci[j]?,N[nl+j]? with
  | some i,some n=>XN[i]? ==some n&&xs.lookup n==some .cell&&ns.lookup n==some .free
  | _,_=>false
def wB (ns:List (Str×NameKind))(cs:List (Str×Addr)):List (Str×Addr)->List (Str×Addr)
 | acc=>ns.foldl (fun acc y=>if y.2== .free then (y.1,(cs.lookup y.1).getD 0)::acc else acc) acc
theorem wN {env:Env}:∀(ns:List (Str×NameKind)) (acc:List (Str×Addr)),(∀y∈ns,y.2= .free->∃c,env.cells.lookup y.1=some c) →
  (forIn ns acc fun x r=>(do
   let (name,kind):=x
   if (kind==NameKind.free)=true then do
     let c ←cellOf env name
     pure (ForInStep.yield ((name,c)::r))
    else pure (ForInStep.yield r)):Sem (List (Str×Addr)))=pure (wB ns env.cells acc)
 | [],acc,_=>rfl
 | (n,k)::r,acc,h=>by
  have ih:=fun acc=>wN r acc fun y hy=>h y (List.mem_cons_of_mem _ hy);rw[List.forIn_cons]
  by_cases hk:k= .free
  ·subst hk;obtain⟨c,e⟩:=h (n,.free) List.mem_cons_self rfl;have e1:cellOf env n=pure c:=by unfold cellOf;rw[e]
   simp only[beq_self_eq_true,if_true,e1];show (forIn r ((n,c)::acc) _:Sem (List (Str×Addr)))=_;rw[ih];show _=pure (wB ((n,NameKind.free)::r) env.cells acc);simp only[wB,List.foldl_cons,beq_self_eq_true,if_true,e,Option.getD_some]
  ·have hb:(k==NameKind.free)=false:=by simpa using hk
   simp only[hb,Bool.false_eq_true,if_false];show (forIn r acc _:Sem (List (Str×Addr)))=_;rw[ih];simp only[wB,List.foldl_cons,hb,Bool.false_eq_true,if_false]
theorem k6 {cs:List (Str×Addr)}:∀(ns:List (Str×NameKind)) (acc:List (Str×Addr)) (n:Str),(∀y∈ns,y.2= .free->∃c,cs.lookup y.1=some c) →
  ((n,NameKind.free)∈ns∨acc.lookup n=cs.lookup n)->(∀c,acc.lookup n=some c->cs.lookup n=some c)->(wB ns cs acc).lookup n=cs.lookup n
 | [],acc,n,_,h,_=>by
  rcases h with h|h
  ·cases h
  ·exact h
 | (m,k)::r,acc,n,hc,h,hs=>by
  have hc':∀y∈r,y.2= .free->∃c,cs.lookup y.1=some c:=fun y hy=>hc y (List.mem_cons_of_mem _ hy);show (wB r cs (if k== .free then (m,(cs.lookup m).getD 0)::acc else acc)).lookup n=cs.lookup n
  by_cases hk:k= .free
  ·subst hk;obtain⟨c,e⟩:=hc (m,.free) List.mem_cons_self rfl;simp only[beq_self_eq_true,if_true,e,Option.getD_some]
   by_cases hm:n=m
   ·subst hm;have q:List.lookup n ((n,c)::acc)=some c:=by simp[List.lookup_cons]
    exact k6 r _ n hc' (.inr (q.trans e.symm)) fun c' z=>by rw[q]at z;cases z;exact e
   ·have hb:(n==m)=false:=by simpa using hm
    have q:List.lookup n ((m,c)::acc)=acc.lookup n:=by simp[List.lookup_cons,hb]
    refine k6 r _ n hc' ?_ fun c' z=>hs c' (q▸z);rcases h with h|h
    ·rcases List.mem_cons.mp h with z|z
     ·cases z;exact absurd rfl hm
     ·exact .inl z
    ·exact .inr (q.trans h)
  ·have hb:(k==NameKind.free)=false:=by simpa using hk
   simp only[hb,Bool.false_eq_true,if_false];refine k6 r _ n hc' ?_ hs;rcases h with h|h
   ·rcases List.mem_cons.mp h with z|z
    ·cases z;exact absurd rfl hk
    ·exact .inl z
   ·exact .inr h
theorem JM {cs:List (Str×Addr)}:∀(ns:List (Str×NameKind)) (acc:List (Str×Addr)),(∀y∈ns,y.2= .free->∃c,cs.lookup y.1=some c) →
  (∀n c,acc.lookup n=some c->cs.lookup n=some c)->∀n c,(wB ns cs acc).lookup n=some c->cs.lookup n=some c
 | [],acc,_,hs,n,c,h=>hs n c h
 | (m,k)::r,acc,hc,hs,n,c,h=>by
  have hc':∀y∈r,y.2= .free->∃c,cs.lookup y.1=some c:=fun y hy=>hc y (List.mem_cons_of_mem _ hy);have h':(wB r cs (if k== .free then (m,(cs.lookup m).getD 0)::acc else acc)).lookup n=some c:=h;refine JM r _ hc' ?_ n c h';intro n' c' z
  by_cases hk:k= .free
  ·subst hk;obtain⟨d,e⟩:=hc (m,.free) List.mem_cons_self rfl;simp only[beq_self_eq_true,if_true,e,Option.getD_some]at z
   by_cases hm:n'=m
   ·subst hm;simp[List.lookup_cons]at z;subst z;exact e
   ·have hb:(n'==m)=false:=by simpa using hm
    simp[List.lookup_cons,hb]at z;exact hs n' c' z
  ·have hb:(k==NameKind.free)=false:=by simpa using hk
   simp only[hb,Bool.false_eq_true,if_false]at z;exact hs n' c' z
theorem nK {env:Env}(hkf:env.scope.kind= .function):∀{names:List (Str×NameKind)}{x:Str},names.lookup x=some .free->env.kindOf x=some .cell →
  (names.map fun (n,k)=>if (k==NameKind.free&&env.scope.kind== .function&&env.kindOf n==some .cell) then (n,NameKind.cell) else (n,k)).lookup x=some .cell
 | [],_,h,_=>by simp at h
 | (n,k)::r,x,h,hc=>by
  show List.lookup x ((if (k==NameKind.free&&env.scope.kind== .function&&env.kindOf n==some .cell)=true then (n,NameKind.cell) else (n,k))::_)=_;cases hx:x==n with
  | true =>
   simp only[List.lookup_cons,hx]at h;cases h;have e:x=n:=by simpa using hx
   subst e;rw[hkf,hc];simp[List.lookup_cons]
  | false =>
   simp only[List.lookup_cons,hx]at h;have ih:=nK hkf h hc
   split
   ·simp only[List.lookup_cons,hx];exact ih
   ·simp only[List.lookup_cons,hx];exact ih
theorem jJ {env:Env}:∀{names:List (Str×NameKind)}{x:Str}{k':NameKind},(∀y∈names,y.2≠ .cell)->(k'= .cell∨k'= .free) →
  (names.map fun (n,k)=>if (k==NameKind.free&&env.scope.kind== .function&&env.kindOf n==some .cell) then (n,NameKind.cell) else (n,k)).lookup x=some k'->(x,NameKind.free)∈names
 | [],_,_,_,_,h=>by simp at h
 | (n,k)::r,x,k',hn,hk',h=>by
  have h':List.lookup x ((if (k==NameKind.free&&env.scope.kind== .function&&env.kindOf n==some .cell)=true then (n,NameKind.cell) else (n,k))::r.map _)=some k':=h;cases hx:x==n with
  | true =>
   have e:x=n:=by simpa using hx
   subst e
   by_cases hf:k= .free
   ·subst hf;exact List.mem_cons_self
   ·have hb:(k==NameKind.free)=false:=by simpa using hf
    simp only[hb,Bool.false_and,Bool.false_eq_true,if_false,List.lookup_cons,hx]at h';cases h';rcases hk' with z|z
    ·exact absurd z (hn (x,k) List.mem_cons_self)
    ·exact absurd z hf
  | false =>
   have h2:List.lookup x (r.map fun (n,k)=>if (k==NameKind.free&&env.scope.kind== .function&&env.kindOf n==some .cell) then (n,NameKind.cell) else (n,k))=some k':=by
    split at h'
    ·simp only[List.lookup_cons,hx]at h';exact h'
    ·simp only[List.lookup_cons,hx]at h';exact h'
   exact List.mem_cons_of_mem _ (jJ (fun y hy=>hn y (List.mem_cons_of_mem _ hy)) hk' h2)
theorem blk {X:Cx}{scope:Scope}{N:List Str}{nl:Nat}{ci:List Nat} (n0:Nat) (hX:X.env.cells=cellsFrom n0 X.env.scope.names []) (hkf:X.env.scope.kind= .function) (hk:scope.kind= .function)
  (h:YD X.env.scope.names X.N scope.names N nl ci=true):Blk X scope (wB scope.names X.env.cells []) N nl ci:=by
 unfold YD at h;rw[Bool.and_eq_true,Bool.and_eq_true]at h;obtain⟨⟨h1,h2⟩,h3⟩:=h;rw[List.all_eq_true]at h1;have h1':∀y∈scope.names,y.2≠ .cell/\(y.2= .local->scope.names.lookup y.1=some .local)/\(y.2= .free->X.env.scope.names.lookup y.1=some .cell/\scope.names.lookup y.1=some .free):=fun y hy=>by
  have q:=h1 y hy;simp only[Bool.and_eq_true,Bool.or_eq_true,bne_iff_ne,ne_eq,beq_iff_eq]at q;obtain⟨⟨q1,q2⟩,q3⟩:=q;exact⟨q1,fun e=>q2.resolve_left fun z=>z e,fun e=>q3.resolve_left fun z=>z e⟩
 have hcs:∀y∈scope.names,y.2= .free->∃c,X.env.cells.lookup y.1=some c:=fun y hy e=>by
  rw[hX];exact vT ((h1' y hy).2.2 e).1
 refine⟨hk,fun y hy=>(h1' y hy).2.1,fun y hy=>(h1' y hy).1,?_,?_,?_,by simpa using h2,?_⟩
 ·unfold closureFor;refine(congrArg (fun m:Sem (List (Str×Addr))=>m >>= fun cs=>pure cs) (wN scope.names [] hcs)).trans ?_;rfl
 ·exact JM scope.names [] hcs fun n c z=>by cases z
 ·intro n hn;have hm:(n,NameKind.free)∈scope.names:=by
   rcases hn with z|z
   ·exact jJ (fun y hy=>(h1' y hy).1) (.inl rfl) z
   ·exact jJ (fun y hy=>(h1' y hy).1) (.inr rfl) z
  obtain⟨c,e⟩:=hcs _ hm rfl;exact⟨c,(k6 scope.names [] n hcs (.inl hm) fun c z=>by cases z).trans e⟩
 ·intro j i hj;have hjl:j<ci.length:=(List.getElem?_eq_some_iff.mp hj).1;rw[List.all_eq_true]at h3;have q:=h3 j (List.mem_range.mpr hjl);rw[hj]at q;cases e:N[nl+j]? with
  | none=>rw[e]at q;cases q
  | some n =>
   rw[e]at q;simp only[Bool.and_eq_true,beq_iff_eq]at q;obtain⟨⟨q1,q2⟩,q3⟩:=q;refine⟨n,rfl,q1,.inl q2,.inl (nK hkf q3 q2),?_⟩;exact k6 scope.names [] n hcs (.inl (PySem.mem_of_lookup q3)) fun c z=>by cases z
structure Fc (P:Program)(w:World)(K:PySem.W.Frag)(mg:Str->Option Value)(base:Heap)(x:Str)(k:Nat)(ps:List Str)(sp:Sp):Prop where
 ex:∃f fd,mg x=some (.ref f)/\PySem.W.keepIn K (.ref f)=true/\Binds K fd ps []/\FnOk P w K mg base CX0 k f fd ps sp
theorem bG {X:Cx}{x:Str}{k k':Nat}{ps:List Str}{sp:Sp}{e:Expr}{es:List Expr}{t:TA}{p pos:Pos} (F:Fc X.prog X.w X.K X.mg X.base x k ps sp) (hr:Room k' X.A) (ha:PA X (e::es) t) (hk:k<=k':=by decide) (hg:Gl X x:=by rfl)
  (hdb:(x==("__debug__" :Str))=false:=by decide)(he:starEach (e::es) X.env=(false,eval e X.env)::starEach es X.env:=by rfl)(hpl:(backTo pos (starEach es X.env)).any (·.1)=false:=by rfl) :
  PE X (.Call (.Name x p) (e::es) [] pos) (tV sp [] E0 t):=by
 obtain⟨f,fd,hm,kp,b,G⟩:=F.ex;exact NC G (hr.mono hk) hg hm kp b .nil tL ha hdb he hpl
theorem QB {X:Cx}{x:Str}{n:String}{pos:Pos} (hg:Gl X x) (hm:X.mg x=none) (hv:bootBuiltins x=some (.type n)) (hn:x≠ "__name__" :=by decide) (hd:(x==("__debug__" :Str))=false:=by decide):PE X (.Name x pos) (tC (.ty n)):=aA5 hg hm hv rfl hn hd
theorem aAg {X:Cx}{x:Str}{i:Int}{t:Tok}{pos:Pos} (hg:Gl X x) (hm:X.mg x=some (.int i t)) (hd:(x==("__debug__" :Str))=false:=by decide):PE X (.Name x pos) (tC (.int i)):=NP hg hm ⟨t,rfl⟩ hd
theorem aCy {X:Cx}{x:Str}{a:Addr}{pos:Pos} (hg:Gl X x) (hm:X.mg x=some (.ref a)) (hd:(x==("__debug__" :Str))=false:=by decide):PE X (.Name x pos) (tC (.ref a)):=NP hg hm rfl hd
theorem lH:bootBuiltins "isinstance" =some (.builtin "isinstance"):=by decide +kernel
theorem aB2:bootBuiltins "all" =some (.builtin "all"):=by decide +kernel
theorem k7:bootBuiltins "len" =some (.builtin "len"):=by decide +kernel
theorem aCt:bootBuiltins "max" =some (.builtin "max"):=by decide +kernel
theorem aBS:bootBuiltins "min" =some (.builtin "min"):=by decide +kernel
theorem TX:bootBuiltins "int" =some (.type "int"):=by decide +kernel
theorem aCA:bootBuiltins "str" =some (.type "str"):=by decide +kernel
theorem aAx:bootBuiltins "bool" =some (.type "bool"):=by decide +kernel
theorem D9:bootBuiltins "list" =some (.type "list"):=by decide +kernel
theorem N9:bootBuiltins "dict" =some (.type "dict"):=by decide +kernel
inductive BTy (K:PySem.W.Frag)(H:Hp):V->String->Prop where
 | non:BTy K H .non "NoneType"
 | bl (x:Bool):BTy K H (.bl x) "bool"
 | int (i:Int):BTy K H (.int i) "int"
 | str (x:Str):BTy K H (.str x) "str"
 | lst {a:Addr}{xs:List V} (e:H a=some (.lst xs)):BTy K H (.ref a) "list"
 | tup {a:Addr}{xs:List V} (e:H a=some (.tup xs)):BTy K H (.ref a) "tuple"
 | dK {a:Addr}{kvs:List (Key×V)} (e:H a=some (.dK kvs)):BTy K H (.ref a) "dict"
theorem BTy.ty {K:PySem.W.Frag}{H:Hp}{x:V}{n:String} (b:BTy K H x n):lO K H x (.type n):=by
 cases b with
 | non=>exact .non
 | bl=>exact .bl _
 | int=>exact .int _
 | str=>exact .str _
 | lst e=>exact .lst e
 | tup e=>exact .tup e
 | dK e=>exact .dK e
def isB (n c:String):Bool:=n==c||(n== "bool" &&c== "int")
theorem P6 {K:PySem.W.Frag}{H:Hp}{x:V}{n:String} (b:BTy K H x n) (c:String) (hc:c= "int" ∨c= "bool" ∨c= "str"):PySem.W.kitOne K (.type n) (.type c)=some (isB n c):=by
 cases b<;>rcases hc with rfl|rfl|rfl<;>kernel_rfl
end L2
namespace L2
open PySem PySem.Spec PyProof.Rows
theorem UK {J:It}{te:TE}{σ0:St}{fin:List V->Hp->Prop}{H1:Hp} (n:Nat) (Ok:Nat->List V->Hp->Prop) (hn:n<=sizeLine) (h00:σ0[0]? =some none) (h0:Ok 0 [] H1) (hlen:∀i ys H,Ok i ys H->ys.length<=i)
  (hst:∀ys H,Ok n ys H->J.stop n H/\fin ys H)(hstep:∀i ys H,i<n->Ok i ys H->J.go i H/\∀x H',J.yld i H x H'->∀R:VK,(∀y H4,Ok (i+1) (ys++[y]) H4->R y H4)->te (σ0.set 0 (some x)) H' R):fO J (cH 0) AT te σ0 fin H1:=by
 refine⟨fun i m ys H=>m=n - i/\i<=n/\Ok i ys H,⟨n,by simp,Nat.zero_le _,h0⟩,?_⟩;rintro i m ys H ⟨rfl,hi,ok⟩
 by_cases hlt:i<n
 ·obtain⟨go,st⟩:=hstep i ys H hlt ok;refine .inr ⟨go,fun x H' y=>⟨⟨by simp,fun j v hv=> ?_⟩,?_⟩⟩
  ·cases j with
   | zero=>rw[h00]at hv;cases hv
   | succ j=>rw[List.getElem?_set_ne (by lia)];exact hv
  ·unfold AT
   dsimp only
   rw[if_pos rfl];exact st x H' y _ fun z H4 ok4=>⟨by have:=hlen i ys H ok;lia,n - (i+1),by lia,rfl,hlt,ok4⟩
 ·have e:i=n:=by lia
  subst e;exact .inl (hst ys H ok)
theorem OY {lo:Int}{n:Nat}{te:TE}{σ0:St}{fin:List V->Hp->Prop}{H1:Hp} (Ok:Nat->List V->Hp->Prop) (hn:n<=sizeLine) (h00:σ0[0]? =some none) (h0:Ok 0 [] H1) (hlen:∀i ys H,Ok i ys H->ys.length<=i) (hfin:∀ys H,Ok n ys H->fin ys H)
  (hstep:∀i ys H,i<n->Ok i ys H->∀R:VK,(∀y H4,Ok (i+1) (ys++[y]) H4->R y H4)->te (σ0.set 0 (some (.int (lo+i)))) H R):fO (Itr lo n) (cH 0) AT te σ0 fin H1 :=
 UK n Ok hn h00 h0 hlen (fun ys H ok=>⟨Nat.le_refl _,hfin ys H ok⟩) fun i ys H hi ok=>⟨hi,fun x H' y=>by
  obtain⟨e1,e2⟩:=y;subst e1 e2;exact hstep i ys _ hi ok⟩
section
variable {X:Cx}
theorem XU {x:V}(h:mO x=true):eqV x x=true:=by
 cases x<;>first|rfl|(simp[eqV];done)|exact absurd h Bool.false_ne_true
theorem AR (n:Nat):(List.range n).all (fun _=>true)=true:=by simp
end
structure FunV (K:PySem.W.Frag)(x qual:Str)(st:Stmt)(f:Addr)(fd:FuncData):Prop where
 ex:∃(oc:Value) (od:Option Addr) (dV kV doc pm:Value) (an:Option Addr) (cdv ct:Value) (osl:Array (Option Value)),
  fd=PySem.W.fnOf x qual (aL st) (aJ st) (aB st) dV kV doc pm an cdv ct/\K.lookup f=some ⟨oc,od,.func fd,osl⟩/\PySem.W.codeIn K cdv qual=true
 kp:PySem.W.keepIn K (.ref f)=true
section
variable {P:Program}{w:World}{K:PySem.W.Frag}{mg:Str->Option Value}{base:Heap}
theorem FunV.ok {x qual:Str}{st:Stmt}{f:Addr}{fd:FuncData}{N ps:List Str}{k:Nat}{sp:Sp} (F:FunV K x qual st f fd) (S:aV N ps (aB st)) (len:∀vs H Q E,sp vs H Q E->vs.length=ps.length)
  (hbody:∀(cdv:Value) (A:Around) (outer:List Env) (s:Shared) (H:Hp) (vs:List V) (Q:VK) (E:XK),Room k (A.deeper (envOfC qual (aB st) s.heap.objs.size f cdv))->sp vs H Q E →
   ∃t,PSs (vN CX0 P w K mg base N qual (aB st) f cdv A outer s H E).nox (aJ st) t/\t { nx:=fun _ H'=>Q .non H',rt:=Q } (start N vs) H):FnOk P w K mg base CX0 (k+1) f fd ps sp:=by
 obtain⟨oc,od,dV,kV,doc,pm,an,cdv,ct,osl,rfl,lk,hcd⟩:=F.ex;refine aDV lk hcd S len fun A outer s H vs Q E hr h=> ?_;obtain⟨t,h1,h2⟩:=hbody cdv A outer s H vs Q E hr h;exact⟨t,PSs.nox h1,h2⟩
theorem aP {x qual:Str}{st:Stmt}{f:Addr}{oc:Value}{od an:Option Addr}{osl:Array (Option Value)}{dV kV doc pm cdv ct:Value} (l:K.lookup f=some ⟨oc,od,.func (PySem.W.fnOf x qual (aL st) (aJ st) (aB st) dV kV doc pm an cdv ct),osl⟩) (c:PySem.W.codeIn K cdv qual=true)
  (k:PySem.W.keepIn K (.ref f)=true):FunV K x qual st f (PySem.W.fnOf x qual (aL st) (aJ st) (aB st) dV kV doc pm an cdv ct):=⟨⟨oc,od,dV,kV,doc,pm,an,cdv,ct,osl,rfl,l,c⟩,k⟩
structure Mc (P:Program)(w:World)(K:PySem.W.Frag)(mg:Str->Option Value)(base:Heap)(C:Addr)(nm:Str)(k:Nat)(sp:Sp):Prop where
 ex:∃f fd ps,Cls K C/\cX K C nm f/\Binds K fd ps []/\FnOk P w K mg base CX0 k f fd ps sp
structure Kc (P:Program)(w:World)(K:PySem.W.Frag)(mg:Str->Option Value)(base:Heap)(x:Str)(C:Addr)(k:Nat)(dvs:List V)(sp:Sp):Prop where
 ex:∃f fd ps ds,mg x=some (.ref C)/\Mk K C f/\Vals dvs ds/\Binds K fd ps ds/\FnOk P w K mg base CX0 k f fd ps sp
end
section
variable {X:Cx}{k k':Nat}{sp:Sp}{x m:Str}{p pos apos:Pos}{e o:Expr}{es:List Expr}{ta:TE}{t:TA}{C:Addr}{dvs:List V}
def tMD (M:Addr->Sp->Prop)(m:Str)(ta:TE)(t:TA):TE:=fun σ H Q=>ta σ H fun x H1=>∃a C dx fs sp,x= .ref a/\H1 a=some (.ins C dx fs)/\fs.lookup m=none/\M C sp/\t σ H1 fun vs H2=>sp (x::vs) H2 Q E0
theorem dD (k:Nat){pl:Sem Bool}(hr:Room k' X.A)(ho:PE X o ta)(ha:PA X (e::es) t)(hk:k<=k':=by decide)
  (hst:starEach (e::es) X.env=(false,eval e X.env)::starEach es X.env:=by rfl)(hpl:(backTo pos (starEach es X.env)).any (·.1)=false:=by rfl)
  (ht:eval (.Call (.Attribute o m apos) (e::es) [] pos) X.env=(do
   let ov ←eval o X.env
   standAt apos.atName
   let (f,first) ←holding [ov] (getMethod ov m pl)
   callWith pos f first (backTo pos (starEach (e::es) X.env)) (backToKw pos (keywordEach [] X.env))):=by rfl) :
  PE X (.Call (.Attribute o m apos) (e::es) [] pos) (tMD (fun C sp=>Mc X.prog X.w X.K X.mg X.base C m k sp) m ta t):=by
 intro pins s σ H Q I h;refine PySem.W.methodCall_KW (pl:=pl) (thn (ho pins s σ H _ I h) fun u s1 ⟨x,H1,I1,rx,a,C,dx,fs,sp,ex,ea,l,M,q⟩=> ?_) ht;subst ex;obtain rfl:u=Value.ref a:=rx;obtain⟨f,fd,ps,c,hm,hb,F⟩:=M.ex;refine BK I1 ea c hm l ?_;refine PySem.W.callWith_K (first:=[.ref a]) (h₀:=X.base) I.ok.mod.kin hm.kp (thn (ha pos pins s1 σ H1 _ I1 q) fun us s2 ⟨vs,H2,I2,r,q2⟩=>⟨I2.kIn,?_⟩) hst hpl;exact u0 (us:= .ref a::us) (vs:= .ref a::vs) (dvs:=[]) F (hr.mono hk) hb .nil tL I2 (.cons rfl r) (by rw[List.append_nil];exact q2)
theorem cF (k:Nat){pl:Sem Bool}(hr:Room k' X.A)(ho:PE X o ta)(hk:k<=k':=by decide)
  (ht:eval (.Call (.Attribute o m apos) [] [] pos) X.env=(do
   let ov ←eval o X.env
   standAt apos.atName
   let (f,first) ←holding [ov] (getMethod ov m pl)
   callWith pos f first (backTo pos (starEach [] X.env)) (backToKw pos (keywordEach [] X.env))):=by rfl) :
  PE X (.Call (.Attribute o m apos) [] [] pos) (tMD (fun C sp=>Mc X.prog X.w X.K X.mg X.base C m k sp) m ta OR):=by
 intro pins s σ H Q I h;refine PySem.W.methodCall_KW (pl:=pl) (thn (ho pins s σ H _ I h) fun u s1 ⟨x,H1,I1,rx,a,C,dx,fs,sp,ex,ea,l,M,q⟩=> ?_) ht;subst ex;obtain rfl:u=Value.ref a:=rx;obtain⟨f,fd,ps,c,hm,hb,F⟩:=M.ex;refine BK I1 ea c hm l ?_;exact PySem.W.callWith_K0 (first:=[.ref a]) I1.kIn hm.kp (u0 (us:=[.ref a]) (vs:=[.ref a]) (dvs:=[]) F (hr.mono hk) hb .nil tL I1 (.cons rfl .nil) q)
theorem vR (F:Kc X.prog X.w X.K X.mg X.base x C k dvs sp)(hr:Room k' X.A)(ha:PA X (e::es) t)(hk:k+1<=k':=by decide)(hg:Gl X x:=by rfl)
  (hdb:(x==("__debug__" :Str))=false:=by decide)(he:starEach (e::es) X.env=(false,eval e X.env)::starEach es X.env:=by rfl)(hpl:(backTo pos (starEach es X.env)).any (·.1)=false:=by rfl) :
  PE X (.Call (.Name x p) (e::es) [] pos) (QN C sp dvs E0 t):=by
 obtain⟨f,fd,ps,ds,hm,M,hd,hb,G⟩:=F.ex;exact aAh M G (hr.mono hk) hg hm hb hd tL ha hdb he hpl
structure Dc (P:Program)(w:World)(K:PySem.W.Frag)(mg:Str->Option Value)(base:Heap)(x m:Str)(k:Nat)(sp:Sp):Prop where
 ex:∃C f fd ps,mg x=some (.ref C)/\PySem.W.specialIn K (.ref C) "__getattribute__" =some (some (.builtin "type.__getattribute__"))/\PySem.W.readsIn K C (.type "type")=true/\PySem.W.findCls K (.ref C) (.type "type") m=some (.val (.ref f)) ∧
  PySem.W.keepIn K (.ref f)=true/\Binds K fd ps []/\FnOk P w K mg base CX0 k f fd ps sp
theorem OM {pl:Sem Bool}(F:Dc X.prog X.w X.K X.mg X.base x m k sp)(hr:Room k' X.A)(ha:PA X (e::es) t)(hk:k<=k':=by decide)(hg:Gl X x:=by rfl)(hdb:(x==("__debug__" :Str))=false:=by decide)
  (hst:starEach (e::es) X.env=(false,eval e X.env)::starEach es X.env:=by rfl)(hpl:(backTo pos (starEach es X.env)).any (·.1)=false:=by rfl)
  (ht:eval (.Call (.Attribute (.Name x p) m apos) (e::es) [] pos) X.env=(do
   let ov ←eval (.Name x p) X.env
   standAt apos.atName
   let (f,first) ←holding [ov] (getMethod ov m pl)
   callWith pos f first (backTo pos (starEach (e::es) X.env)) (backToKw pos (keywordEach [] X.env))):=by rfl) :
  PE X (.Call (.Attribute (.Name x p) m apos) (e::es) [] pos) (tV sp [] E0 t):=by
 intro pins s σ H Q I h;obtain⟨C,f,fd,ps,hm,hga,hrd,hfc,kp,hb,G⟩:=F.ex;refine PySem.W.methodCall_KW (pl:=pl) (uT I hg hm ?_ hdb) ht;refine PySem.W.method_cls I.kIn hga (PySem.W.cls_value I.kIn hrd hfc (xJ (v:= .ref f) rfl) ?_);have I1:=I.tok (s.toks+1);refine PySem.W.callWith_K (first:=[]) (h₀:=X.base) I.ok.mod.kin kp (thn (ha pos pins _ σ H _ I1 h) fun us s2 ⟨vs,H2,I2,r,q2⟩=>⟨I2.kIn,?_⟩) hst hpl;exact u0 G (hr.mono hk) hb .nil tL I2 r q2
end
end L2
namespace L2
open PySem PySem.Spec PyProof.Rows
def Y2:R2:=fun x y H Q=>∃i j,x= .str i/\y= .str j/\i.length+j.length<=sizeLine/\Q (.str (i++j)) H
def QK:R2:=fun x y H Q=>y= .non/\Q (.bl (decide (x= .non))) H
def PK:R2:=fun x y H Q=>y= .non/\Q (.bl (!decide (x= .non))) H
def aET:R2:=fun x y H Q=>∃i j,x= .str i/\y= .str j/\Q (.bl (!decide (j.cps.toList<i.cps.toList))) H
def aDo (K:PySem.W.Frag):List V->Hp->VK->Prop:=fun xs H Q=>∃x c t u b,xs=[x,c]/\lO K H x t/\RelV c u/\PySem.W.kitOne K t u=some b/\Q (.bl b) H
def aES (K:PySem.W.Frag):List V->Hp->VK->Prop:=fun xs H Q=>∃(p:Addr) (bs:List Bool),xs=[.ref p]/\SqL K H p (bs.map V.bl)/\Q (.bl (bs.all id)) H
def YN:List V->Hp->VK->Prop:=fun xs H Q=>∃z,xs=[.str z]/\z.length<=sizeLine/\Q (.int z.length) H
def YG (K:PySem.W.Frag):List V->Hp->VK->Prop:=fun xs H Q=>∃p ys,xs=[.ref p]/\(SqL K H p ys∨SqT K H p ys)/\Q (.int ys.length) H
def YQ:List V->Hp->VK->Prop:=fun xs H Q=>∃i j,xs=[.int i,.int j]/\Q (.int (if j>i then j else i)) H
def Y8:List V->Hp->VK->Prop:=fun xs H Q=>∃i j,xs=[.int i,.int j]/\Q (.int (if j<i then j else i)) H
def YZ:List V->Hp->VK->Prop:=fun xs H Q=>(∃i,xs=[.int i]/\Q (.int i) H)∨∃k,xs=[.bl k]/\Q (.int (if k then 1 else 0)) H
def OG (K:PySem.W.Frag):List V->Hp->VK->Prop:=fun xs H Q=>∃p ys,xs=[.ref p]/\(SqL K H p ys∨SqT K H p ys)/\∀l,H l=none->Q (.ref l) (upd H l (.lst ys))
section
variable {X:Cx}
theorem NA:OpR X (binaryOp .Add) Y2:=P4
theorem SI:OpR X (compareOp .Is) QK:=aCG
theorem NM:OpR X (compareOp .IsNot) PK:=ZY
theorem UL:OpR X (compareOp .LtE) aET:=SA
theorem vK:dH X (.builtin "isinstance") (aDo X.K):=L7
theorem WQ (hc:X.calm=true):dH X (.builtin "all") (aES X.K):=DV hc
theorem FU:dH X (.builtin "len") YN:=KN
theorem iT:dH X (.builtin "len") (YG X.K):=II
theorem RQ (hc:X.calm=true):dH X (.builtin "max") YQ:=UG hc
theorem TM (hc:X.calm=true):dH X (.builtin "min") Y8:=RO hc
theorem RY:dH X (.type "int") YZ:=R6
theorem PH:dH X (.type "list") (OG X.K):=J4
theorem NH {i j:Int}(n:Int){k1 k2 p1 p2 pos}(h:i^j.toNat=n)(c:aCZ i j):PE X (.BinOp (.Constant (.int i) k1 p1) .Pow (.Constant (.int j) k2 p2) pos) (tC (.int n)):=by
 subst h;intro pins s σ H Q I q;exact aI aDr aG aG pins s σ H Q I ⟨i,j,rfl,rfl,c,q⟩
end
def IB (P:Bool->Hp->Prop):VK:=fun x H=>∃k,x= .bl k/\P k H
def aDk (O:Option Int->Hp->Prop):VK:=fun x H=>∃i,x= .int i/\O (some i) H
def aDl (Q:VK):List V->Hp->Prop:=fun xs H=>xs.length<=sizeLine/\∀p,H p=none->Q (.ref p) (upd H p (.lst xs))
def aCW (Q:VK):List V->Hp->Prop:=fun xs H=>xs.length<=sizeLine/\∀p,H p=none->Q (.ref p) (upd H p (.tup xs))
def aCM (Q:VK):List V->Hp->Prop:=fun ys H=>∀p,H p=none->Q (.ref p) (upd H p (.lst ys))
def aBR (K:PySem.W.Frag)(f:Str)(Q:VK):VK:=fun x H=>∃a C dx fs v,x= .ref a/\H a=some (.ins C dx fs)/\Cls K C/\NoAttr K C f/\fs.lookup f=some v/\Q v H
def YH (K:PySem.W.Frag)(f:Str)(y:V)(q:Hp->Prop):VK:=fun x H=>∃a C dx fs,x= .ref a/\H a=some (.ins C dx fs)/\Cls K C/\NoAttr K C f/\fs.length<1000/\q (upd H a (.ins C dx (cZ f y fs)))
def MdP (M:Addr->Sp->Prop)(m:Str)(t:TA)(σ:St)(Q:VK):VK:=fun x H=>∃a C dx fs sp,x= .ref a/\H a=some (.ins C dx fs)/\fs.lookup m=none/\M C sp/\t σ H fun vs H2=>sp (x::vs) H2 Q E0
def tY (C:Addr)(sp:Sp)(dvs:List V)(E:XK)(Q:VK):List V->Hp->Prop:=fun vs H1=>∀x dx,H1 x=none->H1 dx=none->dx≠x →
 sp (.ref x::(vs++dvs)) (upd (upd H1 dx (.own x)) x (.ins C dx [])) (fun v H2=>v= .non/\Q (.ref x) H2) E
def BmP (K:PySem.W.Frag)(T:String)(r:V->List V->Hp->VK->Prop)(t:TA)(σ:St)(Q:VK):VK:=fun x H1=>tyV K T x H1/\t σ H1 fun xs H2=>r x xs H2 Q
def aDw (K:PySem.W.Frag)(R:It->Hp->Prop):VK:=fun x H1=>∃a,x= .ref a/\(∃xs,SqL K H1 a xs)/\R (Itl K a) H1
def aC1 (R:It->Hp->Prop):List V->Hp->Prop:=fun vs H1=>∃j:Int,vs=[.int j]/\ -(2^62)<=j/\j<2^62/\R (Itr 0 j.toNat) H1
def aDd (R:It->Hp->Prop):List V->Hp->Prop:=fun vs H1=>∃i j:Int,vs=[.int i,.int j]/\(-(2^62)<=i/\i<2^62/\ -(2^62)<=j/\j<2^62)/\R (Itr i (j - i).toNat) H1
section
variable {nx bk ct:St->Hp->Prop}{rt:VK}{σ:St}{H:Hp}{Q:VK}{t u:TS}{te ta tb tc:TE}{g:TG}{c d:TT}{v:V}{K:PySem.W.Frag}{E:XK}
theorem aB6 (h:t ⟨u ⟨nx,rt,bk,ct⟩,rt,bk,ct⟩ σ H):KY t u ⟨nx,rt,bk,ct⟩ σ H:=h
theorem DI (R:St->Hp->Prop)(h2:∀σ' H',R σ' H'->u ⟨nx,rt,bk,ct⟩ σ' H')(h1:∀nx':St->Hp->Prop,(∀σ' H',R σ' H'->nx' σ' H')->t ⟨nx',rt,bk,ct⟩ σ H):KY t u ⟨nx,rt,bk,ct⟩ σ H:=h1 _ h2
theorem WP {v:TS}(h:KY (QH c t u) v ⟨nx,rt,bk,ct⟩ σ H):KY (QH c t u) v ⟨nx,rt,bk,ct⟩ σ H:=h
theorem aA2 (h:nx σ H):Y7 ⟨nx,rt,bk,ct⟩ σ H:=h
theorem aBH (h:te σ H fun x H1=>g x σ H1 nx):ON te g ⟨nx,rt,bk,ct⟩ σ H:=h
theorem aBP (h:te σ H rt):aDh te ⟨nx,rt,bk,ct⟩ σ H:=h
theorem aA7 (h:te σ H fun _ H1=>nx σ H1):YX te ⟨nx,rt,bk,ct⟩ σ H:=h
theorem aEC (h:c σ H fun b H1=>if b=true then t ⟨nx,rt,bk,ct⟩ σ H1 else u ⟨nx,rt,bk,ct⟩ σ H1):QH c t u ⟨nx,rt,bk,ct⟩ σ H:=h
def OS (J:It)(g:TG)(tb:TS)(D:jZ)(σ:St)(H:Hp):Prop :=
 ∃W:Nat->Nat->St->Hp->Prop,(∃m,W 0 m σ H)/\∀i m σ H,W i m σ H →
  (J.stop i H/\D.nx σ H)∨(J.go i H/\∃N:St->Hp->Prop,(∀σ' H',N σ' H'->∃m',m'<m/\W (i+1) m' σ' H')/\∀x H',J.yld i H x H'->g x σ H' fun σ2 H2=>tb { D with nx:=N,ct:=N,bk:=D.nx } σ2 H2)
theorem aCx {wi:TI}{tb:TS} (h:wi σ H fun J H1=>OS J g tb ⟨nx,rt,bk,ct⟩ σ H1):aDv wi g tb ⟨nx,rt,bk,ct⟩ σ H:=h
theorem aEa {l:St}(h:Q v H):jS 0 (some v::l) H Q:=⟨v,rfl,h⟩
theorem aEv {a0}{l:St} (h:Q v H):jS 1 (a0::some v::l) H Q:=⟨v,rfl,h⟩
theorem aEb {a0 a1}{l:St} (h:Q v H):jS 2 (a0::a1::some v::l) H Q:=⟨v,rfl,h⟩
theorem aD1 {a0 a1 a2}{l:St} (h:Q v H):jS 3 (a0::a1::a2::some v::l) H Q:=⟨v,rfl,h⟩
theorem aEA {a0 a1 a2 a3}{l:St} (h:Q v H):jS 4 (a0::a1::a2::a3::some v::l) H Q:=⟨v,rfl,h⟩
theorem aD2 {a0 a1 a2 a3 a4}{l:St} (h:Q v H):jS 5 (a0::a1::a2::a3::a4::some v::l) H Q:=⟨v,rfl,h⟩
theorem aEn {a0 a1 a2 a3 a4 a5}{l:St} (h:Q v H):jS 6 (a0::a1::a2::a3::a4::a5::some v::l) H Q:=⟨v,rfl,h⟩
theorem aD3 {a0 a1 a2 a3 a4 a5 a6}{l:St} (h:Q v H):jS 7 (a0::a1::a2::a3::a4::a5::a6::some v::l) H Q:=⟨v,rfl,h⟩
theorem aEo {a0 a1 a2 a3 a4 a5 a6 a7}{l:St} (h:Q v H):jS 8 (a0::a1::a2::a3::a4::a5::a6::a7::some v::l) H Q:=⟨v,rfl,h⟩
theorem aEu {a0 a1 a2 a3 a4 a5 a6 a7 a8}{l:St} (h:Q v H):jS 9 (a0::a1::a2::a3::a4::a5::a6::a7::a8::some v::l) H Q:=⟨v,rfl,h⟩
theorem aBG {a0 a1 a2 a3 a4 a5 a6 a7 a8 a9}{l:St} (h:Q v H):jS 10 (a0::a1::a2::a3::a4::a5::a6::a7::a8::a9::some v::l) H Q:=⟨v,rfl,h⟩
theorem aDn {a0 a1 a2 a3 a4 a5 a6 a7 a8 a9 a10}{l:St} (h:Q v H):jS 11 (a0::a1::a2::a3::a4::a5::a6::a7::a8::a9::a10::some v::l) H Q:=⟨v,rfl,h⟩
theorem aBK {a0 a1 a2 a3 a4 a5 a6 a7 a8 a9 a10 a11}{l:St} (h:Q v H):jS 12 (a0::a1::a2::a3::a4::a5::a6::a7::a8::a9::a10::a11::some v::l) H Q:=⟨v,rfl,h⟩
variable {q:St->Hp->Prop}
theorem aDZ {a0 a}{l:St} (h:q (a0::some v::l) H):cH 1 v (a0::a::l) H q:=h
theorem aD4 {a0 a1 a}{l:St} (h:q (a0::a1::some v::l) H):cH 2 v (a0::a1::a::l) H q:=h
theorem aDW {a0 a1 a2 a}{l:St} (h:q (a0::a1::a2::some v::l) H):cH 3 v (a0::a1::a2::a::l) H q:=h
theorem aEm {a0 a1 a2 a3 a}{l:St} (h:q (a0::a1::a2::a3::some v::l) H):cH 4 v (a0::a1::a2::a3::a::l) H q:=h
theorem aEr {a0 a1 a2 a3 a4 a}{l:St} (h:q (a0::a1::a2::a3::a4::some v::l) H):cH 5 v (a0::a1::a2::a3::a4::a::l) H q:=h
theorem aEi {a0 a1 a2 a3 a4 a5 a}{l:St} (h:q (a0::a1::a2::a3::a4::a5::some v::l) H):cH 6 v (a0::a1::a2::a3::a4::a5::a::l) H q:=h
theorem aEf {a0 a1 a2 a3 a4 a5 a6 a}{l:St} (h:q (a0::a1::a2::a3::a4::a5::a6::some v::l) H):cH 7 v (a0::a1::a2::a3::a4::a5::a6::a::l) H q:=h
theorem aEB {a0 a1 a2 a3 a4 a5 a6 a7 a}{l:St} (h:q (a0::a1::a2::a3::a4::a5::a6::a7::some v::l) H):cH 8 v (a0::a1::a2::a3::a4::a5::a6::a7::a::l) H q:=h
theorem aDU {a0 a1 a2 a3 a4 a5 a6 a7 a8 a}{l:St} (h:q (a0::a1::a2::a3::a4::a5::a6::a7::a8::some v::l) H):cH 9 v (a0::a1::a2::a3::a4::a5::a6::a7::a8::a::l) H q:=h
theorem aC7 {a0 a1 a2 a3 a4 a5 a6 a7 a8 a9 a}{l:St} (h:q (a0::a1::a2::a3::a4::a5::a6::a7::a8::a9::some v::l) H):cH 10 v (a0::a1::a2::a3::a4::a5::a6::a7::a8::a9::a::l) H q:=h
theorem aCi {a0 a1 a2 a3 a4 a5 a6 a7 a8 a9 a10 a}{l:St} (h:q (a0::a1::a2::a3::a4::a5::a6::a7::a8::a9::a10::some v::l) H):cH 11 v (a0::a1::a2::a3::a4::a5::a6::a7::a8::a9::a10::a::l) H q:=h
theorem aBQ {a0 a1 a2 a3 a4 a5 a6 a7 a8 a9 a10 a11 a}{l:St} (h:q (a0::a1::a2::a3::a4::a5::a6::a7::a8::a9::a10::a11::some v::l) H):cH 12 v (a0::a1::a2::a3::a4::a5::a6::a7::a8::a9::a10::a11::a::l) H q:=h
theorem aEY (h:Q v H):tC v σ H Q:=h
theorem aEk {r:R2}(h:ta σ H fun x H1=>tb σ H1 fun y H2=>r x y H2 Q):tOp r ta tb σ H Q:=h
theorem aEE {f:Int->Int->V}{i j:Int} (h:Q (f i j) H):rI0 f (.int i) (.int j) H Q:=⟨i,j,rfl,rfl,h⟩
theorem aBU {f:Int->Int->V}{i j:Int} (h0:0<j) (h1:j<1073741824) (h:Q (f i j) H):rI aC3 f (.int i) (.int j) H Q:=⟨i,j,rfl,rfl,⟨h0,h1⟩,h⟩
theorem aBJ {f:Int->Int->V}{i j:Int} (h0:0<j) (h:Q (f i j) H):rI (fun _ j=>0<j) f (.int i) (.int j) H Q:=⟨i,j,rfl,rfl,h0,h⟩
theorem aAq {f:Int->Int->V}{i j:Int} (h0: -18446744073709551616<i) (h1:i<18446744073709551616) (h:Q (f i j) H):rI CMul f (.int i) (.int j) H Q:=⟨i,j,rfl,rfl,.inl ⟨by lia,by lia⟩,h⟩
theorem ZW {f:Int->Int->V}{i j:Int} (h0: -18446744073709551616<j) (h1:j<18446744073709551616) (h:Q (f i j) H):rI CMul f (.int i) (.int j) H Q:=⟨i,j,rfl,rfl,.inr ⟨by lia,by lia⟩,h⟩
theorem YU {i j:Int}:decide (V.int i=V.int j)=decide (i=j):=by simp
theorem aD7 {i j:Str}:decide (V.str i=V.str j)=decide (i=j):=by simp
theorem aDx {i j:Int}(h:Q (.bl (decide (i=j))) H):rEq (.int i) (.int j) H Q:=⟨rfl,by rw[YU];exact h⟩
theorem aBT {i j:Str}(h:Q (.bl (decide (i=j))) H):rEq (.str i) (.str j) H Q:=⟨rfl,by rw[aD7];exact h⟩
theorem aAo {i:Str}(h:Q (.bl false) H):rEq .non (.str i) H Q:=⟨rfl,by rw[decide_eq_false (fun z=>by cases z)];exact h⟩
theorem aCC {i j:Int}(h:Q (.bl (!decide (i=j))) H):rNe (.int i) (.int j) H Q:=⟨rfl,by rw[YU];exact h⟩
theorem aAD (h:Q (.bl true) H):QK .non .non H Q:=⟨rfl,h⟩
theorem Z4 {i:Addr}(h:Q (.bl false) H):QK (.ref i) .non H Q:=⟨rfl,by rw[decide_eq_false (fun z=>by cases z)];exact h⟩
theorem ZO (h:Q (.bl (decide (v= .non))) H):QK v .non H Q:=⟨rfl,h⟩
theorem ZX (h:Q (.bl false) H):PK .non .non H Q:=⟨rfl,h⟩
theorem Z2 {i:Str}(h:Q (.bl true) H):PK (.str i) .non H Q:=⟨rfl,by rw[decide_eq_false (fun z=>by cases z)];exact h⟩
theorem aAz {i j:Str}(hl:i.length+j.length<=sizeLine)(h:Q (.str (i++j)) H):Y2 (.str i) (.str j) H Q:=⟨i,j,rfl,rfl,hl,h⟩
theorem aCc (h:c σ H fun k H1=>if k=true then ta σ H1 Q else tb σ H1 Q):tIf c ta tb σ H Q:=h
theorem VN {r r':R2}(h:ta σ H fun x H1=>tb σ H1 fun y H2=>r x y H2 (IB fun k H3=>if k=true then tc σ H3 fun w' H4=>r' y w' H4 Q else Q (.bl false) H3)):KA r r' ta tb tc σ H Q:=h
theorem ZS {sp:Sp}{t:TA} (h:t σ H fun vs H1=>sp vs H1 Q E):tV sp [] E t σ H Q:=by
 unfold tV;simp only[List.append_nil];exact h
theorem aEe {r:List V->Hp->VK->Prop}{t:TA} (h:t σ H fun vs H1=>r vs H1 Q):tCB r t σ H Q:=h
theorem aDm {t:TA}(h:t σ H (aDl Q)):aDu t σ H Q:=h
theorem aCg {t:TA}(h:t σ H (aCW Q)):aCV t σ H Q:=h
theorem iH {o:HO}{R:V->Hp->Prop} (h:∀p H',H p=none->Same H H'->H' p=some o->R (.ref p) H'):∀p,H p=none->R (.ref p) (upd H p o) :=
 fun p hp=>h p _ hp (fun b u e=>by rw[aS (bJ e hp)];exact e) bE
theorem ZJ {xs:List V}(hn:xs.length<=sizeLine)(h:∀p H',H p=none->Same H H'->H' p=some (.lst xs)->Q (.ref p) H'):aDl Q xs H:=⟨hn,iH h⟩
theorem aA0 {xs:List V}(hn:xs.length<=sizeLine)(h:∀p H',H p=none->Same H H'->H' p=some (.tup xs)->Q (.ref p) H'):aCW Q xs H:=⟨hn,iH h⟩
theorem aAc {xs:List V}(h:∀p H',H p=none->Same H H'->H' p=some (.lst xs)->Q (.ref p) H'):aCM Q xs H:=iH h
theorem aCs {f:Str}(h:ta σ H (aBR K f Q)):WC K ta f σ H Q:=h
theorem aA3 {a C dx:Addr}{fs:List (Str×V)}{f:Str} (e:H a=some (.ins C dx fs)) (cl:Cls K C) (na:NoAttr K C f) (l:fs.lookup f=some v) (h:Q v H):aBR K f Q (.ref a) H:=⟨a,C,dx,fs,v,rfl,e,cl,na,l,h⟩
theorem aAO {f:Str}(h:ta σ H fun y H1=>tb σ H1 (YH K f y (nx σ))):aC6 K tb ta f ⟨nx,rt,bk,ct⟩ σ H:=h
theorem VP {a C dx:Addr}{fs:List (Str×V)}{f:Str}{y:V}{w:Hp->Prop} (e:H a=some (.ins C dx fs)) (cl:Cls K C) (na:NoAttr K C f) (l:decide (fs.length<1000)=true)
  (h:∀H',(∀b o,H b=some o->b≠a->H' b=some o)->H' a=some (.ins C dx (cZ f y fs))->w H'):YH K f y w (.ref a) H :=
 ⟨a,C,dx,fs,rfl,e,cl,na,of_decide_eq_true l,h _ (fun b o q hb=>by rw[aS hb];exact q) bE⟩
theorem aEt {M:Addr->Sp->Prop}{m:Str}{t:TA} (h:ta σ H (MdP M m t σ Q)):tMD M m ta t σ H Q:=h
theorem aCL {M:Addr->Sp->Prop}{m:Str}{t:TA}{a C dx:Addr}{fs:List (Str×V)}{sp:Sp} (e:H a=some (.ins C dx fs)) (l:fs.lookup m=none) (F:M C sp) (h:t σ H fun vs H2=>sp (.ref a::vs) H2 Q E0):MdP M m t σ Q (.ref a) H :=
 ⟨a,C,dx,fs,sp,rfl,e,l,F,h⟩
theorem aAs {C:Addr}{sp:Sp}{dvs:List V}{t:TA} (h:t σ H (tY C sp dvs E Q)):QN C sp dvs E t σ H Q:=h
theorem rT {C:Addr}{sp:Sp}{dvs vs:List V}{fs:List (Str×V)}
  (hsp:∀p dx H0 (Q':VK),H0 p=some (.ins C dx [])->(∀H',(∀b o,H0 b=some o->b≠p->H' b=some o)->H' p=some (.ins C dx fs)->Q' .non H')->Same H H0->sp (.ref p::(vs++dvs)) H0 Q' E)
  (k:∀p dx H',H p=none->Same H H'->H' p=some (.ins C dx fs)->Q (.ref p) H'):tY C sp dvs E Q vs H:=by
 intro x dx nx nd ne;have s0:Same H (upd (upd H dx (.own x)) x (.ins C dx [])):=fun b o e=>by
  rw[aS (bJ e nx),aS (bJ e nd)];exact e
 exact hsp x dx _ _ bE (fun H' sb e=>⟨rfl,k x dx H' nx (fun b o q=>sb b o (s0 b o q) (bJ q nx)) e⟩) s0
theorem aAJ {wi:TI}{nl:Nat}{ci:List Nat}{ti:TT} (h:wi σ H fun J H1=>fO J g ti te (cG nl ci σ) (aCM Q) H1):PQ wi nl ci g ti te σ H Q:=h
theorem aEd {r:V->Option Int->Option Int->Hp->VK->Prop}{tl th:TO} (h:te σ H fun x H1=>tl σ H1 fun l H2=>th σ H2 fun u H3=>r x l u H3 Q):tSl r te tl th σ H Q:=h
theorem aB3 {z:Str}{lo hi:Option Int} (hz:z.length<=sizeLine) (h:(Txt.slice z lo hi).length<=z.length->Q (.str (Txt.slice z lo hi)) H):aCP (.str z) lo hi H Q:=⟨z,rfl,hz,h (Txt.slice_le _ _ _)⟩
theorem UH {a:Addr}{xs:List V}{lo hi:Option Int} (e:SqL K H a xs) (h:∀p H',H p=none->Same H H'->H' p=some (.lst (AC xs lo hi))->Q (.ref p) H'):VR K (.ref a) lo hi H Q:=⟨a,xs,rfl,e,iH h⟩
theorem aA1 {p:Addr}{a b i:Int} (e:SqL K H p [.int a,.int b]) (h0:0<=i) (h1:i<2) (h:∀v,(i=0/\v=a)∨(i=1/\v=b)->Q (.int v) H):JC K (.ref p) (.int i) H Q:=by
 have:i=0∨i=1:=by lia
 rcases this with rfl|rfl
 ·exact⟨p,_,0,_,rfl,rfl,e,rfl,h a (.inl ⟨rfl,rfl⟩)⟩
 ·exact⟨p,_,1,_,rfl,rfl,e,rfl,h b (.inr ⟨rfl,rfl⟩)⟩
def WZ (ns:List Int)(lo hi:Option Int):List Int:=(ns.drop (HT.sIx ns.length 0 lo)).take (HT.sIx ns.length ns.length hi - HT.sIx ns.length 0 lo)
theorem TY (ns:List Int)(lo hi:Option Int):AC (ns.map V.int) lo hi=(WZ ns lo hi).map V.int:=by
 unfold AC WZ;rw[List.length_map,List.map_take,List.map_drop]
theorem aBI {a:Addr}{ns:List Int}{lo hi:Option Int} (e:SqL K H a (ns.map V.int)) (h:∀p H',H p=none->Same H H'->H' p=some (.lst ((WZ ns lo hi).map V.int))->Q (.ref p) H'):VR K (.ref a) lo hi H Q :=
 UH e (by rw[TY];exact h)
theorem N2 {l b:Addr}{xs zs:List V} (e:H l=some (.lst xs)) (e2:H b=some (.lst zs)) (hn:xs.length+zs.length<=sizeLine) (h:∀p H',H p=none->Same H H'->H' p=some (.lst (xs++zs))->Q (.ref p) H'):aB0 (.ref l) (.ref b) H Q :=
 ⟨l,b,xs,zs,rfl,rfl,e,e2,hn,iH h⟩
theorem aEp {T:String}{r:V->List V->Hp->VK->Prop}{to:TE}{t:TA} (h:to σ H (BmP K T r t σ Q)):tBM K T r to t σ H Q:=h
theorem aDy {r:V->List V->Hp->VK->Prop}{t:TA}{p:Addr}{xs:List V} (e:SqL K H p xs) (h:t σ H fun xs H2=>r (.ref p) xs H2 Q):BmP K "list" r t σ Q (.ref p) H:=⟨.inl ⟨rfl,xs,e⟩,h⟩
structure ICls (K:PySem.W.Frag)(C:Addr):Prop where
 cl:Cls K C
 ha:PySem.W.findIn K (.ref C) "__class__" =some (some (.builtin "object.__class__"))
 hn:PySem.W.specialIn K (.builtin "object.__class__") "__get__" =some (some (.builtin "getset_descriptor.__get__"))
 tk:PySem.W.takesIn K (.builtin "object.__class__")=some true
 hm:PySem.W.mroIn K C (.type "object")=some true
theorem aA9 {a C dx D:Addr}{fs:List (Str×V)}{b:Bool} (e:H a=some (.ins C dx fs)) (ic:ICls K C) (k:PySem.W.kitOne K (.ref C) (.ref D)=some b) (h:Q (.bl b) H):aDo K [.ref a,.ref D] H Q :=
 ⟨.ref a,.ref D,_,_,b,rfl,.ins e ic.cl ic.ha ic.hn ic.tk ic.hm,rfl,k,h⟩
theorem Z1 {z:Str}(hz:z.length<=sizeLine)(h:Q (.int z.length) H):YN [.str z] H Q:=⟨z,rfl,hz,h⟩
theorem ZL {p:Addr}{ys:List V} (e:SqL K H p ys) (h:Q (.int ys.length) H):YG K [.ref p] H Q:=⟨p,ys,rfl,.inl e,h⟩
theorem aBc {i j:Int}(h:Q (.int (max i j)) H):YQ [.int i,.int j] H Q:=⟨i,j,rfl,by
 have e:(if j>i then j else i)=max i j:=by lia
 rw[e];exact h⟩
theorem Z8 {i j:Int}(h:Q (.int (min i j)) H):Y8 [.int i,.int j] H Q:=⟨i,j,rfl,by
 have e:(if j<i then j else i)=min i j:=by lia
 rw[e];exact h⟩
theorem aAT {k:Bool}(h:Q (.int (if k then 1 else 0)) H):YZ [.bl k] H Q:= .inr ⟨k,rfl,h⟩
theorem ST {p:Addr}{ys:List V} (e:SqL K H p ys) (h:∀l H',H l=none->Same H H'->H' l=some (.lst ys)->Q (.ref l) H'):OG K [.ref p] H Q:=⟨p,ys,rfl,.inl e,iH h⟩
variable {B:Bool->Hp->Prop}
theorem aAY (h:te σ H (IB B)):O2 te σ H B:=h
theorem aD9 (h:te σ H (IB B)):tB te σ H B:=h
theorem aCh (h:c σ H fun k H1=>if k=true then d σ H1 B else B false H1):aCX c d σ H B:=h
theorem aEx (h:c σ H fun k H1=>if k=true then B true H1 else d σ H1 B):tOr c d σ H B:=h
theorem aCN (h:c σ H fun k H1=>B (!k) H1):aB4 c σ H B:=h
theorem aDz {b:Bool}{P:Bool->Hp->Prop} (h:P b H):IB P (.bl b) H:=⟨b,rfl,h⟩
theorem RJ {A B:Prop}(h:A):if true=true then A else B:=by rw[if_pos rfl];exact h
theorem KO {A B:Prop}(h:B):if false=true then A else B:=by rw[if_neg Bool.false_ne_true];exact h
theorem Z5 {A B:Prop}(h:B):if (!true)=true then A else B:=KO h
theorem aAl {A B:Prop}(h:A):if (!false)=true then A else B:=RJ h
theorem aCf {p A B:Prop}[Decidable p](hp:¬p)(h:B):if decide p=true then A else B:=by rw[if_neg (by rw[decide_eq_false hp];exact Bool.false_ne_true)];exact h
theorem aAe {p A B:Prop}[Decidable p](hp:p)(h:B):if (!decide p)=true then A else B:=by rw[decide_eq_true hp];exact KO h
theorem c7 {p A B:Prop}[Decidable p](h1:p->A)(h2:¬p->B):if decide p=true then A else B:=DK (fun h=>h1 (of_decide_eq_true h)) fun h=>h2 fun z=>h (decide_eq_true z)
variable {L:List V->Hp->Prop}{O:Option Int->Hp->Prop}{tr:TA}
theorem aCB (h:L [] H):OR σ H L:=h
theorem aAE (h:te σ H fun x H1=>tr σ H1 fun xs H2=>L (x::xs) H2):YV te tr σ H L:=h
theorem RV (h:O none H):NW σ H O:=h
theorem aAP (h:te σ H (aDk O)):YM te σ H O:=h
theorem aDs {i:Int}(h:O (some i) H):aDk O (.int i) H:=⟨i,rfl,h⟩
variable {vs:List V}{gs:TGs}
theorem aAU (h:q σ H):DY [] σ H q:=⟨rfl,h⟩
theorem VA (h:g v σ H fun σ' H'=>gs vs σ' H' q):mK g gs (v::vs) σ H q:=⟨v,vs,rfl,h⟩
theorem aAN {a:Addr}{n:Nat} (e:SqT K H a vs) (hl:vs.length=n) (h:gs vs σ H q):z5 K n gs (.ref a) σ H q:=⟨a,vs,rfl,e,hl,h⟩
variable {R:It->Hp->Prop}
theorem XS (h:te σ H (aDw K R)):YF K te σ H R:=h
theorem FD {a:Addr}{xs:List V} (e:SqL K H a xs) (h:R (Itl K a) H):aDw K R (.ref a) H:=⟨a,rfl,⟨xs,e⟩,h⟩
theorem XF (h:tr σ H (aC1 R)):Y3 tr σ H R:=h
theorem Q8 {j:Int}(h0: -4611686018427387904<=j)(h1:j<4611686018427387904)(h:R (Itr 0 j.toNat) H):aC1 R [.int j] H:=⟨j,rfl,by lia,by lia,h⟩
theorem VF (h:tr σ H (aDd R)):YO tr σ H R:=h
theorem SR {i j:Int}(h0: -4611686018427387904<=i)(h1:i<4611686018427387904)(h2: -4611686018427387904<=j)(h3:j<4611686018427387904)(h:R (Itr i (j - i).toNat) H):aDd R [.int i,.int j] H:=⟨i,j,rfl,⟨by lia,by lia,by lia,by lia⟩,h⟩
theorem dU {a:Addr}{tb:TS} (xs:List V) (Pv:Nat->St->Hp->Prop) (h0:Pv 0 σ H) (hl:∀i σ H,i<=xs.length->Pv i σ H->SqL K H a xs)
  (hs:∀i x σ H,xs[i]? =some x->Pv i σ H->g x σ H fun σ2 H2=>tb ⟨Pv (i+1),rt,nx,Pv (i+1)⟩ σ2 H2)(hd:∀σ H,Pv xs.length σ H->nx σ H):OS (Itl K a) g tb ⟨nx,rt,bk,ct⟩ σ H :=
 VW (D:=⟨nx,rt,bk,ct⟩) Pv h0 hl hs hd
theorem nV {lo:Int}{n:Nat}{tb:TS} (Pv:Nat->St->Hp->Prop) (h0:Pv 0 σ H)
  (hs:∀i σ H,i<n->Pv i σ H->g (.int (lo+i)) σ H fun σ2 H2=>tb ⟨Pv (i+1),rt,nx,Pv (i+1)⟩ σ2 H2)(hd:∀σ H,Pv n σ H->nx σ H):OS (Itr lo n) g tb ⟨nx,rt,bk,ct⟩ σ H :=
 TQ (D:=⟨nx,rt,bk,ct⟩) Pv h0 hs hd
end
section
variable {K:PySem.W.Frag}{te:TE}{σ:St}{ci:List Nat}{rest:St}{fin:List V->Hp->Prop}{H:Hp}{a:Addr}
theorem CV (hr:ci.map (fun i=>(σ[i]?).join)=rest):cG 1 ci σ=none::rest:=by
 unfold cG;rw[hr];rfl
theorem MM {lo:Int}{n:Nat} (P:Nat->V->Prop) (hn:n<=sizeLine) (hr:ci.map (fun i=>(σ[i]?).join)=rest)
  (hs:∀i H1,i<n->Same H H1->∀R:VK,(∀y H2,P i y->Same H1 H2->R y H2)->te (some (.int (lo+i))::rest) H1 R)
  (hf:∀ys H1,Same H H1->ys.length=n->(∀i y,ys[i]? =some y->P i y)->fin ys H1):fO (Itr lo n) (cH 0) AT te (cG 1 ci σ) fin H:=by
 rw[CV hr];refine OY (fun i ys H1=>Same H H1/\ys.length=i/\∀j y,ys[j]? =some y->P j y) hn rfl ⟨Same.refl _,rfl,fun j y h=>by simp at h⟩ (fun i ys H1 ok=>Nat.le_of_eq ok.2.1) (fun ys H1 ok=>hf ys H1 ok.1 ok.2.1 ok.2.2) ?_;intro i ys H1 hi ⟨s1,hl,hp⟩ R hR;refine hs i H1 hi s1 R fun y H2 hy s2=>hR y H2 ⟨s1.trans s2,by simp[hl],fun j z hz=> ?_⟩
 by_cases hj:j<ys.length
 ·rw[List.getElem?_append_left hj]at hz;exact hp j z hz
 ·rw[List.getElem?_append_right (by lia)]at hz;have hj0:j - ys.length=0:=by
   cases e:j - ys.length with
   | zero=>rfl
   | succ k=>rw[e]at hz;simp at hz
  rw[hj0]at hz;have:z=y:=by simpa using hz.symm
  subst this;have:j=i:=by lia
  subst this;exact hy
end
section
variable {K:PySem.W.Frag}{te:TE}{σ:St}{ci:List Nat}{rest:St}{fin:List V->Hp->Prop}{H:Hp}{a:Addr}
theorem PX {α β:Type}{xs:List α}{ys:List β}{f:α->β} (hl:ys.length=xs.length) (h:∀(i:Nat) y,ys[i]? =some y->∃x,xs[i]? =some x/\y=f x):ys=xs.map f:=by
 apply List.ext_getElem?
 intro i;rw[List.getElem?_map];cases e:ys[i]? with
 | none =>
  have:xs[i]? =none:=by
   rw[List.getElem?_eq_none_iff]at e ⊢
   lia
  rw[this];rfl
 | some y =>
  obtain⟨x,hx,rfl⟩:=h i y e;rw[hx];rfl
theorem JG {lo:Int}{n:Nat} (f:Nat->V) (hn:n<=sizeLine) (hr:ci.map (fun i=>(σ[i]?).join)=rest)
  (hs:∀i H1,i<n->Same H H1->∀R:VK,(∀H2,Same H1 H2->R (f i) H2)->te (some (.int (lo+i))::rest) H1 R)
  (hf:∀H1,Same H H1->fin ((List.range n).map f) H1):fO (Itr lo n) (cH 0) AT te (cG 1 ci σ) fin H:=by
 refine MM (fun i y=>y=f i) hn hr (fun i H1 hi s1 R hR=>hs i H1 hi s1 R fun H2 s2=>hR _ H2 rfl s2) ?_;intro ys H1 s1 hl hp;have e:ys=(List.range n).map f:=by
  refine PX (by rw[hl,List.length_range]) fun i y hy=> ?_;have hi:i<n:=by
   rw[←hl];exact(List.getElem?_eq_some_iff.mp hy).1
  exact⟨i,by simp[hi],hp i y hy⟩
 rw[e];exact hf H1 s1
end
theorem Same.at {H H':Hp}{b:Addr}{o:HO} (s:Same H H') (h:H b=some o):H' b=some o:=s b o h
def SameBut (p:Addr)(H H':Hp):Prop:=∀b o,H b=some o->b≠p->H' b=some o
theorem SameBut.upd {p:Addr}{H:Hp}{o:HO}:SameBut p H (upd H p o):=fun b u e hb=>by rw[aS hb];exact e
theorem SameBut.trans {p:Addr}{H H1 H2:Hp} (a:SameBut p H H1) (b:SameBut p H1 H2):SameBut p H H2:=fun c o h hc=>b c o (a c o h hc) hc
theorem Same.but {p:Addr}{H H':Hp} (s:Same H H'):SameBut p H H':=fun b o e _=>s b o e
theorem SameBut.same {p:Addr}{H H0 H':Hp} (n:H0 p=none) (s:Same H0 H) (b:SameBut p H H'):Same H0 H':=fun c o e=>b c o (s c o e) (bJ e n)
theorem aT {t:TS}{D:jZ}{N:List Str}{vs:List V}{σ:St}{H:Hp} (e:start N vs=σ) (h:t D σ H):t D (start N vs) H:=e▸h
theorem SameBut.refl {p:Addr}{H:Hp}:SameBut p H H:=fun _ _ e _=>e
theorem SameBut.snoc {p:Addr}{H H1 H2:Hp} (b:∀c o,H1 c=some o->c≠p->H2 c=some o) (a:SameBut p H H1):SameBut p H H2:=fun c o h hc=>b c o (a c o h hc) hc
theorem SameBut.snocS {p:Addr}{H H1 H2:Hp} (b:Same H1 H2) (a:SameBut p H H1):SameBut p H H2:=fun c o h hc=>b c o (a c o h hc)
theorem Same.snoc {H H1 H2:Hp}(b:Same H1 H2)(a:Same H H1):Same H H2:=a.trans b
theorem aAV {f:Str}{v:V}{fs:List (Str×V)}:(cZ f v fs).lookup f=some v:=by rw[oS,if_pos rfl]
theorem aEl {f g:Str}{v:V}{o:Option V}{fs:List (Str×V)} (h:decide (g=f)=false) (l:fs.lookup g=o):(cZ f v fs).lookup g=o:=by rw[oS,if_neg (of_decide_eq_false h)];exact l
theorem aCU {f:Str}:([]:List (Str×V)).lookup f=none:=rfl
section
variable {K:PySem.W.Frag}{x qual:Str}{st:Stmt}{kV doc pm cdv ct:Value}{an:Option Addr}{ps:List Str}
theorem aR (h:∀us:List Value,us.length=ps.length->bindArgs (PySem.W.fnOf x qual (aL st) (aJ st) (aB st) .none kV doc pm an cdv ct) ⟨us,[]⟩=pure (ps.zip us)) :
  Binds K (PySem.W.fnOf x qual (aL st) (aJ st) (aB st) .none kV doc pm an cdv ct) ps []:= .all h
theorem kB (k:Nat){T:Addr}{ds:List Value}{oc:Value}{od:Option Addr}{sl:Array (Option Value)}{items:Array Value}{n:Nat} (lt:K.lookup T=some ⟨oc,od,.seq items n,sl⟩)
  (h:∀us:List Value,us.length=k->∃k,bindArgs (PySem.W.fnOf x qual (aL st) (aJ st) (aB st) (.ref T) kV doc pm an cdv ct) ⟨us,[]⟩=seqItems? (.ref T) >>= k/\k (some items)=pure (ps.zip (us++ds)))(hk:k+ds.length=ps.length:=by rfl) :
  Binds K (PySem.W.fnOf x qual (aL st) (aJ st) (aB st) (.ref T) kV doc pm an cdv ct) ps ds:=fun s us hK hl=>by
 obtain⟨k,h1,h2⟩:=h us (by rw[List.length_append]at hl;lia);exact .of_defaults (T:=T) (items:=items) (n:=n) rfl (hK T _ lt) rfl h1 h2
theorem VL {C:Addr}:PySem.W.kitOne K (.ref C) (.ref C)=some true:=by
 unfold PySem.W.kitOne;rw[if_pos (beq_self_eq_true _)]
end
theorem bY (s:String):(Str.ofString s).length=s.length:=by
 rw[Str.ofString_eq_toList];show (s.toList.map Char.toNat).toArray.size=_;rw[List.size_toArray,List.length_map,String.length_toList]
def sgB (c:Nat):Bool:=decide (97<=c)&&decide (c<=122)
def kN (z:Str):Bool:=z.cps.toList.all sgB
def bI (z:Str):Bool:=decide (1<=(z.length:Int))&&decide ((z.length:Int)<=8)&&kN z
theorem TF {z:Str}(h:bI z=true):z.length<=8:=by
 unfold bI at h;simp only[Bool.and_eq_true,decide_eq_true_eq]at h
 lia
theorem W1 {z:Str}(h0:1<=z.length)(h1:z.length<=8)(h2:kN z=true):bI z=true:=by
 unfold bI;simp only[Bool.and_eq_true,decide_eq_true_eq];exact⟨⟨by lia,by lia⟩,h2⟩
theorem IO {c:Nat}{z:Str} (h:kN z=true) (hc:c∈z.cps.toList):kN ⟨#[c]⟩=true:=by
 unfold kN at h ⊢;rw[List.all_eq_true]at h;show [c].all sgB=true;rw[List.all_cons,h c hc];rfl
theorem TD {z:Str}{l u:Option Int}{c:Nat} (h:c∈(Txt.slice z l u).cps.toList):c∈z.cps.toList:=by
 unfold Txt.slice at h
 split at h
 ·exact h
 ·rw[List.toList_toArray]at h;obtain⟨i,_,hi⟩:=List.mem_filterMap.mp h;rw[←Array.getElem?_toList]at hi;exact List.mem_of_getElem? hi
theorem mW {z:Str}{l u:Option Int} (h:kN z=true):kN (Txt.slice z l u)=true:=by
 unfold kN at h ⊢;rw[List.all_eq_true]at h ⊢;exact fun c hc=>h c (TD hc)
theorem zT (x y:Str):(x++y).cps.toList=x.cps.toList++y.cps.toList:=by
 show (x.cps++y.cps).toList=_;simp
theorem g9 (x y:Str):(x++y).length=x.length+y.length:=by
 show (x.cps++y.cps).size=_;rw[Array.size_append];rfl
theorem EE (c:Nat):(⟨#[c]⟩:Str).length=1:=rfl
theorem JQ {x y:Str}(h:kN x=true)(h':kN y=true):kN (x++y)=true:=by
 unfold kN at h h' ⊢;rw[zT,List.all_append,h,h'];rfl
end L2
namespace L2
open PySem PySem.Spec PyProof.Rows
section
variable {prog:Program}{w:World}{A:Around}{E:Value->Shared->Prop}{s:Shared}
end
section
variable {X:Cx}{pos:Pos}
end
section
variable {nx bk ct:St->Hp->Prop}{rt:VK}{σ:St}{H:Hp}{g:TG}{K:PySem.W.Frag}{a:Addr}{tb:TS}{xs:List V}
end
theorem aAk {H:Hp}{Q:VK}{i j:Int} (h0:0<j) (h:0<=i%j->i%j<j->Q (.int (i%j)) H):rI (fun _ j=>0<j) (fun i j=> .int (i%j)) (.int i) (.int j) H Q:=⟨i,j,rfl,rfl,h0,h (Int.emod_nonneg _ (by lia)) (Int.emod_lt_of_pos _ h0)⟩
end L2
namespace L2
open PySem PySem.Spec PyProof.Rows PySem.W
section
variable {prog:Program}{w:World}{A:Around}{E:Value->Shared->Prop}{h:Heap}{g:Array GenState}{d:Drawn}{t:Nat}{os:OsState}{a C:Addr}{o:Obj}{vs:Array Value}{K:Frag}
end
end L2
namespace L2
open PySem PySem.Spec PyProof.Rows PySem.W
section
variable {M:Model}{A:Around}{E:Value->Shared->Prop}{s:Shared}{base:Heap}{env:Env}{outer:List Env}{L ea:Addr}{Q:Unit->Shared->Prop}
end
end L2
namespace L2
open PySem PySem.Spec PyProof.Rows PySem.W
section
variable {P:Program}{w:World}{H H':Hp}{h h':Heap}{a:Addr}{o:HO}
end
section
variable {X:Cx}{pins:List (Addr×Obj)}{σ:St}{H H1:Hp}{s s1:Shared}{h2 B:Heap}
end
end L2
namespace L2
open PySem PySem.Spec PyProof.Rows PySem.W
section
variable {X:Cx}{E:XK}{x:Str}{C:Addr}{np cpos pos:Pos}{e:Expr}{es:List Expr}{t:TA}
end
section
variable {X:Cx}{k k':Nat}{sp:Sp}{x m:Str}{p pos apos:Pos}{e o:Expr}{es:List Expr}{ta:TE}{t:TA}{C:Addr}{dvs:List V}{E:XK}{ps:List Str}
end
section
variable {P:Program}{w:World}{K:PySem.W.Frag}{mg:Str->Option Value}{base:Heap}
end
end L2
namespace L2
open PySem PySem.Spec PyProof.Rows PySem.W
section
variable {M:Model}{A:Around}{E:Value->Shared->Prop}{s:Shared}{base:Heap}{env:Env}{outer:List Env}{L ea:Addr}{Q:Unit->Shared->Prop}
end
end L2
namespace L2
open PySem PySem.Spec PyProof.Rows PySem.W
section
variable {X:Cx}{pins:List (Addr×Obj)}{σ:St}{H:Hp}{s:Shared}{ea:Addr}
end
section
variable {X:Cx}{k k':Nat}{sp:Sp}{x m:Str}{p pos apos:Pos}{e o:Expr}{es:List Expr}{ta:TE}{t:TA}{C f:Addr}{dvs:List V}{ds:List Value}{R:XK}{ps:List Str}{fd:FuncData}
end
section
variable {X:Cx}{k k':Nat}{sp:Sp}{x m:Str}{p pos apos:Pos}{e o:Expr}{es:List Expr}{ta:TE}{t:TA}{C:Addr}{dvs:List V}{R:XK}
end
section
variable {X:Cx}{i:Nat}{n x:Str}{T:Addr}{np hpos pos epos:Pos}{e:Expr}{tc:XK->TE}{b₀:Stmt}{suite:List Stmt}{ts:TS}
end
end L2
namespace L2
open PySem PySem.Spec PyProof.Rows PySem.W
section
variable {X:Cx}{x:Str}{j:Nat}{p pos:Pos}{e v1 v2:Expr}{es:List Expr}{te:TE}{t:TJ}
end
end L2
namespace L2
open PySem PySem.W
section
variable {K:Frag}{C D:Addr}{cd:ClassData}{b:Bool}
end
variable {K:Frag}{H:Hp}{Q:VK}
end L2
namespace L2
open PySem PySem.W
end L2
set_option maxHeartbeats 4000000
namespace L2
open PySem PySem.Spec PyProof.Rows
abbrev kn (o:Obj):HO:= .frz o (.ext fun _=>True)
theorem ID {P:Program}{w:World}{H:Hp}{h:Heap}{a:Addr}{o:Obj} (e:h.get? a=some o):ObjOk P w H h a (kn o):=⟨e,trivial,⟨o,e⟩,fun _ _ _ _=>trivial⟩
theorem xV {P:Program}{w:World}{H:Hp}{h:Heap}{a:Addr}{o:Obj} (x:HOk P w H h) (e:H a=some (kn o)):h.get? a=some o:=(x a _ e).1
section
variable {X:Cx}{pins:List (Addr×Obj)}{σ:St}{H:Hp}{s:Shared}
end
section
variable {X:Cx}{CX:CXT}{k k':Nat}{sp:Sp}{E:XK}{x y:Str}{p pos:Pos}{e:Expr}{es:List Expr}{t:TA}{i:Nat}{c:Addr}
end
def cxL (CX:CXT)(P:Program)(w:World)(K:PySem.W.Frag)(mg:Str->Option Value)(base:Heap)(N:List Str)(qual:Str)(scope:Scope)(f:Addr)(cd:Value)(cl:List (Str×Addr))(A:Around)(outer:List Env)(s:Shared)(H:Hp)(E:XK):Cx where
 prog:=P
 w:=w
 K:=K
 mg:=mg
 base:=base
 A:=A.deeper (PySem.W.envX qual scope s.heap.objs.size f cd cl)
 N:=N
 s₀:=s
 H₀:=H
 env:=PySem.W.envX qual scope s.heap.objs.size f cd cl
 outer:=outer
 stack:=PySem.W.envX qual scope s.heap.objs.size f cd cl::outer
 ex:=[]
 calm:=true
 fn:=fun _=>false
 pn:=[]
 xe:=fun e s'=>wpAny (model P w) (A.deeper (PySem.W.envX qual scope s.heap.objs.size f cd cl)) (leaving (PySem.W.envX qual scope s.heap.objs.size f cd cl) e) (fun _ s''=>CX outer H s E e s'') (fun e' s''=>CX outer H s E e' s'') s'
section
variable {P:Program}{w:World}{K:PySem.W.Frag}{mg:Str->Option Value}{base:Heap}
end
section
variable {X:Cx}{k k':Nat}{x:Str}{p pos:Pos}{e:Expr}{es:List Expr}{t:TA}
def aCj (F:Addr->FuncData->List Str->Sp->Prop)(K:PySem.W.Frag)(i:Nat)(t:TA):TE:=fun σ H Q=>∃f o fd,σ[i]? =some (some (.ref f))/\H f=some (kn o)/\o.data= .func fd ∧
 t σ H fun vs H1=>∃ps sp,H1 f=some (kn o)/\Binds K fd ps []/\F f fd ps sp/\sp vs H1 Q E0
theorem NR {h:Heap}{f:Addr}{o:Obj}{fd:FuncData} (e:h.get? f=some o) (d:o.data= .func fd):PySem.W.FnAt f h:=by
 obtain⟨oc,od,dt,sl⟩:=o;have d':dt= .func fd:=d;subst d';exact⟨oc,od,fd,sl,e⟩
theorem XB (k:Nat)(i:Nat)(hr:Room k' X.A)(ha:PA X (e::es) t)(hk:k<=k':=by decide)(hN:X.N[i]? =some x:=by rfl)(hv:Vis X.env.scope x:=by first|exact Or.inl rfl|exact Or.inr (Or.inl rfl)|exact Or.inr (Or.inr rfl))
  (hdb:(x==("__debug__" :Str))=false:=by decide)(hcd:(x==("__classdict__" :Str))=false:=by decide)(he:starEach (e::es) X.env=(false,eval e X.env)::starEach es X.env:=by rfl)(hpl:(backTo pos (starEach es X.env)).any (·.1)=false:=by rfl) :
  PE X (.Call (.Name x p) (e::es) [] pos) (aCj (fun f fd ps sp=>FnOk X.prog X.w X.K X.mg X.base CX0 k f fd ps sp) X.K i t):=by
 intro pins s σ H Q I h;obtain⟨f,o,fd,hi,hf,hd,h⟩:=h;refine wpAny_Call_Name_kw (thn (RE (i:=i) hN hv hdb hcd pins s σ H (fun v' H'=>v'= .ref f/\H' f=some (kn o)/\t σ H' fun vs H1=>∃ps sp,H1 f=some (kn o)/\Binds X.K fd ps []/\FnOk X.prog X.w X.K X.mg X.base CX0 k f fd ps sp/\sp vs H1 Q E0) I ⟨_,hi,rfl,hf,h⟩) fun u s1 ⟨v1,H1,I1,rv,e1,hf1,q1⟩=> ?_);subst e1;obtain rfl:u=Value.ref f:=rv;refine PySem.W.callWith_F (NR (xV I1.hok hf1) hd) (thn (ha pos pins s1 σ H1 _ I1 q1) fun us s2 ⟨vs,H2,I2,r,ps,sp,hf2,hb,F,q⟩=>⟨NR (xV I2.hok hf2) hd,?_⟩) he hpl;have q':sp (vs++[]) H2 Q E0:=by rw[List.append_nil];exact q
 exact u0 (us:=us) (vs:=vs) F (hr.mono hk) hb .nil tL I2 r q'
end
section
variable {X:Cx}{args:Arguments}{body:Expr}{lsc:Scope}{pos:Pos}{y:Str}{c cL PL:Addr}
end
end L2
namespace L2
open PySem PySem.Spec PyProof.Rows
section
variable {P:Program}{w:World}{K:PySem.W.Frag}{mg:Str->Option Value}{base:Heap}
end
theorem R0 {P:Program}{w:World}{K:PySem.W.Frag}{mg mb:Str->Option Value}{CX:CXT}{k:Nat}{fa a cL PL:Addr}{fd:FuncData}{x:Str}{sp:Sp}{s₁:Shared}{vs:List Value}{ns:List Int}
  (KX:K.In s₁.heap)(hns:s₁.heap.Ns mainGlobals mg)(hb:s₁.heap.Ns builtinsNs mb)(hbb:∀x:Str,x≠ "__name__" ->mb x=bootBuiltins x)(hlim:s₁.heap.NoLimit)(hg:s₁.gens= #[])
  (C:PySem.W.CodeHd s₁.heap cL PL)(hP:s₁.heap.get? PL=some (PySem.W.tabObj #[]))(hKP:K.lookup PL=none)
  (hbm:∃bm ob,mg "__builtins__" =some (.ref bm)/\bm≠builtinsNs/\s₁.heap.get? bm=some ob/\ob.cls= .type "module" /\ob.dict=some builtinsNs/\ob.data= .plain)
  (ha:s₁.heap.get? a=some { cls:= .type "list",data:= .seq vs.toArray })(hi:IntsAre vs ns)(hl:ns.length<=sizeLine)(hr:Room k callerA)
  (F:∀base:Heap,PySem.W.CodeHd base cL PL->base.BuiltinsAt mg PL->FnOk P w K mg base CX k fa fd [x] sp)(hbind:∀(s:Shared) (u:Value),BindsTo s fd ⟨[u],[]⟩ [(x,u)])
  (hsp:∀H:Hp,SqL K H a (ns.map V.int)->H PL=some (.tbl #[])->sp [.ref a] H (fun v _=>v= .bl true) fun _ _ _=>False)
  (hCX:∀H e s',CX [] H s₁ (fun _ _ _=>False) e s'->False) :
  codeAny (model P w) callerA (.call (.ref fa) ⟨[.ref a],[]⟩) (fun r s'=>r= .ok (.ret (.bool true))/\OldK s₁.heap s'.heap/\s'.os=s₁.os/\AllBare s'.gens) s₁:=by
 have rv:=FM hi;have lenV:=hi.length;have naP:a≠PL:=fun z=>by rw[z,hP]at ha;cases ha
 have core:∀H:Hp,H PL=some (.tbl #[])->SqL K H a (ns.map V.int)->HOk P w H s₁.heap->(∀b,H b≠none->b=a∨b=PL)->(H a≠none->K.lookup a=none)->(∀u,H a=some u->∃o xs,u= .frz o (.lst xs)) →
   codeAny (model P w) callerA (.call (.ref fa) ⟨[.ref a],[]⟩) (fun r s'=>r= .ok (.ret (.bool true))/\OldK s₁.heap s'.heap/\s'.os=s₁.os/\AllBare s'.gens) s₁:=by
  intro H hHP hS hok hA hK hfz;have base_of:∀{b:Addr}{o:Obj},s₁.heap.get? b=some o->H b=none->(rS s₁.heap H).get? b=some o:=fun e n=>V7 e n;have noT:∀{b:Addr}{o:Obj},s₁.heap.get? b=some o->o.cls≠ .none->o.cls≠ .type "list" ->H b=none:=fun {b o} e n1 n2=>by
   cases q:H b with
   | none=>rfl
   | some u =>
    rcases hA b (by rw[q];simp) with z|z
    ·rw[z,ha]at e;cases e;exact absurd rfl n2
    ·rw[z,hP]at e;cases e;exact absurd rfl n1
  have noA:∀{b:Addr}{o:Obj}{es:Array DictEntry}{ep:Nat},s₁.heap.get? b=some o->o.data= .dict es ep->H b=none:=fun {b o es ep} e d=>by
   cases q:H b with
   | none=>rfl
   | some u =>
    rcases hA b (by rw[q];simp) with z|z
    ·rw[z,ha]at e;cases e;have d':Data.seq vs.toArray _=Data.dict es ep:=d;cases d'
    ·rw[z,hP]at e;cases e;have d':Data.fields #[]=Data.dict es ep:=d;cases d'
  have nsK:∀{b:Addr}{m:Str->Option Value},s₁.heap.Ns b m->(rS s₁.heap H).Ns b m:=fun {b m} ⟨o,es,ep,e,d,r⟩=>⟨o,es,ep,base_of e (noA e d),d,r⟩
  have hKb:K.In (rS s₁.heap H):=fun b o e=>base_of (KX b o e) (by
   cases q:H b with
   | none=>rfl
   | some u =>
    rcases hA b (by rw[q];simp) with z|z
    ·subst z;rw[hK (by rw[q];simp)]at e;cases e
    ·rw[z,hKP]at e;cases e)
  have hM:Mod K mg (rS s₁.heap H):=⟨hKb,nsK hns,⟨mb,nsK hb,hbb⟩,let ⟨mc,h1,h2⟩:=hlim;⟨mc,nsK h1,h2⟩⟩
  have e0:Env0 P w K mg (rS s₁.heap H) callerA [] s₁ H:=⟨rfl,hM,fun b o e=>aAS e,Nat.le_of_eq (SW _ _),trivial,fun b hb=>absurd (show b∈([]:List Addr) from hb) (by simp),hok,.of_eq hg⟩
  have hC:PySem.W.CodeHd (rS s₁.heap H) cL PL:=by
   obtain⟨o,fv,file,tf,flags,tg,inF,text,tt,e1,e2,r⟩:=C;exact⟨o,fv,file,tf,flags,tg,inF,text,tt,base_of e1 (noT e1 (by rw[e2];intro z;cases z) (by rw[e2];decide)),e2,r⟩
  have hB:(rS s₁.heap H).BuiltinsAt mg PL:=by
   obtain⟨bm,ob,b1,b2,b3,b4,b5,b6⟩:=hbm;refine⟨bm,ob,b1,b2,fun z=> ?_,fun z=> ?_,base_of b3 (noT b3 (by rw[b4];intro z;cases z) (by rw[b4];decide)),b4,b5,b6⟩
   ·obtain⟨o,es,ep,e,hd,_⟩:=hns;rw[z,e]at b3;cases b3;rw[hd]at b6;cases b6
   ·rw[z,hP]at b3;cases b3;cases b4
  refine codeAny_mono ((F _ hC hB).run callerA [] s₁ H ⟨[.ref a],[]⟩ [.ref a] [.ref a] _ _ hr e0 (hbind s₁ (.ref a)) (.cons rfl .nil) (hsp H hS hHP)) fun r s' h=> ?_;cases r with
  | error e=>exact(hCX H e s' h).elim
  | ok fl =>
   cases fl with
   | next=>exact False.elim h
   | brk=>exact False.elim h
   | cont=>exact False.elim h
   | ret u =>
    obtain⟨v,H',os,bare,un,hok',r',q⟩:=h;have q':v= .bl true:=q;subst q';obtain rfl:u=Value.bool true:=r';have kept:∀b o,b≠PL->s₁.heap.get? b=some o->s'.heap.get? b=some o:=fun b o nb e=>by
     cases q:H b with
     | none=>exact un.keep b o e q (by intro z;exact absurd (show b∈([]:List Addr) from z) (by simp)) (by simp)
     | some u =>
      rcases hA b (by rw[q];simp) with z|z
      ·subst z;obtain⟨ob,xs,rfl⟩:=hfz u q;have z2:=un.frzs b ob _ q;obtain⟨e1,_⟩:=hok b _ q;obtain⟨e2,_⟩:=hok' b _ z2;rw[e]at e1;cases e1;exact e2
      ·exact absurd z nb
    obtain⟨more,hm⟩:=un.tbls PL #[] hHP;have gP':s'.heap.get? PL=some (PySem.W.tabObj (#[]++more)):=hok' PL _ hm;refine⟨rfl,⟨fun b o e=> ?_,fun b o e=> ?_⟩,os,bare⟩
    ·by_cases hb:b=PL
     ·subst hb;rw[hP]at e;cases e;exact .inr (.inl ⟨(C.tab hP).isCodeTable,rfl,#[],more,rfl,gP'⟩)
     ·exact .inl (kept b o hb e)
    ·by_cases hb:b=PL
     ·subst hb;exact⟨_,gP'⟩
     ·exact⟨o,kept b o hb e⟩
 cases hk:K.lookup a with
 | some o =>
  have e:=KX a o hk;rw[ha]at e;cases e;refine core (fun b=>if b=PL then some (.tbl #[]) else none) (if_pos rfl) (.inr ⟨_,vs.toArray,_,hk,rfl,rfl,rfl,by rw[List.size_toArray,lenV];exact hl,by simpa using rv⟩) (fun b u z=> ?_) (fun b z=> ?_) (fun z=>absurd (if_neg naP) z) (fun u z=> ?_)
  ·by_cases hb:b=PL
   ·have z':=(if_pos hb).symm.trans z;cases z';subst hb;exact hP
   ·have z':=(if_neg hb).symm.trans z;cases z'
  ·by_cases hb:b=PL
   ·exact .inr hb
   ·exact absurd (if_neg hb) z
  ·have z':=(if_neg naP).symm.trans z;cases z'
 | none =>
  have eP:(if PL=a then some (HO.frz { cls:= .type "list",data:= .seq vs.toArray } (.lst (ns.map V.int))) else if PL=PL then some (.tbl #[]) else none)=some (.tbl #[]):=by rw[if_neg (Ne.symm naP),if_pos rfl]
  refine core (fun b=>if b=a then some (.frz { cls:= .type "list",data:= .seq vs.toArray } (.lst (ns.map V.int))) else if b=PL then some (.tbl #[]) else none) eP (.inl (.inr ⟨{ cls:= .type "list",data:= .seq vs.toArray },if_pos rfl⟩)) (fun b u z=> ?_) (fun b z=> ?_) (fun _=>hk) (fun u z=> ?_)
  ·by_cases hb:b=a
   ·have z':=(if_pos hb).symm.trans z;cases z';subst hb;exact⟨ha,by rw[List.length_map];exact hl,vs,_,rv,ha⟩
   ·have z1:=(if_neg hb).symm.trans z
    by_cases hb2:b=PL
    ·have z':=(if_pos hb2).symm.trans z1;cases z';subst hb2;exact hP
    ·have z':=(if_neg hb2).symm.trans z1;cases z'
  ·by_cases hb:b=a
   ·exact .inl hb
   ·by_cases hb2:b=PL
    ·exact .inr hb2
    ·exact absurd ((if_neg hb).trans (if_neg hb2)) z
  ·have z':=(if_pos rfl).symm.trans z;cases z';exact⟨_,_,rfl⟩
section
variable {X:Cx}{o:Expr}{to:TE}{ap pos:Pos}
theorem AU:∀{xs:List V}{us:List Value},xs.length=us.length->(∀(i:Nat) x u,xs[i]? =some x->us[i]? =some u->RelV x u)->Vals xs us
 | [],[],_,_=> .nil
 | [],_::_,h,_=>by simp at h
 | _::_,[],h,_=>by simp at h
 | x::xs,u::us,h,k=> .cons (k 0 x u rfl rfl) (AU (by simpa using h) fun i y w e1 e2=>k (i+1) y w (by simpa using e1) (by simpa using e2))
end
structure DcD (P:Program)(w:World)(K:PySem.W.Frag)(mg:Str->Option Value)(base:Heap)(x m:Str)(k:Nat)(dvs:List V)(sp:Sp):Prop where
 ex:∃C f fd ps ds,mg x=some (.ref C)/\PySem.W.specialIn K (.ref C) "__getattribute__" =some (some (.builtin "type.__getattribute__"))/\PySem.W.readsIn K C (.type "type")=true/\PySem.W.findCls K (.ref C) (.type "type") m=some (.val (.ref f)) ∧
  PySem.W.keepIn K (.ref f)=true/\Vals dvs ds/\Binds K fd ps ds/\FnOk P w K mg base CX0 k f fd ps sp
section
variable {X:Cx}{k k':Nat}{sp:Sp}{x m:Str}{p pos apos:Pos}{e:Expr}{es:List Expr}{t:TA}{dvs:List V}
theorem aCw {pl:Sem Bool}(F:DcD X.prog X.w X.K X.mg X.base x m k dvs sp)(hr:Room k' X.A)(ha:PA X (e::es) t)(hk:k<=k':=by decide)(hg:Gl X x:=by rfl)(hdb:(x==("__debug__" :Str))=false:=by decide)
  (hst:starEach (e::es) X.env=(false,eval e X.env)::starEach es X.env:=by rfl)(hpl:(backTo pos (starEach es X.env)).any (·.1)=false:=by rfl)
  (ht:eval (.Call (.Attribute (.Name x p) m apos) (e::es) [] pos) X.env=(do
   let ov ←eval (.Name x p) X.env
   standAt apos.atName
   let (f,first) ←holding [ov] (getMethod ov m pl)
   callWith pos f first (backTo pos (starEach (e::es) X.env)) (backToKw pos (keywordEach [] X.env))):=by rfl) :
  PE X (.Call (.Attribute (.Name x p) m apos) (e::es) [] pos) (tV sp dvs E0 t):=by
 intro pins s σ H Q I h;obtain⟨C,f,fd,ps,ds,hm,hga,hrd,hfc,kp,hd,hb,G⟩:=F.ex;refine PySem.W.methodCall_KW (pl:=pl) (uT I hg hm ?_ hdb) ht;refine PySem.W.method_cls I.kIn hga (PySem.W.cls_value I.kIn hrd hfc (xJ (v:= .ref f) rfl) ?_);have I1:=I.tok (s.toks+1);refine PySem.W.callWith_K (first:=[]) (h₀:=X.base) I.ok.mod.kin kp (thn (ha pos pins _ σ H _ I1 h) fun us s2 ⟨vs,H2,I2,r,q2⟩=>⟨I2.kIn,?_⟩) hst hpl;exact u0 G (hr.mono hk) hb hd tL I2 r q2
theorem J2 {E:XK}{σ:St}{H:Hp}{Q:VK} (h:t σ H fun vs H1=>sp (vs++dvs) H1 Q E):tV sp dvs E t σ H Q:=h
end
end L2
namespace L2
open PySem PySem.Spec PyProof.Rows
def aDX (H:Hp)(c:Addr)(v:V):Prop:=∃o u,H c=some (kn o)/\o.data= .cell (some u)/\RelV v u
def off (H:Hp)(c:Addr):Hp:=fun b=>if b=c then none else H b
theorem IZ {H:Hp}{c:Addr}:off H c c=none:=by unfold off;rw[if_pos rfl]
theorem i6 {H:Hp}{c b:Addr} (h:b≠c):off H c b=H b:=by unfold off;rw[if_neg h]
theorem XM {H:Hp}{c b:Addr}{u:HO} (h:off H c b=some u):b≠c/\H b=some u:=by
 by_cases hb:b=c
 ·subst hb;rw[IZ]at h;cases h
 ·rw[i6 hb]at h;exact⟨hb,h⟩
theorem VB {H:Hp}{c:Addr}{u:HO} (h:H c=some u):upd (off H c) c u=H:=by
 funext b
 by_cases hb:b=c
 ·subst hb;rw[bE,h]
 ·rw[aS hb,i6 hb]
section
variable {P:Program}{w:World}
theorem aAH {H:Hp}{h:Heap}{c:Addr}{o:Obj} (x:HOk P w H h) (e:H c=some (kn o)):HOk P w (off H c) h:=fun b u q=>by
 obtain⟨hb,q'⟩:=XM q;refine(x b u q').stay (fun _ _ _ z=>z) (fun d z=> ?_) fun d xs z=> ?_
 ·rw[i6 (by rintro rfl;rw[e]at z;cases z)];exact z
 ·rw[i6 (by rintro rfl;rw[e]at z;cases z)];exact z
theorem aB9 {H:Hp}{h:Heap}{c:Addr}{o:Obj} (x:HOk P w H h) (n:H c=none) (g:h.get? c=some o):HOk P w (upd H c (kn o)) h:=fun b u q=>by
 by_cases hb:b=c
 ·subst hb;rw[bE]at q;cases q;exact ID g
 ·rw[aS hb]at q;exact(x b u q).stay (fun _ _ _ z=>z) (fun d z=>by rw[aS (bJ z n)];exact z) fun d xs z=>by rw[aS (bJ z n)];exact z
theorem aCT {fs:List Addr}{H H':Hp}{h h':Heap}{c:Addr}{o:Obj} (e:H c=some (kn o)) (g:h.get? c=some o) (hf:c∉fs) (x:Un fs [] (off H c) H' h h'):Un fs [] H (upd H' c (kn o)) h h' where
 keep:=fun b ob q n hb hx=>x.keep b ob q (by rw[i6 (by rintro rfl;rw[e]at n;cases n)];exact n) hb hx
 slot:=fun b ob q n hb hx=>x.slot b ob q (by rw[i6 (by rintro rfl;rw[e]at n;cases n)];exact n) hb hx
 free:=fun b ob q n hx=>by
  have hb:b≠c:=by rintro rfl;rw[e]at n;cases n
  rw[aS hb];exact x.free b ob q (by rw[i6 hb];exact n) hx
 there:=x.there
 tups:=fun b xs q=>by
  have hb:b≠c:=by rintro rfl;rw[e]at q;cases q
  rw[aS hb];exact x.tups b xs (by rw[i6 hb];exact q)
 frzs:=fun b ob u q=>by
  by_cases hb:b=c
  ·subst hb;rw[e]at q;cases q;exact bE
  ·rw[aS hb];exact x.frzs b ob u (by rw[i6 hb];exact q)
 tbls:=fun b ps q=>by
  have hb:b≠c:=by rintro rfl;rw[e]at q;cases q
  obtain⟨m,z⟩:=x.tbls b ps (by rw[i6 hb];exact q);exact⟨m,by rw[aS hb];exact z⟩
end
section
variable {P:Program}{w:World}{K:PySem.W.Frag}{mg:Str->Option Value}{base:Heap}
end
def SPr (X:Cx)(pins:List (Addr×Obj))(D:jZ)(R:St->V->Hp->Prop)(f:Flow)(s':Shared):Prop :=
 match f with
 | .ret u=>∃v σ' H',Inv X pins σ' H' s'/\RelV v u/\(D.rt v H'∨R σ' v H')
 | f=>SP X pins D f s'
def PRs (X:Cx)(st:List Stmt)(t:jZ->(St->V->Hp->Prop)->St->Hp->Prop):Prop :=
 ∀(pins:List (Addr×Obj)) (s:Shared) (σ:St) (H:Hp) (D:jZ) (R:St->V->Hp->Prop),Inv X pins σ H s->t D R σ H->wpAny (model X.prog X.w) X.A (execs st X.env) (SPr X pins D R) X.xe s
section
variable {X:Cx}{st:Stmt}{rest:List Stmt}{t:TS}{u:jZ->(St->V->Hp->Prop)->St->Hp->Prop}{e:Expr}{te:TE}{pos:Pos}
def YY (te:TE):jZ->(St->V->Hp->Prop)->St->Hp->Prop:=fun _ R σ H=>te σ H (R σ)
theorem ZG {D:jZ}{R:St->V->Hp->Prop}{σ:St}{H:Hp} (h:te σ H (R σ)):YY te D R σ H:=h
theorem aAa (he:PE X e te):PRs X [.Return (some e) pos] (YY te):=by
 intro pins s σ H D R I h;refine wpAny_execs_cons ?_;exact wpAny_Return_some (thn (he pins s σ H _ I h) fun v s1 ⟨x,H1,I1,r1,q1⟩=>⟨x,σ,H1,I1,r1,.inr q1⟩)
end
theorem aD8 {fs:List Addr}{H H':Hp}{h h':Heap}{c:Addr}{u:HO} (n:H' c=none) (hc:h.objs.size<=c) (x:Un fs [] H H' h h'):Un fs [] H (upd H' c u) h h' where
 keep:=x.keep
 slot:=x.slot
 free:=fun b ob q n' hx=>by
  rw[aS (Nat.ne_of_lt (Nat.lt_of_lt_of_le (Heap.lt_size q) hc))];exact x.free b ob q n' hx
 there:=x.there
 tups:=fun b xs q=>by rw[aS (bJ (x.tups b xs q) n)];exact x.tups b xs q
 frzs:=fun b ob u' q=>by rw[aS (bJ (x.frzs b ob u' q) n)];exact x.frzs b ob u' q
 tbls:=fun b ps q=>by
  obtain⟨m,z⟩:=x.tbls b ps q;exact⟨m,by rw[aS (bJ z n)];exact z⟩
section
variable {P:Program}{w:World}{K:PySem.W.Frag}{mg:Str->Option Value}{base:Heap}
end
section
open PySem.W
variable {X:Cx}{i j:Nat}{n x y:Str}{T:Addr}{np yp hpos pos epos:Pos}{e:Expr}{tc:XK->TE}{b₀:Stmt}{suite:List Stmt}{ts:TS}
end
end L2
namespace L2
open PySem PySem.Spec PyProof.Rows
theorem RZ {t:jZ->(St->V->Hp->Prop)->St->Hp->Prop}{D:jZ}{R:St->V->Hp->Prop}{N:List Str}{vs:List V}{σ:St}{H:Hp} (e:start N vs=σ) (h:t D R σ H):t D R (start N vs) H:=e▸h
theorem walk_ofT2 {l:PySem.W.OpenLaw}{n k:Nat}{q:Program}{loose:List Str}{XP:(Str->Option Value)->Heap->Prop}{YP:World->Heap->Prop}{d d2:DefRec}{K:Params->PySem.W.Frag}{CX:World->CXT}{sp:World->Addr->Sp}{x:Str}
  (hn:l.most=some n)(hn2:n<=sizeLine)(hdf:d.params.defaults=[])(hr:Room k callerA)(hrec:d2∈recsOf q)(hnt:∀w:World,PySem.W.noTabs (K w.params)=true)
  (hY:∀(w:World) (h:Heap),YP w h->(K w.params).In h)
  (F:∀(w:World) (mg:Str->Option Value) (fa:Addr) (h:Heap),(K w.params).In h->h.Ns mainGlobals mg->mg d.name=some (.ref fa) →
   ∃(fd:FuncData) (f2:Addr) (fd2:FuncData),mg d2.name=some (.ref f2)/\(∃oc od osl,(K w.params).lookup f2=some ⟨oc,od,.func fd2,osl⟩)/\(∀(s:Shared) (u:Value),BindsTo s fd ⟨[u],[]⟩ [(x,u)]) ∧
    ∀(base:Heap) (cL PL:Addr),fd2.code= .ref cL->PySem.W.CodeHd base cL PL->base.BuiltinsAt mg PL->FnOk l.prog w (K w.params) mg base (CX w) k fa fd [x] (sp w PL))
  (hsp:∀(w:World) (PL:Addr) (H:Hp) (a:Addr) (ns:List Int),ns.length<=n->SqL (K w.params) H a (ns.map V.int)->H PL=some (.tbl #[])->sp w PL [.ref a] H (fun v _=>v= .bl true) fun _ _ _=>False)
  (hCX:∀(w:World) (H:Hp) (s:Shared) (e:Value) (s':Shared),CX w [] H s (fun _ _ _=>False) e s'->False) :
  PySem.W.WalkO q loose XP YP l.row.toRowW d [] (fun f vs=>PySem.call f vs):=by
 refine Att.attach_call hn hdf fun w s₀ s₁ mg mb fa o pm cd doc a vs ns G Y ho hd hcd hmg hobj hints hlen hg=> ?_;have KX:=hY w _ Y;obtain⟨fd,f2,fd2,hm2,⟨oc,od,osl,lk⟩,hb,hF⟩:=F w mg fa _ KX G.T.g hmg;obtain⟨a',o',fd',c,PL,h1,h2,h3,h4,h5,h6⟩:=G.T.tab d2 hrec;rw[hm2]at h1;cases h1;have e1:=KX _ _ lk;rw[h2]at e1;cases e1;have h3':fd2=fd':=by injection h3
 subst h3';have C:=PySem.W.CodeHd.of h5 h6;have hKP:(K w.params).lookup PL=none:=by
  cases q:(K w.params).lookup PL with
  | none=>rfl
  | some o2 =>
   have e2:=KX _ _ q;rw[h6.2]at e2;cases e2;have z:=List.all_eq_true.mp (hnt w) (PL,_) (PySem.W.mem_of_lookupK q);exact absurd (show false=true from z) Bool.false_ne_true
 exact R0 KX G.T.g G.T.b G.T.builtins G.T.nolimit hg C h6.2 hKP G.T.bmain hobj hints (Nat.le_trans hlen hn2) hr (fun base hc hB=>hF base c PL h4 hc hB) hb (fun H hS hP=>hsp w PL H a ns hlen hS hP) fun H e s'=>hCX w H s₁ e s'
end L2
namespace L2
open PySem PySem.Spec PyProof.Rows
section
variable {X:Cx}
def aC2 (K:PySem.W.Frag):R2:=fun x y H Q=>∃a b xs,x= .ref a/\y= .ref b/\SqL K H a xs/\SqL K H b []/\Q (.bl (!xs.isEmpty)) H
theorem aCu (hu:X.A.units<cLine):OpR X (compareOp .NotEq) (aC2 X.K):=by
 intro pins s σ H x y v u Q I rx ry h;obtain⟨a,b,xs,rfl,rfl,ha,hb,q⟩:=h;cases rx;cases ry;obtain⟨its,r,pl,hz⟩:=I.list ha;obtain⟨its2,r2,pl2,_⟩:=I.list hb;cases r2;cases xs with
 | nil =>
  cases r;refine SeqAt.RcNeAt.lists (e:=fun _=>true) pl.isList pl2.isList rfl hu (fun j h1=>absurd h1 (Nat.not_lt_zero _)) X.prog X.w X.xe _ ⟨.bl false,H,I,rfl,q⟩
 | cons x xs =>
  cases r with
  | cons r1 r2 =>
   exact SeqAt.RcNeAt.lists_lengths pl.isList pl2.isList (by simp) hu X.prog X.w X.xe _ ⟨.bl true,H,I,rfl,q⟩
theorem aCd {K:PySem.W.Frag}{H:Hp}{Q:VK}{a b:Addr}{xs:List V} (ha:SqL K H a xs) (hb:SqL K H b []) (h:Q (.bl (!xs.isEmpty)) H):aC2 K (.ref a) (.ref b) H Q:=⟨a,b,xs,rfl,rfl,ha,hb,h⟩
end
end L2
namespace L2
open PySem PySem.Spec PyProof.Rows
section
variable {κ:Type}[DecidableEq κ]
def bH (kvs:List (κ×V))(k:κ):Option V:=(kvs.find? fun kv=>decide (kv.1=k)).map (·.2)
def cJ (kvs:List (κ×V))(k:κ)(v:V):List (κ×V) :=
 if (kvs.any fun kv=>decide (kv.1=k))=true then kvs.map (fun kv=>if kv.1=k then (kv.1,v) else kv) else kvs++[(k,v)]
theorem d9 {p:κ×V}{r:List (κ×V)}{k:κ} (e:p.1=k):bH (p::r) k=some p.2:=by simp[bH,List.find?_cons,e]
theorem dI {p:κ×V}{r:List (κ×V)}{k:κ} (e:¬p.1=k):bH (p::r) k=bH r k:=by simp[bH,List.find?_cons,e]
theorem nT (k:κ):∀kvs:List (κ×V),(kvs.any fun kv=>decide (kv.1=k))=(bH kvs k).isSome
 | []=>rfl
 | p::r=>by
  rw[List.any_cons]
  by_cases e:p.1=k
  ·simp only[d9 e,decide_eq_true e,Bool.true_or,Option.isSome_some]
  ·rw[dI e,decide_eq_false e,Bool.false_or];exact nT k r
theorem KD (k j:κ)(y:V):∀kvs:List (κ×V),bH (kvs.map fun kv=>if kv.1=k then (kv.1,y) else kv) j=(bH kvs j).map fun x=>if j=k then y else x
 | []=>rfl
 | p::r=>by
  have ih:=KD k j y r;rw[List.map_cons]
  by_cases h:p.1=k
  ·rw[if_pos h]
   by_cases e:p.1=j
   ·rw[d9 (p:=(p.1,y)) e,d9 e,Option.map_some,if_pos (e.symm.trans h)]
   ·rw[dI (p:=(p.1,y)) e,dI e,ih]
  ·rw[if_neg h]
   by_cases e:p.1=j
   ·rw[d9 (p:=p) e,d9 e,Option.map_some,if_neg (fun z=>h (e.trans z))]
   ·rw[dI (p:=p) e,dI e,ih]
theorem F1 (k j:κ)(y:V):∀kvs:List (κ×V),bH kvs k=none->bH (kvs++[(k,y)]) j=if j=k then some y else bH kvs j
 | [],_=>by
  by_cases e:k=j
  ·rw[if_pos e.symm];exact d9 (p:=(k,y)) e
  ·rw[if_neg (fun z=>e z.symm)];exact dI (p:=(k,y)) e
 | p::r,hn=>by
  rw[List.cons_append];have hk:¬p.1=k:=fun z=>by rw[d9 z]at hn;cases hn
  rw[dI hk]at hn;have ih:=F1 k j y r hn
  by_cases e:p.1=j
  ·rw[d9 e,d9 e,if_neg (fun z=>hk (e.trans z))]
  ·rw[dI e,dI e,ih]
theorem vZ (kvs:List (κ×V))(k j:κ)(y:V):bH (cJ kvs k y) j=if j=k then some y else bH kvs j:=by
 unfold cJ
 by_cases a:(kvs.any fun kv=>decide (kv.1=k))=true
 ·rw[if_pos a,KD];rw[nT]at a
  by_cases e:j=k
  ·obtain⟨x,hx⟩:=Option.isSome_iff_exists.mp a;rw[if_pos e,e,hx,Option.map_some,if_pos rfl]
  ·rw[if_neg e];cases bH kvs j with
   | none=>rfl
   | some x=>rw[Option.map_some,if_neg e]
 ·rw[if_neg a];refine F1 k j y kvs ?_;rw[nT]at a;cases q:bH kvs k with
  | none=>rfl
  | some x=>rw[q]at a;exact(a rfl).elim
theorem jA (kvs:List (κ×V))(k:κ)(v:V):(cJ kvs k v).length<=kvs.length+1:=by
 unfold cJ
 split
 ·rw[List.length_map];lia
 ·rw[List.length_append,List.length_cons,List.length_nil];lia
theorem rO {kvs:List (κ×V)}{k:κ} (v:V) (h:bH kvs k=none):cJ kvs k v=kvs++[(k,v)]:=by
 unfold cJ;rw[nT,h];exact if_neg (by decide)
theorem RelO.isSome_eq {o:Option V}{u:Option Value} (r:RelO o u):o.isSome=u.isSome:=by
 cases o with
 | none=>cases u with
  | none=>rfl
  | some _=>exact(show False from r).elim
 | some _=>cases u with
  | none=>exact(show False from r).elim
  | some _=>rfl
theorem RelO.getD {o:Option V}{u:Option Value}{d:V}{d':Value} (r:RelO o u) (rd:RelV d d'):RelV (o.getD d) (u.getD d'):=by
 cases o with
 | none=>cases u with
  | none=>exact rd
  | some _=>exact(show False from r).elim
 | some _=>cases u with
  | none=>exact(show False from r).elim
  | some _=>exact r
theorem KV.val {kvs:List (κ×V)}{vs:List (κ×Value)} (r:KV kvs vs) (k:κ):RelO (bH kvs k) (valueAt vs k):=by
 unfold KV at r
 induction r with
 | nil=>exact True.intro
 | @cons p q ps qs h t ih =>
  obtain⟨h1,h2⟩:=h
  by_cases e:p.1=k
  ·have e':q.1=k:=h1.symm.trans e;have b:valueAt (q::qs) k=some q.2:=by simp[valueAt,List.find?_cons,e']
   rw[d9 e,b];exact h2
  ·have e':¬q.1=k:=fun z=>e (h1.trans z);have b:valueAt (q::qs) k=valueAt qs k:=by simp[valueAt,List.find?_cons,e']
   rw[dI e,b];exact ih
theorem KV.any {kvs:List (κ×V)}{vs:List (κ×Value)} (r:KV kvs vs) (k:κ):(kvs.any fun kv=>decide (kv.1=k))=vs.any fun kv=>decide (kv.1=k):=by
 unfold KV at r
 induction r with
 | nil=>rfl
 | cons h t ih=>rw[List.any_cons,List.any_cons,ih,h.1]
theorem KV.repl {kvs:List (κ×V)}{vs:List (κ×Value)} (r:KV kvs vs) (k:κ) {y:V}{u:Value} (ry:RelV y u) :
  KV (kvs.map fun kv=>if kv.1=k then (kv.1,y) else kv) (vs.map fun kv=>if kv.1=k then (kv.1,u) else kv):=by
 unfold KV at r ⊢
 induction r with
 | nil=>exact .nil
 | @cons p q ps qs h t ih =>
  rw[List.map_cons,List.map_cons];refine .cons ?_ ih;obtain⟨h1,h2⟩:=h
  by_cases e:p.1=k
  ·rw[if_pos e,if_pos (h1.symm.trans e)];exact⟨h1,ry⟩
  ·rw[if_neg e,if_neg (fun z=>e (h1.trans z))];exact⟨h1,h2⟩
theorem KV.put {kvs:List (κ×V)}{vs:List (κ×Value)} (r:KV kvs vs) (k:κ) {y:V}{u:Value} (ry:RelV y u):KV (cJ kvs k y) (stored vs k u):=by
 unfold cJ stored;rw[r.any k]
 by_cases e:(vs.any fun kv=>decide (kv.1=k))=true
 ·rw[if_pos e,if_pos e];exact r.repl k ry
 ·rw[if_neg e,if_neg e];exact Paired.snoc r ⟨rfl,ry⟩
theorem KV.length {kvs:List (κ×V)}{vs:List (κ×Value)} (r:KV kvs vs):kvs.length=vs.length:=Paired.length r
end
theorem wD {P:Program}{w:World}{k:Key}{u:Value} (r:RelV (kV k) u):(bQ P w).is k u=true:=by
 cases k with
 | inl i=>obtain⟨t,e⟩:=(show ∃t,u=Value.int i t from r);subst e;exact L9 P w i t
 | inr x=>obtain⟨t,e⟩:=(show ∃t,u=Value.str x t from r);subst e;exact MF P w x t
theorem FJ {P:Program}{w:World}:∀{ks:List Key}{us:List Value},Vals (ks.map kV) us->ItemsAre (bQ P w) ks us
 | [],_,r=>by rw[List.map_nil]at r;cases r;exact .nil
 | k::ks,_,r=>by
  rw[List.map_cons]at r;cases r with
  | cons h t=>exact .cons (wD h) (FJ t)
abbrev KT (H:Hp):List (List Key×V)->List (List Key×Addr×Value)->Prop:=Paired fun p q=>p.1=q.1/\H q.2.1=some (.tup (p.1.map kV))/\RelV p.2 q.2.2
theorem KT.val {H:Hp}{kvs:List (List Key×V)}{xs:List (List Key×Addr×Value)} (r:KT H kvs xs) (k:List Key):RelO (bH kvs k) ((atKey xs k).map (·.2)):=by
 induction r with
 | nil=>exact True.intro
 | @cons p q ps qs h t ih =>
  obtain⟨h1,_,h2⟩:=h
  by_cases e:p.1=k
  ·have e':q.1=k:=h1.symm.trans e;have b:atKey (q::qs) k=some q.2:=by simp[atKey,List.find?_cons,e']
   rw[d9 e,b];exact h2
  ·have e':¬q.1=k:=fun z=>e (h1.trans z);have b:atKey (q::qs) k=atKey qs k:=by simp[atKey,List.find?_cons,e']
   rw[dI e,b];exact ih
theorem KT.repl {H:Hp}{kvs:List (List Key×V)}{xs:List (List Key×Addr×Value)} (r:KT H kvs xs) (k:List Key) {y:V}{u:Value} (ry:RelV y u) :
  KT H (kvs.map fun kv=>if kv.1=k then (kv.1,y) else kv) (xs.map (putAt k u)):=by
 induction r with
 | nil=>exact .nil
 | @cons p q ps qs h t ih =>
  rw[List.map_cons,List.map_cons];refine .cons ?_ ih;obtain⟨h1,h2,h3⟩:=h;unfold putAt
  by_cases e:p.1=k
  ·rw[if_pos e,if_pos (h1.symm.trans e)];exact⟨h1,h2,ry⟩
  ·rw[if_neg e,if_neg (fun z=>e (h1.trans z))];exact⟨h1,h2,h3⟩
theorem KT.put {H:Hp}{kvs:List (List Key×V)}{xs:List (List Key×Addr×Value)} (r:KT H kvs xs) (k:List Key) {b:Addr}{y:V}{u:Value} (hb:H b=some (.tup (k.map kV))) (ry:RelV y u) :
  KT H (cJ kvs k y) (storedH xs k b u):=by
 have e:(kvs.any fun kv=>decide (kv.1=k))=(atKey xs k).isSome:=by
  rw[nT,(r.val k).isSome_eq,Option.isSome_map]
 unfold cJ storedH;rw[e]
 by_cases q:(atKey xs k).isSome=true
 ·rw[if_pos q,if_pos q];exact r.repl k ry
 ·rw[if_neg q,if_neg q];exact Paired.snoc r ⟨rfl,hb,ry⟩
theorem KT.keeps {H H':Hp}{kvs:List (List Key×V)}{xs:List (List Key×Addr×Value)} (r:KT H kvs xs) (ht:∀b ys,H b=some (.tup ys)->H' b=some (.tup ys)):KT H' kvs xs :=
 Paired.mapP r fun _ _ z=>⟨z.1,ht _ _ z.2.1,z.2.2⟩
section
variable {P:Program}{w:World}{H:Hp}{h:Heap}{a:Addr}
theorem YS {u:HO}(ok:HOk P w H h)(e:Rd H a u):ObjOk P w H h a u:=e.ok ok
theorem oQ {kvs:List (Key×V)}(ok:HOk P w H h)(e:Rd H a (.dK kvs)):kvs.length<=sizeLine/\(a==sysModules)=false/\∃vs,KV kvs vs/\h.DictOf (bQ P w) a vs :=
 show ObjOk P w H h a (.dK kvs) from YS ok e
theorem YR {kvs:List (Key×V)}(ok:HOk P w H h)(e:H a=some (.dK kvs)):kvs.length<=sizeLine/\(a==sysModules)=false/\∃vs,KV kvs vs/\h.DictOf (bQ P w) a vs:=oQ ok (.inl e)
theorem u5 {ks:List Key}(ok:HOk P w H h)(e:H a=some (.tup (ks.map kV))):(tupleKind (bQ P w)).is h ks a:=by
 obtain⟨_,its,r,o,h1,h2,n,h3⟩:=(show ObjOk P w H h a (.tup (ks.map kV)) from ok a _ e)
 exact⟨o,its.toArray,n,h1,h2,h3,by simpa using FJ r⟩
theorem v5 {kvs:List (List Key×V)}(ok:HOk P w H h)(e:Rd H a (.dT kvs)):kvs.length<=sizeLine/\(a==sysModules)=false ∧
  ∃xs,KT H kvs xs/\h.DictOfH (tupleKind (bQ P w)) a xs:=by
 obtain⟨z,y,xs,r,o,es,ep,h1,h2,h3,h4,h5⟩:=(show ObjOk P w H h a (.dT kvs) from YS ok e)
 refine⟨z,y,xs,r,o,es,ep,h1,h2,h3,h4,fun x hx=> ?_,h5⟩;have all:∀{l:List (List Key×V)}{m:List (List Key×Addr×Value)},KT H l m->∀x∈m,(tupleKind (bQ P w)).is h x.1 x.2.1:=by
  intro l m q
  induction q with
  | nil=>intro x hx;exact nomatch hx
  | @cons p q ps qs hq t ih =>
   intro x hx;rcases List.mem_cons.mp hx with e|hx
   ·subst e;exact u5 ok (by rw[←hq.1];exact hq.2.1)
   ·exact ih x hx
 exact all r x hx
theorem aD0 {kvs:List (List Key×V)}(ok:HOk P w H h)(e:H a=some (.dT kvs)):kvs.length<=sizeLine/\(a==sysModules)=false ∧
  ∃xs,KT H kvs xs/\h.DictOfH (tupleKind (bQ P w)) a xs:=v5 ok (.inl e)
end
def DGet (H:Hp)(a:Addr)(y:V)(r:Option V):Prop :=
 (∃kvs k,Rd H a (.dK kvs)/\y=kV k/\r=bH kvs k)∨∃kvs k b,Rd H a (.dT kvs)/\y= .ref b/\H b=some (.tup (k.map kV))/\r=bH kvs k
def DPut (H:Hp)(a:Addr)(y v:V)(H':Hp):Prop :=
 (∃kvs k,H a=some (.dK kvs)/\y=kV k/\kvs.length<sizeLine/\H'=upd H a (.dK (cJ kvs k v))) ∨
 ∃kvs k b,H a=some (.dT kvs)/\y= .ref b/\H b=some (.tup (k.map kV))/\kvs.length<sizeLine/\H'=upd H a (.dT (cJ kvs k v))
theorem DGet.t {H:Hp}{a b:Addr}{kvs:List (List Key×V)}{k:List Key} (e:H a=some (.dT kvs)) (eb:H b=some (.tup (k.map kV))):DGet H a (.ref b) (bH kvs k):= .inr ⟨kvs,k,b,.inl e,rfl,eb,rfl⟩
theorem DPut.k {H:Hp}{a:Addr}{kvs:List (Key×V)}{k:Key}{v:V} (e:H a=some (.dK kvs)) (hl:kvs.length<sizeLine):DPut H a (kV k) v (upd H a (.dK (cJ kvs k v))):= .inl ⟨kvs,k,e,rfl,hl,rfl⟩
theorem DPut.t {H:Hp}{a b:Addr}{kvs:List (List Key×V)}{k:List Key}{v:V} (e:H a=some (.dT kvs)) (eb:H b=some (.tup (k.map kV))) (hl:kvs.length<sizeLine) :
  DPut H a (.ref b) v (upd H a (.dT (cJ kvs k v))):= .inr ⟨kvs,k,b,e,rfl,eb,hl,rfl⟩
section
variable {X:Cx}{pins:List (Addr×Obj)}{σ:St}{H:Hp}{s:Shared}{a:Addr}{y v:V}{u r:Value}{o:Option V}{A:Around}{E:Value->Shared->Prop}
theorem Inv.big (I:Inv X pins σ H s):sysModules<s.heap.objs.size:=by
 have h:mainGlobals<s.heap.objs.size:=(I.mod.glob.keeps I.bk).lt;exact Nat.lt_trans (by decide) h
theorem FB {Q:Value->Shared->Prop}(hu:A.units+1<cLine)(I:Inv X pins σ H s)(g:DGet H a y (some v))(ry:RelV y u)(h:∀w' s',Inv X pins σ H s'->RelV v w'->Q w' s') :
  wpAny (model X.prog X.w) A (getItem (.ref a) u) Q E s:=by
 rcases g with⟨kvs,k,e,ey,l⟩|⟨kvs,k,b,e,ey,eb,l⟩
 ·subst ey;obtain⟨z,hd,vs,rel,dd⟩:=oQ I.hok e;obtain⟨w',hw,rw'⟩:=RelO.some_of (v:=v) (o:=valueAt vs k) (by rw[l];exact rel.val k);exact wpAny_getItem_of (wD ry) dd.mapOf hw (h w' _ (I.tok _) rw')
 ·subst ey;cases (show u=Value.ref b from ry);obtain⟨z,hd,xs,rel,dd⟩:=v5 I.hok e;obtain⟨w',hw,rw'⟩:=RelO.some_of (v:=v) (o:=(atKey xs k).map (·.2)) (by rw[l];exact rel.val k);obtain⟨p,hp,hp2⟩:=Option.map_eq_some_iff.mp hw;refine wpAny_getItem_heap (tupleKind_room_in1 hu) (u5 I.hok eb) dd hp ?_;rw[hp2];exact h w' _ (I.tok _) rw'
theorem aEV {Q:Value->Shared->Prop}(hu:A.units+1<cLine)(I:Inv X pins σ H s)(g:DGet H a y o)(ry:RelV y u)(h:∀s',Inv X pins σ H s'->Q (.bool o.isSome) s') :
  wpAny (model X.prog X.w) A (compareOp .In u (.ref a)) Q E s:=by
 rcases g with⟨kvs,k,e,ey,l⟩|⟨kvs,k,b,e,ey,eb,l⟩
 ·subst ey;obtain⟨z,hd,vs,rel,dd⟩:=oQ I.hok e;refine wpAny_in_of (wD ry) hd dd.mapOf ?_;rw[←(rel.val k).isSome_eq,←l];exact h _ (I.tok _)
 ·subst ey;cases (show u=Value.ref b from ry);obtain⟨z,hd,xs,rel,dd⟩:=v5 I.hok e;refine wpAny_in_heap (tupleKind_room_in1 hu) (u5 I.hok eb) hd dd ?_;have q:=(rel.val k).isSome_eq;rw[Option.isSome_map]at q;rw[←q,←l];exact h _ (I.tok _)
theorem aAX {Q:Value->Shared->Prop}(hu:A.units+1<cLine)(I:Inv X pins σ H s)(g:DGet H a y o)(ry:RelV y u)(h:∀s',Inv X pins σ H s'->Q (.bool (!o.isSome)) s') :
  wpAny (model X.prog X.w) A (compareOp .NotIn u (.ref a)) Q E s:=by
 rcases g with⟨kvs,k,e,ey,l⟩|⟨kvs,k,b,e,ey,eb,l⟩
 ·subst ey;obtain⟨z,hd,vs,rel,dd⟩:=oQ I.hok e;refine wpAny_notIn_of (wD ry) hd dd.mapOf ?_;rw[←(rel.val k).isSome_eq,←l];exact h _ (I.tok _)
 ·subst ey;cases (show u=Value.ref b from ry);obtain⟨z,hd,xs,rel,dd⟩:=v5 I.hok e;refine wpAny_notIn_heap (tupleKind_room_in1 hu) (u5 I.hok eb) hd dd ?_;have q:=(rel.val k).isSome_eq;rw[Option.isSome_map]at q;rw[←q,←l];exact h _ (I.tok _)
theorem NE {h':Heap}{t':Nat}{ob:HO} (I:Inv X pins σ H s) (mu:Mut (H a)) (hs:Heap.SameBut a s.heap h') (he:∃q,h'.get? a=some q) (new:ObjOk X.prog X.w (upd H a ob) h' a ob) :
  Inv X pins σ (upd H a ob) { s with heap:=h',toks:=t' } :=
 I.write (x:=a) (e:=a) mu (.inl rfl) (fun b q hb z=>(hs.2 b hb).trans z) he new
theorem SE {P:Program}{w:World}{H':Hp}{h':Heap}{kvs:List (Key×V)}{vs:List (Key×Value)} (z:kvs.length<=sizeLine) (hd:(a==sysModules)=false) (rel:KV kvs vs) (dd:h'.DictOf (bQ P w) a vs) :
  ObjOk P w H' h' a (.dK kvs):=⟨z,hd,vs,rel,dd⟩
theorem E7 {H':Hp}{Q:Unit->Shared->Prop} (hu:A.units+1<cLine) (I:Inv X pins σ H s) (g:DPut H a y v H') (ry:RelV y u) (rv:RelV v r) (h:∀s',Inv X pins σ H' s'->Q () s') :
  wpAny (model X.prog X.w) A (setItem (.ref a) u r) Q E s:=by
 rcases g with⟨kvs,k,e,ey,l,eH⟩|⟨kvs,k,b,e,ey,eb,l,eH⟩
 ·subst ey eH;obtain⟨z,hd,vs,rel,dd⟩:=YR I.hok e;have hz:vs.length<=sizeLine:=by rw[←rel.length];exact z
  have hl:(cJ kvs k v).length<=sizeLine:=by have:=jA kvs k v;lia
  refine wpAny_setItem_pairs (hsz:=hz) (wD ry) dd fun h' dd' hs=>h _ ?_;have he:∃q,h'.get? a=some q:=let ⟨q,_,_,hq,_⟩:=dd';⟨q,hq⟩;exact NE I (by rw[e];exact True.intro) hs he (SE hl hd (rel.put k rv) dd')
 ·subst ey eH;cases (show u=Value.ref b from ry);obtain⟨z,hd,xs,rel,dd⟩:=aD0 I.hok e;have hz:xs.length<=sizeLine:=by rw[←Paired.length rel];exact z
  have hl:(cJ kvs k v).length<=sizeLine:=by have:=jA kvs k v;lia
  refine wpAny_setItem_heap (hsz:=hz) (tupleKind_room_in1 hu) (u5 I.hok eb) dd fun h' dd' hs=>h _ ?_;obtain⟨q,es,ep,hq,h2,h3,h4,_,h5⟩:=dd';refine NE I (by rw[e];exact True.intro) hs ⟨q,hq⟩ ⟨hl,hd,_,(rel.put k eb rv).keeps fun c ys ec=> ?_,q,es,ep,hq,h2,h3,h4,h5⟩;rw[aS (aDY ec e (fun z=>nomatch z))];exact ec
end
section
variable {X:Cx}{pins:List (Addr×Obj)}{σ:St}{H:Hp}{s:Shared}{a:Addr}{kvs:List (Key×V)}{k:Key}{u:Value}{A:Around}{E:Value->Shared->Prop}
end
def aCm (i:Expr):Prop:=∀ov iv,subscripted i false ov iv=operate [ov,iv] (getItem ov iv)
theorem aAb {prog:Program}{w:World}{A:Around}{E:Value->Shared->Prop}{s:Shared}{env:Env}{value slice:Expr}{pos:Pos}{T id:String}{Q:Value->Shared->Prop}
  (hl:typeLookup (.type T) "__getitem__" =pure (some (.builtin id)))(hs:aCm slice)
  (h:wpAny (model prog w) A (eval value env) (fun o s₁=>wpAny (model prog w) A (eval slice env) (fun i s₂=>s₂.TypeIs o T/\wpAny (model prog w) A (getItem o i) Q E s₂) E s₁) E s) :
  wpAny (model prog w) A (eval (.Subscript value slice pos) env) Q E s:=by
 refine Subscript_ (wpAny_mono h (fun o s₁ h₁=>wpAny_mono h₁ (fun i s₂ h₂=> ?_) fun _ _ x=>x) fun _ _ x=>x);obtain⟨hT,h₂⟩:=h₂;unfold subscriptTail;refine wpAny_bind ?_;rw[getitemInPython_of_ne hT.not_modules];refine wpAny_bind (wpAny_specialOf hT hl ?_);have fin:wpAny (model prog w) A (subscripted slice false o i) (fun r s₃=>wpAny (model prog w) A (letTemporaryGo value o r >>= fun _=>pure r) Q E s₃) E s₂:=by
  rw[hs o i];exact wpAny_operating (wpAny_mono h₂ (fun r s₃ h₃=>wpAny_bind (wpAny_letTemporaryGo (wpAny_pure h₃))) fun _ _ x=>x)
 first
  | exact wpAny_pure (wpAny_bind fin)
  | exact wpAny_bind (wpAny_pure (wpAny_bind fin))
  | exact wpAny_bind fin
theorem MJ {X:Cx}{pins:List (Addr×Obj)}{σ:St}{H:Hp}{s:Shared}{a:Addr}{y:V}{o:Option V} (I:Inv X pins σ H s) (g:DGet H a y o):s.TypeIs (.ref a) "dict" :=by
 rcases g with⟨kvs,k,e,_,_⟩|⟨kvs,k,b,e,_,_,_⟩
 ·obtain⟨_,_,vs,_,dd⟩:=oQ I.hok e;exact dd.typeIs
 ·obtain⟨_,_,xs,_,dd⟩:=v5 I.hok e;exact dd.typeIs
def YK (td ty:TE):TE:=fun σ H Q=>td σ H fun x H1=>ty σ H1 fun y H2=>∃a v,x= .ref a/\DGet H2 a y (some v)/\Q v H2
def aCl (ty td:TE):TE:=fun σ H Q=>ty σ H fun y H1=>td σ H1 fun x H2=>∃a o,x= .ref a/\DGet H2 a y o/\Q (.bl o.isSome) H2
def OD (ty td:TE):TE:=fun σ H Q=>ty σ H fun y H1=>td σ H1 fun x H2=>∃a o,x= .ref a/\DGet H2 a y o/\Q (.bl (!o.isSome)) H2
def YL (td ty tv:TE):TS:=fun D σ H=>tv σ H fun v H1=>td σ H1 fun x H2=>ty σ H2 fun y H3=>∃a H4,x= .ref a/\DPut H3 a y v H4/\D.nx σ H4
def YW (td ty tv:TE)(rd:V->V->Hp->VK->Prop):TS:=fun D σ H=>td σ H fun x H1=>ty σ H1 fun y H2=>∃a v,x= .ref a/\DGet H2 a y (some v) ∧
 tv σ H2 fun y2 H3=>rd v y2 H3 fun z H4=>∃H5,DPut H4 a y z H5/\D.nx σ H5
section
variable {X:Cx}{o i e value:Expr}{pos pos' tpos:Pos}{td ty tv:TE}
theorem bR (hu:X.A.units+1<cLine)(ho:PE X o td)(hi:PE X i ty)(hs:aCm i):PE X (.Subscript o i pos) (YK td ty):=by
 intro pins s σ H Q I h;refine aAb PySem.F.slot_dict_getitem.lookup hs (thn (ho pins s σ H _ I h) fun u s1 ⟨x,H1,I1,rx,q1⟩=>thn (hi pins s1 σ H1 _ I1 q1) fun iv s2 ⟨y,H2,I2,ry,a,v,ex,g,q2⟩=> ?_);subst ex;obtain rfl:u=Value.ref a:=rx;exact⟨MJ I2 g,FB hu I2 g ry fun w' s3 I3 rw'=>⟨v,H2,I3,rw',q2⟩⟩
theorem aCH (hu:X.A.units+1<cLine)(hi:PE X i ty)(ho:PE X o td):PC X .In i o (aCl ty td):=by
 intro pins s σ H Q I h;refine thn (hi pins s σ H _ I h) fun iv s1 ⟨y,H1,I1,ry,q1⟩=>thn (ho pins s1 σ H1 _ I1 q1) fun u s2 ⟨x,H2,I2,rx,a,ov,ex,g,q2⟩=> ?_;subst ex;obtain rfl:u=Value.ref a:=rx;exact aEV hu I2 g ry fun s3 I3=>⟨.bl ov.isSome,H2,I3,rfl,q2⟩
theorem FN (hu:X.A.units+1<cLine)(hi:PE X i ty)(ho:PE X o td):PC X .NotIn i o (OD ty td):=by
 intro pins s σ H Q I h;refine thn (hi pins s σ H _ I h) fun iv s1 ⟨y,H1,I1,ry,q1⟩=>thn (ho pins s1 σ H1 _ I1 q1) fun u s2 ⟨x,H2,I2,rx,a,ov,ex,g,q2⟩=> ?_;subst ex;obtain rfl:u=Value.ref a:=rx;exact aAX hu I2 g ry fun s3 I3=>⟨.bl (!ov.isSome),H2,I3,rfl,q2⟩
theorem fR (hu:X.A.units+1<cLine)(ho:PE X o td)(hi:PE X i ty)(hv:PE X value tv)(hs:swapsWith value (some (.Subscript o i pos')) pos.line X.env=pure false) :
  PS X (.Assign [.Subscript o i pos'] value pos) (YL td ty tv):=by
 intro pins s σ H D I h;refine wpAny_Assign_Subscript (thn (hv pins s σ H _ I h) fun r s1 ⟨v,H1,I1,rv,q1⟩=>thn (ho pins s1 σ H1 _ I1 q1) fun u s2 ⟨x,H2,I2,rx,q2⟩=>thn (hi pins s2 σ H2 _ I2 q2) fun iv s3 ⟨y,H3,I3,ry,a,H4,ex,g,q3⟩=> ?_) hs;subst ex;obtain rfl:u=Value.ref a:=rx;exact E7 hu I3 g ry rv fun s4 I4=>⟨σ,H4,I4,q3⟩
theorem aA8 {op:Operator}{rd:V->V->Hp->VK->Prop} (hu:X.A.units+1<cLine) (ho:PE X o td) (hi:PE X i ty) (hv:PE X value tv) (hop:aDi X op rd)
  (ha:∀ov iv new,augStore i ov iv new=(do holding [new,ov,iv] (setItem ov iv new);release [new,ov,iv] [];pure .next)):PS X (.AugAssign (.Subscript o i tpos) op value pos) (YW td ty tv rd):=by
 intro pins s σ H D I h;refine wpAny_AugAssign_SubscriptAny (thn (ho pins s σ H _ I h) fun u s1 ⟨x,H1,I1,rx,q1⟩=>thn (hi pins s1 σ H1 _ I1 q1) fun iv s2 ⟨y,H2,I2,ry,a,v,ex,g,q2⟩=> ?_) ha;subst ex;obtain rfl:u=Value.ref a:=rx;refine FB hu I2 g ry fun w' s3 I3 rw'=>thn (hv pins s3 σ H2 _ I3 q2) fun w2 s4 ⟨y2,H3,I4,ry2,q3⟩=>thn (hop pins s4 σ H3 v y2 w' w2 _ I4 rw' ry2 q3) fun w3 s5 ⟨z,H4,I5,rz,H5,g5,q4⟩=> ?_;exact E7 hu I5 g5 ry rz fun s6 I6=>⟨σ,H5,I6,q4⟩
end
theorem VE {P:Program}{w:World}{H:Hp} (h:Heap) (hb:sysModules<h.objs.size):ObjOk P w H (h.push { cls:= .type "dict",data:= .dict #[] }) h.objs.size (.dK []) :=
 ⟨Nat.zero_le _,beq_eq_false_iff_ne.mpr (Ne.symm (Nat.ne_of_lt hb)),[],.nil,Heap.DictOf.new h⟩
theorem XR {P:Program}{w:World}{H:Hp} (h:Heap) (hb:sysModules<h.objs.size):ObjOk P w H (h.push { cls:= .type "dict",data:= .dict #[] }) h.objs.size (.dT []) :=
 ⟨Nat.zero_le _,beq_eq_false_iff_ne.mpr (Ne.symm (Nat.ne_of_lt hb)),[],.nil,_,#[],0,Heap.get?_push_size _ rfl,⟨rfl,rfl,rfl⟩,rfl,rfl,List.nodup_nil⟩
def Q4:TE:=fun _ H Q=>∀p,H p=none->Q (.ref p) (upd H p (.dK []))
def R5:TE:=fun _ H Q=>∀p,H p=none->Q (.ref p) (upd H p (.dT []))
section
variable {X:Cx}{pos:Pos}
theorem rV:PE X (.Dict [] [] pos) Q4:=fun pins s σ H Q I h =>
 wpAny_Dict_empty ⟨.ref s.heap.objs.size,_,I.laid (a:=s.heap.objs.size) (o:= .dK []) (t':=s.toks) (fun _ _ q=>Heap.get?_push_of_some _ q) (Nat.le_refl _) (VE s.heap I.big),rfl,h _ (I.hok.fresh (Nat.le_refl _))⟩
theorem wF:PE X (.Dict [] [] pos) R5:=fun pins s σ H Q I h =>
 wpAny_Dict_empty ⟨.ref s.heap.objs.size,_,I.laid (a:=s.heap.objs.size) (o:= .dT []) (t':=s.toks) (fun _ _ q=>Heap.get?_push_of_some _ q) (Nat.le_refl _) (XR s.heap I.big),rfl,h _ (I.hok.fresh (Nat.le_refl _))⟩
end
def kZ (kvs more:List (Key×V)):List (Key×V):=more.foldl (fun acc kv=>cJ acc kv.1 kv.2) kvs
theorem KV.merge:∀{more:List (Key×V)}{rs:List (Key×Value)}{kvs:List (Key×V)}{vs:List (Key×Value)},KV more rs->KV kvs vs->KV (kZ kvs more) (merged vs rs):=by
 intro more rs kvs vs r;unfold KV at r
 induction r generalizing kvs vs with
 | nil=>intro q;exact q
 | @cons p q ps qs h t ih =>
  intro r0;have e:KV (cJ kvs p.1 p.2) (stored vs q.1 q.2):=by
   have:=r0.put p.1 h.2;rw[←h.1];exact this
  exact ih e
theorem wO:∀(more kvs:List (Key×V)),(kZ kvs more).length<=kvs.length+more.length
 | [],kvs=>by show kvs.length<=kvs.length+0;lia
 | p::r,kvs=>by
  have h1:=wO r (cJ kvs p.1 p.2);have h2:=jA kvs p.1 p.2;show (kZ (cJ kvs p.1 p.2) r).length<=_;rw[List.length_cons];lia
structure M2 (X:Cx)(o:Expr)(m:Str)(apos:Pos)(e f:Expr)(cpos:Pos):Prop where
 base:attributeBase o m X.env (eval o X.env)=eval o X.env
 few:((backTo cpos (starEach [e,f] X.env)).all (fun x=> !x.1)&&(backToKw cpos (keywordEach [] X.env)).all (fun x=>x.1.isSome)
  && decide (([e,f]:List Expr).length+([]:List Keyword).length+(if ([]:List Keyword).isEmpty then 0 else 1)<30))=true
 line:(apos.endLine==cpos.line)=true
 trees:backTo cpos (starEach [e,f] X.env)=[(false,eval e X.env),(false,eval f X.env)]
def IsD (H:Hp)(a:Addr):Prop:=(∃kvs,Rd H a (.dK kvs))∨∃kvs,Rd H a (.dT kvs)
theorem IQ {X:Cx}{pins:List (Addr×Obj)}{σ:St}{H:Hp}{s:Shared}{a:Addr} (I:Inv X pins σ H s) (d:IsD H a) :
  s.TypeIs (.ref a) "dict" /\(∀b,Value.ref a= .ref b->∃ob,s.heap.get? b=some ob/\ob.dict=none)/\(a==sysModules)=false:=by
 rcases d with⟨kvs,e⟩|⟨kvs,e⟩
 ·obtain⟨_,hd,vs,_,dd⟩:=oQ I.hok e;refine⟨dd.typeIs,fun b q=> ?_,hd⟩;cases q;obtain⟨ob,_,_,h1,h2,_⟩:=dd;exact⟨ob,h1,h2.2.1⟩
 ·obtain⟨_,hd,xs,_,dd⟩:=v5 I.hok e;refine⟨dd.typeIs,fun b q=> ?_,hd⟩;cases q;obtain⟨ob,_,_,h1,h2,_⟩:=dd;exact⟨ob,h1,h2.2.1⟩
section
variable {X:Cx}{pins:List (Addr×Obj)}{σ:St}{H:Hp}{s:Shared}{a:Addr}{y d:V}{u r:Value}{o:Option V}{A:Around}{E:Value->Shared->Prop}
theorem aDj {Q:Value->Shared->Prop}(hu:A.units+1<cLine)(I:Inv X pins σ H s)(g:DGet H a y o)(ry:RelV y u)(rd:RelV d r)(h:∀w' s',Inv X pins σ H s'->RelV (o.getD d) w'->Q w' s') :
  wpAny (model X.prog X.w) A (call (.builtin "dict.get") [.ref a,u,r]) Q E s:=by
 rcases g with⟨kvs,k,e,ey,l⟩|⟨kvs,k,b,e,ey,eb,l⟩
 ·subst ey;obtain⟨z,hd,vs,rel,dd⟩:=oQ I.hok e;refine call_meetsIn PySem.F.slot_dict_get dd.typeIs PySem.F.entry_dict_get (PySem.F.args_dict_get_3 _ _ _) (meets_dict_get_default (bQ X.prog X.w) a (wD ry) hd r) ⟨_,dd.mapOf,h _ _ (I.tok _) ?_⟩;rw[l];exact(rel.val k).getD rd
 ·subst ey;cases (show u=Value.ref b from ry);obtain⟨z,hd,xs,rel,dd⟩:=v5 I.hok e;refine call_meetsIn PySem.F.slot_dict_get dd.typeIs PySem.F.entry_dict_get (PySem.F.args_dict_get_3 _ _ _) (meetsH_dict_get_default (tupleKind (bQ X.prog X.w)) a b hd r) ⟨tupleKind_room_in1 hu,k,xs,u5 I.hok eb,dd,h _ _ (I.tok _) ?_⟩;rw[l];exact(rel.val k).getD rd
end
def RP (td ty tx:TE):TE:=fun σ H Q=>td σ H fun x H1=>∃a,x= .ref a/\IsD H1 a/\ty σ H1 fun y H2=>tx σ H2 fun z H3=>∃o,DGet H3 a y o/\Q (o.getD z) H3
section
variable {X:Cx}{o e f:Expr}{apos cpos:Pos}{td ty tx:TE}
theorem nO (hu:X.A.units+1<cLine)(ho:PE X o td)(he:PE X e ty)(hf:PE X f tx)(m:M2 X o "get" apos e f cpos):PE X (.Call (.Attribute o "get" apos) [e,f] [] cpos) (RP td ty tx):=by
 intro pins s σ H Q I h;refine wpAny_Call_method m.base m.few m.line PySem.F.plainAttrs_dict PySem.F.slot_dict_get PySem.F.type_dict_get (thn (ho pins s σ H _ I h) fun u s1 ⟨x,H1,I1,rx,a,ex,d,q1⟩=> ?_);subst ex;obtain rfl:u=Value.ref a:=rx;obtain⟨t1,t2,_⟩:=IQ I1 d;refine⟨t1,t2,?_⟩;rw[m.trees];refine Calls.callWith_builtin rfl (Calls.evalArgs_plain (Calls.spliced_cons (thn (he pins s1 σ H1 _ I1 q1) fun iv s2 ⟨y,H2,I2,ry,q2⟩ =>
  Calls.spliced_cons (thn (hf pins s2 σ H2 _ I2 q2) fun fv s3 ⟨z,H3,I3,rz,ov,g,q3⟩=>Calls.spliced_nil ?_))))
 exact aDj hu I3 g ry rz fun w' s4 I4 rw'=>⟨_,H3,I4,rw',q3⟩
end
section
variable {X:Cx}{pins:List (Addr×Obj)}{σ:St}{H:Hp}{s:Shared}{a:Addr}{kvs:List (Key×V)}{A:Around}{E:Value->Shared->Prop}
end
section
variable {X:Cx}{pins:List (Addr×Obj)}{σ:St}{H:Hp}{s:Shared}{a:Addr}{y:V}{u:Value}{A:Around}{E:Value->Shared->Prop}
end
end L2
namespace L2
open PySem PySem.Spec PyProof.Rows
section
variable {κ:Type}[DecidableEq κ]
theorem NF:∀{l:List κ}{k:κ},l.Nodup->¬k∈l->(l++[k]).Nodup
 | [],k,_,_=>by simp
 | a::r,k,h,hk=>by
  obtain⟨h1,h2⟩:=List.nodup_cons.mp h;show (a::(r++[k])).Nodup;refine List.nodup_cons.mpr ⟨fun m=> ?_,NF h2 fun m=>hk (List.mem_cons.mpr (Or.inr m))⟩;rcases List.mem_append.mp m with q|q
  ·exact h1 q
  ·exact hk (List.mem_cons.mpr (Or.inl (List.mem_singleton.mp q).symm))
end
end L2
namespace L2
open PySem PySem.W PyProof.Rows
def j6 {α:Type}(c:Nat->Nat->Bool):KasT α->α
 | .ret a=>a
 | .ask i j k=>j6 c (k (c i j))
def KasIn {α:Type}(n:Nat)(R:α->Prop):KasT α->Prop
 | .ret a=>R a
 | .ask i j k=>i<n/\j<n/\∀b,KasIn n R (k b)
theorem KasIn.bind {α β:Type}{n:Nat}{R:α->Prop}{S:β->Prop}{f:α->KasT β} (hf:∀a,R a->KasIn n S (f a)):∀{t:KasT α},KasIn n R t->KasIn n S (t.bind f)
 | .ret _,h=>hf _ h
 | .ask _ _ _,h=>⟨h.1,h.2.1,fun b=>KasIn.bind hf (h.2.2 b)⟩
theorem KasIn.val {α:Type}{n:Nat}{R:α->Prop} (c:Nat->Nat->Bool):∀{t:KasT α},KasIn n R t->R (j6 c t)
 | .ret _,h=>h
 | .ask i j k,h=>KasIn.val c (t:=k (c i j)) (h.2.2 (c i j))
theorem KasIn.wp {α:Type}{n:Nat}{R:α->Prop}{c:Nat->Nat->Bool}{cmp:Nat->Nat->(Bool->Shared->Prop)->Shared->Prop}{s:Shared} (hc:∀i j,i<n->j<n->∀C,C (c i j) s->cmp i j C s) {Q:α->Shared->Prop} :
  ∀{t:KasT α},KasIn n R t->Q (j6 c t) s->t.kasWp cmp Q s
 | .ret _,_,q=>q
 | .ask i j k,h,q=>hc i j h.1 h.2.1 _ (KasIn.wp hc (t:=k (c i j)) (h.2.2 (c i j)) q)
abbrev Places (n:Nat)(p:Array Nat):Prop:=p.Perm (List.range n).toArray
theorem Places.lt {n:Nat}{p:Array Nat} (h:Places n p) (h0:0<n) (i:Nat):p.getD i 0<n:=by
 by_cases hi:i<p.size
 ·have e:p.getD i 0=p[i]:=by simp[Array.getD,hi]
  rw[e];have:=h.mem_iff.mp (Array.getElem_mem hi)
  simpa using this
 ·have e:p.getD i 0=0:=by simp[Array.getD,hi]
  rw[e];exact h0
theorem mJ {n:Nat}{p:Array Nat} (h:Places n p) (i j:Nat):Places n (kas_rev p i j):=(mirror_perm _ _ _ _).trans h
theorem KC {n:Nat}{p:Array Nat} (h0:0<n) (hp:Places n p):∀(f k:Nat),KasIn n (fun _=>True) (kas_asc p f k)
 | 0,_=>trivial
 | f+1,k=>⟨hp.lt h0 _,hp.lt h0 _,fun b=>by cases b with|true=>exact trivial|false=>exact KC h0 hp f (k+1)⟩
theorem y8 {n:Nat}(h0:0<n):∀(f:Nat) {p:Array Nat},Places n p->∀k q,KasIn n (fun r:Array Nat×Nat×Nat=>Places n r.1) (kas_desc f p k q)
 | 0,_,hp,_,_=>hp
 | f+1,p,hp,k,q=>by
  refine⟨hp.lt h0 _,hp.lt h0 _,fun b=> ?_⟩;cases b with
  | true =>
   show KasIn n _ (if q>0 then _ else _)
   split
   ·exact y8 h0 f (mJ hp _ _) _ _
   ·exact y8 h0 f hp _ _
  | false =>
   refine⟨hp.lt h0 _,hp.lt h0 _,fun b=> ?_⟩;cases b with
   | true=>exact hp
   | false=>exact y8 h0 f hp _ _
theorem KI {n k m:Nat}{p:Array Nat} (h0:0<n) (hp:Places n p):KasIn n (fun r:Nat×Array Nat=>Places n r.2) (kas_tail3 k m p) :=
 KasIn.bind (R:=fun _=>True) (S:=fun r:Nat×Array Nat=>Places n r.2) (f:=fun j=> .ret (j,kas_rev p 0 k)) (fun _ _=>mJ hp 0 k) (KC h0 (mJ hp 0 k) (m - k) k)
theorem zU {n k m:Nat}{p:Array Nat} (h0:0<n) (hp:Places n p):KasIn n (fun r:Nat×Array Nat=>Places n r.2) (kas_descPart k m p) :=
 KasIn.bind (fun r hr=>by
  split
  ·exact KI h0 (mJ hr _ _)
  ·exact KI h0 hr) (y8 h0 _ hp _ _)
theorem XO {n m:Nat}{p:Array Nat} (h0:0<n) (hp:Places n p):KasIn n (fun r:Nat×Array Nat=>Places n r.2) (kas_count m p) :=
 KasIn.bind (fun k _=>by
  split
  ·exact hp
  ·split
   ·refine⟨hp.lt h0 _,hp.lt h0 _,fun b=> ?_⟩;cases b with
    | true=>exact hp
    | false=>exact zU h0 (mJ hp _ _)
   ·exact zU h0 hp) (KC h0 hp _ _)
theorem AK {n k:Nat}{p:Array Nat} (h0:0<n) (hp:Places n p):∀(f l r:Nat),KasIn n (fun _=>True) (kas_place p k f l r)
 | 0,_,_=>trivial
 | f+1,l,r=>by
  unfold kas_place
  split
  ·exact trivial
  ·refine⟨hp.lt h0 _,hp.lt h0 _,fun b=> ?_⟩;cases b with
   | true=>exact AK h0 hp f _ _
   | false=>exact AK h0 hp f _ _
theorem UT {n:Nat}(h0:0<n):∀(f:Nat) {p:Array Nat} (k:Nat),Places n p->KasIn n (Places n) (kas_bin f p k)
 | 0,_,_,hp=>hp
 | f+1,_,k,hp=>KasIn.bind (fun _ _=>UT h0 f (k+1) ((bubble_perm _ _ _).trans hp)) (AK h0 hp _ _ _)
theorem NV {n:Nat}(h0:0<n):KasIn n (Places n) (kas_sort n) :=
 KasIn.bind (fun r hr=>by
  split
  ·exact UT h0 _ _ hr
  ·exact hr) (XO h0 (Array.Perm.refl _))
def cT {α:Type}(d:α)(c:Nat->Nat->Bool)(l:List α):List α:=if l.length<2 then l else (j6 c (kas_sort l.length)).toList.map fun i=>l.getD i d
theorem jC {n:Nat}(c:Nat->Nat->Bool)(h:0<n):Places n (j6 c (kas_sort n)):=(NV h).val c
theorem uW {α:Type}(d:α)(c:Nat->Nat->Bool)(l:List α):(cT d c l).length=l.length:=by
 unfold cT
 split
 ·rfl
 ·have h:=(jC (n:=l.length) c (by lia)).size_eq;rw[List.length_map,Array.length_toList,h];simp
end L2
namespace L2
open PySem PySem.W PyProof.Rows PySem.Calls
section
variable {prog:Program}{w:World}{A:Around}{E:Value->Shared->Prop}{s:Shared}
abbrev q9 (a:Addr)(h h':Heap):Prop:=∀b o,b≠a->h.get? b=some o->h'.get? b=some o
theorem N8 {a:Addr}{vs:List Value}{n:Nat}{P:PySem.Fin->Shared->Prop} (c:Nat->Nat->Bool) (κ:SortKind) (ho:s.heap.get? a=some (seqObj "list" vs.toArray n)) (h64:vs.length<64)
  (hk:2<=vs.length->∀h',q9 a s.heap h'->∀R:SortKind->Shared->Prop,R κ { s with heap:=h' }->wpAny (model prog w) A (keyKind' vs.toArray) R (fun _ _=>False) { s with heap:=h' })
  (hc:2<=vs.length->∀h',q9 a s.heap h'->∀i j,i<vs.length->j<vs.length->∀C,C (c i j) { s with heap:=h' }->kas_ask prog w A κ vs i j C { s with heap:=h' })
  (h:∀h' e,q9 a s.heap h'->h'.get? a=some (seqObj "list" (cT Value.none c vs).toArray e)->P (.done (.ret .none)) { s with heap:=h' }) :
  wpAny (model prog w) A (Builtin.«list.sort» ⟨[.ref a],[]⟩) P E s:=by
 have lt:a<s.heap.objs.size:=Heap.lt_size ho;generalize hg1:s.heap.update a (Obj.mapSeq fun _=>(#[]:Array Value))=g1;have sb1:Heap.SameBut a s.heap g1:=hg1▸Heap.SameBut.update s.heap a (Obj.mapSeq fun _=>(#[]:Array Value));obtain⟨e1,o1⟩:∃e1,g1.get? a=some (seqObj "list" #[] e1):=hg1▸⟨_,get?_update_seq ho fun _=> #[]⟩;have lt1:a<g1.objs.size:=Heap.lt_size o1;have kp:q9 a s.heap ((g1.push (seqObj "tuple" vs.toArray 0)).push (seqObj "list" #[] 0)):=fun b o hb q =>
  Heap.get?_push_of_some _ (Heap.get?_push_of_some _ ((sb1.2 b hb).trans q))
 have o3:((g1.push (seqObj "tuple" vs.toArray 0)).push (seqObj "list" #[] 0)).get? a=some (seqObj "list" #[] e1):=Heap.get?_push_of_some _ (Heap.get?_push_of_some _ o1);generalize hg3:(g1.push (seqObj "tuple" vs.toArray 0)).push (seqObj "list" #[] 0)=g3 at kp o3;have fin:∀out:List Value,out.length=vs.length->out=cT Value.none c vs->wpAny (model prog w) A (do
   let touched:=(←seqEpoch a) !=e1
   Builtin.List.listUpdate (.ref a) fun _=>out.toArray
   if let some e:=(none:Option Value) then rule "list.sort.comparison-raised";throw e
   if touched then rule "list.sort.modified";raiseError "ValueError" "list modified during sort"
   ret .none) P E { s with heap:=g3 }:=by
  intro out hl ho';obtain⟨e2,o4⟩:∃e2,(g3.update a (Obj.mapSeq fun _=>out.toArray)).get? a=some (seqObj "list" out.toArray e2):=⟨_,get?_update_seq o3 fun _=>out.toArray⟩
  refine wpAny_bind (seqEpoch_at (s:={ s with heap:=g3 }) o3 rfl ?_);refine wpAny_bind (listUpdate_at (s:={ s with heap:=g3 }) o3 rfl ?_ (Nat.zero_le _) (by rw[List.size_toArray,sizeLine_eq];lia));simp only[bne_self_eq_false,Bool.false_eq_true,if_false];refine wpAny_pure (h _ e2 (fun b o hb q=> ?_) (ho'▸o4));exact((Heap.SameBut.update g3 a (Obj.mapSeq fun _=>out.toArray)).2 b hb).trans (kp b o hb q)
 rw[list_sort_plain];refine wpAny_bind (listItems_at ho rfl (wpAny_bind (listUpdate_at ho rfl ?_ (by rw[List.size_toArray,sizeLine_eq];lia) (Nat.zero_le _))));rw[hg1];refine wpAny_bind (seqEpoch_at (s:={ s with heap:=g1 }) o1 rfl ?_);refine wpAny_bind (wpAny_newTuple ?_ (by show vs.length<=_;rw[sizeLine_eq];lia));refine wpAny_bind (wpAny_newList ?_ (Nat.zero_le _));refine wpAny_holding ?_;show wpAny (model prog w) A _ P E { s with heap:=(g1.push (seqObj "tuple" vs.toArray 0)).push (seqObj "list" #[] 0) };rw[hg3]
 dsimp only
 by_cases h2:vs.toArray.size<2
 ·rw[if_pos h2,if_pos h2];have h2':vs.length<2:=by rwa [List.size_toArray]at h2
  refine wpAny_bind (wpAny_pure ?_);rw[StateT.run_pure];refine wpAny_bind (wpAny_pure ?_)
  dsimp only
  have ez:(arrOf (SortSt.mk' general' (vs.toArray.zip vs.toArray) #[] 7 none)).map (·.2)=vs.toArray:=by
   show (vs.toArray.zip vs.toArray).map (·.2)=_
   apply Array.toList_inj.mp
   rw[Array.toList_map,Array.toList_zip,List.map_snd_zip];exact Nat.le_refl _
  rw[ez];exact fin vs rfl (by unfold cT;rw[if_pos h2'])
 ·rw[if_neg h2,if_neg h2];have h2':2<=vs.length:=by rw[List.size_toArray]at h2;lia
  refine wpAny_bind (wpAny_mono (hk h2' _ kp (fun κ' s'=>κ'=κ/\s'={ s with heap:=g3 }) ⟨rfl,rfl⟩) ?_ fun _ _ x=>x.elim);rintro _ _ ⟨rfl,rfl⟩;refine wpAny_bind (wpAny_mono (kat_run (Q:=fun st' s'=>∃p:Array Nat,p=j6 c (kas_sort vs.length)/\arrOf st'=p.map (kas_item (vs.toArray.zip vs.toArray))/\failedOf st'=none/\s'={ s with heap:=g3 }) (G:=fun p s'=>p=j6 c (kas_sort vs.length)/\s'={ s with heap:=g3 })
   rfl h2' h64 (fun p st' s' _ a2 a3 a4=>⟨p,a4.1,a2,a3,a4.2⟩) ((NV (by lia)).wp (hc h2' _ kp) ⟨rfl,rfl⟩)) ?_ fun _ _ e=>e)
  rintro ⟨⟨⟩,st'⟩ _ ⟨p,rfl,har,hf,rfl⟩
  dsimp only
  rw[kat_snds rfl har,hf];have hz:=(jC (n:=vs.length) c (by lia)).size_eq;exact fin _ (by rw[List.length_map,Array.length_toList,hz];simp) (by unfold cT;rw[if_neg (by lia)])
theorem RH {l:Addr}{vs:List Value}{Q:Value->Shared->Prop} (c:Nat->Nat->Bool) (κ:SortKind) (hl:s.heap.IsList l vs.toArray) (h64:vs.length<64)
  (hk:2<=vs.length->∀h',(∀b o,s.heap.get? b=some o->h'.get? b=some o)->∀R:SortKind->Shared->Prop,R κ { s with heap:=h' }->wpAny (model prog w) A.in1.in1 (keyKind' vs.toArray) R (fun _ _=>False) { s with heap:=h' })
  (hc:2<=vs.length->∀h',(∀b o,s.heap.get? b=some o->h'.get? b=some o)->∀i j,i<vs.length->j<vs.length->∀C,C (c i j) { s with heap:=h' }->kas_ask prog w A.in1.in1 κ vs i j C { s with heap:=h' })
  (h:∀D h' e,s.heap.objs.size<=D->(∀b o,s.heap.get? b=some o->h'.get? b=some o)->h'.get? D=some (seqObj "list" (cT Value.none c vs).toArray e)->Q (.ref D) { s with heap:=h' }) :
  wpAny (model prog w) A (call (.builtin "sorted") [.ref l]) Q E s:=by
 have hz64:vs.length<=sizeLine:=by rw[sizeLine_eq];lia
 refine Calls.call_function_entry kind_sorted plain_sorted entry_sorted (args_sorted1 _) ?_;unfold Builtin.«sorted»;refine wpAny_bind (m:=checkCount "sorted" 1 1 _) (wpAny_pure (wpAny_bind (collect_list hl ?_ hz64)));refine wpAny_bind (wpAny_newList ?_ hz64);generalize hq:(s.heap.push (seqObj "list" #[] 0)).update s.heap.objs.size (Obj.mapSeq (·++vs.toArray))=q;have qs:q.objs.size=s.heap.objs.size+1:=by rw[←hq,Heap.size_update,size_push']
 have qk:∀b o,s.heap.get? b=some o->q.get? b=some o:=fun b o e=>by
  have bl:b<s.heap.objs.size:=Heap.lt_size e;rw[←hq,Heap.get?_update_ne _ _ _ _ (Nat.ne_of_lt bl),Heap.get?_push_ne _ _ _ (Nat.ne_of_lt bl)];exact e
 have oD:(q.push (seqObj "list" vs.toArray 0)).get? q.objs.size=some (seqObj "list" vs.toArray 0):=Heap.get?_push_size _ rfl;have kD:∀h',q9 q.objs.size (q.push (seqObj "list" vs.toArray 0)) h'->∀b o,s.heap.get? b=some o->h'.get? b=some o:=fun h' k b o e =>
  k b o (Nat.ne_of_lt (by rw[qs];exact Nat.lt_succ_of_lt (Heap.lt_size e))) (Heap.get?_push_of_some _ (qk b o e))
 refine wpAny_bind (wpAny_holding (wpAny_call_entry slot_list_sort ⟨_,oD,rfl⟩ entry_list_sort ?body (args_list_sort _)))
 case body =>
  refine N8 (s:={ s with heap:=q.push (seqObj "list" vs.toArray 0) }) c κ oD h64 (fun h2 h' k=>hk h2 h' (kD h' k)) (fun h2 h' k=>hc h2 h' (kD h' k)) fun h' e k o'=> ?_;exact⟨_,rfl,wpAny_pure ⟨_,rfl,h _ h' e (by show s.heap.objs.size<=q.objs.size;rw[qs];exact Nat.le_succ _) (kD h' k) o'⟩⟩
end
end L2
namespace L2
open PySem PySem.W PyProof.Rows
def jL:Key->Bool
 | .inl _=>true
 | .inr _=>false
def PM:Key->Key->Bool
 | .inl i,.inl j=>decide (i<j)
 | .inr x,.inr y=>decide (x.cps.toList<y.cps.toList)
 | _,_=>false
def JJ:List Key->List Key->Bool
 | a::as,b::bs=>if a=b then JJ as bs else PM a b
 | _,_=>false
section
variable {prog:Program}{w:World}{A:Around}{s:Shared}
theorem aDb {a b:Key}{u v:Value}{Q:Bool->Shared->Prop}{E:Value->Shared->Prop} (k:jL a=jL b) (ru:RelV (kV a) u) (rv:RelV (kV b) v) (q:Q (decide (a=b)) s):wpAny (model prog w) A (eqBool u v) Q E s:=by
 cases a<;>cases b<;>first|(cases k;done)|skip
 ·obtain⟨t,rfl⟩:=ru;obtain⟨t',rfl⟩:=rv;refine wpAny_eqBool_int ?_;rename_i i j;have e:(i==j)=decide ((Sum.inl i:Key)=Sum.inl j):=by
   by_cases z:i=j
   ·subst z;simp
   ·rw[beq_false_of_ne z,decide_eq_false (fun y=>z (Sum.inl.inj y))]
  rw[e];exact q
 ·obtain⟨t,rfl⟩:=ru;obtain⟨t',rfl⟩:=rv;refine wpAny_eqBool_str ?_;rename_i i j;have e:decide (i=j)=decide ((Sum.inr i:Key)=Sum.inr j):=by
   by_cases z:i=j
   ·subst z;simp
   ·rw[decide_eq_false z,decide_eq_false (fun y=>z (Sum.inr.inj y))]
  rw[e];exact q
theorem aBV {a b:Key}{u v:Value}{Q:Bool->Shared->Prop}{E:Value->Shared->Prop} (k:jL a=jL b) (ru:RelV (kV a) u) (rv:RelV (kV b) v) (q:Q (PM a b) s) (t:Bool):wpAny (model prog w) A (oneLt' t u v) Q E s:=by
 cases a<;>cases b<;>first|(cases k;done)|skip
 ·obtain⟨t1,rfl⟩:=ru;obtain⟨t2,rfl⟩:=rv;cases t with
  | true=>exact oneLt_int q
  | false=>exact kat_one _ _ (lt_int q)
 ·obtain⟨t1,rfl⟩:=ru;obtain⟨t2,rfl⟩:=rv;cases t with
  | true=>exact oneLt_str q
  | false=>exact kat_one _ _ (lt_str q)
theorem TN {Q:Bool->Shared->Prop}:∀{as bs:List Key}{us vs:List Value} (i:Nat),as.map jL=bs.map jL->Vals (as.map kV) us->Vals (bs.map kV) vs->Q (JJ as bs) s->KatLex prog w A true false Q (us.zip vs) i s
 | [],[],_,_,_,_,.nil,.nil,q=>kat_nil q
 | [],_::_,_,_,_,k,_,_,_=>by cases k
 | _::_,[],_,_,_,k,_,_,_=>by cases k
 | a::as,b::bs,_,_,i,k,.cons ra rs,.cons rb rt,q=>by
  have k1:jL a=jL b:=(List.cons.inj k).1;refine kat_cons (aDb k1 ra rb ?_);have q':Q (if a=b then JJ as bs else PM a b) s:=q
  by_cases z:a=b
  ·rw[if_pos z]at q';rw[decide_eq_true z];exact kat_yes (TN (i+1) (List.cons.inj k).2 rs rt q')
  ·rw[if_neg z]at q';rw[decide_eq_false z];exact kat_no (aBV k1 ra rb q' _)
end
abbrev KRows (H:Hp):List V->List (List Key)->Prop:=Paired fun v r=>∃p,v= .ref p/\H p=some (.tup (r.map kV))
theorem KRows.map {H H':Hp}(f:∀p xs,H p=some (.tup xs)->H' p=some (.tup xs)):∀{vs:List V}{rs:List (List Key)},KRows H vs rs->KRows H' vs rs
 | _,_,.nil=> .nil
 | _,_,.cons ⟨p,e,h⟩ r=> .cons ⟨p,e,f _ _ h⟩ (KRows.map f r)
theorem KRows.same {H H':Hp}{vs:List V}{rs:List (List Key)} (x:KRows H vs rs) (s:Same H H'):KRows H' vs rs:=x.map fun p xs h=>s _ _ h
theorem KRows.get {H:Hp}:∀{vs:List V}{rs:List (List Key)}{i:Nat}{v:V},KRows H vs rs->vs[i]? =some v->∃p r,v= .ref p/\rs[i]? =some r/\H p=some (.tup (r.map kV))
 | _,_,0,_,.cons ⟨p,e,h⟩ _,z=>by cases z;exact⟨p,_,e,rfl,h⟩
 | _,_,i+1,_,.cons _ t,z=>KRows.get (i:=i) t (by simpa using z)
 | _,_,_,_,.nil,z=>by simp at z
def tP (rs:List (List Key))(i j:Nat):Bool:=JJ (rs.getD i []) (rs.getD j [])
def QF (rs:List (List Key))(vs:List V):List V:=cT .non (tP rs) vs
section
variable {X:Cx}{pins:List (Addr×Obj)}{σ:St}{H:Hp}{s:Shared}
theorem DM (I:Inv X pins σ H s){p:Addr}{r:List Key} (e:H p=some (.tup (r.map kV))):∃(o:Obj) (us:List Value) (n:Nat),s.heap.get? p=some o/\o.cls= .type "tuple" /\o.data= .seq us.toArray n/\Vals (r.map kV) us:=by
 obtain⟨_,its,r',o,h1,h2,n,h3⟩:=(show ObjOk X.prog X.w H s.heap p (.tup (r.map kV)) from I.hok p _ e)
 exact⟨o,its,n,h1,h2,h3,r'⟩
theorem FE (I:Inv X pins σ H s){sh:List Bool}{T:Value}{h':Heap} (kp:∀b o,s.heap.get? b=some o->h'.get? b=some o) (hT:∀(k:Key) (u:Value),sh.head? =some (jL k)->RelV (kV k) u->Looks (model X.prog X.w) h' (typeOf u) T) :
  ∀{vs:List V}{rs:List (List Key)}{us:List Value},KRows H vs rs->Vals vs us->(∀r∈rs,r.map jL=sh)->sh≠[]->∃fs,KatTups h' us fs/\fs.length=us.length/\∀v∈fs,Looks (model X.prog X.w) h' (typeOf v) T
 | _,_,_,.nil,.nil,_,_=>⟨[],trivial,rfl,fun _ z=>nomatch z⟩
 | _::_,r::_,_::_,.cons ⟨p,hv,e⟩ q,.cons rv rt,hs,hn=>by
  obtain⟨fs,f1,f2,f3⟩:=FE I kp hT q rt (fun r hr=>hs r (List.mem_cons_of_mem _ hr)) hn;subst hv;cases rv;have hr:=hs r (.head _);cases r with
  | nil=>exact absurd hr.symm hn
  | cons k ks =>
   obtain⟨o,us,n,o1,o2,o3,o4⟩:=DM I e;cases o4 with
   | cons r1 r2 =>
    rename_i u us;refine⟨u::fs,KatTups.cons (kp _ _ o1) o2 o3 (by simp) f1,by simp[f2],fun v hv=> ?_⟩;rcases List.mem_cons.mp hv with rfl|hv
    ·exact hT k _ (by rw[←hr];rfl) r1
    ·exact f3 v hv
def OF (K:PySem.W.Frag):List V->Hp->VK->Prop:=fun xs H Q=>∃p vs rs sh,xs=[.ref p]/\SqL K H p vs/\KRows H vs rs/\vs.length<64/\(∀r∈rs,r.map jL=sh)/\sh≠[]/\∀l,H l=none->Q (.ref l) (upd H l (.lst (QF rs vs)))
theorem w5 {xs:List V}{us:List Value} (c:Nat->Nat->Bool) (r:Vals xs us):Vals (cT .non c xs) (cT Value.none c us):=by
 have hl:=r.length;unfold cT;rw[hl]
 split
 ·exact r
 ·have hp:=jC (n:=us.length) c (by lia);have hm:∀i∈(j6 c (kas_sort us.length)).toList,i<us.length:=fun i hi=>by
   have h:=hp.mem_iff.mp (Array.mem_toList_iff.mp hi)
   simpa using h
  revert hm;generalize (j6 c (kas_sort us.length)).toList=l;intro hm
  induction l with
  | nil=>exact .nil
  | cons i l ih =>
   refine .cons ?_ (ih fun j hj=>hm j (List.mem_cons_of_mem _ hj));have hi:=hm i (.head _);have hx:xs[i]? =some (xs[i]'(by lia)):=List.getElem?_eq_getElem _;obtain⟨u,hu,ru⟩:=r.get hx;show RelV (xs.getD i .non) (us.getD i Value.none);rw[List.getD_eq_getElem?_getD,List.getD_eq_getElem?_getD,hx,hu];exact ru
theorem JT:dH X (.builtin "sorted") (OF X.K):=by
 intro pins s σ H xs us Q I r h;obtain⟨p,vs,rs,sh,rfl,hq,kr,h64,hs,hn,q⟩:=h;obtain⟨u,rfl,rx⟩:=kC r;cases rx;obtain⟨its,rv,pl,hz⟩:=I.list hq;have hl:=rv.length;have hT:∃T:Value,(T==T)=true/\(T !=Value.type "tuple")=true/\∀(h':Heap) (k:Key) (u:Value),sh.head? =some (jL k)->RelV (kV k) u->Looks (model X.prog X.w) h' (typeOf u) T:=by
  cases sh with
  | nil=>exact absurd rfl hn
  | cons b sh =>
   cases b with
   | true =>
    refine⟨.type "int",rfl,by decide,fun h' k u hk ru=> ?_⟩;cases k with
    | inl i=>obtain⟨t,rfl⟩:=ru;exact Looks.of_pure rfl
    | inr x=>cases hk
   | false =>
    refine⟨.type "str",rfl,by decide,fun h' k u hk ru=> ?_⟩;cases k with
    | inl i=>cases hk
    | inr x=>obtain⟨t,rfl⟩:=ru;exact Looks.of_pure rfl
 obtain⟨T,t1,t2,t3⟩:=hT;refine RH (tP rs) (tuples' true) pl.isList (by lia) (fun h2 h' kp R hR=> ?_) (fun h2 h' kp i j hi hj C hC=> ?_) fun D h' e hD kp o'=> ?_
 ·obtain⟨fs,f1,f2,f3⟩:=FE I kp (fun k u=>t3 h' k u) kr rv hs hn;refine kat_kind (s:={ s with heap:=h' }) f1 (by lia) f3 t1 ?_;rw[t2];exact hR
 ·obtain⟨p1,r1,x1,y1,z1⟩:=kr.get (i:=i) (List.getElem?_eq_getElem (by lia));obtain⟨p2,r2,x2,y2,z2⟩:=kr.get (i:=j) (List.getElem?_eq_getElem (by lia));obtain⟨u1,v1,w1⟩:=rv.get (List.getElem?_eq_getElem (show i<vs.length by lia));obtain⟨u2,v2,w2⟩:=rv.get (List.getElem?_eq_getElem (show j<vs.length by lia));rw[x1]at w1;rw[x2]at w2;cases w1;cases w2;obtain⟨o1,us1,n1,g1,c1,d1,l1⟩:=DM I z1;obtain⟨o2,us2,n2,g2,c2,d2,l2⟩:=DM I z2;have s1:=hs r1 (List.mem_of_getElem? y1);have s2:=hs r2 (List.mem_of_getElem? y2);have e1:=l1.length;have e2:=l2.length;rw[List.length_map]at e1 e2;have e3:r1.length=r2.length:=by rw[←List.length_map (f:=jL),s1,←s2,List.length_map]
  unfold kas_ask;rw[List.getD_eq_getElem?_getD,List.getD_eq_getElem?_getD,v1,v2];refine kat_lt (s:={ s with heap:=h' }) (kp _ _ g1) d1 (kp _ _ g2) d2 ?_;rw[show decide (us1.toArray.size<us2.toArray.size)=false from decide_eq_false (by rw[List.size_toArray,List.size_toArray];lia)];refine TN 0 (s1.trans s2.symm) l1 l2 ?_;have ec:tP rs i j=JJ r1 r2:=by
   unfold tP;rw[List.getD_eq_getElem?_getD,List.getD_eq_getElem?_getD,y1,y2];rfl
  rw[ec]at hC;exact hC
 ·exact⟨.ref D,_,I.laid (t':=s.toks) kp hD (show ObjOk X.prog X.w _ h' _ (.lst _) from⟨by rw[uW];exact hz,_,e,w5 _ rv,o'⟩),rfl,q _ (I.hok.fresh hD)⟩
end
end L2
namespace L2
open PySem PySem.W PyProof.Rows
section
variable {prog:Program}{w:World}{A:Around}{E:Value->Shared->Prop}{s:Shared}{d it:Addr}{o:Obj}{es:Array DictEntry}{ep i:Nat}
theorem AN {Q:Value->Shared->Prop}(hd:(d==sysModules)=false)(ho:s.heap.get? d=some o)(hc:o.ExactDict)(hq:o.data= .dict es ep)
  (k:Q (.ref s.heap.objs.size) { s with heap:=s.heap.push { cls:= .type "dict_keyiterator",data:= .fields #[.ref d,.int 0 0,.int es.size 0,.int ep 0] } }):wpAny (model prog w) A (pyIter (.ref d)) Q E s:=by
 have T:s.TypeIs (.ref d) "dict" :=⟨o,ho,hc.1⟩
 refine wpAny_pyIter_slot T F.slot_dict_iter (wpAny_call_entry F.slot_dict_iter T F.entry_dict_iter ?_ (F.args_dict_iter_1 _));unfold Builtin.«dict.__iter__» Builtin.Dict.dictSlotNone;refine wpAny_bind (wpAny_bind (wpAny_notOrdered_dict T (wpAny_pure ?_)));show wpAny _ A.in1 (Builtin.Dict.showsAll d >>= _) _ _ s;unfold Builtin.Dict.showsAll;rw[if_neg (fun z=>by rw[hd]at z;cases z)];refine wpAny_bind (wpAny_pure (wpAny_bind (wpAny_dictEntries ho hq (wpAny_bind (wpAny_dictEpoch ho hq ?_)))));exact wpAny_bind (wpAny_newObj_type (wpAny_pure ⟨_,rfl,"dict_keyiterator",_,⟨_,Heap.get?_push_size _ rfl,rfl⟩,F.slot_dict_keyiterator_next.lookup,k⟩))
theorem JI {Q:Option Value->Shared->Prop}{e:DictEntry} (hit:s.heap.IsKeyIter it d i es.size ep) (ho:s.heap.get? d=some o) (hq:o.data= .dict es ep) (hx:es[i]? =some e)
  (k:∀h',h'.IsKeyIter it d (i+1) es.size ep->Heap.SameBut it s.heap h'->Q (some e.key) { s with heap:=h' }):wpAny (model prog w) A (pyNext (.ref it)) Q E s:=by
 obtain⟨oi,hi,ci,di⟩:=id hit;have T:=hit.typeIs;unfold pyNext;refine wpAny_bind (wpAny_attempt (wpAny_callSpecial?_slot (name:=Str.ofString "__next__") T F.slot_dict_keyiterator_next (wpAny_call_entry F.slot_dict_keyiterator_next T F.entry_dict_keyiterator_next ?_ (F.args_dict_keyiterator_next_1 _))));refine wpAny_bind (wpAny_pure (wpAny_bind (wpAny_bind ?_)))
 first|refine wpAny_bind (wpAny_typeNameOfWhole_keyiter T (wpAny_pure (wpAny_bind (wpAny_fieldsOf hi di ?_))))|refine wpAny_bind (wpAny_typeNameOf_keyiter T (wpAny_pure (wpAny_bind (wpAny_fieldsOf hi di ?_))))
 simp only[show Builtin.Dict_items.ownsTuple "dict_keyiterator" =false by decide,Bool.false_eq_true,if_false];show wpAny _ A.in1 (if (Value.ref d==Value.none)=true then _ else _) _ _ s;rw[if_neg (show ¬(Value.ref d==Value.none)=true from Bool.false_ne_true)];refine wpAny_bind (wpAny_pure (wpAny_bind (wpAny_dictEntries ho hq ?_)));rw[if_neg (by simp)];refine wpAny_bind (wpAny_pure (wpAny_bind (wpAny_dictEpoch ho hq ?_)));rw[if_neg (by simp)];refine wpAny_pure ?_;simp only[show ¬((i:Int)<0) from by lia,if_false,Int.toNat_natCast,hx];refine wpAny_bind ?_
 first|refine wpAny_bind (wpAny_typeNameOfWhole_keyiter T (wpAny_pure (wpAny_bind (wpAny_isOneOf_keyiter T ?_))))|refine wpAny_bind (wpAny_typeNameOf_keyiter T (wpAny_pure (wpAny_bind (wpAny_isOneOf_keyiter T ?_))))
 show wpAny _ A.in1 (setField (.ref it) 1 (rawInt ((i:Int)+1)) >>= _) _ _ s;refine wpAny_bind (wpAny_setField hi di (by simp) ?_);have H2:(s.heap.update it (Obj.mapFields (·.setIfInBounds 1 (rawInt ((i:Int)+1))))).IsKeyIter it d (i+1) es.size ep :=
  ⟨_,Heap.get?_update_self _ hi (Obj.isFreed_of_fields (Obj.data_mapFields di _)),(Obj.cls_mapFields ..).trans ci,(Obj.data_mapFields di _).trans (by simp[rawInt])⟩
 refine wpAny_bind (wpAny_holding (wpAny_bind (wpAny_isOneOf_keyiter (s:={ s with heap:=s.heap.update it (Obj.mapFields (·.setIfInBounds 1 (rawInt ((i:Int)+1)))) }) H2.typeIs ?_)));show wpAny _ A.in1 (pure e.key) _ _ _;exact wpAny_pure (wpAny_pure ⟨_,rfl,wpAny_pure (k _ H2 (Heap.SameBut.update ..))⟩)
theorem N6 {Q:Option Value->Shared->Prop}(hh:A.handled=none)(hit:s.heap.IsKeyIter it d i es.size ep)(ho:s.heap.get? d=some o)(hq:o.data= .dict es ep)(hx:es.size<=i)
  (k:∀h',Heap.ExtBut it s.heap h'->Q none { s with heap:=h' }):wpAny (model prog w) A (pyNext (.ref it)) Q E s:=by
 obtain⟨oi,hi,ci,di⟩:=id hit;have T:=hit.typeIs;unfold pyNext;refine wpAny_bind (wpAny_attempt (wpAny_callSpecial?_slot (name:=Str.ofString "__next__") T F.slot_dict_keyiterator_next (wpAny_call_entry F.slot_dict_keyiterator_next T F.entry_dict_keyiterator_next ?_ (F.args_dict_keyiterator_next_1 _))));refine wpAny_bind (wpAny_pure (wpAny_bind (wpAny_bind ?_)))
 first|refine wpAny_bind (wpAny_typeNameOfWhole_keyiter T (wpAny_pure (wpAny_bind (wpAny_fieldsOf hi di ?_))))|refine wpAny_bind (wpAny_typeNameOf_keyiter T (wpAny_pure (wpAny_bind (wpAny_fieldsOf hi di ?_))))
 simp only[show Builtin.Dict_items.ownsTuple "dict_keyiterator" =false by decide,Bool.false_eq_true,if_false];show wpAny _ A.in1 (if (Value.ref d==Value.none)=true then _ else _) _ _ s;rw[if_neg (show ¬(Value.ref d==Value.none)=true from Bool.false_ne_true)];refine wpAny_bind (wpAny_pure (wpAny_bind (wpAny_dictEntries ho hq ?_)));rw[if_neg (by simp)];refine wpAny_bind (wpAny_pure (wpAny_bind (wpAny_dictEpoch ho hq ?_)));rw[if_neg (by simp)];refine wpAny_pure ?_;simp only[show ¬((i:Int)<0) from by lia,if_false,Int.toNat_natCast,Array.getElem?_eq_none hx];refine wpAny_bind ?_
 first|refine wpAny_bind (wpAny_typeNameOfWhole_keyiter T (wpAny_pure ?_))|refine wpAny_bind (wpAny_typeNameOf_keyiter T (wpAny_pure ?_))
 show wpAny _ A.in1 (setField (.ref it) 0 .none >>= _) _ _ s;refine wpAny_bind (wpAny_setField hi di (by simp) ?_);show wpAny _ A.in1 (newExc (.type "StopIteration") [] >>= _) _ _ _;refine wpAny_bind ?_;simp only[newExc,newTuple];refine wpAny_bind (wpAny_newObj_type (wpAny_bind (m:=firstArgMember _ _) (wpAny_of_eq (a:=Value.none) (by first|rfl|(simp only[firstArgMember];rfl)) (wpAny_newObj_type ?_ (by size_fits)))) (by size_fits));simp only[raiseNew];refine wpAny_bind (wpAny_handled ?_);rw[show A.in1.handled=none from hh];refine wpAny_bind (wpAny_pure (wpAny_throw ?_));refine wpAny_bind (wpAny_isInstance (b:=true) (T:= "StopIteration") ⟨_,Heap.get?_push_size _ rfl,rfl⟩ isSubtype_stop ?_);exact wpAny_pure (k _ (((Heap.SameBut.update ..).extBut.push _).push _))
end
end L2
namespace L2
open PySem PySem.W PyProof.Rows
def Itk (a:Addr)(o:Obj)(kvs:List (Key×V)):It :=
 ⟨fun i H=>H a=some (.frz o (.dK kvs))/\i<kvs.length,fun i H x H'=>H'=H/\∃k v,kvs[i]? =some (k,v)/\x=kV k,fun i H=>H a=some (.frz o (.dK kvs))/\kvs.length<=i⟩
def Itq (a:Addr)(o:Obj)(kvs:List (List Key×V)):It :=
 ⟨fun i H=>H a=some (.frz o (.dT kvs))/\i<kvs.length,fun i H x H'=>H'=H/\∃k v q,kvs[i]? =some (k,v)/\x= .ref q/\H q=some (.tup (k.map kV)),fun i H=>H a=some (.frz o (.dT kvs))/\kvs.length<=i⟩
theorem KT.get {H:Hp}:∀{kvs:List (List Key×V)}{xs:List (List Key×Addr×Value)}{i:Nat},KT H kvs xs->i<kvs.length->∃k v b u,kvs[i]? =some (k,v)/\xs[i]? =some (k,b,u)/\H b=some (.tup (k.map kV))
 | _,_,0,.cons h _,_=>⟨_,_,_,_,rfl,by rw[h.1];rfl,h.2.1⟩
 | _,_,i+1,.cons _ t,hi=>by
  obtain⟨k,v,b,u,e1,e2,e3⟩:=KT.get (i:=i) t (by simpa using hi);exact⟨k,v,b,u,by simpa using e1,by simpa using e2,e3⟩
 | _,_,_,.nil,hi=>by simp at hi
theorem KT.len {H:Hp}{kvs:List (List Key×V)}{xs:List (List Key×Addr×Value)} (r:KT H kvs xs):kvs.length=xs.length:=Paired.length r
theorem PR {P:Program}{w:World}{K:PySem.W.Frag}{tg:Expr} (a it:Addr) {o:Obj}{es:Array DictEntry}{ep:Nat} (kvs:List (List Key×V)) (hd:o.data= .dict es ep) (hz:es.size=kvs.length) :
  xH P w K tg (Itq a o kvs) [it] it (fun i h=>h.IsKeyIter it a i es.size ep) where
 mem:=by simp
 obj:=fun i h st b hb=>by
  have e:b=it:=by simpa using hb
  subst e;obtain⟨ob,e,c,d⟩:=st;exact⟨ob,e,fun v z=>by rw[d]at z;cases z⟩
 keep:=fun i h h' st k=>st.at fun ob e=>k it (by simp) ob e
 item:=by
  intro X hP hw hK hc i pins s σ H E I hf st hg;subst hP hw hK;obtain⟨ha,hi⟩:=hg;obtain⟨ho,hok⟩:=(show ObjOk X.prog X.w H s.heap a (.frz o (.dT kvs)) from I.hok a _ ha)
  obtain⟨z,y,xs,r,o',es',ep',h1,h2,h3,h4,h5⟩:=hok;rw[ho]at h1;cases h1;rw[hd]at h3;cases h3;obtain⟨k,v,b,u,e1,e2,e3⟩:=KT.get r hi;have e4:=entry_at h4 i;rw[e2]at e4;obtain⟨f0,f1,f2,f3,f4,f5⟩:=hf it (by simp);refine JI st ho hd e4 fun h' st' sb=> ?_;have I1:Inv X pins σ H { s with heap:=h' }:=I.turned (t':=s.toks) (fun b o hb e=>(sb.2 b hb).trans e) f0 f1 f3 f4 f5;exact⟨_,rfl,letGo_keyiter (s':={ s with heap:=h' }) st' ⟨.ref b,H,I1,rfl,⟨rfl,k,v,b,e1,rfl,e3⟩,st',fun b hb=>(hf b hb).1⟩⟩
 done:=by
  intro X hP hw hK hc i pins s σ H E I hf st hg;subst hP hw hK;obtain⟨ha,hi⟩:=hg;obtain⟨ho,hok⟩:=(show ObjOk X.prog X.w H s.heap a (.frz o (.dT kvs)) from I.hok a _ ha)
  obtain⟨f0,f1,f2,f3,f4,f5⟩:=hf it (by simp);exact N6 (I.ok.hd hc) st ho hd (by lia) fun h' eb=>⟨rfl,I.turned (t':=s.toks) (fun b o hb e=>eb b o hb e) f0 f1 f3 f4 f5⟩
 self:=fun _ _ _ _ _ st h=>wpAny_pyIter_keyiter st h
def UU (td:TE):TI:=fun σ H R=>td σ H fun x H1=>∃a kvs,x= .ref a/\H1 a=some (.dT kvs)/\∀o,R (Itq a o kvs) (upd H1 a (.frz o (.dT kvs)))
section
variable {X:Cx}{tg:Expr}
theorem Inv.freeze {pins:List (Addr×Obj)}{σ:St}{H:Hp}{s:Shared}{a:Addr}{u:HO}{o:Obj} (I:Inv X pins σ H s) (mu:Mut (some u)) (e:H a=some u) (ho:s.heap.get? a=some o) (new:ObjOk X.prog X.w (upd H a (.frz o u)) s.heap a (.frz o u)):Inv X pins σ (upd H a (.frz o u)) s :=
 I.write (t':=s.toks) (h':=s.heap) (by rw[e];exact mu) (.inl rfl) (fun b u _ z=>z) ⟨_,ho⟩ new
theorem WR {l:Expr}{td:TE} (hl:PE X l td):PI X tg l (UU td):=by
 intro pins s σ H R I h;refine thn (hl pins s σ H _ I h) fun v s1 ⟨x,H1,I1,r1,q1⟩=> ?_;obtain⟨a,kvs,rfl,hq,q⟩:=q1;cases r1;obtain⟨z,y,xs,r,o,es,ep,h1,h2,h3,h4,h5⟩:=(show ObjOk X.prog X.w H1 s1.heap a (.dT kvs) from I1.hok a _ hq)
 have hz:es.size=kvs.length:=by rw[size_of_entries h4,KT.len r]
 have hne:∀b ys,H1 b=some (.tup ys)->upd H1 a (.frz o (.dT kvs)) b=some (.tup ys):=fun b ys e=>by
  have hb:b≠a:=fun z=>by rw[z,hq]at e;cases e
  rw[aS hb];exact e
 have new:ObjOk X.prog X.w (upd H1 a (.frz o (.dT kvs))) s1.heap a (.frz o (.dT kvs)):=⟨h1,z,y,xs,KT.keeps r hne,o,es,ep,h1,h2,h3,h4,h5⟩
 have I2:Inv X pins σ (upd H1 a (.frz o (.dT kvs))) s1:=I1.freeze trivial hq h1 new;refine AN y h1 h2 h3 ?_;refine⟨s1.heap.objs.size,[s1.heap.objs.size],_,_,upd H1 a (.frz o (.dT kvs)),rfl,I2.kept (t':=s1.toks) fun b o e=>Heap.get?_push_of_some _ e,PR a _ kvs h3 hz,⟨_,Heap.get?_push_size _ rfl,rfl,rfl⟩,fun b hb=> ?_,q o⟩;have e:b=s1.heap.objs.size:=by simpa using hb
 subst e;exact I2.fpOk (Nat.le_refl _) (I2.hok.fresh (Nat.le_refl _))
end
end L2
namespace L2
open PySem PySem.W PyProof.Rows
section
variable {X:Cx}{e c:Expr}{te:TE}{lo hi:Option Expr}{tl th ts:TO}{pos p2:Pos}
end
def qO:V->Bool
 | .ref _=>true
 | x=>mO x
section
variable {X:Cx}
end
section
variable {X:Cx}{pins:List (Addr×Obj)}{σ:St}{H:Hp}{s:Shared}
end
section
variable {X:Cx}
end
end L2
namespace L2
open PySem PySem.W PyProof.Rows
section
variable {K:PySem.W.Frag}{ti:TT}{te:TE}{σ:St}{ci:List Nat}{rest:St}{fin:List V->Hp->Prop}{H:Hp}{a:Addr}
end
end L2
namespace L2
open PySem PySem.W PyProof.Rows
theorem FK:bootBuiltins "sorted" =some (.builtin "sorted"):=by decide +kernel
theorem Room.units1 {k:Nat}{A:Around} (r:Room k A):A.units+1<cLine:=by have:=r.un;lia
section
variable {K:PySem.W.Frag}{H:Hp}{Q:VK}
end
section
variable {H:Hp}{Q:VK}{σ:St}
theorem VM (h:∀p H',H p=none->Same H H'->H' p=some (.dT [])->Q (.ref p) H'):R5 σ H Q:=iH h
theorem IL {κ:Type}[DecidableEq κ]{kvs:List (κ×V)}{k:κ}{v:V}{e:κ×V} (h:e∈cJ kvs k v):e∈kvs∨e.1=k/\e.2=v:=by
 unfold cJ at h
 split at h
 ·obtain⟨p,hp,e1⟩:=List.mem_map.mp h
  by_cases z:p.1=k
  ·rw[if_pos z]at e1;subst e1;exact .inr ⟨z,rfl⟩
  ·rw[if_neg z]at e1;subst e1;exact .inl hp
 ·rcases List.mem_append.mp h with h|h
  ·exact .inl h
  ·cases List.mem_singleton.mp h;exact .inr ⟨rfl,rfl⟩
end
end L2
namespace L2
open PySem PySem.W PyProof.Rows
section
variable {X:Cx}{K:PySem.W.Frag}
theorem kG {es:List Expr}{k:Nat}{t:TGs}{n:Nat}{pos:Pos} (hc:X.calm=true) (h:PGs X es t) (hK:X.K=K:=by rfl)
  (hn:(assignEach es X.env).length=n:=by rfl)(hst:(assignEach es X.env).findIdx? (·.1)=none:=by rfl):PG X (.Tuple es k pos) (z5 K n t):=by
 subst hK;exact o7 hc h hn hst
theorem rF (hK:X.K=K:=by rfl):IxR X (aCe K):=by
 subst hK;exact JF
end
def O7 (nx:St->Hp->Prop)(σ:St)(x v:V):VK:=fun y H3=>∃a H4,x= .ref a/\DPut H3 a y v H4/\nx σ H4
def PY (Q:VK)(x:V):VK:=fun y H2=>∃a v,x= .ref a/\DGet H2 a y (some v)/\Q v H2
def Y4 (R:It->Hp->Prop):VK:=fun x H1=>∃a kvs,x= .ref a/\H1 a=some (.dT kvs)/\∀o,R (Itq a o kvs) (upd H1 a (.frz o (.dT kvs)))
section
variable {K:PySem.W.Frag}{H:Hp}{Q:VK}{σ:St}{nx rt bk ct:St->Hp->Prop}
theorem Z6 {td ty tv:TE}{nx:St->Hp->Prop}{rt:VK}{bk ct:St->Hp->Prop} (h:tv σ H fun v H1=>td σ H1 fun x H2=>ty σ H2 (O7 nx σ x v)):YL td ty tv ⟨nx,rt,bk,ct⟩ σ H:=h
theorem rY {p b:Addr}{v:V}{kvs:List (List Key×V)} (k:List Key) (e:H p=some (.dT kvs)) (eb:H b=some (.tup (k.map kV))) (hl:kvs.length<sizeLine)
  (h:∀H',SameBut p H H'->H' p=some (.dT (cJ kvs k v))->nx σ H'):O7 nx σ (.ref p) v (.ref b) H :=
 ⟨p,_,rfl,DPut.t e eb hl,h _ SameBut.upd bE⟩
theorem aAt {td ty:TE}(h:td σ H fun x H1=>ty σ H1 (PY Q x)):YK td ty σ H Q:=h
theorem nR {p b:Addr}{v:V}{kvs:List (List Key×V)} (k:List Key) (e:Rd H p (.dT kvs)) (eb:H b=some (.tup (k.map kV))) (hv:bH kvs k=some v) (h:Q v H):PY Q (.ref p) (.ref b) H :=
 ⟨p,v,rfl,.inr ⟨kvs,k,b,e,rfl,eb,hv.symm⟩,h⟩
theorem WV {td:TE}{R:It->Hp->Prop} (h:td σ H (Y4 R)):UU td σ H R:=h
theorem WX {p:Addr}{kvs:List (List Key×V)}{R:It->Hp->Prop} (e:H p=some (.dT kvs)) (h:∀o H',SameBut p H H'->H' p=some (.frz o (.dT kvs))->R (Itq p o kvs) H'):Y4 R (.ref p) H :=
 ⟨p,kvs,rfl,e,fun o=>h o _ SameBut.upd bE⟩
theorem JP {p:Addr}{xs:List V}{i:Int} (e:SqL K H p xs) (h0:0<=i) (h1:i<xs.length) (h:∀v∈xs,Q v H):JC K (.ref p) (.int i) H Q:=by
 have hl:i.toNat<xs.length:=by lia
 have e1:=zB (xs:=xs) (j:=i.toNat) (v:=xs[i.toNat]) (List.getElem?_eq_getElem hl);rw[show ((i.toNat:Nat):Int)=i by lia]at e1;exact⟨p,xs,i,_,rfl,rfl,e,e1,h _ (List.getElem_mem hl)⟩
end
end L2
namespace L2
open PySem PySem.W PyProof.Rows
theorem wY:entryFor table "dict_itemiterator.__iter__" =some Builtin.«dict_keyiterator.__iter__»:=entryFor_alias (id':= "dict_keyiterator.__iter__") (by kernel_rfl) rfl (by decide +kernel) (by kernel_rfl)
theorem y7 {P:Program}{w:World}{k:Key}{u:Value} (h:(bQ P w).is k u=true):RelV (kV k) u:=by
 rcases dO h with⟨i,t,rfl,rfl⟩|⟨x,t,rfl,rfl⟩
 ·exact⟨t,rfl⟩
 ·exact⟨t,rfl⟩
theorem CL {κ:Type}{kvs:List (κ×V)}{vs:List (κ×Value)}{i:Nat} (h:KV kvs vs) (hi:i<kvs.length):∃k v u,kvs[i]? =some (k,v)/\vs[i]? =some (k,u)/\RelV v u:=by
 induction h generalizing i with
 | nil=>exact absurd hi (Nat.not_lt_zero _)
 | @cons x y l m h t ih =>
  cases i with
  | zero=>exact⟨x.1,x.2,y.2,rfl,by rw[h.1];rfl,h.2⟩
  | succ i=>exact ih (Nat.lt_of_succ_lt_succ hi)
theorem FG {P:Program}{w:World}{κ:Type} [DecidableEq κ] {knd:KeyKind P w κ}:∀{es:List DictEntry}{kvs:List (κ×Value)}{i:Nat}{k:κ}{u:Value},Pairs knd es kvs->kvs[i]? =some (k,u)->∃e,es[i]? =some e/\knd.is k e.key=true/\e.val=u
 | _,_,0,_,_,.cons h1 h2 _,z=>by cases z;exact⟨_,rfl,h1,h2⟩
 | _,_,i+1,_,_,.cons _ _ t,z=>by
  obtain⟨e,e1,e2⟩:=FG (i:=i) t (by simpa using z);exact⟨e,by simpa using e1,e2⟩
 | _,_,_,_,_,.nil,z=>by simp at z
theorem QQ {P:Program}{w:World}{K:PySem.W.Frag}{tg:Expr} (a it:Addr) {o:Obj}{es:Array DictEntry}{ep:Nat} (kvs:List (Key×V)) (hd:o.data= .dict es ep) (hz:es.size=kvs.length) :
  xH P w K tg (Itk a o kvs) [it] it (fun i h=>h.IsKeyIter it a i es.size ep) where
 mem:=by simp
 obj:=fun i h st b hb=>by
  have e:b=it:=by simpa using hb
  subst e;obtain⟨ob,e,c,d⟩:=st;exact⟨ob,e,fun v z=>by rw[d]at z;cases z⟩
 keep:=fun i h h' st k=>st.at fun ob e=>k it (by simp) ob e
 item:=by
  intro X hP hw hK hc i pins s σ H E I hf st hg;subst hP hw hK;obtain⟨ha,hi⟩:=hg;obtain⟨ho,z,y,vs,r,o',es',ep',h1,h2,h3,h4,h5,h6⟩:=(show ObjOk X.prog X.w H s.heap a (.frz o (.dK kvs)) from I.hok a _ ha)
  rw[ho]at h1;cases h1;rw[hd]at h3;cases h3;obtain⟨k,v,u,e1,e2,e3⟩:=CL r hi;obtain⟨e,f6,f7,f8⟩:=FG h5 e2;obtain⟨f0,f1,f2,f3,f4,f5⟩:=hf it (by simp);refine JI st ho hd (e:=e) (by simpa using f6) fun h' st' sb=> ?_;have I1:Inv X pins σ H { s with heap:=h' }:=I.turned (t':=s.toks) (fun b o hb e=>(sb.2 b hb).trans e) f0 f1 f3 f4 f5;exact⟨_,rfl,letGo_keyiter (s':={ s with heap:=h' }) st' ⟨kV k,H,I1,y7 f7,⟨rfl,k,v,e1,rfl⟩,st',fun b hb=>(hf b hb).1⟩⟩
 done:=by
  intro X hP hw hK hc i pins s σ H E I hf st hg;subst hP hw hK;obtain⟨ha,hi⟩:=hg;obtain⟨ho,hok⟩:=(show ObjOk X.prog X.w H s.heap a (.frz o (.dK kvs)) from I.hok a _ ha)
  obtain⟨f0,f1,f2,f3,f4,f5⟩:=hf it (by simp);exact N6 (I.ok.hd hc) st ho hd (by lia) fun h' eb=>⟨rfl,I.turned (t':=s.toks) (fun b o hb e=>eb b o hb e) f0 f1 f3 f4 f5⟩
 self:=fun _ _ _ _ _ st h=>wpAny_pyIter_keyiter st h
def SZ (td:TE):TI:=fun σ H R=>td σ H fun x H1=>∃a kvs,x= .ref a/\H1 a=some (.dK kvs)/\∀o,R (Itk a o kvs) (upd H1 a (.frz o (.dK kvs)))
section
variable {X:Cx}{tg:Expr}
theorem AQ {l:Expr}{td:TE} (hl:PE X l td):PI X tg l (SZ td):=by
 intro pins s σ H R I h;refine thn (hl pins s σ H _ I h) fun v s1 ⟨x,H1,I1,r1,q1⟩=> ?_;obtain⟨a,kvs,rfl,hq,q⟩:=q1;cases r1;obtain⟨z,y,vs,r,o,es,ep,h1,h2,h3,h4,h5,h6⟩:=(show ObjOk X.prog X.w H1 s1.heap a (.dK kvs) from I1.hok a _ hq)
 have hz:es.size=kvs.length:=by rw[r.length,←h5.length];simp
 have new:ObjOk X.prog X.w (upd H1 a (.frz o (.dK kvs))) s1.heap a (.frz o (.dK kvs)):=⟨h1,z,y,vs,r,o,es,ep,h1,h2,h3,h4,h5,h6⟩
 have I2:Inv X pins σ (upd H1 a (.frz o (.dK kvs))) s1:=I1.freeze trivial hq h1 new;refine AN y h1 h2 h3 ?_;refine⟨s1.heap.objs.size,[s1.heap.objs.size],_,_,upd H1 a (.frz o (.dK kvs)),rfl,I2.kept (t':=s1.toks) fun b o e=>Heap.get?_push_of_some _ e,QQ a _ kvs h3 hz,⟨_,Heap.get?_push_size _ rfl,rfl,rfl⟩,fun b hb=> ?_,q o⟩;have e:b=s1.heap.objs.size:=by simpa using hb
 subst e;exact I2.fpOk (Nat.le_refl _) (I2.hok.fresh (Nat.le_refl _))
end
def Iti (a:Addr)(o:Obj)(kvs:List (Key×V)):It :=
 ⟨fun i H=>H a=some (.frz o (.dK kvs))/\i<kvs.length,fun i H x H'=>∃k v q,kvs[i]? =some (k,v)/\x= .ref q/\H q=none/\H'=upd H q (.tup [kV k,v]),fun i H=>H a=some (.frz o (.dK kvs))/\kvs.length<=i⟩
theorem MC {P:Program}{w:World}{K:PySem.W.Frag}{elts:List Expr}{x1:Nat}{tpos:Pos} (a it:Addr) {o:Obj}{es:Array DictEntry}{ep:Nat} (kvs:List (Key×V)) (hd:o.data= .dict es ep) :
  xH P w K (.Tuple elts x1 tpos) (Iti a o kvs) [it] it (fun i h=>∃ok ov,IsItemIter h it a i kvs.length ep ok ov) where
 mem:=by simp
 obj:=fun i h st b hb=>by
  have e:b=it:=by simpa using hb
  subst e;obtain⟨ok,ov,e⟩:=st;exact⟨_,e,fun v z=>by cases z⟩
 keep:=fun i h h' st k=>let ⟨ok,ov,e⟩:=st;⟨ok,ov,k it (by simp) _ e⟩
 item:=by
  intro X hP hw hK hc i pins s σ H E I hf st hg;subst hP hw hK;obtain⟨ha,hi⟩:=hg;obtain⟨ok,ov,st⟩:=st;obtain⟨ho,z,y,vs,r,o',es',ep',h1,h2,h3,h4,h5,h6⟩:=(show ObjOk X.prog X.w H s.heap a (.frz o (.dK kvs)) from I.hok a _ ha)
  rw[ho]at h1;cases h1;rw[hd]at h3;cases h3;obtain⟨k,v,u,e1,e2,e3⟩:=CL r hi;obtain⟨f0,f1,f2,f3,f4,f5⟩:=hf it (by simp);have hl:=r.length;refine wpAny_pyNext_items_item (knd:=bQ X.prog X.w) (kvs:=vs) (by rw[←hl];exact st) ⟨o,es,ho,h2,hd,h4,h5,h6⟩ e2 fun key h' kk st' ht hs kp=> ?_;refine⟨_,rfl,?_⟩;refine wpAny_letOwnedTupleGo_items (s:={ s with heap:=h' }) st' fun h'' st'' sb=> ?_;have hq:H s.heap.objs.size=none:=I.hok.fresh (Nat.le_refl _);have hne:s.heap.objs.size≠it:=fun z=>by
   have:=Heap.lt_size (show s.heap.get? it=some _ from st);rw[z]at this;exact Nat.lt_irrefl _ this
  have tup:Vals [kV k,v] [key,u]:= .cons (y7 kk) (.cons e3 .nil);have I1:Inv X pins σ (upd H s.heap.objs.size (.tup [kV k,v])) { s with heap:=s.heap.push { cls:= .type "tuple",data:= .seq #[key,u] } } :=
   I.laid (t':=s.toks) (fun b u e=>Heap.get?_push_of_some _ e) (Nat.le_refl _) ⟨(show 2<=sizeLine by rw[sizeLine_eq];decide),[key,u],tup,⟨_,Heap.get?_push_size _ rfl,rfl,0,rfl⟩⟩
  have n0:upd H s.heap.objs.size (.tup [kV k,v]) it=none:=by rw[aS (Ne.symm hne)];exact f0
  have I2:Inv X pins σ (upd H s.heap.objs.size (.tup [kV k,v])) { s with heap:=h'' }:=Inv.turned (s:={ s with heap:=s.heap.push { cls:= .type "tuple",data:= .seq #[key,u] } }) (h':=h'') (t':=s.toks) (it:=it) I1 (fun b o hb e=>by
   rcases Heap.get?_push_cases e with⟨rfl,rfl⟩|e
   ·exact(sb.2 _ hb).trans ht
   ·exact(sb.2 b hb).trans (kp b o hb e)) n0 f1 f3 f4 f5
  exact⟨.ref s.heap.objs.size,_,I2,rfl,⟨k,v,_,e1,rfl,hq,rfl⟩,⟨key,u,by rw[hl];exact st''⟩,fun b hb=>by
   have e:b=it:=by simpa using hb
   rw[e];exact n0⟩
 done:=by
  intro X hP hw hK hc i pins s σ H E I hf st hg;subst hP hw hK;obtain⟨ha,hi⟩:=hg;obtain⟨ok,ov,st⟩:=st;obtain⟨ho,z,y,vs,r,o',es',ep',h1,h2,h3,h4,h5,h6⟩:=(show ObjOk X.prog X.w H s.heap a (.frz o (.dK kvs)) from I.hok a _ ha)
  rw[ho]at h1;cases h1;rw[hd]at h3;cases h3;have hl:=r.length;obtain⟨f0,f1,f2,f3,f4,f5⟩:=hf it (by simp);exact wpAny_pyNext_items_end (knd:=bQ X.prog X.w) (kvs:=vs) (I.ok.hd hc) (by rw[←hl];exact st) ⟨o,es,ho,h2,hd,h4,h5,h6⟩ (List.getElem?_eq_none (by lia)) fun h' eb=>⟨rfl,I.turned (t':=s.toks) (fun b o hb e=>eb b o hb e) f0 f1 f3 f4 f5⟩
 self:=fun A i s Q E st h=>by
  obtain⟨ok,ov,st⟩:=st;have T:s.TypeIs (.ref it) "dict_itemiterator" :=⟨_,st,rfl⟩
  refine wpAny_pyIter_slot T F.slot_dict_itemiterator_iter (wpAny_call_entry F.slot_dict_itemiterator_iter T wY ?_ (F.args_dict_itemiterator_iter_1 _));show wpAny _ _ (ret (.ref it)) _ _ s;exact wpAny_pure ⟨_,rfl,"dict_itemiterator",_,T,F.slot_dict_itemiterator_next.lookup,h⟩
def N5 (td:TE):TI:=fun σ H R=>td σ H fun x H1=>∃a kvs,x= .ref a/\H1 a=some (.dK kvs)/\∀o,R (Iti a o kvs) (upd H1 a (.frz o (.dK kvs)))
section
variable {X:Cx}
theorem FF {l:Expr}{td:TE}{elts:List Expr}{x1:Nat}{tpos apos cpos:Pos} (hl:PE X l td) (hbase:attributeBase l "items" X.env (eval l X.env)=eval l X.env:=by rfl) (hline:(apos.endLine==cpos.line)=true:=by rfl) :
  PI X (.Tuple elts x1 tpos) (.Call (.Attribute l "items" apos) [] [] cpos) (N5 td):=by
 intro pins s σ H R I h;refine wpAny_Call_method0_late hbase hline (thn (hl pins s σ H _ I h) fun v s1 ⟨x,H1,I1,r1,q1⟩=> ?_);obtain⟨a,kvs,rfl,hq,q⟩:=q1;cases r1;obtain⟨t1,t2,_⟩:=IQ I1 (.inl ⟨kvs,.inl hq⟩);refine⟨"dict","dict.items",F.plainAttrs_dict,F.slot_dict_items,F.type_dict_items,t1,t2,Calls.callWith_builtin rfl (PySem.evalArgs_none ?_)⟩;obtain⟨z,y,vs,r,o,es,ep,h1,h2,h3,h4,h5,h6⟩:=(show ObjOk X.prog X.w H1 s1.heap a (.dK kvs) from I1.hok a _ hq)
 have hL:=r.length;refine call_meetsIn F.slot_dict_items t1 F.entry_dict_items (F.args_dict_items_1 _) (meets_dict_items (bQ X.prog X.w) a y) ⟨⟨vs,o,es,ep,h1,h2,h3,h4,h5,h6⟩,?_⟩;have new:ObjOk X.prog X.w (upd H1 a (.frz o (.dK kvs))) s1.heap a (.frz o (.dK kvs)):=⟨h1,z,y,vs,r,o,es,ep,h1,h2,h3,h4,h5,h6⟩
 have I2:Inv X pins σ (upd H1 a (.frz o (.dK kvs))) s1:=I1.freeze trivial hq h1 new;have I3:Inv X pins σ (upd H1 a (.frz o (.dK kvs))) { s1 with heap:=s1.heap.push { cls:= .type "dict_items",data:= .fields #[.ref a] } }:=I2.kept (t':=s1.toks) fun b o e=>Heap.get?_push_of_some _ e;refine wpAny_pyIter_items (knd:=bQ X.prog X.w) (kvs:=vs) (ep:=ep) ⟨_,Heap.get?_push_size _ rfl,rfl,rfl⟩ ⟨o,es,Heap.get?_push_of_some _ h1,h2,h3,h4,h5,h6⟩ ?_;refine⟨_,[_],_,_,upd H1 a (.frz o (.dK kvs)),rfl,I3.kept (t':=s1.toks) fun b o e=>Heap.get?_push_of_some _ e,MC a _ kvs h3,⟨.none,.none,by rw[hL];exact Heap.get?_push_size _ rfl⟩,fun b hb=> ?_,q o⟩;obtain rfl:=List.mem_singleton.mp hb;exact I3.fpOk (Nat.le_refl _) (I3.hok.fresh (Nat.le_refl _))
end
end L2
namespace L2
open PySem PySem.W PyProof.Rows
section
variable {X:Cx}{pins:List (Addr×Obj)}{σ:St}{H:Hp}{s:Shared}{a:Addr}{o:Obj}{u:HO}
theorem Inv.thaw (I:Inv X pins σ H s)(h0:∀o u,X.H₀ a≠some (.frz o u))(e:H a=some (.frz o u)):Inv X pins σ (upd H a u) s:=by
 have nn:∀b,H b=none->b≠a:=fun b n z=>by rw[z,e]at n;cases n
 have no:∀b c,H b=some (.own c)->b≠a:=fun b c n z=>by rw[z,e]at n;cases n
 have nt:∀b xs,H b=some (.tup xs)->b≠a:=fun b c n z=>by rw[z,e]at n;cases n
 refine⟨I.ok,I.os,I.bare,⟨I.base.keep,I.base.slot,fun b ob q n hx=> ?_,I.base.there,fun b xs q=> ?_,fun b ob xs q=> ?_,fun b ps q=> ?_⟩,I.loc,I.cell,?_,fun x c ec=> ?_,fun p hp=> ?_,fun b v q=> ?_,I.len⟩
 ·have z:=I.base.free b ob q n hx;rw[aS (nn b z)];exact z
 ·have z:=I.base.tups b xs q;rw[aS (nt b xs z)];exact z
 ·have z:=I.base.frzs b ob xs q;have hb:b≠a:=fun y=>h0 ob xs (by rw[←y];exact q);rw[aS hb];exact z
 ·obtain⟨more,z⟩:=I.base.tbls b ps q;refine⟨more,?_⟩;rw[aS (fun y=>by rw[y,e]at z;cases z)];exact z
 ·rw[aS (nn _ I.free)];exact I.free
 ·rw[aS (nn _ (I.freeC x c ec))];exact I.freeC x c ec
 ·obtain⟨p1,p2,p3⟩:=I.pin p hp;exact⟨p1,by rw[aS (nn _ p2)];exact p2,p3⟩
 ·have so:∀b c,H b=some (.own c)->upd H a u b=some (.own c):=fun b c z=>by rw[aS (no b c z)];exact z
  have st:∀b xs,H b=some (.tup xs)->upd H a u b=some (.tup xs):=fun b c z=>by rw[aS (nt b c z)];exact z
  by_cases hb:b=a
  ·subst hb;rw[bE]at q;cases q;obtain⟨_,z⟩:=(show ObjOk X.prog X.w H s.heap b (.frz o u) from I.hok b _ e)
   exact z.stay (fun _ _ _ q=>q) (fun c z=>so c b z) st
  ·rw[aS hb]at q;exact(I.hok b v q).stay (fun _ _ _ q=>q) (fun c z=>so c b z) st
theorem Inv.wasFree (I:Inv X pins σ H s)(h:∀o u,H a≠some (.frz o u)):∀o u,X.H₀ a≠some (.frz o u):=fun o u z=>h o u (I.base.frzs a o u z)
end
def jR (a:Addr)(R:Hp->Prop):Hp->Prop:=fun H=>∃o u,H a=some (.frz o u)/\R (upd H a u)
def Y5 (te:TE):TE:=fun σ H Q=>∃a,(∀o u,H a≠some (.frz o u))/\te σ H fun x=>jR a (Q x)
def Y6 (ts:TS):TS:=fun D σ H=>∃a,(∀o u,H a≠some (.frz o u))/\ts ⟨fun σ'=>jR a (D.nx σ'),fun v=>jR a (D.rt v),fun σ'=>jR a (D.bk σ'),fun σ'=>jR a (D.ct σ')⟩ σ H
section
variable {X:Cx}
theorem u7 {e:Expr}{te:TE} (he:PE X e te):PE X e (Y5 te):=by
 intro pins s σ H Q I h;obtain⟨a,h0,h⟩:=h;refine thn (he pins s σ H _ I h) fun v s1 ⟨x,H1,I1,r1,o,u,e,q⟩=> ?_;exact⟨x,_,I1.thaw (I.wasFree h0) e,r1,q⟩
theorem aAf {st:Stmt}{ts:TS} (he:PS X st ts):PS X st (Y6 ts):=by
 intro pins s σ H D I h;obtain⟨a,h0,h⟩:=h;refine thn (he pins s σ H _ I h) fun f s1 z=> ?_;cases f with
 | next=>obtain⟨σ1,H1,I1,o,u,e,q⟩:=z;exact⟨σ1,_,I1.thaw (I.wasFree h0) e,q⟩
 | brk=>obtain⟨σ1,H1,I1,o,u,e,q⟩:=z;exact⟨σ1,_,I1.thaw (I.wasFree h0) e,q⟩
 | cont=>obtain⟨σ1,H1,I1,o,u,e,q⟩:=z;exact⟨σ1,_,I1.thaw (I.wasFree h0) e,q⟩
 | ret v=>obtain⟨x,σ1,H1,I1,r,o,u,e,q⟩:=z;exact⟨x,σ1,_,I1.thaw (I.wasFree h0) e,r,q⟩
end
end L2
namespace L2
open PySem PySem.W PyProof.Rows
theorem IY:∀bs:List Bool,((List.range bs.length).any fun i=>bs.getD i false)=bs.any id
 | []=>rfl
 | b::bs=>by
  rw[List.length_cons,List.range_succ_eq_map,List.any_cons,List.any_map,List.any_cons,←IY bs];rfl
theorem CN:∀{ns:List Int}{us:List Value},Vals (ns.map V.int) us->∃xs:List (Int×Tok),us=xs.map (fun p=>Value.int p.1 p.2)/\ns=xs.map (·.1)
 | [],_,.nil=>⟨[],rfl,rfl⟩
 | n::ns,_,.cons r t=>by
  obtain⟨xs,rfl,rfl⟩:=CN t;obtain⟨tk,rfl⟩:=r;exact⟨(n,tk)::xs,rfl,rfl⟩
section
variable {X:Cx}
def aDA (K:PySem.W.Frag):List V->Hp->VK->Prop:=fun xs H Q=>∃(p:Addr) (bs:List Bool),xs=[.ref p]/\SqL K H p (bs.map V.bl)/\Q (.bl (bs.any id)) H
theorem FI (hc:X.calm=true):dH X (.builtin "any") (aDA X.K):=by
 intro pins s σ H xs us Q I r h;obtain⟨p,bs,rfl,hq,q⟩:=h;obtain⟨u,rfl,rx⟩:=kC r;cases rx;obtain⟨its,r',pl,hz⟩:=I.list hq;have hl:=pl.isList;have hlt:p<s.heap.objs.size:=by obtain⟨_,e,_⟩:=hl;exact Heap.lt_size e
 have hlen:bs.length=its.length:=by have:=r'.length;rw[List.length_map]at this;exact this
 refine call_any_walk (wpAny_pyIter_list hl ?_);refine⟨s.heap.objs.size,_,_,its.toArray.size,_,_,fun i=>bs.getD i false,rfl,Walks.list (show X.A.in1.handled=none from I.ok.hd hc) s.heap.objs.size p (Nat.ne_of_lt hlt) its.toArray,⟨⟨_,Heap.get?_push_size _ rfl,rfl,rfl⟩,hl.push _⟩,?_,?_⟩
 ·intro i v s' Q' E' hi hQ;have hi':its[i]? =some v:=by simpa using hi
  have hib:i<bs.length:=by rw[hlen];exact(List.getElem?_eq_some_iff.mp hi').1
  obtain⟨u,hu,ru⟩:=r'.get (i:=i) (x:=V.bl bs[i]) (by rw[List.getElem?_map,List.getElem?_eq_getElem hib];rfl);rw[hi']at hu;cases hu;have:v=Value.bool bs[i]:=ru;subst this;refine wpAny_truthy_bool ?_;have eb:bs.getD i false=bs[i]:=by rw[List.getD_eq_getElem?_getD,List.getElem?_eq_getElem hib];rfl
  have hQ':Q' (bs.getD i false) s':=hQ;rw[eb]at hQ';exact hQ'
 ·intro h' tk hk;have eany:(List.range its.toArray.size).any (fun i=>bs.getD i false)=bs.any id:=by
   rw[List.size_toArray,←hlen];exact IY bs
  rw[eany];refine⟨.bl (bs.any id),H,?_,rfl,q⟩;have I1:Inv X pins σ H { s with heap:=s.heap.push { cls:= .type "list_iterator",data:= .fields #[.ref p,.int 0 0] },toks:=s.toks }:=I.kept fun b u e=>Heap.get?_push_of_some _ e;obtain⟨f0,f1,f2,f3,f4,f5⟩:=I.fpOk (Nat.le_refl _) (I.hok.fresh (Nat.le_refl _));exact I1.turned (fun b o hb e=>hk b o (by simpa using hb) e) f0 f1 f3 f4 f5
def aCa (K:PySem.W.Frag):List V->Hp->VK->Prop:=fun xs H Q=>∃(p:Addr) (ns:List Int),xs=[.ref p]/\SqL K H p (ns.map V.int)/\Q (.int ns.sum) H
theorem xU (hc:X.calm=true):dH X (.builtin "sum") (aCa X.K):=by
 intro pins s σ H xs us Q I r h;obtain⟨p,ns,rfl,hq,q⟩:=h;obtain⟨u,rfl,rx⟩:=kC r;cases rx;obtain⟨its,r',pl,hz⟩:=I.list hq;obtain⟨zs,rfl,rfl⟩:=CN r';have hl:s.heap.IsList p (intItems zs.toArray):=by
  have:=pl.isList
  simpa [intItems] using this
 refine sum_intListG (I.ok.hd hc) hl fun h' tk t' hk=> ?_;have e2:preSum (numAt zs.toArray) zs.toArray.size=(zs.map (·.1)).sum:=by
  rw[preSum_eq,List.take_of_length_le (by simp)]
 rw[e2];exact⟨.int (zs.map (·.1)).sum,H,I.kept hk,⟨t',rfl⟩,q⟩
end
section
variable {K:PySem.W.Frag}{H:Hp}{Q:VK}
theorem R3 {p:Addr}{bs:List Bool} (e:SqL K H p (bs.map V.bl)) (h:Q (.bl (bs.any id)) H):aDA K [.ref p] H Q:=⟨p,bs,rfl,e,h⟩
theorem JV {p:Addr}{ns:List Int} (e:SqL K H p (ns.map V.int)) (h:Q (.int ns.sum) H):aCa K [.ref p] H Q:=⟨p,ns,rfl,e,h⟩
end
theorem TU:bootBuiltins "any" =some (.builtin "any"):=by decide +kernel
theorem CU:bootBuiltins "sum" =some (.builtin "sum"):=by decide +kernel
end L2
namespace L2
open PySem PySem.W PyProof.Rows
theorem aAm:typeLookup (.type "list") "keys" =pure none:=by rw[typeLookup_type,builtinLookup_eq_fast];kernel_rfl
theorem aAv:typeLookup (.type "list") "__getattr__" =pure none:=by rw[typeLookup_type,builtinLookup_eq_fast];kernel_rfl
theorem K6:isSubtype (.type "AttributeError") (.type "AttributeError")=pure true:=by rw[isSubtype_type];kernel_rfl
theorem XE:((Manifest.find? "AttributeError").elim false fun t=>t.mro.contains "StopIteration" ||t.mro.contains "SystemExit")=false:=by decide +kernel
section
variable {prog:Program}{w:World}{A:Around}{E:Value->Shared->Prop}{s:Shared}
theorem WH {α:Type}{v:Value}{a:Addr}{Q:α->Shared->Prop} (hh:A.handled=none)
  (k:∀e h' tk' o,h'.get? e=some o->o.cls= .type "AttributeError" ->(∀b o,s.heap.get? b=some o->h'.get? b=some o)->E (.ref e) { s with heap:=h',toks:=tk' }) :
  wpAny (model prog w) A (do
   let e ←newExc (.type "AttributeError") [v];let l ←mkText "keys"
   noteAttr e (.ref a) l
   raiseNew e) Q E s:=by
 unfold newExc newTuple;refine wpAny_bind (wpAny_bind (wpAny_newObj_type (wpAny_bind (m:=firstArgMember _ _) (wpAny_of_eq (a:=Value.none) (by simp only[firstArgMember,XE];rfl) (wpAny_newObj_type ?_ (by size_fits)))) (by size_fits)));refine wpAny_bind (wpAny_mkText ?_);refine wpAny_bind ?_;unfold noteAttr;refine wpAny_bind ?_;unfold lacksNameAndObj;have e1:(#[Value.ref s.heap.objs.size,.none,.none,.none,.bool false,.none]++ownMembersOf (.type "AttributeError") [v]:Array Value)= #[Value.ref s.heap.objs.size,.none,.none,.none,.bool false,.none,unsetMember,unsetMember]:=rfl;rw[e1];generalize hs:s.heap.push { cls:=Value.type "tuple",data:=Data.seq #[v] }=h1;have ho:(h1.push { cls:= .type "AttributeError",data:= .fields #[Value.ref s.heap.objs.size,.none,.none,.none,.bool false,.none,unsetMember,unsetMember] }).get? h1.objs.size=some { cls:= .type "AttributeError",data:= .fields #[Value.ref s.heap.objs.size,.none,.none,.none,.bool false,.none,unsetMember,unsetMember] }:=Heap.get?_push_size _ rfl;refine wpAny_bind (wpAny_isInstance (b:=true) (T:= "AttributeError") ⟨_,ho,rfl⟩ K6 ?_);refine wpAny_bind (wpAny_load ho ?_);refine wpAny_pure ?_;refine wpAny_bind (wpAny_rule ?_);refine wpAny_bind (wpAny_typeOf (T:= "AttributeError") ⟨_,ho,rfl⟩ ?_);unfold layMembers;refine wpAny_bind (wpAny_load ho ?_);refine wpAny_update ho ?_;simp only[raiseNew];refine wpAny_bind (wpAny_handled ?_);rw[hh];refine wpAny_bind (wpAny_pure (wpAny_throw ?_));refine k h1.objs.size _ _ _ (Heap.get?_update_self _ ho (Obj.isFreed_of_fields (Obj.data_mapFields rfl _))) (Obj.cls_mapFields ..) fun b o e=> ?_;have hb:b≠h1.objs.size:=fun z=>by
  have h2:h1.objs.size=s.heap.objs.size+1:=by rw[←hs];simp[Heap.push]
  have h3:=Heap.lt_size e;rw[z,h2]at h3;exact absurd h3 (Nat.not_lt.mpr (Nat.le_succ _))
 exact(Heap.get?_update_other _ _ (Ne.symm hb)).trans (Heap.get?_push_of_some _ (by rw[←hs];exact Heap.get?_push_of_some _ e))
theorem PU {a:Addr}{its:Array Value}{n:Nat}{tk:Tok}{Q:Fin->Shared->Prop} (hh:A.handled=none) (hx:s.heap.get? a=some { cls:= .type "list",data:= .seq its n })
  (k:∀e h' tk' o,h'.get? e=some o->o.cls= .type "AttributeError" ->(∀b o,s.heap.get? b=some o->h'.get? b=some o)->E (.ref e) { s with heap:=h',toks:=tk' }) :
  wpAny (model prog w) A (Builtin.«object.__getattribute__» ⟨[.ref a,.str "keys" tk],[]⟩) Q E s:=by
 obtain⟨h,g,d,t,os⟩:=s;have hT:(⟨h,g,d,t,os⟩:Shared).TypeIs (.ref a) "list" :=⟨_,hx,rfl⟩
 have f4:=aAm
 repeat (any_goals (first|assumption|wp_step))
 refine wpAny_bind (wpAny_mkStr ?_ (by rw[sizeLine_eq];decide +kernel));exact WH hh fun e h' tk' o e1 e2 e3=>k e h' tk' o e1 e2 e3
theorem SQ {a:Addr}{its:Array Value}{n:Nat}{tk:Tok}{R:Result->Shared->Prop} (hh:A.handled=none) (hx:s.heap.get? a=some { cls:= .type "list",data:= .seq its n })
  (k:∀e h' tk' o,h'.get? e=some o->o.cls= .type "AttributeError" ->(∀b o,s.heap.get? b=some o->h'.get? b=some o)->R (.error (.ref e)) { s with heap:=h',toks:=tk' }) :
  codeAny (model prog w) A (.call (.builtin "list.__getattribute__") ⟨[.ref a,.str "keys" tk],[]⟩) R s:=by
 obtain⟨h,g,d,t,os⟩:=s;exact codeAny_call_builtin F.slot_list_getattribute.plain F.entry_list_ga (F.slot_list_getattribute.check _ _ _ _ _ _ _ _ (show (⟨h,g,d,t,os⟩:Shared).TypeIs (.ref a) "list" from⟨_,hx,rfl⟩) (F.args_list_getattribute_2 _ _) (PU hh hx k))
theorem aAF {a:Addr}{its:Array Value}{n:Nat}{Q:Option Value->Shared->Prop} (hh:A.handled=none) (hx:s.heap.get? a=some { cls:= .type "list",data:= .seq its n })
  (k:∀h' tk',(∀b o,s.heap.get? b=some o->h'.get? b=some o)->Q none { s with heap:=h',toks:=tk' }):wpAny (model prog w) A (getAttr? (.ref a) "keys") Q E s:=by
 obtain⟨h,g,d,t,os⟩:=s;have hT:(⟨h,g,d,t,os⟩:Shared).TypeIs (.ref a) "list" :=⟨_,hx,rfl⟩
 have f2:=F.slot_list_getattribute.lookup;have f3:=F.slot_list_getattribute.bind (.ref a);unfold getAttr? getAttrBy?
 repeat (any_goals (first|assumption|wp_step))
 refine SQ hh hx fun e h' tk' o e1 e2 e3=> ?_;have hE:(⟨h',g,d,tk',os⟩:Shared).TypeIs (.ref e) "AttributeError" :=⟨_,e1,e2⟩
 show wpAny (model prog w) A (getattributeRaised (Value.ref a) (Value.str (Str.ofString "keys") t) (.type "list") (.ref e) none false false) _ _ (⟨h',g,d,tk',os⟩:Shared);unfold getattributeRaised;refine wpAny_bind (wpAny_isInstance (b:=true) hE K6 ?_);show wpAny (model prog w) A (typeLookup (.type "list") "__getattr__" >>= fun x=>hookOrError (Value.ref a) (Value.str (Str.ofString "keys") t) (.ref e) false false x) _ _ (⟨h',g,d,tk',os⟩:Shared);rw[aAv];refine wpAny_bind (wpAny_pure ?_);refine wpAny_throw ?_;refine wpAny_bind (wpAny_isInstance (b:=true) hE K6 ?_);exact wpAny_pure (k h' tk' e3)
end
end L2
namespace L2
open PySem PySem.W PyProof.Rows
theorem uY:entryFor table "dict.update.loop" =some Builtin.«dict.update.loop»:=entryFor_of_tree (by kernel_rfl)
theorem kE:plainId "dict.update.loop" =true:=by decide +kernel
def RT {κ:Type}[DecidableEq κ](kvs ps:List (κ×Value)):List (κ×Value):=ps.foldl (fun acc p=>stored acc p.1 p.2) kvs
theorem PN {κ:Type}[DecidableEq κ](kvs:List (κ×Value))(k:κ)(v:Value):(stored kvs k v).length<=kvs.length+1:=by
 unfold stored
 split
 ·rw[List.length_map];exact Nat.le_succ _
 ·rw[List.length_append];exact Nat.le_refl _
section
variable {prog:Program}{w:World}{A:Around}{E:Value->Shared->Prop}{κ:Type} [DecidableEq κ] {knd:KeyKind prog w κ}{I d:Addr}{fp wr:List Addr}{n:Nat}{P:Nat->Value->Prop}{St:Nat->Heap->Prop}{R:Result->Shared->Prop}
def aED (knd:KeyKind prog w κ)(d:Addr)(wr:List Addr)(P:Nat->Value->Prop)(ps:List (κ×Value))(h:Heap):Prop :=
 ∀i v,P i v->∃(q:Addr) (o:Obj) (key:Value) (k:κ) (u:Value) (c:Nat),v= .ref q/\q∉wr/\q≠d/\h.get? q=some o/\o.cls= .type "tuple" /\o.data= .seq #[key,u] c/\knd.is k key=true/\ps[i]? =some (k,u)
theorem WE (W:Walks prog w A.in1 I fp wr n P St)(hdf:d∉fp)(ps:List (κ×Value))(hn:ps.length=n)(hsz:n<=sizeLine) :
  ∀(k i:Nat) (s:Shared) (kvs:List (κ×Value)),n - i=k->i<=n->St i s.heap->kvs.length<=i->s.heap.DictOf knd d kvs->aED knd d wr P ps s.heap →
  (∀h' tk,h'.DictOf knd d (RT kvs (ps.drop i))->(∀b o,b∉wr->b≠d->s.heap.get? b=some o->h'.get? b=some o)->R (.ok (.ret .none)) { s with heap:=h',toks:=tk }) →
  codeAny (model prog w) A (.builtin "dict.update.loop" ⟨[.ref d,.ref I,rawInt i,.none],[]⟩) R s:=by
 have hdw:d∉wr:=fun h=>hdf (W.sub _ h);intro k
 induction k with
 | zero =>
  intro i s kvs hk hi hst hl hd hrow hR;have hin:i=n:=by lia
  subst hin;refine codeAny_builtin uY ?_;rw[Around.under_plainId kE _];show wpAny _ A.in1 (pyNext (.ref I) >>= _) _ _ s;refine wpAny_bind (W.done s _ _ hst fun h' tk hk'=> ?_);show wpAny _ _ (Builtin.Dict.addKeywords d [] >>= _) _ _ _;refine wpAny_bind (wpAny_pure (wpAny_pure (hR h' tk ?_ fun b o hb _ e=>hk' b o hb e)));rw[List.drop_of_length_le (by lia)];exact hd.at fun o e=>hk' d o hdw e
 | succ k ih =>
  intro i s kvs hk hi hst hl hd hrow hR;have hlt:i<n:=by lia
  refine codeAny_builtin uY ?_;rw[Around.under_plainId kE _];show wpAny _ A.in1 (pyNext (.ref I) >>= _) _ _ s;refine wpAny_bind (W.item i s _ _ hlt hst fun v h' tk hP hst' hk'=> ?_);obtain⟨q,o,key,kk,u,c,rfl,hqw,hqd,ho,hc,hdt,his,hps⟩:=hrow i v hP;have ho':=hk' q o hqw ho;refine wpAny_bind (wpAny_holding (wpAny_bind (wpAny_tryCatch ?_)));unfold Builtin.Dict.pairItems;refine wpAny_bind (wpAny_typeOf (T:= "tuple") ⟨o,ho',hc⟩ ?_);rw[if_pos (by rfl)];refine wpAny_bind (wpAny_seqItems ho' hdt (wpAny_pure ?_));have hd':h'.DictOf knd d kvs:=hd.at fun o e=>hk' d o hdw e;refine wpAny_holding (wpAny_dictSet_pairs his hd' (fun h2 hd2 sb=> ?_) (by lia));have keep:∀b o,b∉wr->b≠d->s.heap.get? b=some o->h2.get? b=some o:=fun b o hb hbd e=>(sb.2 b hbd).trans (hk' b o hb e);refine wpAny_pure ⟨plainId_quiet kE _,ih (i+1) _ (stored kvs kk u) (by lia) hlt (W.frame _ _ _ hst' fun b hb o e=>(sb.2 b (fun z=>hdf (z▸hb))).trans e) (Nat.le_trans (PN ..) (by lia)) hd2 (fun j v hj=> ?_) fun h3 tk3 hd3 hk3=> ?_⟩
  ·obtain⟨q,o,key,kk,u,c,e1,e2,e3,e4,e5⟩:=hrow j v hj;exact⟨q,o,key,kk,u,c,e1,e2,e3,keep q o e2 e3 e4,e5⟩
  ·refine hR h3 tk3 ?_ fun b o hb hbd e=>hk3 b o hb hbd (keep b o hb hbd e);have ed:ps.drop i=(kk,u)::ps.drop (i+1):=by
    have hi2:i<ps.length:=by lia
    rw[List.drop_eq_getElem_cons hi2];have:=(List.getElem?_eq_some_iff.mp hps).2;rw[this]
   rw[ed];exact hd3
end
end L2
namespace L2
open PySem PySem.W PyProof.Rows
section
variable {prog:Program}{w:World}{A:Around}{E:Value->Shared->Prop}{κ:Type} [DecidableEq κ] {knd:KeyKind prog w κ}{s:Shared}{l:Addr}{its:Array Value}{c:Nat}
theorem RK {ps:List (κ×Value)}{Q:Value->Shared->Prop} (hh:A.handled=none) (hl:s.heap.get? l=some { cls:= .type "list",data:= .seq its c }) (hsz:its.size<=sizeLine) (hlen:ps.length=its.size)
  (hrow:∀(i:Nat) (v:Value),its[i]? =some v->∃(q:Addr) (o:Obj) (key:Value) (k:κ) (u:Value) (c:Nat),v= .ref q/\s.heap.get? q=some o/\o.cls= .type "tuple" /\o.data= .seq #[key,u] c/\knd.is k key=true/\ps[i]? =some (k,u))
  (h:∀h' tk,h'.DictOf knd s.heap.objs.size (RT [] ps)->(∀b o,s.heap.get? b=some o->h'.get? b=some o)->Q (.ref s.heap.objs.size) { s with heap:=h',toks:=tk }) :
  wpAny (model prog w) A (call (.type "dict") [.ref l]) Q E s:=by
 refine callType_codes (Q₁:=fun obj s₁=>obj= .ref s.heap.objs.size/\s₁={ s with heap:=s.heap.push { cls:= .type "dict",data:= .dict #[] } }) F.kt_called_dict (F.kt_typeCall_dict_1 _) F.entry_dict_init (kt_code_dict_new _ ⟨rfl,rfl⟩) ?_;rintro obj s₁ ⟨rfl,rfl⟩;have hnew:(s.heap.push { cls:= .type "dict",data:= .dict #[] }).DictOf knd s.heap.objs.size []:=Heap.DictOf.new s.heap;have hl':(s.heap.push { cls:= .type "dict",data:= .dict #[] }).get? l=some { cls:= .type "list",data:= .seq its c }:=Heap.get?_push_of_some _ hl;refine⟨hnew.typeIs,F.args_dict_init_2 _ _,?_⟩;unfold Builtin.«dict.__init__»;refine wpAny_bind ?_;unfold Builtin.Dict.selfAndRest;refine wpAny_bind (wpAny_notOrdered_dict hnew.typeIs ?_);show wpAny _ _ (pure (s.heap.objs.size,[Value.ref l])) _ _ _;refine wpAny_pure ?_;show wpAny _ _ (Builtin.Dict.updateFrom "dict.__init__" s.heap.objs.size (.ref l) [] .none) _ _ _;unfold Builtin.Dict.updateFrom;refine wpAny_bind (wpAny_typeOf (T:= "list") ⟨_,hl',rfl⟩ ?_);rw[if_pos (by decide)];refine wpAny_bind (aAF hh hl' fun h1 t1 kp1=> ?_);rw[if_pos (show (none:Option Value).isNone=true from rfl)];refine wpAny_bind (wpAny_rule ?_);have hl1:=kp1 _ _ hl';have isl:h1.IsList l its:=⟨_,hl1,rfl,_,rfl⟩
 have lt1:∀b o,s.heap.get? b=some o->b≠h1.objs.size:=fun b o e z=>by
  have:=Heap.lt_size (kp1 b o (Heap.get?_push_of_some _ e));rw[z]at this;exact Nat.lt_irrefl _ this
 have hdI:s.heap.objs.size≠h1.objs.size:=fun z=>by
  have:=Heap.lt_size (kp1 _ _ (Heap.get?_push_size s.heap (o:={ cls:= .type "dict",data:= .dict #[] }) rfl));rw[z]at this;exact Nat.lt_irrefl _ this
 have hdl:∀b o,s.heap.get? b=some o->b≠s.heap.objs.size:=fun b o e z=>by
  have:=Heap.lt_size e;rw[z]at this;exact Nat.lt_irrefl _ this
 refine wpAny_bind (wpAny_pyIter_list isl ?_);refine wpAny_pure ⟨plainId_quiet kE _,?_⟩;have W:=Walks.list (prog:=prog) (w:=w) (A:=A.in1.in1) hh h1.objs.size l (lt1 _ _ hl) its;refine WE (knd:=knd) W (by simp only[List.mem_cons,List.not_mem_nil,or_false,not_or];exact⟨hdI,Ne.symm (hdl _ _ hl)⟩) ps hlen hsz its.size 0 _ [] (Nat.sub_zero _) (Nat.zero_le _) ⟨⟨_,Heap.get?_push_size _ rfl,rfl,rfl⟩,isl.push _⟩ (Nat.le_refl _) ((hnew.at fun o e=>kp1 _ o e).push _) (fun i v hi=> ?_) fun h' tk hd hk=> ?_
 ·obtain⟨q,o,key,k,u,c',e1,e2,e3,e4,e5,e6⟩:=hrow i v hi;refine⟨q,o,key,k,u,c',e1,?_,hdl _ _ e2,Heap.get?_push_of_some _ (kp1 _ _ (Heap.get?_push_of_some _ e2)),e3,e4,e5,e6⟩;simp only[List.mem_cons,List.not_mem_nil,or_false];exact lt1 _ _ e2
 ·refine⟨rfl,h h' tk hd fun b o e=>hk b o ?_ (hdl _ _ e) (Heap.get?_push_of_some _ (kp1 _ _ (Heap.get?_push_of_some _ e)))⟩;simp only[List.mem_cons,List.not_mem_nil,or_false];exact lt1 _ _ e
end
end L2
namespace L2
open PySem PySem.W PyProof.Rows
abbrev yW (H:Hp):List V->List (Key×V)->Prop:=Paired fun v p=>∃q,v= .ref q/\H q=some (.tup [kV p.1,p.2])
section
variable {X:Cx}{pins:List (Addr×Obj)}{σ:St}{H:Hp}{s:Shared}
theorem XW (I:Inv X pins σ H s){q:Addr}{k:Key}{x:V} (e:H q=some (.tup [kV k,x])):∃(o:Obj) (key u:Value) (n:Nat),s.heap.get? q=some o/\o.cls= .type "tuple" /\o.data= .seq #[key,u] n/\(bQ X.prog X.w).is k key=true/\RelV x u:=by
 obtain⟨_,us,r,o,h1,h2,n,h3⟩:=(show ObjOk X.prog X.w H s.heap q (.tup [kV k,x]) from I.hok q _ e)
 cases r with
 | @cons _ key _ _ r1 r =>
  cases r with
  | @cons _ u _ _ r2 r =>
   cases r;exact⟨o,key,u,n,h1,h2,h3,wD r1,r2⟩
theorem BY (I:Inv X pins σ H s):∀{vs:List V}{ps:List (Key×V)}{us:List Value},yW H vs ps->Vals vs us →
  ∃rs:List (Key×Value),KV ps rs/\rs.length=us.length/\∀(i:Nat) (v:Value),us[i]? =some v->∃(q:Addr) (o:Obj) (key:Value) (k:Key) (u:Value) (c:Nat),v= .ref q/\s.heap.get? q=some o/\o.cls= .type "tuple" /\o.data= .seq #[key,u] c/\(bQ X.prog X.w).is k key=true/\rs[i]? =some (k,u)
 | _,_,_,.nil,.nil=>⟨[],.nil,rfl,fun i v z=>by simp at z⟩
 | _::_,(k,x)::_,_::us,.cons ⟨q,e,hq⟩ t,.cons r rt=>by
  obtain⟨rs,h1,h2,h3⟩:=BY I t rt;obtain⟨o,key,u,n,o1,o2,o3,o4,o5⟩:=XW I hq;subst e;cases r;refine⟨(k,u)::rs,.cons ⟨rfl,o5⟩ h1,by simp[h2],fun i v z=> ?_⟩;cases i with
  | zero=>cases z;exact⟨q,o,key,k,u,n,rfl,o1,o2,o3,o4,rfl⟩
  | succ i =>
   obtain⟨q,o,key,k,u,c,w1⟩:=h3 i v (by simpa using z);exact⟨q,o,key,k,u,c,by simpa using w1⟩
def UM:List V->Hp->VK->Prop:=fun xs H Q=>∃p vs ps,xs=[.ref p]/\Rd H p (.lst vs)/\yW H vs ps/\∀l,H l=none->Q (.ref l) (upd H l (.dK (kZ [] ps)))
theorem BR (hc:X.calm=true):dH X (.type "dict") UM:=by
 intro pins s σ H xs us Q I r h;obtain⟨p,vs,ps,rfl,hq,pr,q⟩:=h;obtain⟨u,rfl,rx⟩:=kC r;cases rx;obtain⟨z,its,n,rv,e⟩:=(show ObjOk X.prog X.w H s.heap p (.lst vs) from hq.ok I.hok)
 obtain⟨rs,h1,h2,h3⟩:=BY I pr rv;have hl:=rv.length;have hlp:=h1.length;refine RK (knd:=bQ X.prog X.w) (ps:=rs) (I.ok.hd hc) e (by rw[List.size_toArray];lia) (by rw[List.size_toArray];exact h2) (fun i v hv=>h3 i v (by simpa using hv)) fun h' tk hd kp=> ?_;have lm:(kZ [] ps).length<=sizeLine:=Nat.le_trans (wO ps []) (by simp;lia);have nm:(s.heap.objs.size==sysModules)=false:=by
  have:=I.big;simp only[beq_eq_false_iff_ne];exact fun z=>by rw[z]at this;exact Nat.lt_irrefl _ this
 exact⟨.ref _,_,I.laid (t':=tk) kp (Nat.le_refl _) (SE lm nm (KV.merge h1 .nil) hd),rfl,q _ (I.hok.fresh (Nat.le_refl _))⟩
end
end L2
namespace L2
open PySem PySem.W PyProof.Rows
section
variable {prog:Program}{w:World}{A:Around}{E:Value->Shared->Prop}{s:Shared}{d it:Addr}{o:Obj}{es:Array DictEntry}{ep i:Nat}{k0 v0:Value}
end
end L2
namespace L2
open PySem PySem.W PyProof.Rows
section
variable {prog:Program}{w:World}{A:Around}{E:Value->Shared->Prop}{s:Shared}{d it:Addr}{o:Obj}{es:Array DictEntry}{ep i:Nat}
end
section
variable {X:Cx}
end
end L2
namespace L2
open PySem PySem.W PyProof.Rows
section
variable (r:Nat->Int)
variable {r}{p:Array Nat}
end
end L2
namespace L2
open PySem PySem.W PyProof.Rows
section
variable {r:Nat->Int}{p:Array Nat}
end
end L2
namespace L2
open PySem PySem.W PyProof.Rows
section
variable {α:Type}{lt:α->α->Bool}{l:List α}{d:α}
theorem K4 (c:Nat->Nat->Bool):(cT d c l).Perm l:=by
 unfold cT
 split
 ·exact List.Perm.refl _
 ·have h:=Array.perm_iff_toList_perm.mp (jC (n:=l.length) c (by lia));refine(h.map fun i=>l.getD i d).trans ?_;have e:((List.range l.length).toArray.toList.map fun i=>l.getD i d)=l:=by
   apply List.ext_getElem?
   intro i
   by_cases hi:i<l.length
   ·simp[hi,List.getD_eq_getElem?_getD]
   ·simp[hi]
  rw[e]
end
end L2
namespace L2
open PySem PySem.W PyProof.Rows
def ltS (x y:Str):Bool:=decide (x.cps.toList<y.cps.toList)
def yT (ss:List Str):List Str:=cT Str.empty (fun i j=>ltS (ss.getD i Str.empty) (ss.getD j Str.empty)) ss
theorem P1 (ss:List Str):(yT ss).Perm ss:=K4 _
theorem MK {α β:Type}(f:α->β)(d:α)(e:β)(c:Nat->Nat->Bool)(l:List α):cT e c (l.map f)=(cT d c l).map f:=by
 unfold cT;rw[List.length_map]
 split
 ·rfl
 ·rename_i h;rw[List.map_map]
  apply List.map_congr_left
  intro i hi;have h':=(jC (n:=l.length) c (by lia)).mem_iff.mp (Array.mem_toList_iff.mp hi);have hl:i<l.length:=by simpa using h'
  show (l.map f).getD i e=f (l.getD i d);rw[List.getD_eq_getElem?_getD,List.getD_eq_getElem?_getD,List.getElem?_map,List.getElem?_eq_getElem hl];rfl
section
variable {X:Cx}
end
def IF (rs:List (List Key)):List (List Key):=cT [] (tP rs) rs
theorem PV {H:Hp}{vs:List V}{rs:List (List Key)} (k:KRows H vs rs):KRows H (QF rs vs) (IF rs):=by
 have hl:vs.length=rs.length:=Paired.length k;unfold QF IF cT;rw[hl]
 split
 ·exact k
 ·have hp:=jC (n:=rs.length) (tP rs) (by lia);have hm:∀i∈(j6 (tP rs) (kas_sort rs.length)).toList,i<rs.length:=fun i hi=>by
   have h:=hp.mem_iff.mp (Array.mem_toList_iff.mp hi)
   simpa using h
  revert hm;generalize (j6 (tP rs) (kas_sort rs.length)).toList=l;intro hm
  induction l with
  | nil=>exact .nil
  | cons i l ih =>
   refine .cons ?_ (ih fun j hj=>hm j (List.mem_cons_of_mem _ hj));have hi:=hm i (.head _);obtain⟨p,r,e1,e2,e3⟩:=k.get (i:=i) (v:=vs.getD i .non) (by rw[List.getD_eq_getElem?_getD,List.getElem?_eq_getElem (by lia)];rfl);refine⟨p,e1,?_⟩;show H p=some (.tup ((rs.getD i []).map kV));rw[List.getD_eq_getElem?_getD,e2];exact e3
end L2
namespace L2
open PySem PySem.W PyProof.Rows
section
variable {X:Cx}{pins:List (Addr×Obj)}{σ:St}{H:Hp}{s:Shared}
end
end L2
namespace L2
open PySem PySem.W PyProof.Rows
section
variable {X:Cx}
end
end L2
namespace L2
open PySem PySem.W PyProof.Rows
theorem Paired.snoc {α β:Type}{F:α->β->Prop}:∀{l:List α}{m:List β}{a:α}{b:β},Paired F l m->F a b->Paired F (l++[a]) (m++[b])
 | _,_,_,_,.nil,h=> .cons h .nil
 | _,_,_,_,.cons r t,h=> .cons r (Paired.snoc t h)
theorem Paired.at2 {α β:Type}{F:α->β->Prop}:∀{l:List α}{m:List β}{i:Nat}{a:α}{b:β},Paired F l m->l[i]? =some a->m[i]? =some b->F a b
 | _,_,0,_,_,.cons r _,h1,h2=>by cases h1;cases h2;exact r
 | _,_,i+1,_,_,.cons _ t,h1,h2=>Paired.at2 (i:=i) t (by simpa using h1) (by simpa using h2)
 | _,_,_,_,_,.nil,h1,_=>by simp at h1
theorem lV {α:Type}{J:It}{g:TG}{ti:TT}{te:TE}{σ0:St}{fin:List V->Hp->Prop}{H:Hp} (xs:List α) (c:α->Bool) (P:α->V->Hp->Prop) (hm:∀x y H1 H2,P x y H1->Same H1 H2->P x y H2) (hn:xs.length<=sizeLine)
  (hgo:∀i H1,Same H H1->i<xs.length->J.go i H1)(hst:∀H1,Same H H1->J.stop xs.length H1)
  (hb:∀i x H1,xs[i]? =some x->Same H H1->∀v H',J.yld i H1 v H'->Same H1 H'/\∃σ2:St,σ2.length=σ0.length/\(∀(j:Nat) v,σ0[j]? =some (some v)->σ2[j]? =some (some v))/\(∀R:St->Hp->Prop,R σ2 H'->g v σ0 H' R) ∧
   (∀R:Bool->Hp->Prop,(∀H2,Same H' H2->R (c x) H2)->ti σ2 H' R)/\(c x=true->∀H2,Same H' H2->∀R:VK,(∀y H3,P x y H3->Same H2 H3->R y H3)->te σ2 H2 R))
  (hf:∀ys H1,Same H H1->Paired (fun x y=>P x y H1) (xs.filter c) ys->fin ys H1):fO J g ti te σ0 fin H:=by
 refine⟨fun i m ys H1=>i+m=xs.length/\Same H H1/\Paired (fun x y=>P x y H1) ((xs.take i).filter c) ys,⟨xs.length,by lia,Same.refl _,.nil⟩,?_⟩;rintro i m ys H1 ⟨e1,s1,pr⟩;cases m with
 | zero =>
  have ei:i=xs.length:=by lia
  subst ei;rw[List.take_length]at pr;exact .inl ⟨hst H1 s1,hf ys H1 s1 pr⟩
 | succ m =>
  have hi:i<xs.length:=by lia
  refine .inr ⟨hgo i H1 s1 hi,fun v H' y=> ?_⟩;have ex:xs[i]? =some xs[i]:=List.getElem?_eq_getElem hi;have etake:xs.take (i+1)=xs.take i++[xs[i]]:=by rw[List.take_succ,ex];rfl
  have hlen:ys.length<=i:=by
   rw[←Paired.length pr];exact Nat.le_trans (List.length_filter_le _ _) (by rw[List.length_take];lia)
  obtain⟨s2,σ2,l2,c2,hg,ht,he⟩:=hb i xs[i] H1 ex s1 v H' y;refine hg _ ⟨⟨l2,c2⟩,ht _ fun H2 s3=> ?_⟩;cases hc:c xs[i] with
  | true =>
   show te σ2 H2 _;refine he hc H2 s3 _ fun y H3 py s4=>⟨by lia,m,by lia,by lia,((s1.trans s2).trans s3).trans s4,?_⟩
   rw[etake,List.filter_append,List.filter_cons_of_pos hc];exact Paired.snoc (Paired.imp' (fun a b h=>hm a b _ _ h ((s2.trans s3).trans s4)) pr) py
  | false =>
   show ∃m',_;refine⟨m,by lia,by lia,(s1.trans s2).trans s3,?_⟩;rw[etake,List.filter_append,List.filter_cons_of_neg (by rw[hc];exact Bool.false_ne_true),List.filter_nil,List.append_nil];exact Paired.imp' (fun a b h=>hm a b _ _ h (s2.trans s3)) pr
section
variable {K:PySem.W.Frag}{ti:TT}{te:TE}{σ:St}{ci:List Nat}{rest:St}{fin:List V->Hp->Prop}{H:Hp}{a:Addr}
theorem P8 {n:Nat}(hr:ci.map (fun i=>(σ[i]?).join)=rest):cG n ci σ=List.replicate n none++rest:=by unfold cG;rw[hr]
theorem uX {α:Type}{vs:List V}{xs:List α} (f1 f2:α->V) (c:α->Bool) (P:α->V->Hp->Prop) (hm:∀x y H1 H2,P x y H1->Same H1 H2->P x y H2) (hn:xs.length<=sizeLine) (hr:ci.map (fun i=>(σ[i]?).join)=rest) (hl:SqL K H a vs)
  (hv:Paired (fun v x=>∃q,v= .ref q/\H q=some (.tup [f1 x,f2 x])) vs xs)
  (ht:∀x H1,x∈xs->Same H H1->∀R:Bool->Hp->Prop,(∀H2,Same H1 H2->R (c x) H2)->ti (some (f1 x)::some (f2 x)::rest) H1 R)
  (he:∀x H1,x∈xs->c x=true->Same H H1->∀R:VK,(∀y H2,P x y H2->Same H1 H2->R y H2)->te (some (f1 x)::some (f2 x)::rest) H1 R)
  (hf:∀ys H1,Same H H1->Paired (fun x y=>P x y H1) (xs.filter c) ys->fin ys H1):fO (Itl K a) (z5 K 2 (mK (cH 0) (mK (cH 1) DY))) ti te (cG 2 ci σ) fin H:=by
 have e0:cG 2 ci σ=none::none::rest:=P8 hr;rw[e0];have hlen:vs.length=xs.length:=Paired.length hv;refine lV xs c P hm hn (fun i H1 s hi=>⟨vs,vs[i],s.seq hl,List.getElem?_eq_getElem (by lia)⟩) (fun H1 s=>⟨vs,s.seq hl,by lia⟩) (fun i x H1 hx s1 v H' y=> ?_) hf;obtain⟨rfl,e2⟩:=y;have ev:=e2 vs (s1.seq hl);obtain⟨q,rfl,hq⟩:∃q,v= .ref q/\H q=some (.tup [f1 x,f2 x]):=Paired.at2 hv ev hx;have hmem:=List.mem_of_getElem? hx;refine⟨Same.refl _,some (f1 x)::some (f2 x)::rest,rfl,fun j v hv=> ?_,fun R h=>⟨q,[f1 x,f2 x],rfl,.inl (.inl (s1 _ _ hq)),rfl,f1 x,[f2 x],rfl,f2 x,[],rfl,rfl,h⟩,fun R h=>ht x _ hmem s1 R h,fun hc H2 s2 R h=>he x H2 hmem hc (s1.trans s2) R h⟩
 match j,hv with
 | 0,hv=>cases hv
 | 1,hv=>cases hv
 | j+2,hv=>exact hv
end
end L2
namespace L2
open PySem PySem.W PyProof.Rows
section
variable {K:PySem.W.Frag}{ti:TT}{te:TE}{σ:St}{ci:List Nat}{rest:St}{fin:List V->Hp->Prop}{H:Hp}{a:Addr}
theorem z9 {H:Hp}{q:Addr}{o:HO} (h:H q=none):Same H (upd H q o):=fun b u e=>by
 have:b≠q:=fun z=>by rw[z,h]at e;cases e
 rw[aS this];exact e
theorem aA4 {α:Type}{vs:List V}{xs:List α} (f1 f2 f3:α->V) (c:α->Bool) (P:α->V->Hp->Prop) (hm:∀x y H1 H2,P x y H1->Same H1 H2->P x y H2) (hn:xs.length<=sizeLine) (hr:ci.map (fun i=>(σ[i]?).join)=rest) (hl:SqL K H a vs)
  (hv:Paired (fun v x=>∃q,v= .ref q/\H q=some (.tup [f1 x,f2 x,f3 x])) vs xs)
  (ht:∀x H1,x∈xs->Same H H1->∀R:Bool->Hp->Prop,(∀H2,Same H1 H2->R (c x) H2)->ti (some (f1 x)::some (f2 x)::some (f3 x)::rest) H1 R)
  (he:∀x H1,x∈xs->c x=true->Same H H1->∀R:VK,(∀y H2,P x y H2->Same H1 H2->R y H2)->te (some (f1 x)::some (f2 x)::some (f3 x)::rest) H1 R)
  (hf:∀ys H1,Same H H1->Paired (fun x y=>P x y H1) (xs.filter c) ys->fin ys H1):fO (Itl K a) (z5 K 3 (mK (cH 0) (mK (cH 1) (mK (cH 2) DY)))) ti te (cG 3 ci σ) fin H:=by
 have e0:cG 3 ci σ=none::none::none::rest:=P8 hr;rw[e0];have hlen:vs.length=xs.length:=Paired.length hv;refine lV xs c P hm hn (fun i H1 s hi=>⟨vs,vs[i],s.seq hl,List.getElem?_eq_getElem (by lia)⟩) (fun H1 s=>⟨vs,s.seq hl,by lia⟩) (fun i x H1 hx s1 v H' y=> ?_) hf;obtain⟨rfl,e2⟩:=y;have ev:=e2 vs (s1.seq hl);obtain⟨q,rfl,hq⟩:∃q,v= .ref q/\H q=some (.tup [f1 x,f2 x,f3 x]):=Paired.at2 hv ev hx;have hmem:=List.mem_of_getElem? hx;refine⟨Same.refl _,some (f1 x)::some (f2 x)::some (f3 x)::rest,rfl,fun j v hv=> ?_,fun R h=>⟨q,[f1 x,f2 x,f3 x],rfl,.inl (.inl (s1 _ _ hq)),rfl,f1 x,[f2 x,f3 x],rfl,f2 x,[f3 x],rfl,f3 x,[],rfl,rfl,h⟩,fun R h=>ht x _ hmem s1 R h,fun hc H2 s2 R h=>he x H2 hmem hc (s1.trans s2) R h⟩
 match j,hv with
 | 0,hv=>cases hv
 | 1,hv=>cases hv
 | 2,hv=>cases hv
 | j+3,hv=>exact hv
theorem Q5 {kvs:List (Key×V)}{o:Obj} (c:Key×V->Bool) (P:Key×V->V->Hp->Prop) (hm:∀x y H1 H2,P x y H1->Same H1 H2->P x y H2) (hn:kvs.length<=sizeLine) (hr:ci.map (fun i=>(σ[i]?).join)=rest) (h0:H a=some (.frz o (.dK kvs)))
  (ht:∀x H1,x∈kvs->Same H H1->∀R:Bool->Hp->Prop,(∀H2,Same H1 H2->R (c x) H2)->ti (some (kV x.1)::rest) H1 R)
  (he:∀x H1,x∈kvs->c x=true->Same H H1->∀R:VK,(∀y H2,P x y H2->Same H1 H2->R y H2)->te (some (kV x.1)::rest) H1 R)
  (hf:∀ys H1,Same H H1->Paired (fun x y=>P x y H1) (kvs.filter c) ys->fin ys H1):fO (Itk a o kvs) (cH 0) ti te (cG 1 ci σ) fin H:=by
 rw[CV hr];refine lV kvs c P hm hn (fun i H1 s hi=>⟨s _ _ h0,hi⟩) (fun H1 s=>⟨s _ _ h0,Nat.le_refl _⟩) (fun i x H1 hx s1 v H' y=> ?_) hf;obtain⟨rfl,k,u,e2,rfl⟩:=y;rw[hx]at e2;cases e2;have hmem:=List.mem_of_getElem? hx;refine⟨Same.refl _,some (kV k)::rest,rfl,fun j v hv=> ?_,fun R h=>h,fun R h=>ht _ _ hmem s1 R h,fun hc H2 s2 R h=>he _ H2 hmem hc (s1.trans s2) R h⟩;cases j with
 | zero=>cases hv
 | succ j=>exact hv
end
section
variable {σ:St}{H:Hp}{g:TG}{tb:TS}{nx bk ct:St->Hp->Prop}{rt:VK}
theorem WI {p:Addr}{o:Obj} (kvs:List (Key×V)) (Pv:Nat->St->Hp->Prop) (h0:Pv 0 σ H) (hl:∀i σ H,Pv i σ H->H p=some (.frz o (.dK kvs)))
  (hs:∀i k v σ H,kvs[i]? =some (k,v)->Pv i σ H->g (kV k) σ H fun σ2 H2=>tb ⟨Pv (i+1),rt,nx,Pv (i+1)⟩ σ2 H2)(hd:∀σ H,Pv kvs.length σ H->nx σ H):OS (Itk p o kvs) g tb ⟨nx,rt,bk,ct⟩ σ H:=by
 refine⟨fun i m σ H=>m=kvs.length - i/\i<=kvs.length/\Pv i σ H,⟨kvs.length,by simp,Nat.zero_le _,h0⟩,?_⟩;rintro i m σ H ⟨rfl,hi,q⟩
 by_cases hlt:i<kvs.length
 ·refine .inr ⟨⟨hl i σ H q,hlt⟩,Pv (i+1),fun σ' H' p'=>⟨kvs.length - (i+1),by lia,rfl,hlt,p'⟩,fun x H' y=> ?_⟩;obtain⟨rfl,k,v,e,rfl⟩:=y;exact hs i k v σ _ e q
 ·have e:i=kvs.length:=by lia
  subst e;exact .inl ⟨⟨hl _ σ H q,Nat.le_refl _⟩,hd σ H q⟩
end
def SV (R:It->Hp->Prop):VK:=fun x H1=>∃a kvs,x= .ref a/\H1 a=some (.dK kvs)/\∀o,R (Itk a o kvs) (upd H1 a (.frz o (.dK kvs)))
def N1 (R:It->Hp->Prop):VK:=fun x H1=>∃a kvs,x= .ref a/\H1 a=some (.dK kvs)/\∀o,R (Iti a o kvs) (upd H1 a (.frz o (.dK kvs)))
def aCn (Q:VK)(y:V):VK:=fun x H2=>∃a o,x= .ref a/\DGet H2 a y o/\Q (.bl o.isSome) H2
def OB (Q:VK)(y:V):VK:=fun x H2=>∃a o,x= .ref a/\DGet H2 a y o/\Q (.bl (!o.isSome)) H2
def UB (σ:St)(ty tx:TE)(Q:VK):VK:=fun x H1=>∃a,x= .ref a/\IsD H1 a/\ty σ H1 fun y H2=>tx σ H2 fun z H3=>∃o,DGet H3 a y o/\Q (o.getD z) H3
def aCv (a:Addr)(Q:VK)(y:V):VK:=fun z H3=>∃o,DGet H3 a y o/\Q (o.getD z) H3
section
variable {K:PySem.W.Frag}{H:Hp}{Q:VK}{σ:St}{nx:St->Hp->Prop}{R:It->Hp->Prop}{td ty tx:TE}
theorem SJ (h:td σ H (SV R)):SZ td σ H R:=h
theorem QD (h:td σ H (N1 R)):N5 td σ H R:=h
theorem AJ {p:Addr}{kvs:List (Key×V)} (e:H p=some (.dK kvs)) (h:∀o H',SameBut p H H'->H' p=some (.frz o (.dK kvs))->R (Itk p o kvs) H'):SV R (.ref p) H:=⟨p,kvs,rfl,e,fun o=>h o _ SameBut.upd bE⟩
theorem FP {p:Addr}{kvs:List (Key×V)} (e:H p=some (.dK kvs)) (h:∀o H',SameBut p H H'->H' p=some (.frz o (.dK kvs))->R (Iti p o kvs) H'):N1 R (.ref p) H:=⟨p,kvs,rfl,e,fun o=>h o _ SameBut.upd bE⟩
theorem aDt (h:ty σ H fun y H1=>td σ H1 (aCn Q y)):aCl ty td σ H Q:=h
theorem RG (h:ty σ H fun y H1=>td σ H1 (OB Q y)):OD ty td σ H Q:=h
theorem aAK {p:Addr}{z:Str}{kvs:List (Key×V)} (e:Rd H p (.dK kvs)) (h:Q (.bl (bH kvs (.inr z)).isSome) H):aCn Q (.str z) (.ref p) H:=⟨p,_,rfl,.inl ⟨kvs,.inr z,e,rfl,rfl⟩,h⟩
theorem BS {p:Addr}{z:Str}{kvs:List (Key×V)} (e:Rd H p (.dK kvs)) (h:Q (.bl (!(bH kvs (.inr z)).isSome)) H):OB Q (.str z) (.ref p) H:=⟨p,_,rfl,.inl ⟨kvs,.inr z,e,rfl,rfl⟩,h⟩
theorem j4 {p:Addr}{v:V}{z:Str}{kvs:List (Key×V)} (e:H p=some (.dK kvs)) (hl:kvs.length<sizeLine) (h:∀H',SameBut p H H'->H' p=some (.dK (cJ kvs (.inr z) v))->nx σ H'):O7 nx σ (.ref p) v (.str z) H :=
 ⟨p,_,rfl,DPut.k (k:= .inr z) e hl,h _ SameBut.upd bE⟩
theorem bS {p:Addr}{v:V}{z:Str}{kvs:List (Key×V)} (e:Rd H p (.dK kvs)) (hv:bH kvs (.inr z)=some v) (h:Q v H):PY Q (.ref p) (.str z) H:=⟨p,v,rfl,.inl ⟨kvs,.inr z,e,rfl,hv.symm⟩,h⟩
theorem XG (h:∀p H',H p=none->Same H H'->H' p=some (.dK [])->Q (.ref p) H'):Q4 σ H Q:=iH h
theorem XD (h:td σ H (UB σ ty tx Q)):RP td ty tx σ H Q:=h
theorem mE {p:Addr}{kvs:List (List Key×V)} (e:H p=some (.dT kvs)) (h:ty σ H fun y H2=>tx σ H2 (aCv p Q y)):UB σ ty tx Q (.ref p) H:=⟨p,rfl,.inr ⟨kvs,.inl e⟩,h⟩
theorem nU {p b:Addr}{z:V}{kvs:List (List Key×V)} (k:List Key) (e:H p=some (.dT kvs)) (eb:H b=some (.tup (k.map kV))) (h:Q ((bH kvs k).getD z) H):aCv p Q (.ref b) z H:=⟨_,DGet.t e eb,h⟩
theorem KH {p:Addr}{vs:List V}{ps:List (Key×V)} (e:H p=some (.lst vs)) (r:yW H vs ps) (h:∀l H',H l=none->Same H H'->H' l=some (.dK (kZ [] ps))->Q (.ref l) H'):UM [.ref p] H Q:=⟨p,vs,ps,rfl,.inl e,r,iH h⟩
theorem VT {p:Addr}{vs:List V}{rs:List (List Key)}{sh:List Bool} (e:SqL K H p vs) (kr:KRows H vs rs) (hl:vs.length<64) (hs:∀r∈rs,r.map jL=sh) (hn:sh≠[]) (h:∀l ws H',H l=none->Same H H'->H' l=some (.lst ws)->KRows H' ws (IF rs)->Q (.ref l) H'):OF K [.ref p] H Q :=
 ⟨p,vs,rs,sh,rfl,e,kr,hl,hs,hn,iH fun l H' n S e=>h l _ H' n S e ((PV kr).same S)⟩
theorem rQ {te:TE}{p:Addr}{u:HO} (e:H p=some u) (nf:∀o x,u≠ .frz o x) (h:te σ H fun x=>jR p (Q x)):Y5 te σ H Q:=⟨p,fun o x z=>nf o x (by rw[e]at z;exact Option.some.inj z),h⟩
theorem VO {ts:TS}{bk ct:St->Hp->Prop}{rt:VK}{p:Addr}{u:HO} (e:H p=some u) (nf:∀o x,u≠ .frz o x) (h:ts ⟨fun σ'=>jR p (nx σ'),fun v=>jR p (rt v),fun σ'=>jR p (bk σ'),fun σ'=>jR p (ct σ')⟩ σ H):Y6 ts ⟨nx,rt,bk,ct⟩ σ H :=
 ⟨p,fun o x z=>nf o x (by rw[e]at z;exact Option.some.inj z),h⟩
theorem mF {p:Addr}{o:Obj}{u:HO}{R:Hp->Prop} (e:H p=some (.frz o u)) (h:∀H',SameBut p H H'->H' p=some u->R H'):jR p R H:=⟨o,u,e,h _ SameBut.upd bE⟩
theorem t5 {H Hf H1 H2:Hp}{p:Addr}{u:HO} (e:H p=some u) (a:SameBut p H Hf) (b:SameBut p Hf H1) (c:SameBut p H1 H2) (e2:H2 p=some u):Same H H2:=fun x o z=>by
 by_cases hx:x=p
 ·subst hx;rw[e]at z;cases z;exact e2
 ·exact c x o (b x o (a x o z hx) hx) hx
end
section
variable {X:Cx}{K:PySem.W.Frag}
theorem rE {e:Expr}{ta:TE}{f:Str}{pos:Pos} (he:PE X e ta) (hb:attributeBase e f X.env (eval e X.env)=eval e X.env) (hK:X.K=K:=by rfl):PE X (.Attribute e f pos) (WC K ta f):=by
 subst hK;exact aX he hb
theorem P5 (hK:X.K=K:=by rfl):OpR X (compareOp .In) (rIn K false):=by
 subst hK;exact Q6
end
end L2
namespace L2
open PySem PySem.W PyProof.Rows
section
variable {K:PySem.W.Frag}{ti:TT}{te:TE}{σ:St}{ci:List Nat}{rest:St}{fin:List V->Hp->Prop}{H:Hp}{a:Addr}{α:Type}
theorem fQ {vs:List V}{xs:List α} (F:V->α->Prop) (c:α->Bool) (P:α->V->Hp->Prop) (hm:∀x y H1 H2,P x y H1->Same H1 H2->P x y H2) (hn:xs.length<=sizeLine) (hr:ci.map (fun i=>(σ[i]?).join)=rest) (hl:SqL K H a vs) (hv:Paired F vs xs)
  (ht:∀v x H1,F v x->x∈xs->Same H H1->∀R:Bool->Hp->Prop,(∀H2,Same H1 H2->R (c x) H2)->ti (some v::rest) H1 R)
  (he:∀v x H1,F v x->x∈xs->c x=true->Same H H1->∀R:VK,(∀y H2,P x y H2->Same H1 H2->R y H2)->te (some v::rest) H1 R)
  (hf:∀ys H1,Same H H1->Paired (fun x y=>P x y H1) (xs.filter c) ys->fin ys H1):fO (Itl K a) (cH 0) ti te (cG 1 ci σ) fin H:=by
 rw[CV hr];have hlen:vs.length=xs.length:=Paired.length hv;refine lV xs c P hm hn (fun i H1 s hi=>⟨vs,vs[i],s.seq hl,List.getElem?_eq_getElem (by lia)⟩) (fun H1 s=>⟨vs,s.seq hl,by lia⟩) (fun i x H1 hx s1 v H' y=> ?_) hf;obtain⟨rfl,e2⟩:=y;have ev:=e2 vs (s1.seq hl);have hF:=Paired.at2 hv ev hx;have hmem:=List.mem_of_getElem? hx;refine⟨Same.refl _,some v::rest,rfl,fun j v hv=> ?_,fun R h=>h,fun R h=>ht v x _ hF hmem s1 R h,fun hc H2 s2 R h=>he v x H2 hF hmem hc (s1.trans s2) R h⟩;cases j with
 | zero=>cases hv
 | succ j=>exact hv
theorem ND {kvs:List (Key×V)}{o:Obj}{xs:List α} (F:Key×V->α->Prop) (c:α->Bool) (P:α->V->Hp->Prop) (hm:∀x y H1 H2,P x y H1->Same H1 H2->P x y H2) (hn:xs.length<=sizeLine) (hr:ci.map (fun i=>(σ[i]?).join)=rest) (h0:H a=some (.frz o (.dK kvs))) (hv:Paired F kvs xs)
  (ht:∀e x H1,F e x->x∈xs->Same H H1->∀R:Bool->Hp->Prop,(∀H2,Same H1 H2->R (c x) H2)->ti (some (kV e.1)::some e.2::rest) H1 R)
  (he:∀e x H1,F e x->x∈xs->c x=true->Same H H1->∀R:VK,(∀y H2,P x y H2->Same H1 H2->R y H2)->te (some (kV e.1)::some e.2::rest) H1 R)
  (hf:∀ys H1,Same H H1->Paired (fun x y=>P x y H1) (xs.filter c) ys->fin ys H1):fO (Iti a o kvs) (z5 K 2 (mK (cH 0) (mK (cH 1) DY))) ti te (cG 2 ci σ) fin H:=by
 have e0:cG 2 ci σ=none::none::rest:=P8 hr;rw[e0];have hlen:kvs.length=xs.length:=Paired.length hv;refine lV xs c P hm hn (fun i H1 s hi=>⟨s _ _ h0,by lia⟩) (fun H1 s=>⟨s _ _ h0,by lia⟩) (fun i x H1 hx s1 v H' y=> ?_) hf;obtain⟨k,u,q,e2,rfl,hq,rfl⟩:=y;have hF:=Paired.at2 hv e2 hx;have hmem:=List.mem_of_getElem? hx;have sq:Same H1 (upd H1 q (.tup [kV k,u])):=z9 hq;refine⟨sq,some (kV k)::some u::rest,rfl,fun j v hv=> ?_,fun R h=>⟨q,[kV k,u],rfl,.inl (.inl bE),rfl,kV k,[u],rfl,u,[],rfl,rfl,h⟩,fun R h=>ht _ x _ hF hmem (s1.trans sq) R h,fun hc H2 s2 R h=>he _ x H2 hF hmem hc ((s1.trans sq).trans s2) R h⟩
 match j,hv with
 | 0,hv=>cases hv
 | 1,hv=>cases hv
 | j+2,hv=>exact hv
end
theorem eV {α:Type}{f:α->V}:∀{l:List α}{ys:List V},Paired (fun x y=>y=f x) l ys->ys=l.map f
 | _,_,.nil=>rfl
 | _,_,.cons h t=>by rw[h,eV t];rfl
theorem dR {α:Type}(l:List α):l.filter (fun _=>true)=l:=by simp
theorem UX {K:PySem.W.Frag}{H:Hp}{Q:VK}{p:Addr}{z:Str}{ss:List Str} (e:SqL K H p (ss.map V.str)) (h:Q (.bl (decide (z∈ss))) H):rIn K false (.str z) (.ref p) H Q:=by
 refine⟨p,_,rfl,.inl e,rfl,?_,?_⟩
 ·rw[List.all_eq_true];intro x hx;obtain⟨y,_,rfl⟩:=List.mem_map.mp hx;rfl
 ·have e2:inV (.str z) (ss.map V.str)=decide (z∈ss):=by
   rw[Bool.eq_iff_iff,decide_eq_true_eq];unfold inV;rw[List.any_eq_true]
   constructor
   ·rintro ⟨x,hx,h⟩;obtain⟨y,hy,rfl⟩:=List.mem_map.mp hx;have:y=z:=by simpa [eqV] using h
    rw[←this];exact hy
   ·intro h;exact⟨.str z,List.mem_map.mpr ⟨z,h,rfl⟩,by simp[eqV]⟩
  show Q (.bl (inV (.str z) (ss.map V.str))) H;rw[e2];exact h
end L2
namespace L2
open PySem PySem.W PyProof.Rows
abbrev aN:=Int×Str×Int
def jP (t:Int)(n:Str):List Key:=[.inl t,.inr n]
def vV:V->Int
 | .int i=>i
 | _=>0
def QL (kvs:List (List Key×V))(r:aN):List (List Key×V):=cJ kvs (jP r.1 r.2.1) (.int (vV ((bH kvs (jP r.1 r.2.1)).getD (.int 0))+r.2.2))
def pH (rows:List aN):List (List Key×V):=rows.foldl QL []
theorem tO (rows:List aN)(r:aN):pH (rows++[r])=QL (pH rows) r:=by unfold pH;rw[List.foldl_append];rfl
def dF (rows:List aN)(t:Int)(n:Str):Int:=((rows.filter fun r=>decide (r.1=t)&&decide (r.2.1=n)).map (·.2.2)).sum
theorem O5 (rows:List aN)(r:aN)(t:Int)(n:Str):dF (rows++[r]) t n=dF rows t n+if r.1=t/\r.2.1=n then r.2.2 else 0:=by
 unfold dF;rw[List.filter_append,List.map_append,List.sum_append]
 congr 1
 by_cases h:r.1=t/\r.2.1=n
 ·rw[if_pos h,List.filter_cons_of_pos (by simp[h])];simp
 ·rw[if_neg h,List.filter_cons_of_neg (by simpa using h)];simp
theorem WM {t t':Int}{n n':Str} (h:jP t n=jP t' n'):t=t'/\n=n':=by
 unfold jP at h;injection h with h1 h2;injection h2 with h2;exact⟨Sum.inl.inj h1,Sum.inr.inj h2⟩
theorem qY {α:Type}{P:List α->Prop} (h0:P []) (hs:∀l a,P l->P (l++[a])) (l:List α):P l:=by
 have:∀m:List α,P m.reverse:=fun m=>by
  induction m with
  | nil=>exact h0
  | cons a m ih=>rw[List.reverse_cons];exact hs _ _ ih
 rw[←List.reverse_reverse l];exact this _
theorem WB (t:Int)(n:Str)(rows:List aN):vV ((bH (pH rows) (jP t n)).getD (.int 0))=dF rows t n:=by
 induction rows using qY with
 | h0=>rfl
 | hs l r ih =>
  rw[tO,O5];unfold QL;rw[vZ]
  by_cases e:jP t n=jP r.1 r.2.1
  ·obtain⟨rfl,rfl⟩:=WM e;rw[if_pos rfl,if_pos ⟨rfl,rfl⟩,←ih];rfl
  ·rw[if_neg e,if_neg (fun h=>e (by rw[h.1,h.2])),ih];lia
theorem SY {κ:Type}[DecidableEq κ]{kvs:List (κ×V)}{k:κ}{v:V} (nd:(kvs.map (·.1)).Nodup):((cJ kvs k v).map (·.1)).Nodup:=by
 unfold cJ
 split
 ·have e:(kvs.map fun kv=>if kv.1=k then (kv.1,v) else kv).map (·.1)=kvs.map (·.1):=by
   rw[List.map_map]
   apply List.map_congr_left
   intro x _;show (if x.1=k then (x.1,v) else x).1=x.1
   split<;>rfl
  rw[e];exact nd
 ·rename_i h;rw[List.map_append];refine NF nd fun hk=>h ?_;obtain⟨x,hx,e⟩:=List.mem_map.mp hk;rw[List.any_eq_true];exact⟨x,hx,decide_eq_true e⟩
theorem nM {κ:Type}[DecidableEq κ]:∀{kvs:List (κ×V)}{e:κ×V},(kvs.map (·.1)).Nodup->e∈kvs->bH kvs e.1=some e.2
 | a::l,e,nd,h=>by
  have nd':=List.pairwise_cons.mp nd;rcases List.mem_cons.mp h with rfl|h
  ·exact d9 rfl
  ·rw[dI (nd'.1 e.1 (List.mem_map.mpr ⟨e,h,rfl⟩))];exact nM nd'.2 h
theorem FO {κ:Type}[DecidableEq κ]{kvs:List (κ×V)}{k:κ}{v:V} (h:bH kvs k=some v):(k,v)∈kvs:=by
 unfold bH at h;obtain⟨x,hx,e⟩:=Option.map_eq_some_iff.mp h;have h1:=List.find?_some hx;have h2:=List.mem_of_find?_eq_some hx;have h3:x.1=k:=of_decide_eq_true h1;rw[←h3,←e];exact h2
def aEZ (kvs:List (List Key×V)):Prop:=(kvs.map (·.1)).Nodup/\∀e∈kvs,∃t n i,e=(jP t n,.int i)
theorem FV (rows:List aN):aEZ (pH rows):=by
 induction rows using qY with
 | h0=>exact⟨List.nodup_nil,fun e h=>nomatch h⟩
 | hs l r ih =>
  rw[tO];refine⟨SY ih.1,fun e he=> ?_⟩;rcases IL he with h|⟨h1,h2⟩
  ·exact ih.2 e h
  ·exact⟨_,_,_,Prod.ext h1 h2⟩
theorem W3 (rows:List aN)(t:Int)(n:Str):∃i,(bH (pH rows) (jP t n)).getD (.int 0)= .int i:=by
 cases h:bH (pH rows) (jP t n) with
 | none=>exact⟨0,rfl⟩
 | some v =>
  obtain⟨t',n',i,e⟩:=(FV rows).2 _ (FO h);cases e;exact⟨i,rfl⟩
theorem J8 (rows:List aN):(pH rows).length<=rows.length:=by
 induction rows using qY with
 | h0=>exact Nat.le_refl _
 | hs l r ih =>
  rw[tO,List.length_append];exact Nat.le_trans (jA _ _ _) (by simp;lia)
end L2
namespace L2
open PySem PySem.W PyProof.Rows
theorem aAQ:typeLookup (.type "dict") "__len__" =pure (some (.builtin "dict.__len__")):=by rw[typeLookup_type,builtinLookup_eq_fast];kernel_rfl
section
variable {prog:Program}{w:World}{A:Around}{E:Value->Shared->Prop}{s:Shared}{d:Addr}{κ:Type} [DecidableEq κ] {knd:KeyKind prog w κ}{ps:List (κ×Value)}{ep:Nat}
theorem RL (T:s.TypeIs (.ref d) "dict"){Q:Bool->Shared->Prop}(h:Q false s):wpAny (model prog w) A (Builtin.List.listLengthHint (.ref d)) Q E s:=by
 unfold Builtin.List.listLengthHint;refine wpAny_bind (wpAny_specialOf T aAQ ?_);generalize q:("dict.__len__" :String)=i0
 wp_delta
 rw[show splitId i0=some ("dict","__len__") from by subst q;decide +kernel];subst q;refine wpAny_bind (wpAny_isInstance (T:= "dict") (b:=true) T (by rw[isSubtype_type];kernel_rfl) (wpAny_ite_split (fun z=>absurd z (by decide)) (fun _=>wpAny_ite_split (fun _=> ?_) (fun z=>absurd (by decide +kernel) z))));exact wpAny_bind (wpAny_typeOf T (wpAny_pure h))
theorem MO {R:Result->Shared->Prop}(hh:A.handled=none)(hm:s.heap.DictAt knd d ps ep)(hd0:(d==sysModules)=false)(S:Addr)(hSd:S≠d)(c0:Nat)(hS:s.heap.get? S=some { cls:= .type "list",data:= .seq #[] c0 })(hn:ps.length<=sizeLine)
  (k:∀h' tk acc c,(∀b o,b≠S->s.heap.get? b=some o->h'.get? b=some o)->h'.get? S=some { cls:= .type "list",dict:=none,data:= .seq acc c,slots:= #[] }->ItemsOf (fun i v=>∃k x,ps[i]? =some (k,x)/\knd.is k v=true) acc ps.length->R (.ok (.ret .none)) { s with heap:=h',toks:=tk }) :
  wpAny (model prog w) A.in1 (Builtin.List.listExtendWith (.ref S) (.ref d) .none) (fun fin s'=>match fin with| .done f=>R (.ok f) s'| .again c'=>c'.quiet=true/\codeAny (model prog w) A c' R s') (fun e s'=>R (.error e) s') s:=by
 obtain⟨o,es,ho,hc,hq,hk,hp,hnd⟩:=id hm;have T:s.TypeIs (.ref d) "dict" :=⟨o,ho,hc.1⟩
 have lS:S<s.heap.objs.size:=Heap.lt_size hS;have ld:d<s.heap.objs.size:=Heap.lt_size ho;have hsz:es.size=ps.length:=by rw[←hp.length];simp
 have W:=(Walks.dictKeys (prog:=prog) (w:=w) (knd:=knd) (A:=A.in1) hh s.heap.objs.size d (Nat.ne_of_lt ld) ps ep).toS;have run:∀(h:Heap) (c1 tk:Nat),h.IsKeyIter s.heap.objs.size d 0 ps.length ep->(∀b u,b≠S->s.heap.get? b=some u->h.get? b=some u)->h.get? S=some { cls:= .type "list",data:= .seq #[] c1 } →
   codeAny (model prog w) A (.builtin "list.extend.loop" ⟨[.ref S,.ref s.heap.objs.size,.none],[]⟩) R { s with heap:=h,toks:=tk }:=by
  intro h c1 tk hit kp hS1;refine codeAny_extend_loopS W hn S (by simp only[List.mem_cons,List.not_mem_nil,or_false,not_or];exact⟨Nat.ne_of_lt lS,hSd⟩) .none ps.length 0 _ #[] c1 rfl (Nat.zero_le _) ⟨hit,o,es,kp d o (Ne.symm hSd) ho,hc,hq,hk,hp,hnd⟩ hS1 (ItemsOf.nil _) fun s' acc c' mv hS2 hacc=> ?_;rw[Moved.eq_with mv];refine k s'.heap s'.toks acc c' (fun b u hb e=>mv.heap b u (fun z=> ?_) (kp b u hb e)) hS2 hacc;rcases List.mem_cons.mp z with z|z
  ·exact hb z
  ·have:=Heap.lt_size e;rw[List.mem_singleton.mp z]at this;exact Nat.lt_irrefl _ this
 unfold Builtin.List.listExtendWith;refine wpAny_bind (wpAny_typeOf (T:= "dict") T ?_);simp only[show Builtin.List.listSameRef (.ref S) (.ref d)=false by simp[Builtin.List.listSameRef,hSd],show (Value.type "dict" ==Value.type "list")=false by decide,show (Value.type "dict" ==Value.type "tuple")=false by decide,Bool.or_false,Bool.false_eq_true,if_false];refine wpAny_bind (AN hd0 ho hc hq ?_);have hS1:=Heap.get?_push_of_some { cls:= .type "dict_keyiterator",data:= .fields #[.ref d,.int 0 0,.int es.size 0,.int ep 0] } hS;refine wpAny_bind (wpAny_holding (RL ⟨o,Heap.get?_push_of_some _ ho,hc.1⟩ ?_));have hit:(s.heap.push { cls:= .type "dict_keyiterator",data:= .fields #[.ref d,.int 0 0,.int es.size 0,.int ep 0] }).IsKeyIter s.heap.objs.size d 0 ps.length ep:=⟨_,Heap.get?_push_size _ rfl,rfl,by rw[hsz];rfl⟩
 refine wpAny_ite_split (fun z=> ?_) (fun _=>wpAny_pure ⟨plainId_quiet F.plain_extend_loop _,run _ c0 _ hit (fun b u _ e=>Heap.get?_push_of_some _ e) hS1⟩);refine wpAny_bind (wpAny_rule (wpAny_bind ?_));show wpAny _ A.in1 (updateSeq S (·.push .none) >>= fun _=>updateSeq S (·.pop)) _ _ _;have u1:=Heap.get?_update_self (Obj.mapSeq (·.push Value.none)) hS1 rfl;have u2:=Heap.get?_update_self (Obj.mapSeq (·.pop)) u1 rfl;refine wpAny_bind (wpAny_updateSeq hS1 rfl (wpAny_updateSeq (hz:=by seq_fits) u1 rfl (wpAny_pure ⟨plainId_quiet F.plain_extend_loop _,run _ _ _ ?_ (fun b u hb e=> ?_) u2⟩)))
 ·exact hit.at fun u e=>(Heap.get?_update_other _ _ (Nat.ne_of_lt lS)).trans ((Heap.get?_update_other _ _ (Nat.ne_of_lt lS)).trans e)
 ·exact(Heap.get?_update_other _ _ (Ne.symm hb)).trans ((Heap.get?_update_other _ _ (Ne.symm hb)).trans (Heap.get?_push_of_some _ e))
theorem UO {Q:Value->Shared->Prop}(hh:A.handled=none)(hm:s.heap.DictAt knd d ps ep)(hd0:(d==sysModules)=false)(hn:ps.length<=sizeLine)
  (k:∀h' tk acc c,(∀b o,s.heap.get? b=some o->h'.get? b=some o)->h'.get? s.heap.objs.size=some { cls:= .type "list",dict:=none,data:= .seq acc c,slots:= #[] }->ItemsOf (fun i v=>∃k x,ps[i]? =some (k,x)/\knd.is k v=true) acc ps.length->Q (.ref s.heap.objs.size) { s with heap:=h',toks:=tk }) :
  wpAny (model prog w) A (call (.type "list") [.ref d]) Q E s:=by
 refine callType_codes (Q₁:=fun x s1=>x= .ref s.heap.objs.size/\s1={ s with heap:=s.heap.push { cls:= .type "list",data:= .seq #[] } }) F.called_list (F.typeCall_list_1 _) F.entry_list_init (code_list_new _ ⟨rfl,rfl⟩) ?_;rintro x s1 ⟨rfl,rfl⟩;have hS:(s.heap.push { cls:= .type "list",data:= .seq #[] }).get? s.heap.objs.size=some { cls:= .type "list",data:= .seq #[] }:=Heap.get?_push_size _ rfl;have hm1:(s.heap.push { cls:= .type "list",data:= .seq #[] }).DictAt knd d ps ep:=hm.at' fun o e=>Heap.get?_push_of_some _ e;have hdS:s.heap.objs.size≠d:=fun z=>by
  obtain⟨o,_,ho,_⟩:=hm;have:=Heap.lt_size ho;rw[←z]at this;exact Nat.lt_irrefl _ this
 refine⟨⟨_,hS,rfl⟩,F.args_list_init_2 _ _,?_⟩;show wpAny _ A.in1.in1 (Builtin.List.listItems (.ref s.heap.objs.size) >>= fun old=>Builtin.List.listUpdate (.ref s.heap.objs.size) (fun _=> #[]) >>= fun _=>letGo old.toList.reverse >>= fun _=>Builtin.List.listExtendWith (.ref s.heap.objs.size) (.ref d) .none) _ _ _;refine wpAny_bind ?_;unfold Builtin.List.listItems;refine wpAny_bind (wpAny_seqItems hS rfl (wpAny_pure ?_));show wpAny _ A.in1.in1 (updateSeq s.heap.objs.size (fun _=> #[]) >>= fun _=>letGo (#[]:Array Value).toList.reverse >>= fun _=>Builtin.List.listExtendWith (.ref s.heap.objs.size) (.ref d) .none) _ _ _;have u1:=Heap.get?_update_self (Obj.mapSeq (fun _=>(#[]:Array Value))) hS rfl;have kp:∀b o,b≠s.heap.objs.size->(s.heap.push { cls:= .type "list",data:= .seq #[] }).get? b=some o->((s.heap.push { cls:= .type "list",data:= .seq #[] }).update s.heap.objs.size (Obj.mapSeq (fun _=>(#[]:Array Value)))).get? b=some o:=fun b o hb e=>(Heap.get?_update_other _ _ (Ne.symm hb)).trans e;refine wpAny_bind (wpAny_updateSeq hS rfl (wpAny_bind (wpAny_letGo ?_)));refine MO (A:=A.in1) hh (hm1.at' fun o e=>kp d o (Ne.symm hdS) e) hd0 _ hdS _ u1 hn fun h' tk acc c kk hS' hacc=> ?_;exact⟨rfl,k h' tk acc c (fun b o e=>kk b o (Nat.ne_of_lt (Heap.lt_size e)) (kp b o (Nat.ne_of_lt (Heap.lt_size e)) (Heap.get?_push_of_some _ e))) hS' hacc⟩
end
section
variable {X:Cx}
def RB:List V->Hp->VK->Prop:=fun xs H Q=>∃p kvs,xs=[.ref p]/\Rd H p (.dK kvs)/\∀l,H l=none->Q (.ref l) (upd H l (.lst (kvs.map fun e=>kV e.1)))
theorem F9 {P:Program}{w:World}{kvs:List (Key×V)}{rs:List (Key×Value)} (r:KV kvs rs) {acc:Array Value} (h:ItemsOf (fun i v=>∃k x,rs[i]? =some (k,x)/\(bQ P w).is k v=true) acc rs.length):Vals (kvs.map fun e=>kV e.1) acc.toList:=by
 have e0:acc.toList.length=rs.length:=by rw[Array.length_toList];exact h.1
 refine AU (by rw[List.length_map,e0];exact r.length) fun i x u h1 h2=> ?_;obtain⟨k,y,e1,e2⟩:=h.2 i u (by simpa using h2);rw[List.getElem?_map]at h1;obtain⟨e,he,rfl⟩:=Option.map_eq_some_iff.mp h1;have hi:i<kvs.length:=(List.getElem?_eq_some_iff.mp he).1;obtain⟨k',v',u',f1,f2,f3⟩:=CL r hi;rw[he]at f1;cases f1;rw[e1]at f2;cases f2;exact y7 e2
theorem CY (hc:X.calm=true):dH X (.type "list") RB:=by
 intro pins s σ H xs us Q I r h;obtain⟨p,kvs,rfl,hq,q⟩:=h;obtain⟨u,rfl,rx⟩:=kC r;cases rx;obtain⟨z,y,rs,kv,o,es,ep,h1,h2,h3,h4,h5,h6⟩:=oQ I.hok hq;have hl:=kv.length;refine UO (knd:=bQ X.prog X.w) (ps:=rs) (ep:=ep) (I.ok.hd hc) ⟨o,es,h1,h2,h3,h4,h5,h6⟩ y (by lia) fun h' tk acc c kp hS hacc=> ?_;exact⟨.ref _,_,I.laid (t':=tk) kp (Nat.le_refl _) (show ObjOk X.prog X.w _ h' _ (.lst (kvs.map fun e=>kV e.1)) from⟨by rw[List.length_map];exact z,acc.toList,c,F9 kv hacc,by rw[Array.toArray_toList];exact hS⟩),rfl,q _ (I.hok.fresh (Nat.le_refl _))⟩
end
end L2
namespace L2
open PySem PySem.W PyProof.Rows
def yO (v d:Addr):HO:= .ext fun h=>h.IsValuesView v d
def OT (Q:VK):VK:=fun x H1=>∃a kvs,x= .ref a/\Rd H1 a (.dK kvs)/\∀v,H1 v=none->Q (.ref v) (upd H1 v (yO v a))
def Y1 (td:TE):TE:=fun σ H Q=>td σ H (OT Q)
section
variable {X:Cx}
theorem OV {l:Expr}{td:TE}{apos cpos:Pos} (hl:PE X l td) (hbase:attributeBase l "values" X.env (eval l X.env)=eval l X.env:=by rfl) (hline:(apos.endLine==cpos.line)=true:=by rfl) :
  PE X (.Call (.Attribute l "values" apos) [] [] cpos) (Y1 td):=by
 intro pins s σ H Q I h;refine wpAny_Call_method0_late hbase hline (thn (hl pins s σ H _ I h) fun v s1 ⟨x,H1,I1,r1,q1⟩=> ?_);obtain⟨a,kvs,rfl,hq,q⟩:=q1;cases r1;obtain⟨t1,t2,_⟩:=IQ I1 (.inl ⟨kvs,hq⟩);refine⟨"dict","dict.values",F.plainAttrs_dict,F.slot_dict_values,F.type_dict_values,t1,t2,Calls.callWith_builtin rfl (PySem.evalArgs_none ?_)⟩;obtain⟨z,y,vs,r,o,es,ep,h1,h2,h3,h4,h5,h6⟩:=oQ I1.hok hq;refine call_meetsIn F.slot_dict_values t1 F.entry_dict_values (F.args_dict_values_1 _) (meets_dict_values (bQ X.prog X.w) a y) ⟨⟨vs,o,es,ep,h1,h2,h3,h4,h5,h6⟩,?_⟩;have hv:(s1.heap.push { cls:= .type "dict_values",data:= .fields #[.ref a] }).IsValuesView s1.heap.objs.size a:=⟨_,Heap.get?_push_size _ rfl,rfl,rfl⟩
 refine⟨.ref s1.heap.objs.size,_,I1.laid (t':=s1.toks) (fun b u e=>Heap.get?_push_of_some _ e) (Nat.le_refl _) (show ObjOk X.prog X.w _ _ _ (yO s1.heap.objs.size a) from⟨hv,⟨_,Heap.get?_push_size _ rfl⟩,fun g1 g2 p k=> ?_⟩),rfl,q _ (I1.hok.fresh (Nat.le_refl _))⟩;obtain⟨o,e,c⟩:=p;exact⟨o,k o e,c⟩
theorem JO (ns:List Int):∀j,j<=ns.length->preSum (fun i=>ns.getD i 0) j=(ns.take j).sum
 | 0,_=>by simp[preSum]
 | j+1,h=>by
  rw[preSum,JO ns j (by lia),List.take_succ,List.getElem?_eq_getElem (by lia),List.sum_append];rw[List.getD_eq_getElem?_getD,List.getElem?_eq_getElem (by lia)];simp
theorem ZU (ns:List Int):preSum (fun i=>ns.getD i 0) ns.length=ns.sum:=by rw[JO ns _ (Nat.le_refl _),List.take_length]
def YE:List V->Hp->VK->Prop:=fun xs H Q=>∃(v d:Addr) (kvs:List (Key×V)) (ns:List Int),xs=[.ref v]/\H v=some (yO v d)/\Rd H d (.dK kvs)/\kvs.map (·.2)=ns.map V.int/\Q (.int ns.sum) H
theorem R7 (hc:X.calm=true):dH X (.builtin "sum") YE:=by
 intro pins s σ H xs us Q I r h;obtain⟨v,d,kvs,ns,rfl,hv,hq,hns,q⟩:=h;obtain⟨u,rfl,rx⟩:=kC r;cases rx;obtain⟨hview,_,_⟩:=(show ObjOk X.prog X.w H s.heap v (yO v d) from I.hok v _ hv)
 have hview:s.heap.IsValuesView v d:=hview;obtain⟨z,y,rs,kv,o,es,ep,h1,h2,h3,h4,h5,h6⟩:=oQ I.hok hq;have hl:=kv.length;have hln:kvs.length=ns.length:=by have:=congrArg List.length hns;rwa [List.length_map,List.length_map]at this
 have ld:d<s.heap.objs.size:=Heap.lt_size h1;have hm:s.heap.DictAt (bQ X.prog X.w) d rs ep:=⟨o,es,h1,h2,h3,h4,h5,h6⟩
 refine call_sum_walkG (wpAny_pyIter_values hview hm ?_);refine⟨s.heap.objs.size,_,_,rs.length,_,_,fun i=>ns.getD i 0,rfl,Walks.dictValues (knd:=bQ X.prog X.w) (show X.A.in1.handled=none from I.ok.hd hc) s.heap.objs.size d (Nat.ne_of_lt ld) rs ep,⟨⟨_,Heap.get?_push_size _ rfl,rfl,rfl⟩,hm.at' fun o e=>Heap.get?_push_of_some _ e⟩,?_,?_,?_⟩
 ·intro b hb;simp only[List.mem_cons,List.not_mem_nil,or_false]at hb;have hsz:(s.heap.push { cls:= .type "dict_valueiterator",data:= .fields #[.ref d,.int 0 0,.int rs.length 0,.int ep 0] }).objs.size=s.heap.objs.size+1:=by simp[Heap.push]
  rcases hb with rfl|rfl
  ·show s.heap.objs.size<_;rw[hsz];exact Nat.lt_succ_self _
  ·show b<_;rw[hsz];exact Nat.lt_succ_of_lt ld
 ·rintro i u ⟨kk,hk⟩;have hi:i<kvs.length:=by rw[hl];exact(List.getElem?_eq_some_iff.mp hk).1
  obtain⟨k',v',u',f1,f2,f3⟩:=CL kv hi;rw[hk]at f2;cases f2;have e1:(kvs.map (·.2))[i]? =some v':=by rw[List.getElem?_map,f1];rfl
  rw[hns,List.getElem?_map]at e1;obtain⟨n,hn,rfl⟩:=Option.map_eq_some_iff.mp e1;obtain⟨t,rfl⟩:=f3;refine⟨t,?_⟩;show Value.int n t=Value.int (ns.getD i 0) t;rw[List.getD_eq_getElem?_getD,hn];rfl
 ·intro h' tk t' hk;have e2:preSum (fun i=>ns.getD i 0) rs.length=ns.sum:=by
   rw[←hl,hln];exact ZU ns
  rw[e2];have I1:Inv X pins σ H { s with heap:=s.heap.push { cls:= .type "dict_valueiterator",data:= .fields #[.ref d,.int 0 0,.int rs.length 0,.int ep 0] },toks:=s.toks }:=I.kept fun b u e=>Heap.get?_push_of_some _ e;obtain⟨f0,f1,f2,f3,f4,f5⟩:=I.fpOk (Nat.le_refl _) (I.hok.fresh (Nat.le_refl _));exact⟨.int ns.sum,H,I1.turned (fun b o hb e=>hk b o (by simpa using hb) e) f0 f1 f3 f4 f5,⟨t',rfl⟩,q⟩
end
end L2
namespace L2
open PySem PySem.W PyProof.Rows
section
variable {X:Cx}{pins:List (Addr×Obj)}{σ:St}{H:Hp}{s:Shared}{h':Heap}
end
section
variable {X:Cx}
end
end L2
namespace L2
open PySem PySem.W PyProof.Rows
def aDf (σ:St)(tv:TE)(rd:V->V->Hp->VK->Prop)(nx:St->Hp->Prop)(x:V):VK:=fun y H2=>∃a v,x= .ref a/\DGet H2 a y (some v)/\tv σ H2 fun y2 H3=>rd v y2 H3 fun z H4=>∃H5,DPut H4 a y z H5/\nx σ H5
def aCS (σ:St)(p:Addr)(k:V)(nx:St->Hp->Prop):VK:=fun z H4=>∃H5,DPut H4 p k z H5/\nx σ H5
section
variable {K:PySem.W.Frag}{H:Hp}{Q:VK}{σ:St}{nx:St->Hp->Prop}{td ty tv:TE}{rd:V->V->Hp->VK->Prop}{rt:VK}{bk ct:St->Hp->Prop}{R:It->Hp->Prop}
theorem Z7 (h:td σ H fun x H1=>ty σ H1 (aDf σ tv rd nx x)):YW td ty tv rd ⟨nx,rt,bk,ct⟩ σ H:=h
theorem WO {p:Addr}{z:Str}{kvs:List (Key×V)}{v:V} (e:Rd H p (.dK kvs)) (hv:bH kvs (.inr z)=some v) (h:tv σ H fun y2 H3=>rd v y2 H3 (aCS σ p (.str z) nx)):aDf σ tv rd nx (.ref p) (.str z) H:=⟨p,v,rfl,.inl ⟨kvs,.inr z,e,rfl,hv.symm⟩,h⟩
theorem ZR {p:Addr}{z:Str}{kvs:List (Key×V)}{v:V} (e:H p=some (.dK kvs)) (hl:kvs.length<sizeLine) (h:∀H',SameBut p H H'->H' p=some (.dK (cJ kvs (.inr z) v))->nx σ H'):aCS σ p (.str z) nx v H:=⟨_,DPut.k (k:= .inr z) e hl,h _ SameBut.upd bE⟩
theorem J5 {p:Addr}{kvs:List (Key×V)} (e:Rd H p (.dK kvs)) (h:∀l H',H l=none->Same H H'->H' l=some (.lst (kvs.map fun e=>kV e.1))->Q (.ref l) H'):RB [.ref p] H Q:=⟨p,kvs,rfl,e,iH h⟩
theorem RU {l b:Addr}{xs zs:List V} (e:H l=some (.lst xs)) (e2:H b=some (.lst zs)) (hz:xs.length+zs.length<=sizeLine) (h:∀H',SameBut l H H'->H' l=some (.lst (xs++zs))->Q .non H'):NI (.ref l) [.ref b] H Q:=⟨l,b,xs,zs,rfl,rfl,e,e2,hz,h _ SameBut.upd bE⟩
theorem ZT (h:td σ H (OT Q)):Y1 td σ H Q:=h
theorem VG {a:Addr}{kvs:List (Key×V)} (e:Rd H a (.dK kvs)) (h:∀v H',H v=none->Same H H'->H' v=some (yO v a)->Q (.ref v) H'):OT Q (.ref a) H :=
 ⟨a,kvs,rfl,e,fun v hv=>h v _ hv (z9 hv) bE⟩
theorem ZK {v d:Addr}{kvs:List (Key×V)}{ns:List Int} (e:H v=some (yO v d)) (e2:Rd H d (.dK kvs)) (hn:kvs.map (·.2)=ns.map V.int) (h:Q (.int ns.sum) H):YE [.ref v] H Q:=⟨v,d,kvs,ns,rfl,e,e2,hn,h⟩
end
def cU (ps:List (Str×Int))(z:Str):Int:=((ps.filter fun p=>decide (p.1=z)).map (·.2)).sum
theorem RM (ps:List (Str×Int))(p:Str×Int)(z:Str):cU (ps++[p]) z=cU ps z+if p.1=z then p.2 else 0:=by
 unfold cU;rw[List.filter_append,List.map_append,List.sum_append]
 congr 1
 by_cases h:p.1=z
 ·rw[if_pos h];simp[h]
 ·rw[if_neg h];simp[h]
end L2
namespace L2
open PySem PySem.W PyProof.Rows
theorem aBY {te:TE}{σ:St}{ci:List Nat}{rest:St}{fin:List V->Hp->Prop}{H:Hp}{lo:Int}{n:Nat} (P:Nat->V->Hp->Prop) (hm:∀x y H1 H2,P x y H1->Same H1 H2->P x y H2) (hn:n<=sizeLine) (hr:ci.map (fun i=>(σ[i]?).join)=rest)
  (he:∀(i:Nat) H1,i<n->Same H H1->∀R:VK,(∀y H2,P i y H2->Same H1 H2->R y H2)->te (some (.int (lo+i))::rest) H1 R)
  (hf:∀ys H1,Same H H1->Paired (fun x y=>P x y H1) (List.range n) ys->fin ys H1):fO (Itr lo n) (cH 0) AT te (cG 1 ci σ) fin H:=by
 rw[CV hr];refine lV (List.range n) (fun _=>true) P hm (by rw[List.length_range];exact hn) (fun i H1 s hi=>by rw[List.length_range]at hi;exact hi) (fun H1 s=>by rw[List.length_range];exact Nat.le_refl _) (fun i x H1 hx s1 v H' y=> ?_) (fun ys H1 s1 h=>hf ys H1 s1 (by rw[dR]at h;exact h));obtain⟨rfl,rfl⟩:=y;obtain⟨hi,e⟩:=List.getElem?_eq_some_iff.mp hx;rw[List.length_range]at hi;rw[List.getElem_range]at e;subst e;refine⟨Same.refl _,some (.int (lo+(i:Nat)))::rest,rfl,fun j v hv=> ?_,fun R h=>h,fun R h=>h _ (Same.refl _),fun hc H2 s2 R h=>he i H2 hi (s1.trans s2) R h⟩;cases j with
 | zero=>cases hv
 | succ j=>exact hv
end L2
namespace L2
open PySem PySem.W PyProof.Rows PySem.Calls
section
variable {prog:Program}{w:World}{A:Around}{E:Value->Shared->Prop}{s:Shared}{d v:Addr}{o:Obj}{es:Array DictEntry}{ep:Nat}
theorem ME {T:String}{r:Addr}{n:Nat}{P:Nat->Value->Prop}{OK:Heap->Prop}{F:List Value->Shared->Prop} (S:KdlSrc prog w T r d n P OK) (hh:A.handled=none) (hok:OK s.heap) (hn:n<=sizeLine)
  (fin:∀(g:Heap) (t:Nat) (xs:Array Value),(∀b u,s.heap.get? b=some u->g.get? b=some u)->s.heap.objs.size<g.objs.size->ItemsOf P xs n->F xs.toList { s with heap:=g,toks:=t }):wpAny (model prog w) A (collect (.ref r)) F E s:=by
 obtain⟨lr,ld⟩:=S.there _ hok;unfold collect;refine wpAny_bind (wpAny_runValue (codeAny_builtin entry_proto_collect' ?_));rw[Around.under_plainId PySem.F.plain_proto_collect _];show wpAny _ A.in1 (newList [] >>= fun x=>again (.builtin "list.__iadd__" ⟨[x,.ref r],[]⟩)) _ _ s;refine wpAny_bind (wpAny_newObj_type (wpAny_pure ⟨plainId_quiet PySem.F.plain_list_iadd _,codeAny_builtin entry_list_iadd' ?_⟩));rw[Around.under_plainId PySem.F.plain_list_iadd _];have e0:(s.heap.push { cls:= .type "list",data:= .seq ([]:List Value).toArray }).get? s.heap.objs.size=some { cls:= .type "list",data:= .seq #[] }:=Heap.get?_push_size _ rfl;have go:=kdl_extend (A:=A) (s:={ s with heap:=s.heap.push { cls:= .type "list",data:= .seq ([]:List Value).toArray } }) (R:=fun (z:Result) (s2:Shared)=>∃(g:Heap) (t:Nat) (xs:Array Value) (c:Nat),z= .ok (.ret (.ref s.heap.objs.size))/\s2={ s with heap:=g,toks:=t }/\(∀b u,s.heap.get? b=some u->g.get? b=some u)/\g.get? s.heap.objs.size=some { cls:= .type "list",dict:=none,data:= .seq xs c,slots:= #[] }/\ItemsOf P xs n)
  S hh (S.keep _ _ hok fun b _ u q=>Heap.get?_push_of_some _ q) s.heap.objs.size (Nat.ne_of_gt lr) (Nat.ne_of_gt ld) (.ref s.heap.objs.size) 0 e0 (fun g t xs c kp hx hi=>⟨g,t,xs,c,rfl,rfl,fun b u q=>kp b u (Nat.ne_of_lt (Heap.lt_size q)) (Heap.get?_push_of_some _ q),hx,hi⟩) hn
 have last:∀(g:Heap) (t:Nat) (xs:Array Value) (c:Nat),(∀b u,s.heap.get? b=some u->g.get? b=some u)->g.get? s.heap.objs.size=some { cls:= .type "list",dict:=none,data:= .seq xs c,slots:= #[] }->ItemsOf P xs n->wpAny (model prog w) A (load s.heap.objs.size >>= fun o=>match o.data with| .seq ys _=>pure ys.toList|_=>unsupported "internal:collect") F E { s with heap:=g,toks:=t }:=fun g t xs c kp hx hi =>
  wpAny_bind (wpAny_load hx (wpAny_pure (fin g t xs kp (Heap.lt_size hx) hi)))
 refine wpAny_mono go (fun z s2 y=> ?_) (fun z s2 y=>by obtain⟨_,_,_,_,y,_⟩:=y;cases y);cases z with
 | done f=>obtain⟨g,t,xs,c,y,rfl,kp,hx,hi⟩:=y;cases y;exact last g t xs c kp hx hi
 | again c1=>exact⟨y.1,codeAny_mono y.2 fun q s3 y=>by obtain⟨g,t,xs,c,rfl,rfl,kp,hx,hi⟩:=y;exact last g t xs c kp hx hi⟩
theorem P3 {T:String}{r:Addr}{n:Nat}{P:Nat->Value->Prop}{OK:Heap->Prop}{Q:Value->Shared->Prop} (S:KdlSrc prog w T r d n P OK) (hh:A.handled=none) (hok:OK s.heap) (h64:n<64) (c:Nat->Nat->Bool) (κ:SortKind)
  (hk:∀vs:List Value,vs.length=n->(∀j v,vs[j]? =some v->P j v)->2<=vs.length->∀h' tk,(∀b o,s.heap.get? b=some o->h'.get? b=some o)->∀R:SortKind->Shared->Prop,R κ { s with heap:=h',toks:=tk }->wpAny (model prog w) A.in1.in1 (keyKind' vs.toArray) R (fun _ _=>False) { s with heap:=h',toks:=tk })
  (hc:∀vs:List Value,vs.length=n->(∀j v,vs[j]? =some v->P j v)->2<=vs.length->∀h' tk,(∀b o,s.heap.get? b=some o->h'.get? b=some o)->∀i j,i<vs.length->j<vs.length->∀C,C (c i j) { s with heap:=h',toks:=tk }->kas_ask prog w A.in1.in1 κ vs i j C { s with heap:=h',toks:=tk })
  (h:∀(vs:List Value) D h' tk e,vs.length=n->(∀j v,vs[j]? =some v->P j v)->s.heap.objs.size<=D->(∀b o,s.heap.get? b=some o->h'.get? b=some o)->h'.get? D=some (seqObj "list" (cT Value.none c vs).toArray e)->Q (.ref D) { s with heap:=h',toks:=tk }) :
  wpAny (model prog w) A (call (.builtin "sorted") [.ref r]) Q E s:=by
 refine Calls.call_function_entry kind_sorted plain_sorted entry_sorted (args_sorted1 _) ?_;unfold Builtin.«sorted»;refine wpAny_bind (m:=checkCount "sorted" 1 1 _) (wpAny_pure (wpAny_bind (ME S hh hok (by rw[sizeLine_eq];lia) fun q tk acc qk qz hacc=> ?_)));have hl:acc.toList.length=n:=by rw[Array.length_toList];exact hacc.1
 have hP:∀j v,acc.toList[j]? =some v->P j v:=fun j v e=>hacc.2 j v (by rw[←Array.getElem?_toList];exact e);generalize acc.toList=vs at hl hP;have hz64:vs.length<=sizeLine:=by rw[sizeLine_eq];lia
 refine wpAny_bind (wpAny_newList ?_ hz64);have oD:(q.push (seqObj "list" vs.toArray 0)).get? q.objs.size=some (seqObj "list" vs.toArray 0):=Heap.get?_push_size _ rfl;have kD:∀h',q9 q.objs.size (q.push (seqObj "list" vs.toArray 0)) h'->∀b o,s.heap.get? b=some o->h'.get? b=some o:=fun h' k b o e =>
  k b o (Nat.ne_of_lt (Heap.lt_size (qk b o e))) (Heap.get?_push_of_some _ (qk b o e))
 refine wpAny_bind (wpAny_holding (wpAny_call_entry slot_list_sort ⟨_,oD,rfl⟩ entry_list_sort ?body (args_list_sort _)))
 case body =>
  refine N8 (s:={ s with heap:=q.push (seqObj "list" vs.toArray 0),toks:=tk }) c κ oD (by lia) (fun h2 h' k=>hk vs hl hP h2 h' tk (kD h' k)) (fun h2 h' k=>hc vs hl hP h2 h' tk (kD h' k)) fun h' e k o'=> ?_;exact⟨_,rfl,wpAny_pure ⟨_,rfl,h vs _ h' tk e hl hP (Nat.le_of_lt qz) (kD h' k) o'⟩⟩
end
section
variable {X:Cx}
theorem W6 {K:PySem.W.Frag}(h:X.K=K:=by rfl):IxR X (JC K):=by subst h;exact iG
end
section
variable {K:PySem.W.Frag}{H:Hp}{Q:VK}{σ:St}{td:TE}
end
end L2
namespace L2
open PySem PySem.W PyProof.Rows
section
variable {X:Cx}
end
section
variable {X:Cx}{P:Program}{w:World}{K:PySem.W.Frag}{mg:Str->Option Value}{base:Heap}{k':Nat}{o e:Expr}{es:List Expr}{m:Str}{ta:TE}{t:TA}{apos pos:Pos}
theorem o0 (k:Nat){pl:Sem Bool}(hr:Room k' X.A)(ho:PE X o ta)(ha:PA X (e::es) t)(hk:k<=k':=by decide)(hst:starEach (e::es) X.env=(false,eval e X.env)::starEach es X.env:=by rfl)(hpl:(backTo pos (starEach es X.env)).any (·.1)=false:=by rfl)
  (ht:eval (.Call (.Attribute o m apos) (e::es) [] pos) X.env=(do let ov ←eval o X.env;standAt apos.atName;let (f,first) ←holding [ov] (getMethod ov m pl);callWith pos f first (backTo pos (starEach (e::es) X.env)) (backToKw pos (keywordEach [] X.env))):=by rfl)
  (h1:X.prog=P:=by rfl)(h2:X.w=w:=by rfl)(h3:X.K=K:=by rfl)(h4:X.mg=mg:=by rfl)(h5:X.base=base:=by rfl):PE X (.Call (.Attribute o m apos) (e::es) [] pos) (tMD (fun C sp=>Mc P w K mg base C m k sp) m ta t):=by
 subst h1 h2 h3 h4 h5;exact dD k hr ho ha hk hst hpl ht
theorem Z3 (k:Nat){pl:Sem Bool}(hr:Room k' X.A)(ho:PE X o ta)(hk:k<=k':=by decide)
  (ht:eval (.Call (.Attribute o m apos) [] [] pos) X.env=(do let ov ←eval o X.env;standAt apos.atName;let (f,first) ←holding [ov] (getMethod ov m pl);callWith pos f first (backTo pos (starEach [] X.env)) (backToKw pos (keywordEach [] X.env))):=by rfl)
  (h1:X.prog=P:=by rfl)(h2:X.w=w:=by rfl)(h3:X.K=K:=by rfl)(h4:X.mg=mg:=by rfl)(h5:X.base=base:=by rfl):PE X (.Call (.Attribute o m apos) [] [] pos) (tMD (fun C sp=>Mc P w K mg base C m k sp) m ta OR):=by
 subst h1 h2 h3 h4 h5;exact cF k hr ho hk ht
end
theorem aCz {v:V}{H:Hp}{Q:VK}{a0 a1 a2 a3 a4 a5 a6 a7 a8 a9 a10 a11 a12:Option V}{l:St} (h:Q v H):jS 13 (a0::a1::a2::a3::a4::a5::a6::a7::a8::a9::a10::a11::a12::some v::l) H Q:=⟨v,rfl,h⟩
theorem aBM {v:V}{H:Hp}{q:St->Hp->Prop}{a0 a1 a2 a3 a4 a5 a6 a7 a8 a9 a10 a11 a12 a:Option V}{l:St} (h:q (a0::a1::a2::a3::a4::a5::a6::a7::a8::a9::a10::a11::a12::some v::l) H):cH 13 v (a0::a1::a2::a3::a4::a5::a6::a7::a8::a9::a10::a11::a12::a::l) H q:=h
theorem aCp {v:V}{H:Hp}{Q:VK}{a0 a1 a2 a3 a4 a5 a6 a7 a8 a9 a10 a11 a12 a13:Option V}{l:St} (h:Q v H):jS 14 (a0::a1::a2::a3::a4::a5::a6::a7::a8::a9::a10::a11::a12::a13::some v::l) H Q:=⟨v,rfl,h⟩
theorem aBX {v:V}{H:Hp}{q:St->Hp->Prop}{a0 a1 a2 a3 a4 a5 a6 a7 a8 a9 a10 a11 a12 a13 a:Option V}{l:St} (h:q (a0::a1::a2::a3::a4::a5::a6::a7::a8::a9::a10::a11::a12::a13::some v::l) H):cH 14 v (a0::a1::a2::a3::a4::a5::a6::a7::a8::a9::a10::a11::a12::a13::a::l) H q:=h
end L2
namespace L2
open PySem PySem.W PyProof.Rows
theorem Room.units9 {k:Nat}{A:Around} (r:Room k A):A.units+9<cLine:=by have:=r.un;have:cLine=9900:=rfl;lia
def DeepEq (K:PySem.W.Frag)(H:Hp):Nat->V->V->Prop
 | 0,x,y=>x=y/\qO x=true
 | n+1,x,y=>(x=y/\qO x=true)∨(∃a b xs ys,x= .ref a/\y= .ref b/\SqL K H a xs/\SqL K H b ys/\Paired (DeepEq K H n) xs ys)∨(∃a b xs ys,x= .ref a/\y= .ref b/\H a=some (.tup xs)/\H b=some (.tup ys)/\Paired (DeepEq K H n) xs ys)
theorem FC {A:Around}{s:Shared}{x:V}{u v:Value} (h:qO x=true) (ru:RelV x u) (rv:RelV x v):SeqAt.EqAt A s u v true:=by
 have base:mO x=true->SeqAt.EqAt A s u v true:=fun hx=>by
  have:=SU (A:=A) (s:=s) ru rv hx hx;rw[XU hx]at this;exact this
 cases x<;>first|(cases ru;cases rv;exact SeqAt.EqAt.same _)|exact base h
theorem vS {A:Around}{s:Shared}{F:V->V->Prop} (hF:∀x y u v,F x y->RelV x u->RelV y v->SeqAt.EqAt A s u v true):∀{xs ys:List V}{us ws:List Value},Paired F xs ys->Vals xs us->Vals ys ws->∀j (h1:j<us.length) (h2:j<ws.length),SeqAt.EqAt A s us[j] ws[j] true
 | _,_,_,_,.nil,.nil,.nil,j,h1,_=>absurd h1 (Nat.not_lt_zero _)
 | _,_,_,_,.cons h _,.cons r1 _,.cons r2 _,0,_,_=>hF _ _ _ _ h r1 r2
 | _,_,_,_,.cons _ t,.cons _ t1,.cons _ t2,j+1,h1,h2=>vS hF t t1 t2 j (Nat.lt_of_succ_lt_succ h1) (Nat.lt_of_succ_lt_succ h2)
section
variable {X:Cx}{pins:List (Addr×Obj)}{σ:St}{H:Hp}{s:Shared}
theorem DX (I:Inv X pins σ H s):∀(n:Nat) (A:Around),A.units+n<cLine->∀x y u v,DeepEq X.K H n x y->RelV x u->RelV y v->SeqAt.EqAt A s u v true
 | 0,A,hu,x,y,u,v,h,ru,rv=>by obtain⟨rfl,h⟩:=h;exact FC h ru rv
 | n+1,A,hu,x,y,u,v,h,ru,rv=>by
  rcases h with⟨rfl,h⟩|⟨a,b,xs,ys,rfl,rfl,ha,hb,pr⟩|⟨a,b,xs,ys,rfl,rfl,ha,hb,pr⟩
  ·exact FC h ru rv
  ·cases ru;cases rv
   by_cases hab:a=b
   ·subst hab;exact SeqAt.EqAt.same _
   ·obtain⟨its,r,pl,hz⟩:=I.list ha;obtain⟨its2,r2,pl2,_⟩:=I.list hb;have hl:its.length=its2.length:=by rw[←r.length,←r2.length];exact Paired.length pr
    have:=SeqAt.EqAt.of_refs hab (SeqAt.RcAt.lists (A:=A) (e:=fun _=>true) pl.isList pl2.isList (by simpa using hl) (by lia) fun j h1 h2=>by
     have h1':j<its.length:=by simpa using h1
     have h2':j<its2.length:=by simpa using h2
     have:=vS (A:=A.in1) (DX I n A.in1 (by show A.units+1+n<cLine;lia)) pr r r2 j h1' h2'
     simpa using this)
    rw[AR]at this;exact this
  ·cases ru;cases rv
   by_cases hab:a=b
   ·subst hab;exact SeqAt.EqAt.same _
   ·obtain⟨_,its,r,o1,g1,c1,n1,d1⟩:=(show ObjOk X.prog X.w H s.heap a (.tup xs) from I.hok a _ ha)
    obtain⟨_,its2,r2,o2,g2,c2,n2,d2⟩:=(show ObjOk X.prog X.w H s.heap b (.tup ys) from I.hok b _ hb)
    have hl:its.length=its2.length:=by rw[←r.length,←r2.length];exact Paired.length pr
    have:=SeqAt.EqAt.of_refs hab (SeqAt.RcAt.tuples (A:=A) (e:=fun _=>true) ⟨o1,g1,c1,n1,d1⟩ ⟨o2,g2,c2,n2,d2⟩ (by lia) fun j h1 h2=>by
     have h1':j<its.length:=by simpa using h1
     have h2':j<its2.length:=by simpa using h2
     have:=vS (A:=A.in1) (DX I n A.in1 (by show A.units+1+n<cLine;lia)) pr r r2 j h1' h2'
     simpa using this)
    simpa [AR,hl] using this
end
section
variable {X:Cx}
def UJ (K:PySem.W.Frag)(r:Bool):R2:=fun x y H Q=>∃a b xs ys,x= .ref a/\y= .ref b/\SqL K H a xs/\SqL K H b ys/\Paired (DeepEq K H 4) xs ys/\Q (.bl r) H
theorem xD (hu:X.A.units+9<cLine):OpR X (compareOp .NotEq) (UJ X.K false):=by
 intro pins s σ H x y v u Q I rx ry h;obtain⟨a,b,xs,ys,rfl,rfl,ha,hb,pr,q⟩:=h;cases rx;cases ry;obtain⟨its,r,pl,hz⟩:=I.list ha;obtain⟨its2,r2,pl2,_⟩:=I.list hb;have hl:its.length=its2.length:=by rw[←r.length,←r2.length];exact Paired.length pr
 refine SeqAt.RcNeAt.lists (e:=fun _=>true) pl.isList pl2.isList (by simpa using hl) (by lia) (fun j h1 h2=> ?_) X.prog X.w X.xe _ ⟨.bl false,H,I,by rw[AR];rfl,q⟩;have:=vS (A:=X.A.in1) (DX I 4 X.A.in1 (by show X.A.units+1+4<cLine;lia)) pr r r2 j (by simpa using h1) (by simpa using h2)
 simpa using this
end
section
variable {K:PySem.W.Frag}{H H':Hp}{Q:VK}
theorem rK {a b:Addr}{xs ys:List V}{r:Bool} (ha:SqL K H a xs) (hb:SqL K H b ys) (pr:Paired (DeepEq K H 4) xs ys) (h:Q (.bl r) H):UJ K r (.ref a) (.ref b) H Q:=⟨a,b,xs,ys,rfl,rfl,ha,hb,pr,h⟩
theorem DeepEq.self {n:Nat}{x:V} (h:qO x=true):DeepEq K H n x x:=by cases n with|zero=>exact⟨rfl,h⟩|succ n=>exact .inl ⟨rfl,h⟩
theorem DeepEq.lst {n:Nat}{a b:Addr}{xs ys:List V} (ha:SqL K H a xs) (hb:SqL K H b ys) (pr:Paired (DeepEq K H n) xs ys):DeepEq K H (n+1) (.ref a) (.ref b):= .inr (.inl ⟨a,b,xs,ys,rfl,rfl,ha,hb,pr⟩)
theorem DeepEq.tup {n:Nat}{a b:Addr}{xs ys:List V} (ha:H a=some (.tup xs)) (hb:H b=some (.tup ys)) (pr:Paired (DeepEq K H n) xs ys):DeepEq K H (n+1) (.ref a) (.ref b):= .inr (.inr ⟨a,b,xs,ys,rfl,rfl,ha,hb,pr⟩)
theorem gU {n:Nat}:∀{xs:List V},xs.all qO=true->Paired (DeepEq K H n) xs xs
 | [],_=> .nil
 | x::xs,h=>by
  rw[List.all_cons,Bool.and_eq_true]at h;exact .cons (DeepEq.self h.1) (gU h.2)
end
section
variable {H:Hp}{Q:VK}{σ:St}{ty tx:TE}
end
end L2
namespace L2
open PySem PySem.W PyProof.Rows
section
variable {H:Hp}{Q:VK}
end
end L2
namespace L2
open PySem PySem.Spec PyProof.Rows
def SameT (H H':Hp):Prop:=∀b u,H b=some u->(∀ps,u≠ .tbl ps)->H' b=some u
theorem Same.t {H H':Hp}(s:Same H H'):SameT H H':=fun b u e _=>s b u e
theorem SameT.snoc {H H1 H2:Hp}(s:SameT H H1)(a:Same H1 H2):SameT H H2:=fun b u e n=>a b u (s b u e n)
theorem SameT.seq {K:PySem.W.Frag}{H H':Hp}{a:Addr}{xs:List V} (T:SameT H H') (h:SqL K H a xs):SqL K H' a xs:=by
 rcases h with (h|⟨o,h⟩)|h
 ·exact .inl (.inl (T _ _ h fun ps z=>by cases z))
 ·exact .inl (.inr ⟨o,T _ _ h fun ps z=>by cases z⟩)
 ·exact .inr h
def TabS (H:Hp)(PL:Addr)(pos:Pos)(qual:Str):Prop:=H PL=some (.tbl #[])∨∃(c':Addr) (oc:Obj) (fv:Array Value) (t:Tok),H PL=some (.tbl #[rawInt pos.line,rawInt pos.col,.ref c'])/\H c'=some (kn oc)/\oc.data= .fields fv/\fv[1]? =some (.str qual t)
theorem TabS.same {H H':Hp}{PL:Addr}{pos:Pos}{qual:Str} (x:TabS H PL pos qual) (s:Same H H'):TabS H' PL pos qual:=by
 rcases x with h|⟨c',oc,fv,t,h1,h2,h3⟩
 ·exact .inl (s _ _ h)
 ·exact .inr ⟨c',oc,fv,t,s _ _ h1,s _ _ h2,h3⟩
section
variable {X:Cx}{args:Arguments}{body:Expr}{lsc:Scope}{pos:Pos}{y:Str}{c cL PL:Addr}
end
section
variable {K:PySem.W.Frag}{ti:TT}{te:TE}{σ:St}{ci:List Nat}{rest:St}{fin:List V->Hp->Prop}{H:Hp}{a:Addr}{α:Type}
end
end L2
namespace L2
open PySem PySem.W PyProof.Rows
section
variable {X:Cx}{pins:List (Addr×Obj)}{σ:St}{H:Hp}{s:Shared}
end
open Classical in
section
variable {X:Cx}{K:PySem.W.Frag}
open Classical in
open Classical in
open Classical in
end
end L2
namespace L2
open PySem PySem.W PyProof.Rows
section
variable {K:PySem.W.Frag}{ti:TT}{te:TE}{σ:St}{ci:List Nat}{rest:St}{fin:List V->Hp->Prop}{H:Hp}{a:Addr}
theorem aDc {kvs:List (List Key×V)}{o:Obj} (c:List Key×V->Bool) (P:List Key×V->V->Hp->Prop) (hm:∀x y H1 H2,P x y H1->Same H1 H2->P x y H2) (hk:∀e∈kvs,e.1.length=2) (hn:kvs.length<=sizeLine) (hr:ci.map (fun i=>(σ[i]?).join)=rest) (h0:H a=some (.frz o (.dT kvs)))
  (ht:∀k1 k2 v H1,([k1,k2],v)∈kvs->Same H H1->∀R:Bool->Hp->Prop,(∀H2,Same H1 H2->R (c ([k1,k2],v)) H2)->ti (some (kV k1)::some (kV k2)::rest) H1 R)
  (he:∀k1 k2 v H1,([k1,k2],v)∈kvs->c ([k1,k2],v)=true->Same H H1->∀R:VK,(∀y H2,P ([k1,k2],v) y H2->Same H1 H2->R y H2)->te (some (kV k1)::some (kV k2)::rest) H1 R)
  (hf:∀ys H1,Same H H1->Paired (fun x y=>P x y H1) (kvs.filter c) ys->fin ys H1):fO (Itq a o kvs) (z5 K 2 (mK (cH 0) (mK (cH 1) DY))) ti te (cG 2 ci σ) fin H:=by
 have e0:cG 2 ci σ=none::none::rest:=P8 hr;rw[e0];refine lV kvs c P hm hn (fun i H1 s hi=>⟨s _ _ h0,hi⟩) (fun H1 s=>⟨s _ _ h0,Nat.le_refl _⟩) (fun i x H1 hx s1 v H' y=> ?_) hf;obtain⟨rfl,k,u,q,e2,rfl,hq⟩:=y;rw[hx]at e2;cases e2;have hmem:=List.mem_of_getElem? hx;have hl2:=hk _ hmem;obtain⟨k1,k2,rfl⟩:∃k1 k2,k=[k1,k2]:=by
  match k,hl2 with
  | [k1,k2],_=>exact⟨k1,k2,rfl⟩
 refine⟨Same.refl _,some (kV k1)::some (kV k2)::rest,rfl,fun j v hv=> ?_,fun R h=>⟨q,[kV k1,kV k2],rfl,.inl (.inl hq),rfl,kV k1,[kV k2],rfl,kV k2,[],rfl,rfl,h⟩,fun R h=>ht _ _ _ _ hmem s1 R h,fun hc H2 s2 R h=>he _ _ _ H2 hmem hc (s1.trans s2) R h⟩
 match j,hv with
 | 0,hv=>cases hv
 | 1,hv=>cases hv
 | j+2,hv=>exact hv
end
end L2
namespace L2
open PySem PySem.W PyProof.Rows
section
variable {X:Cx}
end
end L2
namespace L2
open PySem PySem.W PyProof.Rows
section
variable {X:Cx}{ek ev:Expr}{tk tv:TE}{pos:Pos}
end
end L2
namespace L2
open PySem PySem.W PyProof.Rows
section
variable {K:Frag}{x qual:Str}{st:Stmt}{f:Addr}
end
end L2
namespace L2
open PySem PySem.W PyProof.Rows
section
variable {prog:Program}{w:World}{A:Around}{E:Value->Shared->Prop}{s:Shared}{κ:SortKind}{D:Keyed->Prop}{ρ:Keyed->Int}{st:SortSt}
end
end L2
namespace L2
open PySem PySem.W PyProof.Rows
section
variable {ρ:Keyed->Int}
variable {all o p ra rb:List Keyed}
end
end L2
namespace L2
open PySem PySem.W PyProof.Rows
section
variable {prog:Program}{w:World}{A:Around}{E:Value->Shared->Prop}{s:Shared}{κ:SortKind}{D:Keyed->Prop}{ρ:Keyed->Int}{st:SortSt}
end
end L2
namespace L2
open PySem PySem.W PyProof.Rows
section
variable {prog:Program}{w:World}{A:Around}{E:Value->Shared->Prop}{s:Shared}{κ:SortKind}{D:Keyed->Prop}{ρ:Keyed->Int}{st:SortSt}
end
end L2
namespace L2
open PySem PySem.W PyProof.Rows
section
variable {prog:Program}{w:World}{A:Around}{E:Value->Shared->Prop}{s:Shared}{κ:SortKind}{D:Keyed->Prop}{ρ:Keyed->Int}{st:SortSt}
end
end L2
namespace L2
open PySem PySem.W PyProof.Rows
section
variable {prog:Program}{w:World}{A:Around}{E:Value->Shared->Prop}{s:Shared}{κ:SortKind}{D:Keyed->Prop}{ρ:Keyed->Int}{st:SortSt}
end
end L2
namespace L2
open PySem PySem.W PyProof.Rows
section
variable {prog:Program}{w:World}{A:Around}{E:Value->Shared->Prop}{s:Shared}{κ:SortKind}{D:Keyed->Prop}{ρ:Keyed->Int}{st:SortSt}
end
end L2
namespace L2
open PySem PySem.W PyProof.Rows
section
variable {prog:Program}{w:World}{A:Around}{E:Value->Shared->Prop}{s:Shared}{κ:SortKind}{D:Keyed->Prop}{ρ:Keyed->Int}{st:SortSt}{a₀:Array Keyed}
end
end L2
namespace L2
open PySem PySem.W PyProof.Rows
section
variable {prog:Program}{w:World}{A:Around}{E:Value->Shared->Prop}{s:Shared}{κ:SortKind}{D:Keyed->Prop}{ρ:Keyed->Int}{st:SortSt}{a₀:Array Keyed}
end
end L2
namespace L2
open PySem PySem.W PyProof.Rows PySem.Calls
section
variable {prog:Program}{w:World}{A:Around}{E:Value->Shared->Prop}{s:Shared}{α:Type}{f:Value->α}{lt:α->α->Bool}{d:α}{l:List α}
end
end L2
namespace L2
open PySem PySem.W PyProof.Rows PySem.Calls
section
variable {X:Cx}{H:Hp}
end
end L2
namespace L2
open PySem PySem.W PyProof.Rows
section
variable {prog:Program}{w:World}{A:Around}{E:Value->Shared->Prop}{s:Shared}
end
open Sem (wp) in
open AutoSeq1 (wpAny_loadPart') in
section
variable {prog:Program}{w:World}{A:Around}{E:Value->Shared->Prop}{s:Shared}
end
end L2
namespace L2
open PySem PySem.W PyProof.Rows
section
variable {prog:Program}{w:World}{A:Around}{E:Value->Shared->Prop}{s:Shared}
end
section
variable {X:Cx}
end
end L2
namespace L2
open PySem PySem.W PyProof.Rows
section
variable {K:PySem.W.Frag}{H:Hp}{σ:St}{Q:VK}{R:It->Hp->Prop}{nx bk ct:St->Hp->Prop}{rt:VK}
end
end L2
namespace L2
open PySem PySem.W PyProof.Rows PySem.Calls
section
variable {prog:Program}{w:World}{A:Around}{E:Value->Shared->Prop}{s:Shared}{d:Addr}{α:Type}
end
section
variable {X:Cx}
end
end L2
namespace L2
open PySem PySem.W PyProof.Rows
section
variable {prog:Program}{w:World}{A:Around}{E:Value->Shared->Prop}{s:Shared}
variable {κ:Type}[DecidableEq κ]{knd:HeapKind prog w κ}
end
section
variable {A:Around}{s:Shared}
end
section
variable {prog:Program}{w:World}{A:Around}{E:Value->Shared->Prop}{s:Shared}
variable {κ:Type}[DecidableEq κ]{knd:HeapKind prog w κ}
end
section
variable {X:Cx}{pins:List (Addr×Obj)}{σ:St}{H:Hp}{s:Shared}
end
section
variable {X:Cx}
end
section
variable {X:Cx}
end
end L2
namespace L2
open PySem PySem.W PyProof.Rows
section
variable {X:Cx}
end
end L2
set_option autoImplicit false
namespace L2
open PySem PySem.Spec PyProof.Rows
section
variable {σ:St}{H:Hp}{nx bk ct:St->Hp->Prop}{rt:VK}
def WhT (W:Nat->St->Hp->Prop)(m:Nat)(tb:TS)(nx:St->Hp->Prop)(rt:VK)(σ:St)(H:Hp):Prop :=
 ∃N:St->Hp->Prop,(∀σ' H',N σ' H'->∃m',m'<m/\W m' σ' H')/\tb ⟨N,rt,nx,N⟩ σ H
theorem VX {c:TT}{tb:TS} (W:Nat->St->Hp->Prop) (m0:Nat) (h0:W m0 σ H)
  (hs:∀m σ H,W m σ H->c σ H fun b H1=>if b=true then WhT W m tb nx rt σ H1 else nx σ H1):RI c tb ⟨nx,rt,bk,ct⟩ σ H :=
 ⟨W,⟨m0,h0⟩,hs⟩
theorem aCQ {W:Nat->St->Hp->Prop}{m:Nat}{tb:TS}
  (h:tb ⟨fun σ' H'=>∃m',m'<m/\W m' σ' H',rt,nx,fun σ' H'=>∃m',m'<m/\W m' σ' H'⟩ σ H):WhT W m tb nx rt σ H :=
 ⟨_,fun _ _ h=>h,h⟩
end
end L2
namespace L2
open PySem PySem.W PyProof.Rows PySem.Calls
section
variable {X:Cx}
def NJ:List V->Hp->VK->Prop:=fun xs H Q=>∃d kvs ss,xs=[.ref d]/\H d=some (.dK kvs)/\kvs.map (·.1)=ss.map (Sum.inr:Str->Key)/\ss.length<64/\∀l,H l=none->Q (.ref l) (upd H l (.lst ((yT ss).map V.str)))
theorem GF (hc:X.calm=true):dH X (.builtin "sorted") NJ:=by
 intro pins s σ H xs us Q I r h;obtain⟨d,kvs,ss,rfl,hd,hk,nd,q⟩:=h;obtain⟨u,rfl,rx⟩:=kC r;cases rx;obtain⟨hz,lo,ws,kv,dd⟩:=YR I.hok hd;obtain⟨o,es,ep,g1,g2,g3,g4,g5,g6⟩:=dd;have hl:ws.length=ss.length:=by
  have h1:kvs.length=ws.length:=Paired.length kv;have h2:=congrArg List.length hk;rw[List.length_map,List.length_map]at h2
  lia
 have hkl:kvs.length=ss.length:=by have h1:kvs.length=ws.length:=Paired.length kv;lia
 have key:∀(j:Nat) (v:Value),(∃k x,ws[j]? =some (k,x)/\(bQ X.prog X.w).is k v=true)->∃z,ss[j]? =some z/\RelV (V.str z) v:=fun j v ⟨k,x,e,hi⟩=>by
  have hj:j<ss.length:=by
   have:=(List.getElem?_eq_some_iff.mp e).1
   lia
  have e1:kvs[j]? =some kvs[j]:=List.getElem?_eq_getElem (by lia);have e2:=(Paired.at2 kv e1 e).1;have e3:(kvs.map (·.1))[j]? =some k:=by rw[List.getElem?_map,e1,Option.map_some,e2]
  rw[hk,List.getElem?_map,List.getElem?_eq_getElem hj,Option.map_some]at e3;have e3:=Option.some.inj e3;have e4:=y7 hi;rw[←e3]at e4;exact⟨_,List.getElem?_eq_getElem hj,e4⟩
 have rvs:∀vs:List Value,vs.length=ws.length->(∀j v,vs[j]? =some v->∃k x,ws[j]? =some (k,x)/\(bQ X.prog X.w).is k v=true)->Vals (ss.map V.str) vs:=fun vs h1 hP=>by
  refine AU (by rw[List.length_map];lia) fun i x u g1 g2=> ?_;obtain⟨z,hz,rz⟩:=key i u (hP i u g2);rw[List.getElem?_map,hz]at g1;cases g1;exact rz
 have hat:∀{vs:List Value},Vals (ss.map V.str) vs->∀i,i<vs.length->∃t,vs[i]? =some (.str (ss.getD i Str.empty) t):=fun {vs} rv i hi=>by
  have hl2:=rv.length;rw[List.length_map]at hl2;have hi':i<ss.length:=by lia
  obtain⟨u,e,t,rfl⟩:=rv.get (i:=i) (x:=V.str (ss.getD i Str.empty)) (by rw[List.getElem?_map,List.getD_eq_getElem?_getD,List.getElem?_eq_getElem hi'];rfl);exact⟨t,e⟩
 refine P3 (kdl_dict (knd:=bQ X.prog X.w) (kvs:=ws) (ep:=ep) lo) (I.ok.hd hc) ⟨o,es,g1,g2,g3,g4,g5,g6⟩ (by lia) (fun i j=>ltS (ss.getD i Str.empty) (ss.getD j Str.empty)) oneType' (fun vs h1 hP h2 h' tk kp R hR=> ?_) (fun vs h1 hP h2 h' tk kp i j hi hj C hC=> ?_) fun vs D h' tk e h1 hP hD kp o'=> ?_
 ·refine kas_kind (s:={ s with heap:=h',toks:=tk }) (T:= .type "str") h2 (fun v hv=> ?_) (by decide) rfl hR;obtain⟨i,hi,e⟩:=List.getElem_of_mem hv;obtain⟨t,e2⟩:=hat (rvs vs h1 hP) i hi;rw[List.getElem?_eq_getElem hi,e]at e2;cases e2;exact Looks.of_pure rfl
 ·obtain⟨t1,e1⟩:=hat (rvs vs h1 hP) i hi;obtain⟨t2,e2⟩:=hat (rvs vs h1 hP) j hj;unfold kas_ask;rw[List.getD_eq_getElem?_getD,List.getD_eq_getElem?_getD,e1,e2,keyLt'_oneType];exact oneLt_str hC
 ·have ev:=w5 (fun i j=>ltS (ss.getD i Str.empty) (ss.getD j Str.empty)) (rvs vs h1 hP);rw[MK V.str Str.empty V.non]at ev;exact⟨.ref D,_,I.laid (t':=tk) kp hD (show ObjOk X.prog X.w _ h' _ (.lst ((yT ss).map V.str)) from⟨by rw[List.length_map];unfold yT;rw[uW];lia,_,e,ev,o'⟩),rfl,q _ (I.hok.fresh hD)⟩
variable {H:Hp}{Q:VK}
theorem Q2 {d:Addr}{kvs:List (Key×V)}{ss:List Str} (e:H d=some (.dK kvs)) (hk:kvs.map (·.1)=ss.map (Sum.inr:Str->Key)) (nd:ss.length<64) (h:∀l H',H l=none->Same H H'->H' l=some (.lst ((yT ss).map V.str))->Q (.ref l) H'):NJ [.ref d] H Q :=
 ⟨d,kvs,ss,rfl,e,hk,nd,fun l hn=>h l _ hn (z9 hn) bE⟩
end
end L2
namespace L2
open PySem PySem.Spec PyProof.Rows
def iN (H:Hp):List Addr->Hp
 | []=>H
 | c::cs=>off (iN H cs) c
def ons (H:Hp):List (Addr×Obj)->Hp
 | []=>H
 | p::l=>ons (upd H p.1 (kn p.2)) l
theorem u6 {H:Hp}:∀{cs:List Addr}{c:Addr},c∈cs->iN H cs c=none
 | a::cs,c,h=>by
  show off (iN H cs) a c=none
  by_cases e:c=a
  ·subst e;exact IZ
  ·rw[i6 e];exact u6 ((List.mem_cons.mp h).resolve_left e)
theorem rA {H:Hp}:∀{cs:List Addr}{b:Addr},b∉cs->iN H cs b=H b
 | [],_,_=>rfl
 | a::cs,b,h=>by
  show off (iN H cs) a b=H b;rw[List.mem_cons,not_or]at h;rw[i6 h.1];exact rA h.2
theorem JE {H:Hp}:∀{l:List (Addr×Obj)},(l.map (·.1)).Nodup->(∀p∈l,H p.1=some (kn p.2))->ons (iN H (l.map (·.1))) l=H
 | [],_,_=>rfl
 | p::l,nd,e=>by
  have nd':=List.nodup_cons.mp nd;show ons (upd (off (iN H (l.map (·.1))) p.1) p.1 (kn p.2)) l=H;rw[VB (by rw[rA nd'.1];exact e p (.head _))];exact JE nd'.2 fun q hq=>e q (List.mem_cons_of_mem _ hq)
section
variable {P:Program}{w:World}
theorem KK {H:Hp}{h:Heap} (x:HOk P w H h):∀{l:List (Addr×Obj)},(l.map (·.1)).Nodup->(∀p∈l,H p.1=some (kn p.2))->HOk P w (iN H (l.map (·.1))) h
 | [],_,_=>x
 | p::l,nd,e=>by
  have nd':=List.nodup_cons.mp nd;exact aAH (KK x nd'.2 fun q hq=>e q (List.mem_cons_of_mem _ hq)) (by rw[rA nd'.1];exact e p (.head _))
theorem D5 {h:Heap}:∀{l:List (Addr×Obj)}{H:Hp},(l.map (·.1)).Nodup->(∀p∈l,H p.1=none/\h.get? p.1=some p.2)->HOk P w H h->HOk P w (ons H l) h
 | [],_,_,_,x=>x
 | p::l,H,nd,e,x=>by
  have nd':=List.nodup_cons.mp nd;refine D5 (H:=upd H p.1 (kn p.2)) nd'.2 (fun q hq=>⟨?_,(e q (List.mem_cons_of_mem _ hq)).2⟩) (aB9 x (e p (.head _)).1 (e p (.head _)).2);rw[aS (fun z=>nd'.1 (by show p.1∈l.map (·.1);rw[←z];exact List.mem_map.mpr ⟨q,hq,rfl⟩))];exact(e q (List.mem_cons_of_mem _ hq)).1
theorem NO {fs:List Addr}{H:Hp}{h h':Heap}:∀{l:List (Addr×Obj)}{H':Hp},(l.map (·.1)).Nodup->(∀p∈l,H p.1=some (kn p.2)/\h.get? p.1=some p.2/\p.1∉fs)->Un fs [] (iN H (l.map (·.1))) H' h h'->Un fs [] H (ons H' l) h h'
 | [],_,_,_,x=>x
 | p::l,H',nd,e,x=>by
  have nd':=List.nodup_cons.mp nd;obtain⟨e1,e2,e3⟩:=e p (.head _);exact NO (H':=upd H' p.1 (kn p.2)) nd'.2 (fun q hq=>e q (List.mem_cons_of_mem _ hq)) (aCT (by rw[rA nd'.1];exact e1) e2 e3 x)
theorem UN {fs:List Addr}{H:Hp}{h h':Heap}:∀{l:List (Addr×Obj)}{H':Hp},(l.map (·.1)).Nodup->(∀p∈l,H' p.1=none/\h.objs.size<=p.1)->Un fs [] H H' h h'->Un fs [] H (ons H' l) h h'
 | [],_,_,_,x=>x
 | p::l,H',nd,e,x=>by
  have nd':=List.nodup_cons.mp nd;refine UN (H':=upd H' p.1 (kn p.2)) nd'.2 (fun q hq=>⟨?_,(e q (List.mem_cons_of_mem _ hq)).2⟩) (aD8 (e p (.head _)).1 (e p (.head _)).2 x);rw[aS (fun z=>nd'.1 (by show p.1∈l.map (·.1);rw[←z];exact List.mem_map.mpr ⟨q,hq,rfl⟩))];exact(e q (List.mem_cons_of_mem _ hq)).1
end
theorem xM:∀{l:List (Addr×Obj)}{H:Hp}{b:Addr},b∉l.map (·.1)->ons H l b=H b
 | [],_,_,_=>rfl
 | p::l,H,b,h=>by
  rw[List.map_cons,List.mem_cons,not_or]at h;show ons (upd H p.1 (kn p.2)) l b=H b;rw[xM h.2,aS h.1]
theorem WS {l:List (Addr×Obj)}{H:Hp} (e:∀p∈l,H p.1=none):Same H (ons H l):=fun b u h=>by
 have hn:b∉l.map (·.1):=fun z=>by
  obtain⟨p,hp,e'⟩:=List.mem_map.mp z;have h':=e p hp;rw[show p.1=b from e',h]at h';exact nomatch h'
 exact(xM (l:=l) (H:=H) hn).trans h
theorem aBN {l:List (Addr×Obj)}{H:Hp} (nd:(l.map (·.1)).Nodup) {p:Addr×Obj} (hp:p∈l):ons H l p.1=some (kn p.2):=by
 induction l generalizing H with
 | nil=>exact nomatch hp
 | cons a l ih =>
  have nd':=List.nodup_cons.mp nd;rcases List.mem_cons.mp hp with e|hp
  ·subst e;exact(xM (l:=l) (H:=upd H p.1 (kn p.2)) nd'.1).trans bE
  ·exact ih (H:=upd H a.1 (kn a.2)) nd'.2 hp
def LamL (H:Hp)(F:Addr)(fd:FuncData)(qual:Str)(args:Arguments)(body:Expr)(sc:Scope)(cs:List (Str×Addr)):Prop :=
 ∃(c':Addr) (pm ctv:Value) (oc:Obj) (fv:Array Value) (t:Tok),fd=PySem.W.kla_fn "<lambda>" qual args body sc cs pm (.ref c') ctv ∧
  H F=some (kn (PySem.W.kla_obj "<lambda>" qual args body sc cs pm c' ctv))/\H c'=some (kn oc)/\oc.data= .fields fv/\fv[1]? =some (.str qual t)
theorem LamL.same {H H':Hp}{F:Addr}{fd:FuncData}{qual:Str}{args:Arguments}{body:Expr}{sc:Scope}{cs:List (Str×Addr)} (x:LamL H F fd qual args body sc cs) (s:Same H H'):LamL H' F fd qual args body sc cs :=
 let ⟨c',pm,ctv,oc,fv,t,e1,e2,e3,r⟩:=x;⟨c',pm,ctv,oc,fv,t,e1,s _ _ e2,s _ _ e3,r⟩
abbrev o9 (H:Hp)(cs:List Addr)(vs:List V):Prop:=Paired (aDX H) cs vs
theorem BM {H:Hp}:∀{cs:List Addr}{vs:List V},o9 H cs vs->∃l:List (Addr×Obj),l.map (·.1)=cs/\∀p∈l,H p.1=some (kn p.2)
 | _,_,.nil=>⟨[],rfl,fun _ h=>nomatch h⟩
 | _,_,.cons ⟨o,u,e,_⟩ t=>by
  obtain⟨l,h1,h2⟩:=BM t;refine⟨(_,o)::l,by rw[List.map_cons,h1],fun p hp=> ?_⟩;rcases List.mem_cons.mp hp with rfl|hp
  ·exact e
  ·exact h2 p hp
theorem qT {ys:List Str}{cs:List Addr}{z:Str}{d:Addr}:(ys.zip cs).lookup z=some d->∃i:Nat,ys[i]? =some z/\cs[i]? =some d:=by
 induction ys generalizing cs with
 | nil=>intro h;cases h
 | cons y ys ih =>
  cases cs with
  | nil=>intro h;cases h
  | cons c cs =>
   intro h;rw[List.zip_cons_cons,List.lookup_cons]at h;cases q:z==y with
   | true =>
    rw[q]at h;cases h;exact⟨0,by rw[eq_of_beq q];rfl,rfl⟩
   | false =>
    rw[q]at h;obtain⟨i,h1,h2⟩:=ih h;exact⟨i+1,h1,h2⟩
theorem BJ {ys:List Str}{cs:List Addr} (nd:ys.Nodup) {i:Nat}{z:Str}{d:Addr}:ys[i]? =some z->cs[i]? =some d->(ys.zip cs).lookup z=some d:=by
 induction ys generalizing cs i with
 | nil=>intro h;simp at h
 | cons y ys ih =>
  intro h1 h2;have nd':=List.nodup_cons.mp nd;cases cs with
  | nil=>simp at h2
  | cons c cs =>
   rw[List.zip_cons_cons,List.lookup_cons];cases i with
   | zero =>
    have h1:y=z:=by simpa using h1
    have h2:c=d:=by simpa using h2
    rw[h1,beq_self_eq_true,h2]
   | succ i =>
    have h1:ys[i]? =some z:=by simpa using h1
    have h2:cs[i]? =some d:=by simpa using h2
    have:(z==y)=false:=beq_false_of_ne fun e=>nd'.1 (by rw[←e];exact List.mem_of_getElem? h1);rw[this];exact ih nd'.2 h1 h2
theorem WJ {α:Type}{l:List α} (nd:l.Nodup) {i j:Nat}{x:α} (h1:l[i]? =some x) (h2:l[j]? =some x):i=j:=by
 obtain⟨a1,b1⟩:=List.getElem?_eq_some_iff.mp h1;obtain⟨a2,b2⟩:=List.getElem?_eq_some_iff.mp h2;have pw:=List.pairwise_iff_getElem.mp nd;rcases Nat.lt_trichotomy i j with h|h|h
 ·exact absurd (b1.trans b2.symm) (pw i j a1 a2 h)
 ·exact h
 ·exact absurd (b2.trans b1.symm) (pw j i a2 a1 h)
section
variable {P:Program}{w:World}{K:PySem.W.Frag}{mg:Str->Option Value}{base:Heap}
theorem ZQ {k:Nat}{f:Addr}{fd:FuncData}{qual:Str}{args:Arguments}{body:Expr}{sc:Scope}{x:Str}{ys:List Str}{cs:List Addr}{vs:List V}{sp:Sp}
  (hk:sc.kind= .function)(hco:sc.isCoroutine=false)(hgen:sc.isGenerator=false)(hcell:∀z∈sc.names,z.2≠ .cell)(hx:sc.names.lookup x=some .local)(hfree:∀z,sc.names.lookup z=some .free->z∈ys)(hy:∀y∈ys,sc.names.lookup y=some .free)(ny:ys.Nodup)(ncs:cs.Nodup)(hlen:ys.length=cs.length)
  (len:∀ws H Q E,sp ws H Q E->∃a,ws=[a]/\LamL H f fd qual args body sc (ys.zip cs)/\o9 H cs vs)
  (hbody:∀(cdv:Value) (A:Around) (outer:List Env) (s:Shared) (H:Hp) (a:V) (Q:VK) (E:XK),Room k (A.deeper (PySem.W.envX qual sc s.heap.objs.size f cdv (ys.zip cs)))->sp [a] H Q E →
   ∃t,PE (cxL CX0 P w K mg base (x::ys) qual sc f cdv (ys.zip cs) A outer s (iN H cs) E).nox body t/\∀l:List (Addr×Obj),l.map (·.1)=cs->(∀p∈l,H p.1=some (kn p.2))->t (some a::vs.map some) (iN H cs) (fun r H'=>Q r (ons H' l))) :
  FnOk P w K mg base CX0 (k+1) f fd [x] sp:=by
 refine⟨fun ws H Q E h=> ?_,fun A outer s H ar us ws Q E hr e0 hb r hsp=> ?_⟩
 ·obtain⟨a,rfl,_⟩:=len ws H Q E h;rfl
 obtain⟨a,rfl,⟨c',pm,ctv,oc,fv,tt,rfl,hF,hc',hd,hv⟩,kc⟩:=len ws H Q E hsp;obtain⟨u,rfl,ra⟩:∃u,us=[u]/\RelV a u:=by
  cases r with
  | cons r1 r2=>cases r2;exact⟨_,rfl,r1⟩
 obtain⟨t,ht,hq⟩:=hbody (.ref c') A outer s H a Q E (hr.deeper _) hsp;obtain⟨l,rfl,hl⟩:=BM kc;have hq:=hq l rfl hl;have gC:∀p∈l,s.heap.get? p.1=some p.2:=fun p hp=>xV e0.hok (hl p hp);have lim:s.heap.NoLimit:=e0.mod.nolimit.keeps fun b o e=>(e0.bs b o e).1;refine PySem.W.kla_callFunE hr.depth (xV e0.hok hF) rfl hco hgen rfl ⟨c',oc,fv,tt,rfl,xV e0.hok hc',hd,hv⟩ (hb _ _ _ _ ?_);refine wpAny_newFunctionEnv hcell (fun z hz=>by
  have hz':z∈[(x,u)]:=hz;rw[List.mem_singleton]at hz';rw[hz'];exact hx) (fun h₁ hns hsb=>⟨lim.fresh _ hsb,?_⟩) hk
 have hk₁:∀b o,s.heap.get? b=some o->h₁.get? b=some o:=fun b o e=>hsb.extBut b o (Nat.ne_of_lt (Heap.lt_size e)) (Heap.get?_push_of_some _ e);have inl:∀{d:Addr},d∈l.map (·.1)->∃o,H d=some (kn o)/\s.heap.get? d=some o:=fun hd=>by
  obtain⟨p,hp,rfl⟩:=List.mem_map.mp hd;exact⟨p.2,hl p hp,gC p hp⟩
 have nc:∀b o,base.get? b=some o->b∉l.map (·.1):=fun b o e z=>by
  obtain⟨o',e',_⟩:=inl z;have:=(e0.bs b o e).2;rw[e']at this;cases this
 have ncf:∀c∈l.map (·.1),c∉frs outer:=fun c hc z=>by
  obtain⟨o',e',_⟩:=inl hc;rw[e0.frf c z]at e';cases e'
 show codeAny (model P w) A (.expr body (PySem.W.envX qual sc s.heap.objs.size f (.ref c') (ys.zip (l.map (·.1))))) _ _;have hokO:=KK e0.hok ncs hl;have I:Inv (cxL CX0 P w K mg base (x::ys) qual sc f (.ref c') (ys.zip (l.map (·.1))) A outer s (iN H (l.map (·.1))) E) [] (some a::vs.map some) (iN H (l.map (·.1))) { s with heap:=h₁,toks:=s.toks+([x].zip [u]).length }:=by
  have noA:∀b:Addr,b∉(cxL CX0 P w K mg base (x::ys) qual sc f (.ref c') (ys.zip (l.map (·.1))) A outer s (iN H (l.map (·.1))) E).ex:=fun b z=>absurd (show b∈([]:List Addr) from z) (by simp);refine⟨⟨e0.mod,hk,rfl,rfl,Nat.le_refl _,fun z1 z2 d h1 h2=> ?_,fun z hz=> ?_,fun z d hf _=>absurd (show false=true from hf) Bool.false_ne_true,fun _=>hr.hd,Around.frames_deeper e0.frames,.inr ⟨rfl,rfl⟩,fun b z=>absurd z (noA b),fun b o e=>⟨(e0.bs b o e).1,by show iN H (l.map (·.1)) b=none;rw[rA (nc b o e)];exact(e0.bs b o e).2⟩,e0.bsz,fun b _ _=>noA b,fun b z=>absurd z (noA b),e0.funs,fun b hb=> ?_⟩,
   rfl,e0.bare,Un.kept hk₁,⟨_,hns,fun i z v' h1 h2 h3=> ?_⟩,fun z d h=> ?_,hokO.fresh (Nat.le_refl _),fun z d h=> ?_,fun p hp=>absurd (show p∈([]:List (Addr×Obj)) from hp) (by simp),hokO.kept hk₁,(by show (some a::vs.map some).length=(x::ys).length;rw[List.length_cons,List.length_cons,List.length_map];have:=Paired.length kc;lia)⟩
  ·obtain⟨i1,a1,b1⟩:=qT h1;obtain⟨i2,a2,b2⟩:=qT h2;have:=WJ ncs b1 b2;subst this;rw[a1]at a2;cases a2;rfl
  ·have hz:sc.names.lookup z=some .cell∨sc.names.lookup z=some .free:=hz;rcases hz with hz|hz
   ·exact absurd rfl (hcell _ (PySem.mem_of_lookup hz))
   ·obtain⟨i,hi,e⟩:=List.getElem_of_mem (hfree z hz);have h1:ys[i]? =some z:=by rw[List.getElem?_eq_getElem hi,e]
    have h2:(l.map (·.1))[i]? =some (l.map (·.1))[i]:=List.getElem?_eq_getElem (by lia);exact⟨_,BJ ny h1 h2⟩
  ·show iN H (l.map (·.1)) b=none
   by_cases hbc:b∈l.map (·.1)
   ·exact u6 hbc
   ·rw[rA hbc];exact e0.frf b hb
  ·match i,h1,h2 with
   | 0,h1,h2 =>
    cases h1;cases h2;refine⟨u,ra,.inl ⟨hx,?_⟩⟩;show ([(x,u)].reverse).lookup x=some u;rw[List.reverse_singleton,List.lookup_cons,beq_self_eq_true]
   | i+1,h1,h2 =>
    have h1:(x::ys)[i+1]? =some z:=h1;have h1:ys[i]? =some z:=by simpa using h1
    have h2:vs[i]? =some v':=by
     have h2:(vs.map some)[i]? =some (some v'):=by simpa using h2
     rw[List.getElem?_map]at h2;obtain⟨q,q1,q2⟩:=Option.map_eq_some_iff.mp h2;cases q2;exact q1
    have hil:i<(l.map (·.1)).length:=by
     have:=(List.getElem?_eq_some_iff.mp h1).1
     lia
    have h4:(l.map (·.1))[i]? =some (l.map (·.1))[i]:=List.getElem?_eq_getElem hil;obtain⟨oC,uv,eC,hdC,rv⟩:=Paired.at2 kc h4 h2;obtain⟨o',e',g'⟩:=inl (List.mem_of_getElem? h4);rw[eC]at e';cases e';exact⟨uv,rv,.inr ⟨.inr (hy z (List.mem_of_getElem? h1)),_,BJ ny h1 h4,oC,hk₁ _ _ g',hdC⟩⟩
  ·obtain⟨i,a1,b1⟩:=qT h;have hvl:vs.length=(l.map (·.1)).length:=(Paired.length kc).symm;have hil:i<vs.length:=by
    have:=(List.getElem?_eq_some_iff.mp b1).1
    lia
   obtain⟨oC,uv,eC,hdC,rv⟩:=Paired.at2 kc b1 (List.getElem?_eq_getElem hil);obtain⟨o',e',g'⟩:=inl (List.mem_of_getElem? b1);rw[eC]at e';cases e';exact⟨_,oC,hk₁ _ _ g',hdC⟩
  ·obtain⟨i,a1,b1⟩:=qT h;exact u6 (List.mem_of_getElem? b1)
 refine PySem.W.kla_codeExpr (wpAny_mono (PE.nox ht [] _ (some a::vs.map some) (iN H (l.map (·.1))) _ I hq) (fun u' s' ⟨v',H',J,rv',q⟩=> ?_) fun e s' hs=> ?_)
 ·have Jb:Un (frs outer) [] (iN H (l.map (·.1))) H' s.heap s'.heap:=J.base;have gC':∀p∈l,H' p.1=none/\s'.heap.get? p.1=some p.2:=fun p hp=>by
   have hm:p.1∈l.map (·.1):=List.mem_map.mpr ⟨p,hp,rfl⟩;exact⟨Jb.free p.1 p.2 (gC p hp) (u6 hm) (by simp),Jb.keep p.1 p.2 (gC p hp) (u6 hm) (ncf _ hm) (by simp)⟩
  exact⟨v',ons H' l,J.os,J.bare,NO ncs (fun p hp=>⟨hl p hp,gC p hp,ncf _ (List.mem_map.mpr ⟨p,hp,rfl⟩)⟩) Jb,D5 ncs gC' J.hok,rv',q⟩
 ·exact wpAny_mono hs (fun _ s'' z=>z.elim) fun _ s'' z=>z.elim
end
section
variable {X:Cx}{args:Arguments}{body:Expr}{lsc:Scope}{pos:Pos}{cs:List (Str×Addr)}{cL PL:Addr}
def aEs (qual:Str)(args:Arguments)(body:Expr)(lsc:Scope)(cs:List (Str×Addr))(PL:Addr)(pos:Pos):TE:=fun _ H Q=>TabS H PL pos qual ∧
 ∀F fd H',H F=none->LamL H' F fd qual args body lsc cs->SameT H H'->TabS H' PL pos qual->Q (.ref F) H'
theorem aAd (hcode:X.env.code= .ref cL)(C:PySem.W.CodeHd X.base cL PL)(B:X.base.BuiltinsAt X.mg PL)(hcl:closureFor lsc X.env=pure cs)(hdef:defaultsOf args X.env=([],[]):=by rfl) :
  PE X (.Lambda args body lsc pos) (aEs (X.env.qual++ "<lambda>") args body lsc cs PL pos):=by
 intro pins s σ H Q I h;obtain⟨hT,h⟩:=h;refine PySem.W.kla_eval hdef ?_;have hg:s.heap.Ns mainGlobals X.mg:=I.mod.glob.keeps I.bk;obtain⟨bm,ob,b1,b2,b3,b4,b5,b6⟩:=B;rcases hT with hP|⟨c',oc,fv,t,hP,hc',hd,hv⟩
 ·have gP:s.heap.get? PL=some (PySem.W.tabObj #[]):=I.hok PL _ hP;have hgP:mainGlobals≠PL:=fun q=>by
   obtain⟨o,es,ep,e,hd,_⟩:=hg;rw[q,gP]at e;cases e;cases hd
  refine PySem.W.kla_makeFunction (mg:=X.mg) (ps:= #[]) hcl I.ok.glob hg hcode (C.keeps I.bk) gP trivial rfl hgP ⟨bm,ob,b1,b2,b3,b4,I.bk _ _ b5,b6⟩ fun c' ctv h' tk hx hge hlt hrec htb=> ?_;obtain⟨c₂,oc,fv,t,e2,hoc,hd,hv⟩:=hrec;cases e2;have hps:(#[]++ #[rawInt pos.line,rawInt pos.col,Value.ref c']:Array Value)= #[rawInt pos.line,rawInt pos.col,Value.ref c']:=Array.empty_append;rw[hps]at htb;generalize hps2:(#[rawInt pos.line,rawInt pos.col,Value.ref c']:Array Value)=ps' at htb;generalize hoF:PySem.W.kla_obj "<lambda>" (X.env.qual++ "<lambda>") args body lsc cs ((X.mg "__name__").getD .none) c' ctv=oF;have pu:∀b o,h'.get? b=some o->(h'.push oF).get? b=some o:=fun b o e=>Heap.get?_push_of_some _ e;have gF:(h'.push oF).get? h'.objs.size=some oF:=Heap.get?_push_size _ (by subst hoF;rfl);have nPc:PL≠c':=Nat.ne_of_lt (Nat.lt_of_lt_of_le (Heap.lt_size gP) hge);have ncF:c'≠h'.objs.size:=Nat.ne_of_lt hlt;have nPF:PL≠h'.objs.size:=Nat.ne_of_lt (Heap.lt_size htb);have ltc:∀b u,H b=some u->b≠c':=fun b u e=>Nat.ne_of_lt (Nat.lt_of_lt_of_le (I.hok.lt e) hge);have ltF:∀b u,H b=some u->b≠h'.objs.size:=fun b u e=>Nat.ne_of_lt (Nat.lt_trans (Nat.lt_of_lt_of_le (I.hok.lt e) hge) hlt);have at0:∀b,b≠PL->b≠c'->b≠h'.objs.size->upd (upd (upd H PL (.tbl ps')) c' (kn oc)) h'.objs.size (kn oF) b=H b:=fun b n1 n2 n3=>by rw[aS n3,aS n2,aS n1]
  have atP:upd (upd (upd H PL (.tbl ps')) c' (kn oc)) h'.objs.size (kn oF) PL=some (.tbl ps'):=by rw[aS nPF,aS nPc,bE]
  have atc:upd (upd (upd H PL (.tbl ps')) c' (kn oc)) h'.objs.size (kn oF) c'=some (kn oc):=by rw[aS ncF,bE]
  have atF:upd (upd (upd H PL (.tbl ps')) c' (kn oc)) h'.objs.size (kn oF) h'.objs.size=some (kn oF):=bE;generalize upd (upd (upd H PL (.tbl ps')) c' (kn oc)) h'.objs.size (kn oF)=H3 at at0 atP atc atF;have keepH:∀b u,H b=some u->(∀ps,u≠ .tbl ps)->H3 b=some u:=fun b u e nt=>by
   rw[at0 b (fun z=>by rw[z,hP]at e;cases e;exact nt _ rfl) (ltc b u e) (ltF b u e)];exact e
  have sz:∀b o,s.heap.get? b=some o->b≠c'/\b≠h'.objs.size:=fun b o e =>
   ⟨Nat.ne_of_lt (Nat.lt_of_lt_of_le (Heap.lt_size e) hge),Nat.ne_of_lt (Nat.lt_trans (Nat.lt_of_lt_of_le (Heap.lt_size e) hge) hlt)⟩
  have nP:∀b,H b=none->b≠PL:=fun b n z=>by rw[z,hP]at n;cases n
  have I':Inv X pins σ H3 { s with heap:=h'.push oF,toks:=tk }:=by
   refine I.un ⟨fun b o e n _ _=>pu b o (hx b o (nP b n) e),fun b o e n _ _=>⟨o.slots,pu b o (hx b o (nP b n) e)⟩,fun b o e n _=> ?_,fun b o e _=> ?_,fun b xs e=>keepH b _ e (fun ps z=>by cases z),fun b o u e=>keepH b _ e (fun ps z=>by cases z),fun b ps e=> ?_⟩ fun b o e=> ?_
   ·rw[at0 b (nP b n) (sz b o e).1 (sz b o e).2];exact n
   ·by_cases hb:b=PL
    ·subst hb;exact⟨_,pu _ _ htb⟩
    ·exact⟨o,pu b o (hx b o hb e)⟩
   ·by_cases hb:b=PL
    ·subst hb;rw[hP]at e;cases e;exact⟨ps',by rw[atP,Array.empty_append]⟩
    ·refine⟨#[],?_⟩;rw[at0 b hb (ltc b _ e) (ltF b _ e),e,Array.append_empty]
   ·by_cases hF:b=h'.objs.size
    ·subst hF;rw[atF]at e;cases e;exact ID gF
    by_cases hc':b=c'
    ·subst hc';rw[atc]at e;cases e;exact ID (pu _ _ hoc)
    by_cases hb:b=PL
    ·subst hb;rw[atP]at e;cases e;exact pu _ _ htb
    rw[at0 b hb hc' hF]at e;refine(I.hok b o e).stay (fun d u hd' q=>pu d u (hx d u ?_ q)) (fun d q=>keepH d _ q fun ps z=>by cases z) fun d xs q=>keepH d _ q fun ps z=>by cases z
    rcases hd' with z|z
    ·rw[z];exact hb
    ·intro z2;rw[z2,hP]at z;cases z
  refine⟨.ref h'.objs.size,H3,I',rfl,h _ _ H3 ?_ ⟨c',_,ctv,oc,fv,t,rfl,by rw[hoF];exact atF,atc,hd,hv⟩ keepH (.inr ⟨c',oc,fv,t,by rw[atP,hps2],atc,hd,hv⟩)⟩;exact I.hok.fresh (Nat.le_trans hge (Nat.le_of_lt hlt))
 ·have gP:s.heap.get? PL=some (PySem.W.tabObj #[rawInt pos.line,rawInt pos.col,.ref c']):=I.hok PL _ hP;refine PySem.W.kla_makeFunctionHit (mg:=X.mg) (ps:= #[rawInt pos.line,rawInt pos.col,.ref c']) (cv:= .ref c') hcl I.ok.glob hg hcode (C.keeps I.bk) gP (by simp[TriplesOk,rawInt]) (by simp[codeAmong,rawInt]) ⟨bm,ob,b1,b2,b3,b4,I.bk _ _ b5,b6⟩ fun ctv h' tk hx hge=> ?_;generalize hoF:PySem.W.kla_obj "<lambda>" (X.env.qual++ "<lambda>") args body lsc cs ((X.mg "__name__").getD .none) c' ctv=oF;have hoF':=hoF;unfold PySem.W.kla_obj at hoF';rw[hoF'];have pu:∀b o,h'.get? b=some o->(h'.push oF).get? b=some o:=fun b o e=>Heap.get?_push_of_some _ e;have gF:(h'.push oF).get? h'.objs.size=some oF:=Heap.get?_push_size _ (by subst hoF;rfl);have ltF:∀b u,H b=some u->b≠h'.objs.size:=fun b u e=>Nat.ne_of_lt (Nat.lt_of_lt_of_le (I.hok.lt e) hge);have sF:Same H (upd H h'.objs.size (kn oF)):=fun b u e=>by rw[aS (ltF b u e)];exact e
  have I':Inv X pins σ (upd H h'.objs.size (kn oF)) { s with heap:=h'.push oF,toks:=tk }:=by
   refine I.un ⟨fun b o e n _ _=>pu b o (hx b o e),fun b o e n _ _=>⟨o.slots,pu b o (hx b o e)⟩,fun b o e n _=> ?_,fun b o e _=>⟨o,pu b o (hx b o e)⟩,fun b xs e=>sF _ _ e,fun b o u e=>sF _ _ e,fun b ps e=>⟨#[],by rw[Array.append_empty];exact sF _ _ e⟩⟩ fun b o e=> ?_
   ·rw[aS (Nat.ne_of_lt (Nat.lt_of_lt_of_le (Heap.lt_size e) hge))];exact n
   ·by_cases hF:b=h'.objs.size
    ·subst hF;rw[bE]at e;cases e;exact ID gF
    ·rw[aS hF]at e;exact(I.hok b o e).stay (fun d u hd' q=>pu d u (hx d u q)) (fun d q=>sF _ _ q) fun d xs q=>sF _ _ q
  refine⟨.ref h'.objs.size,_,I',rfl,h _ _ _ (I.hok.fresh hge) ⟨c',_,ctv,oc,fv,t,rfl,by rw[hoF];exact bE,sF _ _ hc',hd,hv⟩ (Same.t sF) (.inr ⟨c',oc,fv,t,sF _ _ hP,sF _ _ hc',hd,hv⟩)⟩
end
section
variable {P:Program}{w:World}{K:PySem.W.Frag}{mg:Str->Option Value}{base:Heap}
def aE1 (ics:List (Nat×Addr))(Q:VK):St->V->Hp->Prop:=fun σ v H'=>∃cvs,Paired (fun (ic:Nat×Addr) cv=>σ[ic.1]? =some (some cv)) ics cvs/\∀H2,Same H' H2->(∀ic∈ics,H' ic.2=none)->o9 H2 (ics.map (·.2)) cvs->Q v H2
theorem FunV.okL {x qual:Str}{st:Stmt}{f:Addr}{fd:FuncData}{N ps:List Str}{k:Nat}{iys:List (Nat×Str)}{sp:Sp} (F:FunV K x qual st f fd) (S:aV N ps (aB st)) (hi:∀iy∈iys,N[iy.1]? =some iy.2/\(aB st).names.lookup iy.2=some .cell) (len:∀vs H Q E,sp vs H Q E->vs.length=ps.length)
  (hbody:∀(cdv:Value) (A:Around) (outer:List Env) (s:Shared) (H:Hp) (vs:List V) (Q:VK) (E:XK) (ics:List (Nat×Addr)),fd.code=cdv->Paired (fun (iy:Nat×Str) (ic:Nat×Addr)=>ic.1=iy.1/\(cellsFrom (s.heap.objs.size+1) (aB st).names []).lookup iy.2=some ic.2) iys ics->Room k (A.deeper (envOfC qual (aB st) s.heap.objs.size f cdv))->sp vs H Q E →
   (ics.map (·.2)).Nodup/\∃t,PRs (vN CX0 P w K mg base N qual (aB st) f cdv A outer s H E).nox (aJ st) t/\t { nx:=fun _ H'=>Q .non H',rt:=Q } (aE1 ics Q) (start N vs) H):FnOk P w K mg base CX0 (k+1) f fd ps sp:=by
 obtain⟨oc,od,dV,kV,doc,pm,an,cdv,ct,osl,rfl,lk,hcd⟩:=F.ex;refine⟨len,fun A outer s H args us vs Q E hr e0 hb r hsp=> ?_⟩;have hl:=len _ _ _ _ hsp;have KX:K.In s.heap:=e0.mod.kin.keeps fun b o e=>(e0.bs b o e).1;have lim:s.heap.NoLimit:=e0.mod.nolimit.keeps fun b o e=>(e0.bs b o e).1;have hkind:∀y∈ps.zip us,(aB st).names.lookup y.1=some .local∨((aB st).names.lookup y.1=some .cell/\((cellsFrom (s.heap.objs.size+1) (aB st).names []).lookup y.1).isSome=true):=fun⟨n,v⟩ hy=>by
  rcases S.par n (List.of_mem_zip hy).1 with q|q
  ·exact .inl q
  ·exact .inr ⟨q,PySem.W.cellsFrom_some _ _ _ (.inl q)⟩
 refine codeAny_call_function hr.depth (KX _ _ lk) rfl S.co S.gen rfl (PySem.W.codeRec_of KX hcd) (hb _ _ _ _ ?_);refine wpAny_newFunctionEnv_cells S.kind hkind fun env he s1 x=> ?_;subst he;refine⟨lim.keeps x.toInCall.keep,codeAny_func ?_⟩;obtain⟨ics,hic⟩:∃ics:List (Nat×Addr),Paired (fun (iy:Nat×Str) (ic:Nat×Addr)=>ic.1=iy.1/\(cellsFrom (s.heap.objs.size+1) (aB st).names []).lookup iy.2=some ic.2) iys ics:=by
  clear hbody
  induction iys with
  | nil=>exact⟨[],.nil⟩
  | cons a l ih =>
   obtain⟨ics,h⟩:=ih fun iy hiy=>hi iy (List.mem_cons_of_mem _ hiy);obtain⟨c,hc⟩:=vT (n:=s.heap.objs.size+1) (hi a (.head _)).2;exact⟨(a.1,c)::ics,.cons ⟨rfl,hc⟩ h⟩
 obtain⟨ncs,t,ht,hq⟩:=hbody cdv A outer s H vs Q E ics rfl hic (hr.deeper _) hsp;have I:Inv (vN CX0 P w K mg base N qual (aB st) f cdv A outer s H E) [] (start N vs) H s1:=FZ S hr.hd e0 hl r x;refine wpAny_mono (ht [] s1 (start N vs) H _ _ (I.wish _) hq) (fun fl s' hs=> ?_) fun e s' hs=>False.elim hs;have fin:∀{σ':St}{H':Hp}{v:V}{u:Value},Inv (vN CX0 P w K mg base N qual (aB st) f cdv A outer s H E).nox [] σ' H' s'->RelV v u->Q v H'->CE outer P w H s Q u s' :=
  fun {σ' H' v u} J rv q=>⟨v,H',J.os,J.bare,J.base,J.hok,rv,q⟩
 cases fl with
 | ret u =>
  obtain⟨v,σ',H',J,rv,q⟩:=hs;rcases q with q|⟨cvs,hi',q⟩
  ·exact fin J rv q
  ·obtain⟨m,hn,hl'⟩:=J.loc;have one:∀(iy:Nat×Str) (ic:Nat×Addr) (cv:V),iy∈iys->(ic.1=iy.1/\(cellsFrom (s.heap.objs.size+1) (aB st).names []).lookup iy.2=some ic.2)->σ'[ic.1]? =some (some cv)->H' ic.2=none/\s.heap.objs.size<=ic.2/\∃oC u',s'.heap.get? ic.2=some oC/\oC.data= .cell (some u')/\RelV cv u':=fun iy ic cv hiy hc hs'=>by
    obtain⟨hN,hyc⟩:=hi iy hiy;obtain⟨u',ru,lk'⟩:=hl' iy.1 iy.2 cv hN (by rw[←hc.1];exact hs') (.inr (.inl hyc));have hcell:s'.heap.IsCell ic.2 (some u'):=by
     rcases lk' with⟨z,_⟩|⟨_,c2,e1,e2⟩
     ·have z':(aB st).names.lookup iy.2=some .local:=z;rw[hyc]at z';cases z'
     ·have e1':(cellsFrom (s.heap.objs.size+1) (aB st).names []).lookup iy.2=some c2:=e1;rw[hc.2]at e1';cases e1';exact e2
    obtain⟨oC,hoC,hdC⟩:=hcell;exact⟨J.freeC iy.2 ic.2 hc.2,J.ok.cab iy.2 ic.2 rfl hc.2,oC,u',hoC,hdC,ru⟩
   have all:∀{iys':List (Nat×Str)}{ics':List (Nat×Addr)}{cvs':List V},(∀iy∈iys',iy∈iys)->Paired (fun (iy:Nat×Str) (ic:Nat×Addr)=>ic.1=iy.1/\(cellsFrom (s.heap.objs.size+1) (aB st).names []).lookup iy.2=some ic.2) iys' ics'->Paired (fun (ic:Nat×Addr) cv=>σ'[ic.1]? =some (some cv)) ics' cvs' →
     ∃l:List (Addr×Obj),l.map (·.1)=ics'.map (·.2)/\(∀p∈l,H' p.1=none/\s.heap.objs.size<=p.1/\s'.heap.get? p.1=some p.2)/\∀H2:Hp,(∀p∈l,H2 p.1=some (kn p.2))->o9 H2 (ics'.map (·.2)) cvs':=by
    intro iys' ics' cvs' hsub p1 p2
    induction p1 generalizing cvs' with
    | nil =>
     cases p2;exact⟨[],rfl,(fun _ h=>nomatch h),fun _ _=> .nil⟩
    | @cons iy ic iys2 ics2 h1 t1 ih =>
     cases p2 with
     | cons h2 t2 =>
      obtain⟨l,e1,e2,e3⟩:=ih (fun z hz=>hsub z (List.mem_cons_of_mem _ hz)) t2;obtain⟨a1,a2,oC,u',a3,a4,a5⟩:=one _ _ _ (hsub _ (.head _)) h1 h2;refine⟨(ic.2,oC)::l,by rw[List.map_cons,List.map_cons,e1],fun p hp=> ?_,fun H2 h=> .cons ⟨oC,u',h _ (.head _),a4,a5⟩ (e3 H2 fun p hp=>h p (List.mem_cons_of_mem _ hp))⟩;rcases List.mem_cons.mp hp with rfl|hp
      ·exact⟨a1,a2,a3⟩
      ·exact e2 p hp
   obtain⟨l,e1,e2,e3⟩:=all (fun _ h=>h) hic hi';have nl:(l.map (·.1)).Nodup:=by rw[e1];exact ncs
   have hnone:∀ic∈ics,H' ic.2=none:=fun ic hic'=>by
    have:ic.2∈l.map (·.1):=by rw[e1];exact List.mem_map.mpr ⟨ic,hic',rfl⟩
    obtain⟨p,hp,e⟩:=List.mem_map.mp this;rw[←e];exact(e2 p hp).1
   exact⟨v,ons H' l,J.os,J.bare,UN nl (fun p hp=>⟨(e2 p hp).1,(e2 p hp).2.1⟩) J.base,D5 nl (fun p hp=>⟨(e2 p hp).1,(e2 p hp).2.2⟩) J.hok,rv,q _ (WS fun p hp=>(e2 p hp).1) hnone (e3 _ fun p hp=>aBN nl hp)⟩
 | next =>
  obtain⟨σ',H',J,q⟩:=hs;exact fin (v:=V.non) (u:=Value.none) J rfl q
 | brk =>
  obtain⟨_,_,_,q⟩:=hs;exact False.elim q
 | cont =>
  obtain⟨_,_,_,q⟩:=hs;exact False.elim q
end
end L2
namespace L2
open PySem PySem.W PyProof.Rows
section
variable {P:Program}{w:World}{K:PySem.W.Frag}{mg:Str->Option Value}{base:Heap}
def NZ (F:Addr)(fd:FuncData)(qual:Str)(args:Arguments)(body:Expr)(sc:Scope)(ys:List Str)(cs:List Addr)(vs:List V)(val:Int->Int):Sp:=fun ws H Q _ =>
 ∃t:Int,ws=[.int t]/\0<=t/\LamL H F fd qual args body sc (ys.zip cs)/\o9 H cs vs/\Q (.int (val t)) H
theorem aAM {k:Nat}{F:Addr}{fd:FuncData}{qual:Str}{args:Arguments}{body:Expr}{sc:Scope}{x:Str}{ys:List Str}{cs:List Addr}{vs:List V}{val:Int->Int}
  (hk:sc.kind= .function)(hco:sc.isCoroutine=false)(hgen:sc.isGenerator=false)(hcell:∀z∈sc.names,z.2≠ .cell)(hx:sc.names.lookup x=some .local)(hfree:∀z∈sc.names,z.2= .free->z.1∈ys)(hy:∀y∈ys,sc.names.lookup y=some .free)(ny:ys.Nodup)(ncs:cs.Nodup)(hlen:ys.length=cs.length)
  (hb:∀(cdv:Value) (A:Around) (outer:List Env) (s:Shared) (H:Hp) (E:XK),Room k (A.deeper (PySem.W.envX qual sc s.heap.objs.size F cdv (ys.zip cs))) →
   ∃t,PE (cxL CX0 P w K mg base (x::ys) qual sc F cdv (ys.zip cs) A outer s H E).nox body t/\∀(i:Int) (Q:VK),0<=i->Q (.int (val i)) H->t (some (.int i)::vs.map some) H Q) :
  FnOk P w K mg base CX0 (k+1) F fd [x] (NZ F fd qual args body sc ys cs vs val):=by
 refine ZQ (qual:=qual) (args:=args) (body:=body) (vs:=vs) hk hco hgen hcell hx (fun z e=>hfree (z,.free) (PySem.mem_of_lookup e) rfl) hy ny ncs hlen (fun ws H Q E h=> ?_) fun cdv A outer s H a Q E hr h=> ?_
 ·obtain⟨t,e,t0,L,kc,_⟩:=h;exact⟨.int t,e,L,kc⟩
 ·obtain⟨i,e,t0,L,kc,k⟩:=h;cases e;obtain⟨t,ht,hq⟩:=hb cdv A outer s (iN H cs) E hr;refine⟨t,ht,fun l el hl=>hq _ _ t0 ?_⟩;subst el;show Q _ (ons (iN H _) l);rw[JE ncs hl];exact k
theorem aB7 {l:List (Str×Addr)}{iys:List (Nat×Str)}{ics js:List (Nat×Addr)} (h:Paired (fun (iy:Nat×Str) (ic:Nat×Addr)=>ic.1=iy.1/\l.lookup iy.2=some ic.2) iys ics) (hj:Paired (fun (iy:Nat×Str) (ic:Nat×Addr)=>ic.1=iy.1/\l.lookup iy.2=some ic.2) iys js):ics=js:=by
 induction h generalizing js with
 | nil=>cases hj;rfl
 | @cons iy ic _ _ h1 t1 ih =>
  cases hj with
  | @cons _ jc _ _ h2 t2 =>
   rw[ih t2];have e1:ic.1=jc.1:=h1.1.trans h2.1.symm;have e2:ic.2=jc.2:=Option.some.inj (h1.2.symm.trans h2.2);rw[Prod.ext e1 e2]
theorem F4 (n:Nat){a b c:Nat}(h:(a≠b/\a≠c/\b≠c):=by decide){i j k:Nat}:(([(i,n+a),(j,n+b),(k,n+c)]:List (Nat×Addr)).map (·.2)).Nodup:=by
 show ([n+a,n+b,n+c]:List Nat).Nodup;simp only[List.nodup_cons,List.mem_cons,List.not_mem_nil,or_false,not_or,List.nodup_nil,and_true,not_false_eq_true]
 lia
end
end L2
namespace L2
open PySem PySem.W PyProof.Rows
structure FcV (P:Program)(w:World)(K:PySem.W.Frag)(mg:Str->Option Value)(base:Heap)(x:Str)(k:Nat)(dvs:List V)(ps:List Str)(sp:Sp):Prop where
 ex:∃f fd ds,mg x=some (.ref f)/\PySem.W.keepIn K (.ref f)=true/\Vals dvs ds/\Binds K fd ps ds/\FnOk P w K mg base CX0 k f fd ps sp
theorem aDT {X:Cx}{x:Str}{k k':Nat}{dvs:List V}{ps:List Str}{sp:Sp}{e:Expr}{es:List Expr}{t:TA}{p pos:Pos} (F:FcV X.prog X.w X.K X.mg X.base x k dvs ps sp) (hr:Room k' X.A) (ha:PA X (e::es) t) (hk:k<=k':=by decide) (hg:Gl X x:=by rfl)
  (hdb:(x==("__debug__" :Str))=false:=by decide)(he:starEach (e::es) X.env=(false,eval e X.env)::starEach es X.env:=by rfl)(hpl:(backTo pos (starEach es X.env)).any (·.1)=false:=by rfl) :
  PE X (.Call (.Name x p) (e::es) [] pos) (tV sp dvs E0 t):=by
 obtain⟨f,fd,ds,hm,kp,rv,b,G⟩:=F.ex;exact NC G (hr.mono hk) hg hm kp b rv tL ha hdb he hpl
end L2
namespace L2
def aC9 {α:Type}:Nat->(List α->Prop)->Prop
 | 0,p=>p []
 | n+1,p=>∀a,aC9 n (fun l=>p (a::l))
theorem aM {α:Type}:∀(n:Nat) (p:List α->Prop),aC9 n p->∀us:List α,us.length=n->p us
 | 0,_,h,[],_=>h
 | n+1,_,h,a::us,e=>aM n _ (h a) us (by simpa using e)
 | 0,_,_,_::_,e=>by simp at e
 | _+1,_,_,[],e=>by simp at e
end L2
namespace Prf
open PySem L2
set_option hygiene false
local macro_rules| `(tactic| walk_at"fs")=> `(tactic| exact⟨rfl,rfl,rfl,by decide +kernel,rfl,by decide +kernel,by decide +kernel⟩)
local macro_rules| `(tactic| walk_at"hu")=> `(tactic| (have hu0:=Room.units0 hr;have hu1:=Room.units1 hr;have hu9:=Room.units9 hr))
set_option hygiene true
def top (i:Nat):Stmt:=PySem.Challenge.pw_firstout_k61_the_house_at_a_turn.main.body.getD i (.Pass ⟨0,0,0,0⟩)
abbrev rB:Stmt:=top 0
abbrev iX:Stmt:=top 11
theorem sc_is_whole:aV ["thing"] ["thing"] (aB iX):=by walk_at"fs"
abbrev j5:Stmt:=top 14
theorem sc_is_name:aV ["thing"] ["thing"] (aB j5):=by walk_at"fs"
abbrev hV:Stmt:=top 15
theorem sc_need_name:aV ["part","thing"] ["part","thing"] (aB hV):=by walk_at"fs"
abbrev f9:Stmt:=top 16
theorem sc_need_whole:aV ["part","thing","least"] ["part","thing","least"] (aB f9):=by walk_at"fs"
abbrev cP:Stmt:=bM (top 17) 0
theorem sc_Door___init__:aV ["self","name","start","end","wide"] ["self","name","start","end","wide"] (aB cP):=by walk_at"fs"
abbrev hU:Stmt:=bM (top 17) 1
theorem sc_Door_lets:aV ["self","turn"] ["self","turn"] (aB hU):=by walk_at"fs"
abbrev d4:Stmt:=bM (top 17) 2
theorem sc_Door_is_exit:aV ["self"] ["self"] (aB d4):=by walk_at"fs"
abbrev iF:Stmt:=bM (top 17) 3
abbrev dM:Stmt:=bM (top 18) 0
theorem sc_Since___init__:aV ["self","name","start","end","wide","since"] ["self","name","start","end","wide","since"] (aB dM):=by walk_at"fs"
abbrev fY:Stmt:=bM (top 18) 1
theorem sc_Since_lets:aV ["self","turn"] ["self","turn"] (aB fY):=by walk_at"fs"
abbrev gQ:Stmt:=bM (top 18) 2
abbrev dL:Stmt:=bM (top 19) 0
theorem sc_Until___init__:aV ["self","name","start","end","wide","until"] ["self","name","start","end","wide","until"] (aB dL):=by walk_at"fs"
abbrev gB:Stmt:=bM (top 19) 1
theorem sc_Until_lets:aV ["self","turn"] ["self","turn"] (aB gB):=by walk_at"fs"
abbrev gN:Stmt:=bM (top 19) 2
abbrev dE:Stmt:=bM (top 20) 0
theorem sc_Beat___init__:aV ["self","name","start","end","wide","every","since"] ["self","name","start","end","wide","every","since"] (aB dE):=by walk_at"fs"
abbrev hZ:Stmt:=bM (top 20) 1
theorem sc_Beat_lets:aV ["self","turn","waited"] ["self","turn"] (aB hZ):=by walk_at"fs"
abbrev iJ:Stmt:=bM (top 20) 2
abbrev dP:Stmt:=bM (top 21) 0
theorem sc_Told___init__:aV ["self","name","start","end","letting"] ["self","name","start","end","letting"] (aB dP):=by walk_at"fs"
abbrev g8:Stmt:=bM (top 21) 1
theorem sc_Told_lets:aV ["self","turn","letting"] ["self","turn"] (aB g8):=by walk_at"fs"
abbrev iM:Stmt:=bM (top 21) 2
abbrev eX:Stmt:=bM (top 22) 0
abbrev jB:Stmt:=bM (top 22) 1
abbrev iK:Stmt:=bM (top 22) 2
abbrev eG:Stmt:=bM (top 23) 0
abbrev iD:Stmt:=bM (top 23) 1
abbrev gO:Stmt:=bM (top 23) 2
abbrev fV:Stmt:=top 25
theorem sc_need_turns:aV ["first","last"] ["first","last"] (aB fV):=by walk_at"fs"
abbrev dJ:Stmt:=top 26
theorem sc_need_each_once:aV ["names","seen","name"] ["names"] (aB dJ):=by walk_at"fs"
abbrev c8:Stmt:=top 27
theorem sc_rooms_spoken_of:aV ["doors","people","names","door"] ["doors","people"] (aB c8):=by walk_at"fs"
abbrev gA:Stmt:=top 28
theorem sc_need_rooms:aV ["names","sizes","name"] ["names","sizes"] (aB gA):=by walk_at"fs"
abbrev eK:Stmt:=top 29
theorem sc_added_people:aV ["sizes","people","inside","room","number"] ["sizes","people"] (aB eK):=by walk_at"fs"
abbrev gE:Stmt:=top 30
theorem sc_need_space:aV ["sizes","people","inside"] ["sizes","people"] (aB gE):=by walk_at"fs"
abbrev cV:Stmt:=bM (top 31) 0
theorem sc_House___init__:aV ["self","rooms","doors","people","last","first","sizes","door"] ["self","rooms","doors","people","last","first"] (aB cV):=by walk_at"fs"
abbrev fA:Stmt:=bM (top 31) 1
theorem sc_House_rooms:aV ["self"] ["self"] (aB fA):=by walk_at"fs"
abbrev fG:Stmt:=bM (top 31) 2
theorem sc_House_doors:aV ["self"] ["self"] (aB fG):=by walk_at"fs"
abbrev dB:Stmt:=bM (top 31) 3
theorem sc_House_need_room:aV ["self","room"] ["self","room"] (aB dB):=by walk_at"fs"
abbrev fM:Stmt:=bM (top 31) 4
theorem sc_House_holds:aV ["self","room"] ["self","room"] (aB fM):=by walk_at"fs"
abbrev fC:Stmt:=bM (top 31) 5
theorem sc_House_found:aV ["self","room"] ["self","room"] (aB fC):=by walk_at"fs"
abbrev gG:Stmt:=bM (top 31) 6
theorem sc_House_into:aV ["self","room"] ["self","room"] (aB gG):=by walk_at"fs"
abbrev dA:Stmt:=bM (top 31) 7
theorem sc_House_from_room:aV ["self","room"] ["self","room"] (aB dA):=by walk_at"fs"
abbrev fW:Stmt:=bM (top 31) 8
theorem sc_House_door:aV ["self","name"] ["self","name"] (aB fW):=by walk_at"fs"
abbrev gD:Stmt:=bM (top 31) 9
theorem sc_House_lets:aV ["self","name","turn","door"] ["self","name","turn"] (aB gD):=by walk_at"fs"
abbrev fB:Stmt:=bM (top 31) 10
theorem sc_House_total:aV ["self"] ["self"] (aB fB):=by walk_at"fs"
abbrev fD:Stmt:=bM (top 31) 11
theorem sc_House_pairs:aV ["self","pairs","turn"] ["self"] (aB fD):=by walk_at"fs"
abbrev iW:Stmt:=top 33
theorem sc_added_up:aV ["plan","going","turn","name","number"] ["plan"] (aB iW):=by walk_at"fs"
abbrev dC:Stmt:=top 34
theorem sc_rows_that_count:aV ["house","plan","doors"] ["house","plan"] (aB dC):=by walk_at"fs"
abbrev jV:Stmt:=top 35
theorem sc_leaving:aV ["house","plan","numbers","turn","name","number","pair"] ["house","plan"] (aB jV):=by walk_at"fs"
abbrev lQ:Stmt:=top 36
theorem sc_coming:aV ["house","plan","numbers","turn","name","number","door","pair"] ["house","plan"] (aB lQ):=by walk_at"fs"
abbrev nS:Stmt:=top 37
theorem sc_there:aV ["house","plan","leave","come","inside","room","turn","before"] ["house","plan"] (aB nS):=by walk_at"fs"
abbrev eJ:Stmt:=top 38
theorem sc_most_through:aV ["house","turn","name"] ["house","turn","name"] (aB eJ):=by walk_at"fs"
abbrev fH:Stmt:=top 39
theorem sc_door_faults:aV ["house","plan","going"] ["house","plan"] (aB fH):=by walk_at"fs"
abbrev d5:Stmt:=top 40
theorem sc_leave_faults:aV ["house","plan","inside","leave","below_last"] ["house","plan","inside"] (aB d5):=by walk_at"fs"
abbrev fK:Stmt:=top 41
theorem sc_full_faults:aV ["house","inside"] ["house","inside"] (aB fK):=by walk_at"fs"
abbrev lR:Stmt:=top 42
theorem sc_faults:aV ["house","plan","inside"] ["house","plan"] (aB lR):=by walk_at"fs"
abbrev fI:Stmt:=top 43
theorem sc_need_lawful:aV ["house","plan"] ["house","plan"] (aB fI):=by walk_at"fs"
abbrev lW:Stmt:=top 44
theorem sc_out_by:aV ["house","plan","turn","rows"] ["house","plan","turn"] (aB lW):=by walk_at"fs"
abbrev j8:Stmt:=top 46
abbrev fS:Stmt:=top 47
abbrev gR:Stmt:=top 48
abbrev oW:Stmt:=top 49
theorem sc_anew:aV ["house","plan","turn","happenings","happened","doors","happening","inside","people"] ["house","plan","turn","happenings"] (aB oW):=by walk_at"fs"
abbrev d7:Stmt:=top 51
theorem sc__law_cell_at:aV ["_law_script","_law_k"] ["_law_script","_law_k"] (aB d7):=by walk_at"fs"
abbrev fZ:Stmt:=top 52
theorem sc__law_drawn:aV ["_law_cell","_law_k","_law_number"] ["_law_cell","_law_k"] (aB fZ):=by walk_at"fs"
abbrev g7:Stmt:=top 53
theorem sc__law_name:aV ["_law_cell","_law_k","_law_some","_law_rest","_law_place"] ["_law_cell","_law_k"] (aB g7):=by walk_at"fs"
abbrev cK:Stmt:=top 54
theorem sc__law_letting:aV ["_law_number","_law_first","_law_scale"] ["_law_number","_law_first","_law_scale"] (aB cK):=by walk_at"fs"
abbrev hO:Stmt:=top 55
theorem sc__law_door:aV ["_law_number","_law_name_here","_law_start","_law_end","_law_first","_law_scale","_law_wide","_law_turn"] ["_law_number","_law_name_here","_law_start","_law_end","_law_first","_law_scale"] (aB hO):=by walk_at"fs"
abbrev fX:Stmt:=top 56
theorem sc__law_house:aV ["_law_script","_law_first","_law_last","_law_cell","_law_scale","_law_names","_law_shape","_law_rooms","_law_doors","_law_k","_law_number","_law_end","_law_kind","_law_start","_law_people"] ["_law_script","_law_first","_law_last"] (aB fX):=by walk_at"fs"
abbrev fF:Stmt:=top 57
theorem sc__law_excess:aV ["_law_house_here","_law_numbers_here","_law_inside","_law_left","_law_room","_law_some","_law_came","_law_more"] ["_law_house_here","_law_numbers_here","_law_inside"] (aB fF):=by walk_at"fs"
abbrev d6:Stmt:=top 58
theorem sc__law_numbers:aV ["_law_house_here","_law_cell","_law_turn","_law_inside","_law_numbers_here","_law_names","_law_k","_law_lets","_law_draw","_law_some","_law_more","_law_name_here","_law_most"] ["_law_house_here","_law_cell","_law_turn","_law_inside"] (aB d6):=by walk_at"fs"
abbrev fJ:Stmt:=top 59
theorem sc__law_lawful:aV ["_law_house_here","_law_cells","_law_rows","_law_inside","_law_turn","_law_cell","_law_numbers_here","_law_name_here","_law_door_here"] ["_law_house_here","_law_cells"] (aB fJ):=by walk_at"fs"
abbrev hJ:Stmt:=top 60
theorem sc__law_told:aV ["_law_house_here","_law_found","_law_name_here","_law_door_here","_law_lets"] ["_law_house_here"] (aB hJ):=by walk_at"fs"
abbrev gI:Stmt:=top 61
theorem sc__law_right:aV ["_law_house_here","_law_plan","_law_turn","_law_later","_law_inside","_law_room","_law_name_here","_law_one","_law_other","_law_at"] ["_law_house_here","_law_plan","_law_turn","_law_later"] (aB gI):=by walk_at"fs"
abbrev oR:Stmt:=top 62
theorem sc_law:aV ["_law_script","_law_cell","_law_first","_law_house_here","_law_plan","_law_turn","_law_before","_law_handed","_law_way","_law_k","_law_later"] ["_law_script"] (aB oR):=by walk_at"fs"
theorem XQ:("abcdefghijklmnopqrstuvwxyz" :Str).length=26:=by rw[bY];rfl
theorem XJ:("shut" :Str).length=4:=by rw[bY];rfl
theorem WT:("found" :Str).length=5:=by rw[bY];rfl
theorem V3:("door" :Str).length=4:=by rw[bY];rfl
theorem WF:("name" :Str).length=4:=by rw[bY];rfl
theorem WA:("start" :Str).length=5:=by rw[bY];rfl
theorem VJ:("wide" :Str).length=4:=by rw[bY];rfl
theorem W0:("since" :Str).length=5:=by rw[bY];rfl
theorem W5:("until" :Str).length=5:=by rw[bY];rfl
theorem XH:("every" :Str).length=5:=by rw[bY];rfl
theorem PB:("turn" :Str).length=4:=by rw[bY];rfl
theorem QT:("more" :Str).length=4:=by rw[bY];rfl
theorem PP:("the first turn is below 0" :Str).length=25:=by rw[bY];rfl
theorem P7:("the last turn is below the first one" :Str).length=36:=by rw[bY];rfl
theorem PD:("a row of people is below 0" :Str).length=26:=by rw[bY];rfl
theorem QP:("more are in a room than it holds" :Str).length=32:=by rw[bY];rfl
theorem O6:("leave" :Str).length=5:=by rw[bY];rfl
theorem P2:("full" :Str).length=4:=by rw[bY];rfl
theorem QM:("the plan has faults" :Str).length=19:=by rw[bY];rfl
theorem O3:("the house has no such turn" :Str).length=26:=by rw[bY];rfl
theorem QI:(" is no name" :Str).length=11:=by rw[bY];rfl
theorem P9:(" is no whole number from " :Str).length=25:=by rw[bY];rfl
theorem OX:(" on" :Str).length=3:=by rw[bY];rfl
theorem O4:("end" :Str).length=3:=by rw[bY];rfl
theorem PZ:("a" :Str).length=1:=by rw[bY];rfl
theorem QR:("z" :Str).length=1:=by rw[bY];rfl
structure DCls (K:PySem.W.Frag)(C:Addr):Prop where
 ic:ICls K C
 n_name:NoAttr K C "name"
 n_start:NoAttr K C "start"
 n_end:NoAttr K C "end"
 n_wide:NoAttr K C "wide"
 n_since:NoAttr K C "since"
 n_until:NoAttr K C "until"
 n_every:NoAttr K C "every"
 n_letting:NoAttr K C "letting"
 n_inner:NoAttr K C "inner"
 n_turn:NoAttr K C "turn"
 n_more:NoAttr K C "more"
 n_first:NoAttr K C "first"
 n_last:NoAttr K C "last"
 n_sizes:NoAttr K C "sizes"
 n_people:NoAttr K C "people"
 n_named_doors:NoAttr K C "named_doors"
set_option genInjectivity false in
set_option genSizeOfSpec false in
structure M (K:PySem.W.Frag)(mg:Str->Option Value) where
 OH:Addr
 OI:FuncData
 aFe:FunV K "_wall" "_wall" rB OH OI
 aFb:Binds K OI ["k"] []
 wJ:Addr
 wG:FuncData
 qW:FunV K "is_whole" "is_whole" iX wJ wG
 QX:Binds K wG ["thing"] []
 yE:Addr
 yJ:FuncData
 t7:FunV K "is_name" "is_name" j5 yE yJ
 U3:Binds K yJ ["thing"] []
 uL:Addr
 uK:FuncData
 jH:FunV K "need_name" "need_name" hV uL uK
 M4:Binds K uK ["part","thing"] []
 sL:Addr
 sY:FuncData
 cW:FunV K "need_whole" "need_whole" f9 sL sY
 LC:Binds K sY ["part","thing","least"] []
 r9:Addr
 sW:FuncData
 nA:FunV K "need_turns" "need_turns" fV r9 sW
 LX:Binds K sW ["first","last"] []
 lX:Addr
 l0:FuncData
 gJ:FunV K "need_each_once" "need_each_once" dJ lX l0
 BA:Binds K l0 ["names"] []
 kS:Addr
 kW:FuncData
 iC:FunV K "rooms_spoken_of" "rooms_spoken_of" c8 kS kW
 zK:Binds K kW ["doors","people"] []
 sU:Addr
 sK:FuncData
 iR:FunV K "need_rooms" "need_rooms" gA sU sK
 LQ:Binds K sK ["names","sizes"] []
 oO:Addr
 oJ:FuncData
 fU:FunV K "added_people" "added_people" eK oO oJ
 EM:Binds K oJ ["sizes","people"] []
 tD:Addr
 sT:FuncData
 m9:FunV K "need_space" "need_space" gE tD sT
 LB:Binds K sT ["sizes","people"] []
 wK:Addr
 wL:FuncData
 qX:FunV K "added_up" "added_up" iW wK wL
 QY:Binds K wL ["plan"] []
 kU:Addr
 kQ:FuncData
 cO:FunV K "rows_that_count" "rows_that_count" dC kU kQ
 zI:Binds K kQ ["house","plan"] []
 x0:Addr
 yL:FuncData
 mG:FunV K "leaving" "leaving" jV x0 yL
 U4:Binds K yL ["house","plan"] []
 A5:Addr
 AY:FuncData
 wM:FunV K "coming" "coming" lQ A5 AY
 X3:Binds K AY ["house","plan"] []
 EN:Addr
 E3:FuncData
 mH:FunV K "there" "there" nS EN E3
 aBl:Binds K E3 ["house","plan"] []
 nZ:Addr
 oG:FuncData
 kH:FunV K "most_through" "most_through" eJ nZ oG
 EQ:Binds K oG ["house","turn","name"] []
 qE:Addr
 pK:FuncData
 lL:FunV K "door_faults" "door_faults" fH qE pK
 GX:Binds K pK ["house","plan"] []
 oI:Addr
 oH:FuncData
 kK:FunV K "leave_faults" "leave_faults" d5 oI oH
 ER:Binds K oH ["house","plan","inside"] []
 qK:Addr
 pV:FuncData
 lK:FunV K "full_faults" "full_faults" fK qK pV
 GY:Binds K pV ["house","inside"] []
 A2:Addr
 A4:FuncData
 wI:FunV K "faults" "faults" lR A2 A4
 X5:Binds K A4 ["house","plan"] []
 qM:Addr
 qH:FuncData
 lM:FunV K "need_lawful" "need_lawful" fI qM qH
 HH:Binds K qH ["house","plan"] []
 A9:Addr
 AX:FuncData
 wH:FunV K "out_by" "out_by" lW A9 AX
 YB:Binds K AX ["house","plan","turn"] []
 DB:Addr
 C8:FuncData
 aEG:FunV K "place_of" "place_of" j8 DB C8
 aEL:Binds K C8 ["doors","name"] []
 vB:Addr
 vA:FuncData
 aBf:FunV K "changed_door" "changed_door" fS vB vA
 aBd:Binds K vA ["door","happening"] []
 wT:Addr
 wU:FuncData
 aBz:FunV K "doors_after" "doors_after" gR wT wU
 aBt:Binds K wU ["doors","happening"] []
 LJ:Addr
 C6:FuncData
 vD:FunV K "anew" "anew" oW LJ C6
 aDQ:Binds K C6 ["house","plan","turn","happenings"] []
 nY:Addr
 oN:FuncData
 bZ:FunV K "_law_cell_at" "_law_cell_at" d7 nY oN
 EI:Binds K oN ["_law_script","_law_k"] []
 rZ:Addr
 tK:FuncData
 b9:FunV K "_law_drawn" "_law_drawn" fZ rZ tK
 LY:Binds K tK ["_law_cell","_law_k"] []
 uM:Addr
 uI:FuncData
 lA:FunV K "_law_name" "_law_name" g7 uM uI
 MU:Binds K uI ["_law_cell","_law_k"] []
 oK:Addr
 cN:FuncData
 kJ:FunV K "_law_letting" "_law_letting" cK oK cN
 EU:Binds K cN ["_law_number","_law_first","_law_scale"] []
 uE:Addr
 uO:FuncData
 oU:FunV K "_law_door" "_law_door" hO uE uO
 M0:Binds K uO ["_law_number","_law_name_here","_law_start","_law_end","_law_first","_law_scale"] []
 sO:Addr
 tG:FuncData
 nJ:FunV K "_law_house" "_law_house" fX sO tG
 LA:Binds K tG ["_law_script","_law_first","_law_last"] []
 qD:Addr
 qG:FuncData
 i9:FunV K "_law_excess" "_law_excess" fF qD qG
 HW:Binds K qG ["_law_house_here","_law_numbers_here","_law_inside"] []
 oE:Addr
 oM:FuncData
 kI:FunV K "_law_numbers" "_law_numbers" d6 oE oM
 EZ:Binds K oM ["_law_house_here","_law_cell","_law_turn","_law_inside"] []
 qJ:Addr
 pO:FuncData
 lN:FunV K "_law_lawful" "_law_lawful" fJ qJ pO
 HK:Binds K pO ["_law_house_here","_law_cells"] []
 uD:Addr
 uN:FuncData
 lB:FunV K "_law_told" "_law_told" hJ uD uN
 MR:Binds K uN ["_law_house_here"] []
 sN:Addr
 sS:FuncData
 mX:FunV K "_law_right" "_law_right" gI sN sS
 LU:Binds K sS ["_law_house_here","_law_plan","_law_turn","_law_later"] []
 QW:Addr
 Q0:FuncData
 aEH:FunV K "law" "law" oR QW Q0
 aFg:Binds K Q0 ["_law_script"] []
 jN:Addr
 gZ:FuncData
 m6:FunV K "__init__" "Door.__init__" cP jN gZ
 t8:Binds K gZ ["self","name","start","end","wide"] []
 uP:Addr
 uG:FuncData
 MZ:FunV K "lets" "Door.lets" hU uP uG
 M5:Binds K uG ["self","turn"] []
 c6:Addr
 oB:FuncData
 EJ:FunV K "is_exit" "Door.is_exit" d4 c6 oB
 iQ:Binds K oB ["self"] []
 yD:Addr
 yH:FuncData
 aDL:FunV K "words" "Door.words" iF yD yH
 aDM:Binds K yH ["self"] []
 l6:Addr
 lZ:FuncData
 A7:FunV K "__init__" "Since.__init__" dM l6 lZ
 AW:Binds K lZ ["self","name","start","end","wide","since"] []
 sI:Addr
 sZ:FuncData
 K8:FunV K "lets" "Since.lets" fY sI sZ
 LW:Binds K sZ ["self","turn"] []
 wW:Addr
 wS:FuncData
 aBx:FunV K "words" "Since.words" gQ wW wS
 aBD:Binds K wS ["self"] []
 l7:Addr
 l8:FuncData
 A3:FunV K "__init__" "Until.__init__" dL l7 l8
 A6:Binds K l8 ["self","name","start","end","wide","until"] []
 sJ:Addr
 sV:FuncData
 LD:FunV K "lets" "Until.lets" gB sJ sV
 LO:Binds K sV ["self","turn"] []
 wR:Addr
 wQ:FuncData
 aBw:FunV K "words" "Until.words" gN wR wQ
 aBs:Binds K wQ ["self"] []
 mZ:Addr
 jO:FuncData
 C7:FunV K "__init__" "Beat.__init__" dE mZ jO
 DF:Binds K jO ["self","name","start","end","wide","every","since"] []
 uH:Addr
 uC:FuncData
 M3:FunV K "lets" "Beat.lets" hZ uH uC
 MS:Binds K uC ["self","turn"] []
 x6:Addr
 yI:FuncData
 aDE:FunV K "words" "Beat.words" iJ x6 yI
 aDO:Binds K yI ["self"] []
 nH:Addr
 nE:FuncData
 C5:FunV K "__init__" "Told.__init__" dP nH nE
 DC:Binds K nE ["self","name","start","end","letting"] []
 uF:Addr
 uJ:FuncData
 MX:FunV K "lets" "Told.lets" g8 uF uJ
 M1:Binds K uJ ["self","turn"] []
 yB:Addr
 yK:FuncData
 aDG:FunV K "words" "Told.words" iM yB yK
 aDH:Binds K yK ["self"] []
 t6:Addr
 t9:FuncData
 Y9:FunV K "__init__" "Shut.__init__" eX t6 t9
 ZD:Binds K t9 ["self","door","turn"] []
 zY:Addr
 zZ:FuncData
 aDR:FunV K "lets" "Shut.lets" jB zY zZ
 aDS:Binds K zZ ["self","turn"] []
 yC:Addr
 yF:FuncData
 aDK:FunV K "words" "Shut.words" iK yC yF
 aDJ:Binds K yF ["self"] []
 tH:Addr
 tE:FuncData
 X0:FunV K "__init__" "Wider.__init__" eG tH tE
 XZ:Binds K tE ["self","door","turn","more"] []
 yA:Addr
 xZ:FuncData
 aDI:FunV K "lets" "Wider.lets" iD yA xZ
 aDB:Binds K xZ ["self","turn"] []
 wV:Addr
 wX:FuncData
 aBy:FunV K "words" "Wider.words" gO wV wX
 aBE:Binds K wX ["self"] []
 lY:Addr
 iZ:FuncData
 A0:FunV K "__init__" "House.__init__" cV lY iZ
 BB:Binds K iZ ["self","rooms","doors","people","last","first"] []
 p8:Addr
 p9:FuncData
 GT:FunV K "rooms" "House.rooms" fA p8 p9
 GV:Binds K p9 ["self"] []
 qC:Addr
 qI:FuncData
 HI:FunV K "doors" "House.doors" fG qC qI
 GR:Binds K qI ["self"] []
 kP:Addr
 kO:FuncData
 zL:FunV K "need_room" "House.need_room" dB kP kO
 zJ:Binds K kO ["self","room"] []
 pJ:Addr
 qF:FuncData
 HY:FunV K "holds" "House.holds" fM pJ qF
 GS:Binds K qF ["self","room"] []
 qB:Addr
 pX:FuncData
 HV:FunV K "found" "House.found" fC qB pX
 HU:Binds K pX ["self","room"] []
 r6:Addr
 tI:FuncData
 LN:FunV K "into" "House.into" gG r6 tI
 L3:Binds K tI ["self","room"] []
 kX:Addr
 kR:FuncData
 zO:FunV K "from_room" "House.from_room" dA kX kR
 zP:Binds K kR ["self","room"] []
 sP:Addr
 sR:FuncData
 LE:FunV K "door" "House.door" fW sP sR
 LG:Binds K sR ["self","name"] []
 tF:Addr
 tJ:FuncData
 LK:FunV K "lets" "House.lets" gD tF tJ
 L0:Binds K tJ ["self","name","turn"] []
 pM:Addr
 pY:FuncData
 HN:FunV K "total" "House.total" fB pM pY
 IA:Binds K pY ["self"] []
 qA:Addr
 pU:FuncData
 HS:FunV K "pairs" "House.pairs" fD qA pU
 HJ:Binds K pU ["self"] []
 aFd:mg "_wall" =some (.ref OH)
 QZ:mg "is_whole" =some (.ref wJ)
 U1:mg "is_name" =some (.ref yE)
 MV:mg "need_name" =some (.ref uL)
 LH:mg "need_whole" =some (.ref sL)
 L4:mg "need_turns" =some (.ref r9)
 A8:mg "need_each_once" =some (.ref lX)
 zN:mg "rooms_spoken_of" =some (.ref kS)
 L1:mg "need_rooms" =some (.ref sU)
 EK:mg "added_people" =some (.ref oO)
 LZ:mg "need_space" =some (.ref tD)
 QV:mg "added_up" =some (.ref wK)
 zM:mg "rows_that_count" =some (.ref kU)
 UZ:mg "leaving" =some (.ref x0)
 X9:mg "coming" =some (.ref A5)
 aBq:mg "there" =some (.ref EN)
 E4:mg "most_through" =some (.ref nZ)
 HZ:mg "door_faults" =some (.ref qE)
 ET:mg "leave_faults" =some (.ref oI)
 HM:mg "full_faults" =some (.ref qK)
 X8:mg "faults" =some (.ref A2)
 HL:mg "need_lawful" =some (.ref qM)
 YA:mg "out_by" =some (.ref A9)
 aEM:mg "place_of" =some (.ref DB)
 aBg:mg "changed_door" =some (.ref vB)
 aBB:mg "doors_after" =some (.ref wT)
 U5:mg "anew" =some (.ref LJ)
 E2:mg "_law_cell_at" =some (.ref nY)
 LM:mg "_law_drawn" =some (.ref rZ)
 MT:mg "_law_name" =some (.ref uM)
 EO:mg "_law_letting" =some (.ref oK)
 MY:mg "_law_door" =some (.ref uE)
 LF:mg "_law_house" =some (.ref sO)
 GU:mg "_law_excess" =some (.ref qD)
 EY:mg "_law_numbers" =some (.ref oE)
 HQ:mg "_law_lawful" =some (.ref qJ)
 MW:mg "_law_told" =some (.ref uD)
 LT:mg "_law_right" =some (.ref sN)
 aFh:mg "law" =some (.ref QW)
 U2:∃ds,Vals [.non] ds/\Binds K C6 ["house","plan","turn","happenings"] ds
 yG:∃ds,Vals [.int 1] ds/\Binds K gZ ["self","name","start","end","wide"] ds
 U6:∃ds,Vals [.non,.int 1] ds/\Binds K gZ ["self","name","start","end","wide"] ds
 U9:∃ds,Vals [.int 0] ds/\Binds K jO ["self","name","start","end","wide","every","since"] ds
 Q1:∃ds,Vals [.int 0] ds/\Binds K iZ ["self","rooms","doors","people","last","first"] ds
 iS:Addr
 LS:mg "Door" =some (.ref iS)
 jF:Addr
 aBh:mg "Since" =some (.ref jF)
 jG:Addr
 aBk:mg "Until" =some (.ref jG)
 lD:Addr
 aDD:mg "Beat" =some (.ref lD)
 lC:Addr
 aDF:mg "Told" =some (.ref lC)
 vC:Addr
 aFf:mg "Shut" =some (.ref vC)
 rH:Addr
 aFa:mg "Wider" =some (.ref rH)
 aH:Addr
 OJ:mg "House" =some (.ref aH)
 QU:Addr
 aEI:mg "OutError" =some (.ref QU)
 XX:Addr
 aE6:mg "NoDoor" =some (.ref XX)
 U7:Addr
 aEO:mg "NoHouse" =some (.ref U7)
 XY:Addr
 aE7:mg "NoPlan" =some (.ref XY)
 X7:Addr
 aE3:mg "NoTurn" =some (.ref X7)
 aBj:Addr
 aE9:mg "Twice" =some (.ref aBj)
 YC:Addr
 aE2:mg "NoRoom" =some (.ref YC)
 U0:Addr
 aEP:mg "Unknown" =some (.ref U0)
 vF:DCls K iS
 aBn:Mk K iS jN
 LI:cX K iS "lets" uP
 DE:cX K iS "is_exit" c6
 aBC:cX K iS "words" yD
 sQ:DCls K jF
 X2:Mk K jF l6
 GZ:cX K jF "lets" sI
 aBe:cX K jF "words" wW
 A1:cX K jF "is_exit" c6
 sM:DCls K jG
 X1:Mk K jG l7
 GW:cX K jG "lets" sJ
 aBo:cX K jG "words" wR
 AZ:cX K jG "is_exit" c6
 vE:DCls K lD
 aBm:Mk K lD mZ
 LP:cX K lD "lets" uH
 aBA:cX K lD "words" x6
 DA:cX K lD "is_exit" c6
 u9:DCls K lC
 aBp:Mk K lC nH
 LV:cX K lC "lets" uF
 aBr:cX K lC "words" yB
 DD:cX K lC "is_exit" c6
 aE8:DCls K vC
 aFc:Mk K vC t6
 aDC:cX K vC "lets" zY
 aBv:cX K vC "words" yC
 ZC:cX K vC "is_exit" c6
 aE5:DCls K rH
 aE4:Mk K rH tH
 aBu:cX K rH "lets" yA
 aBi:cX K rH "words" wV
 X4:cX K rH "is_exit" c6
 bC:DCls K aH
 X6:Mk K aH lY
 EX:cX K aH "rooms" p8
 EH:cX K aH "doors" qC
 x9:cX K aH "need_room" kP
 E1:cX K aH "holds" pJ
 ES:cX K aH "found" qB
 HX:cX K aH "into" r6
 x8:cX K aH "from_room" kX
 HR:cX K aH "door" sP
 HP:cX K aH "lets" tF
 EW:cX K aH "total" pM
 EL:cX K aH "pairs" qA
 eM:PySem.W.specialIn K (.ref iS) "__getattribute__" =some (some (.builtin "type.__getattribute__"))/\PySem.W.readsIn K iS (.type "type")=true/\PySem.W.findCls K (.ref iS) (.type "type") "__init__" =some (.val (.ref jN))
 EV:PySem.W.kitOne K (.ref aH) (.ref aH)=some true
 aDN:mg "ValueError" =none
 ZB:mg "any" =none
 LR:mg "sorted" =none
 IG:mg "sum" =none
 jE:mg "range" =none
 U8:mg "dict" =none
 K9:mg "list" =none
 mY:mg "isinstance" =none
 ZA:mg "int" =none
 aEN:mg "str" =none
 aEK:mg "all" =none
 oV:mg "len" =none
 aEJ:mg "max" =none
 aEF:mg "min" =none
 aDP:mg "bool" =none
 oA:∃t:Tok,mg "LONGEST_NAME" =some (.int 8 t)
theorem gl_ {G:Prop}(h:∀G':Prop,G'=G->G'):G:=h G rfl
set_option hygiene false
local macro_rules| `(tactic| walk_at"g1")=> `(tactic| (refine gl_ ?_;intro G_ hG_))
local macro_rules| `(tactic| walk_at"g2")=> `(tactic| subst hG_)
local macro_rules| `(tactic| walk_at"cx")=> `(tactic| try dsimp only[cxK,cxP,cxW,cxM,cxB])
set_option hygiene true
local macro_rules| `(tactic| walk_at"hp")=> `(tactic| first|assumption|(refine' Same.at ?s ?h;(case s=>assumption);(case h=>walk_at"hp"))|(refine' SqL.of ?h;(case h=>walk_at"hp"))|(refine' SqT.of ?h;(case h=>walk_at"hp"))|(refine' Same.seq ?s ?h;(case s=>assumption);(case h=>walk_at"hp"))|(refine' Same.sqT ?s ?h;(case s=>assumption);(case h=>walk_at"hp")))
local macro_rules| `(tactic| walk_at"sm")=> `(tactic| first|assumption|exact Same.refl _|(refine' Same.snoc ?s ?h;(case s=>assumption);(case h=>walk_at"sm")))
local macro_rules| `(tactic| walk_at"sb")=> `(tactic| first|assumption|exact SameBut.refl|(refine' SameBut.snoc ?s ?h;(case s=>assumption);(case h=>walk_at"sb"))|(refine' SameBut.snocS ?s ?h;(case s=>assumption);(case h=>walk_at"sb")))
local macro_rules| `(tactic| walk_at"lk")=> `(tactic| first|assumption|exact aCU|(with_reducible exact aAV)|(refine' aEl ?d ?h;(case d=>decide +kernel);(case h=>walk_at"lk")))
local macro_rules| `(tactic| walk_at"sz")=> `(tactic| first|with_reducible assumption|lia|omega|(simp only[g9,EE,XQ,XJ,WT,V3,WF,WA,VJ,W0,W5,XH,PB,QT,PP,P7,PD,QP,O6,P2,QM,O3,QI,P9,OX,O4,PZ,QR,sizeLine_eq,List.length_cons,List.length_nil,List.length_append,List.length_map];done)|(simp only[g9,EE,XQ,XJ,WT,V3,WF,WA,VJ,W0,W5,XH,PB,QT,PP,P7,PD,QP,O6,P2,QM,O3,QI,P9,OX,O4,PZ,QR,sizeLine_eq,List.length_cons,List.length_nil,List.length_append,List.length_map];omega)|(simp only[g9,EE,XQ,XJ,WT,V3,WF,WA,VJ,W0,W5,XH,PB,QT,PP,P7,PD,QP,O6,P2,QM,O3,QI,P9,OX,O4,PZ,QR,sizeLine_eq,List.length_cons,List.length_nil,List.length_append,List.length_map]at *;omega))
local macro_rules| `(tactic| walk_at"sd")=> `(tactic| first|with_reducible assumption|lia|omega|decide)
local macro_rules| `(tactic| walk_at"dc")=> `(tactic| first|((with_reducible refine ICls.cl (DCls.ic ?_));assumption)|((with_reducible refine DCls.ic ?_);assumption)|((with_reducible refine DCls.n_name ?_);assumption)|((with_reducible refine DCls.n_start ?_);assumption)|((with_reducible refine DCls.n_end ?_);assumption)|((with_reducible refine DCls.n_wide ?_);assumption)|((with_reducible refine DCls.n_since ?_);assumption)|((with_reducible refine DCls.n_until ?_);assumption)|((with_reducible refine DCls.n_every ?_);assumption)|((with_reducible refine DCls.n_letting ?_);assumption)|((with_reducible refine DCls.n_inner ?_);assumption)|((with_reducible refine DCls.n_turn ?_);assumption)|((with_reducible refine DCls.n_more ?_);assumption)|((with_reducible refine DCls.n_first ?_);assumption)|((with_reducible refine DCls.n_last ?_);assumption)|((with_reducible refine DCls.n_sizes ?_);assumption)|((with_reducible refine DCls.n_people ?_);assumption)|((with_reducible refine DCls.n_named_doors ?_);assumption))
local macro_rules| `(tactic| walk_at"rd1")=> `(tactic| first|(with_reducible first|refine aB6 ?_|refine aBH ?_|refine aEY ?_|refine aEk ?_|refine aEa ?_|refine aEv ?_|refine aEb ?_|refine aD1 ?_|refine aEA ?_|refine aD2 ?_|refine aEn ?_|refine aD3 ?_|refine aEo ?_|refine aEu ?_|refine aBG ?_|refine aDn ?_|refine aBK ?_|refine aAE ?_|refine aCB ?_|refine aEE ?_|refine aEC ?_|refine aAY ?_|refine aD9 ?_|refine aDz ?_|refine ZS ?_|refine aEe ?_|refine aCs ?_|refine aEt ?_|refine RJ ?_|refine KO ?_|refine Z5 ?_|refine aAl ?_|refine rd_s0 ?_|refine aDZ ?_|refine aD4 ?_|refine aDW ?_|refine aEm ?_|refine aEr ?_|refine aEi ?_|refine aEf ?_|refine aEB ?_|refine aDU ?_|refine aC7 ?_|refine aCi ?_|refine aBQ ?_|refine aBP ?_|refine aA2 ?_|refine aA7 ?_|refine rd_retN ?_|refine aCN ?_|refine aCh ?_|refine aEx ?_|refine rd_andV ?_|refine rd_orV ?_|refine rd_notV ?_|refine aCc ?_|refine VN ?_|refine rd_un ?_|refine rd_U ?_|refine aDx ?_|refine rd_eqB ?_|refine aBT ?_|refine rd_eqSN ?_|refine aAo ?_|refine rd_eqNN ?_|refine aCC ?_|refine rd_neB ?_|refine rd_neS ?_|refine rd_neNN ?_|refine aAD ?_|refine rd_isNS ?_|refine rd_isNI ?_|refine Z4 ?_|refine ZX ?_|refine Z2 ?_|refine rd_ntNI ?_|refine rd_ntNR ?_|refine ZO ?_|refine rd_ntNV ?_|refine aDm ?_|refine aCg ?_|refine aAO ?_|refine aAs ?_|refine aAJ ?_|refine aEd ?_|refine aEp ?_|refine rd_bm0 ?_|refine rd_bmS ?_|refine rd_bm0I ?_|refine rd_isiII ?_|refine rd_isiIB ?_|refine rd_isiBB ?_|refine rd_isiBI ?_|refine rd_isiSS ?_|refine rd_isiNS ?_|refine aBc ?_|refine Z8 ?_|refine aAT ?_|refine rd_intI ?_|refine RV ?_|refine aAP ?_|refine aDs ?_|refine rd_gsub ?_|refine aAU ?_|refine VA ?_|refine aCx ?_|refine XS ?_|refine rd_iTup ?_|refine XF ?_|refine VF ?_|refine rd_iStr ?_|refine rd_iStrV ?_|refine rd_break ?_|refine rd_cont ?_|refine rd_aug ?_)|((with_reducible refine' aBJ ?s ?_);(case s=>decide))|((with_reducible refine' aAk ?s ?_);(case s=>walk_at"sd");intro h0' h1')|((with_reducible refine' rd_repL ?e ?a ?b ?s ?_);(case e=>walk_at"hp");(case a=>decide);(case b=>decide);(case s=>first|(simp;done)|(simp[sizeLine_eq];done)|walk_at"sz");intro p' H' n' S' e')|((with_reducible refine' aBU ?s ?r ?_);(case s=>walk_at"sd");(case r=>walk_at"sd"))|((with_reducible refine' aAq ?s ?r ?_);(case s=>walk_at"sd");(case r=>walk_at"sd"))|((with_reducible refine' ZW ?s ?r ?_);(case s=>walk_at"sd");(case r=>walk_at"sd"))|((with_reducible refine' ZJ ?s ?_);(case s=>walk_at"sz");intro p' H' n' S' e')|((with_reducible refine' aA0 ?s ?_);(case s=>walk_at"sz");intro p' H' n' S' e')|((with_reducible refine aAc ?_);intro p' H' n' S' e')|((with_reducible refine' aA3 ?e ?c ?n ?l ?_);(case e=>walk_at"hp");(case c=>walk_at"dc");(case n=>walk_at"dc");(case l=>walk_at"lk"))|((with_reducible refine' VP ?e ?c ?n ?l ?_);(case e=>walk_at"hp");(case c=>walk_at"dc");(case n=>walk_at"dc");(case l=>kernel_rfl);intro H' B' e')|((with_reducible refine' aCL ?e ?l ?F ?_);(case e=>walk_at"hp");(case l=>walk_at"lk");(case F=>assumption))|((with_reducible refine' aA9 ?e ?i ?k ?_);(case e=>walk_at"hp");(case i=>walk_at"dc");(case k=>assumption))|((with_reducible refine' rd_ixL ?e ?l ?_);(case e=>walk_at"hp");(case l=>rfl))|((with_reducible refine' aA1 ?e ?s ?r ?_);(case e=>walk_at"hp");(case s=>walk_at"sd");(case r=>walk_at"sd");intro v' hv')|((with_reducible refine' rd_ix3i ?e ?s ?r ?_);(case e=>walk_at"hp");(case s=>walk_at"sd");(case r=>walk_at"sd");intro v' hv')|((with_reducible refine' rd_setLm ?e ?l ?_);(case e=>walk_at"hp");(case l=>rfl);intro H' B' e')|((with_reducible refine' ZL ?e ?_);(case e=>walk_at"hp"))|((with_reducible refine' Z1 ?e ?_);(case e=>walk_at"sz"))|((with_reducible refine' aAz ?e ?_);(case e=>walk_at"sz"))|((with_reducible refine' aB3 ?e ?_);(case e=>walk_at"sz");intro hl')|((with_reducible refine' aBI ?e ?_);(case e=>walk_at"hp");intro p' H' n' S' e')|((with_reducible refine' UH ?e ?_);(case e=>walk_at"hp");intro p' H' n' S' e')|((with_reducible refine' N2 ?e ?f ?s ?_);(case e=>walk_at"hp");(case f=>walk_at"hp");(case s=>walk_at"sz");intro p' H' n' S' e')|((with_reducible refine' ST ?e ?_);(case e=>walk_at"hp");intro p' H' n' S' e')|((with_reducible refine' aDy ?e ?_);(case e=>walk_at"hp"))|((with_reducible refine' FD ?e ?_);(case e=>walk_at"hp"))|((with_reducible refine' Q8 ?s ?r ?_);(case s=>walk_at"sd");(case r=>walk_at"sd"))|((with_reducible refine' SR ?s ?r ?t ?u ?_);(case s=>walk_at"sd");(case r=>walk_at"sd");(case t=>walk_at"sd");(case u=>walk_at"sd"))|((with_reducible refine' rd_str ?s ?r ?_);(case s=>walk_at"sd");(case r=>walk_at"sd");intro hl')|((with_reducible refine' rd_gtupL ?e ?l ?_);(case e=>walk_at"hp");(case l=>rfl))|((with_reducible refine' aAN ?e ?l ?_);(case e=>walk_at"hp");(case l=>rfl))|((with_reducible refine' rd_ifP ?s ?_);(case s=>walk_at"sd"))|((with_reducible refine' aCf ?s ?_);(case s=>walk_at"sd"))|((with_reducible refine' aAe ?s ?_);(case s=>walk_at"sd"))|((with_reducible refine' rd_ifnN ?s ?_);(case s=>walk_at"sd")))
local macro_rules| `(tactic| walk_at"go")=> `(tactic| repeat walk_at"rd1")
local macro_rules| `(tactic| walk_at"gs")=> `(tactic| repeat ((fail_if_success (with_reducible refine WP ?_));walk_at"rd1"))
local macro_rules| `(tactic| walk_at"nn")=> `(tactic| repeat first|exact nn_nil|refine nn_app ?_ ?_|refine nn_cons (by omega) ?_|exact nn_map (fun n=>by omega))
section
variable {P:Program}{w:World}{K:PySem.W.Frag}{mg:Str->Option Value}{base:Heap}
def aDa:V->Bool
 | .int _=>true
 | _=>false
def z8 (K:PySem.W.Frag):Sp:=fun vs H Q _=>∃x n,vs=[x]/\BTy K H x n/\Q (.bl (aDa x)) H
theorem VS {H:Hp}{Q:VK}{E:XK}{i:Int} (h:Q (.bl true) H):z8 K [.int i] H Q E:=⟨_,_,rfl,.int i,h⟩
theorem L8 (m:M K mg):FnOk P w K mg base CX0 1 m.wJ m.wG ["thing"] (z8 K):=by
 refine m.qW.ok sc_is_whole (fun vs H Q E h=> ?_) (fun cdv A outer s H vs Q E hr h=> ?_)
 ·walk_at"g1";obtain⟨x,n,rfl,b,k⟩:=h;walk_at"g2";rfl
 ·walk_at"g1";obtain⟨x,n,rfl,b,k⟩:=h;walk_at"g2";have nd:=sc_is_whole.nd;walk_at"hu";refine⟨_,(aF (aY (SM (bV vK rfl m.mY lH (aA (pv 0) (aA (QB rfl m.ZA TX) aD))) (TV (aCD (bV vK rfl m.mY lH (aA (pv 0) (aA (QB rfl m.aDP aAx) aD)))))))),?_⟩;refine aT (σ:=[some (x)]) rfl ?_;walk_at"cx";refine⟨_,rfl,_,_,_,_,_,rfl,b.ty,rfl,P6 b "int" (.inl rfl),_,rfl,?_⟩;refine DK (fun h1=>⟨_,rfl,_,_,_,_,_,rfl,b.ty,rfl,P6 b "bool" (.inr (.inl rfl)),_,rfl,?_⟩) (fun h1=> ?_)
  ·cases b<;>first|exact k|exact absurd h1 (by decide)
  ·cases b<;>first|exact k|exact absurd (by decide) h1
theorem ML (m:M K mg):Fc P w K mg base "is_whole" 1 ["thing"] (z8 K):=⟨_,_,m.QZ,m.qW.kp,m.QX,L8 m⟩
def nmB:V->Bool
 | .str z=>bI z
 | _=>false
def DP (K:PySem.W.Frag):Sp:=fun vs H Q _=>∃x n,vs=[x]/\BTy K H x n/\(∀z,x= .str z->z.length<=1000)/\∀H',Same H H'->Q (.bl (nmB x)) H'
theorem aAI {H:Hp}{Q:VK}{E:XK}{z:Str} (hz:bI z=true) (h:∀H',Same H H'->Q (.bl true) H'):DP K [.str z] H Q E :=
 ⟨_,_,rfl,.str z,fun y e=>by cases e;exact Nat.le_trans (TF hz) (by decide),fun H' s=>by rw[show nmB (.str z)=true from hz];exact h H' s⟩
theorem le1 (a c:Nat):(!decide ([c]<[a]))=decide (a<=c):=by
 have:([c]<[a])↔c<a:=by
  constructor
  ·intro h;cases h with
   | rel h=>exact h
   | cons h=>cases h
  ·exact fun h=> .rel h
 by_cases h:c<a
 ·rw[decide_eq_true (this.mpr h),decide_eq_false (by lia)];rfl
 ·rw[decide_eq_false (fun z=>h (this.mp z)),decide_eq_true (by lia)];rfl
theorem aEh:("a" :Str).cps.toList=[97]:=by decide +kernel
theorem aEj:("z" :Str).cps.toList=[122]:=by decide +kernel
theorem FQ {α:Type}(p:α->Bool)(d:α):∀l:List α,((List.range l.length).map fun i=>p (l.getD i d)).all id=l.all p
 | []=>rfl
 | a::l=>by
  rw[List.length_cons,List.range_succ_eq_map,List.map_cons,List.all_cons,List.map_map,List.all_cons,←FQ p d l];rfl
theorem W4 {H:Hp}{p:Addr}{o:HO} (h:H p=none):Same H (upd H p o):=fun b u e=>by rw[aS (bJ e h)];exact e
theorem QO (m:M K mg):FnOk P w K mg base CX0 1 m.yE m.yJ ["thing"] (DP K):=by
 refine m.t7.ok sc_is_name (fun vs H Q E h=> ?_) (fun cdv A outer s H vs Q E hr h=> ?_)
 ·walk_at"g1";obtain⟨x,n,rfl,b,hz,k⟩:=h;walk_at"g2";rfl
 ·walk_at"g1";obtain⟨x,n,rfl,b,hz,k⟩:=h;walk_at"g2";have nd:=sc_is_name.nd;walk_at"hu";obtain⟨tok_LONGEST_NAME,oA⟩:=m.oA;refine⟨_,(aC (cC (rP (kY (bV vK rfl m.mY lH (aA (pv 0) (aA (QB rfl m.aEN aCA) aD))))) (aF (aY qR)) bN)
   (aF (aY (SM (KZ QJ QJ aG (bV FU rfl m.oV k7 (aA (pv 0) aD)) (aAg rfl oA)) (TV (bV (WQ rfl) rfl m.aEK aB2 (aA (cM (N:=["sign"]) (nl:=1) (ci:=[]) rfl (blk (s.heap.objs.size+1) rfl rfl rfl (by kernel_rfl)) (aDp (pv 0)) (fun _ _ _ _=>(aO (i:=0) (show (["sign"]:List Str).Nodup by decide +kernel) rfl (by walk_at"oi"))) (fun _ _ _ _=>eU) (fun _ _ _ _=>(KZ UL UL gH (pv 0) gH))) aD))))))),?_⟩
  refine aT (σ:=[some (x)]) rfl ?_;walk_at"cx";refine⟨_,rfl,_,_,_,_,_,rfl,b.ty,rfl,P6 b "str" (.inr (.inr rfl)),_,rfl,?_⟩;refine DK (fun h1=> ?_) (fun h1=> ?_)
  ·show Q (.bl false) H;cases b<;>first|exact k H (Same.refl H)|exact absurd h1 (by decide)
  ·have hs:∃z,x= .str z:=by
    cases b<;>first|exact⟨_,rfl⟩|exact absurd (by decide) h1
   obtain⟨z,rfl⟩:=hs;have hl:=hz z rfl;have hl':z.length<=sizeLine:=Nat.le_of_lt (SL hl);refine⟨_,rfl,z,rfl,hl',_,_,rfl,rfl,_,rfl,?_⟩;refine DK (fun h2=>⟨_,_,rfl,rfl,_,rfl,?_⟩) (fun h2=>⟨_,rfl,?_⟩)
   ·refine DK (fun h3=> ?_) (fun h3=> ?_)
    ·refine⟨_,rfl,z,rfl,?_⟩;refine aAi z.cps.size (fun i=> .bl (sgB (z.cps.toList.getD i 0))) hl' (fun H'=>H'=H) rfl (fun _ _=>rfl) (fun i _ hi _=>hi) ?_ ?_ ?_ ?_ ?_
     ·rintro i _ x H' hi rfl hq_;walk_at"g1";obtain⟨rfl,c,hc,rfl⟩:=hq_;walk_at"g2";refine⟨⟨rfl,fun j v hv=> ?_⟩,rfl,?_⟩
      ·match j,hv with
       | 0,hv=>cases hv
       | j+1,hv=>cases hv
      ·have hc':z.cps.toList.getD i 0=c:=by
        rw[List.getD_eq_getElem?_getD,Array.getElem?_toList,hc];rfl
       refine⟨_,rfl,_,_,rfl,rfl,_,rfl,?_⟩;rw[aEh,hc'];refine DK (fun h4=>⟨_,_,rfl,rfl,?_,rfl⟩) (fun h4=>⟨?_,rfl⟩)
       ·have h4':97<=c:=by rw[show (⟨#[c]⟩:Str).cps.toList=[c] from rfl,le1]at h4;exact of_decide_eq_true h4
        rw[aEj,show (⟨#[c]⟩:Str).cps.toList=[c] from rfl,le1];unfold sgB;rw[decide_eq_true h4',Bool.true_and]
       ·have h4':¬97<=c:=by rw[show (⟨#[c]⟩:Str).cps.toList=[c] from rfl,le1]at h4;exact fun z=>h4 (decide_eq_true z)
        unfold sgB;rw[decide_eq_false h4',Bool.false_and]
     ·exact fun _ _ _ _ f q=>f _ _ q
     ·rintro σ H Q Q' f hq_;walk_at"g1";obtain⟨v,e,i,j,e1,e2,k,e3,q⟩:=hq_;walk_at"g2";refine⟨v,e,i,j,e1,e2,k,e3,?_⟩;revert q
      split
      ·rintro hq_;walk_at"g1";obtain⟨i,j,e1,e2,q⟩:=hq_;walk_at"g2";exact⟨i,j,e1,e2,f _ _ q⟩
      ·exact fun q=>f _ _ q
     ·exact fun _ _ _ _ _ f q=>f _ _ q
     ·rintro _ rfl p hp;refine⟨p,(List.range z.cps.size).map (fun i=>sgB (z.cps.toList.getD i 0)),rfl,SqL.of ?_,?_⟩
      ·rw[bE,List.map_map];rfl
      ·have e:=FQ sgB 0 z.cps.toList;rw[Array.length_toList]at e;rw[e];have e2:nmB (.str z)=z.cps.toList.all sgB:=by
        show bI z=_;unfold bI;rw[show decide (1<=(z.length:Int))=true from h2,show decide ((z.length:Int)<=8)=true from h3];rfl
       rw[←e2];exact k _ (W4 hp)
    ·have e2:nmB (.str z)=false:=by
      show bI z=_;unfold bI;rw[show decide ((z.length:Int)<=8)=false from by simpa using h3];simp
     have:=k H (Same.refl H);rw[e2]at this;exact this
   ·have e2:nmB (.str z)=false:=by
     show bI z=_;unfold bI;rw[show decide (1<=(z.length:Int))=false from by simpa using h2];simp
    have:=k H (Same.refl H);rw[e2]at this;exact this
theorem P0 (m:M K mg):Fc P w K mg base "is_name" 1 ["thing"] (DP K):=⟨_,_,m.U1,m.t7.kp,m.U3,QO m⟩
local macro_rules| `(tactic| walk_at"rd1")=> `(tactic| first|(with_reducible refine VS ?_)|((with_reducible refine' aAI ?s ?_);(case s=>assumption);intro H' S'))
inductive mL (K:PySem.W.Frag)(vs:List V)(H:Hp)(Q:VK)(E:XK):Prop
 | mk (part z:Str) (_:vs=[.str part,.str z]) (_:bI z=true) (_:∀H',Same H H'->Q .non H'):mL K vs H Q E
theorem MA {H:Hp}{Q:VK}{E:XK}{part z:Str} (hz:bI z=true) (h:∀H',Same H H'->Q .non H'):mL K [.str part,.str z] H Q E:=⟨_,_,rfl,hz,h⟩
theorem J3 (m:M K mg):FnOk P w K mg base CX0 2 m.uL m.uK ["part","thing"] (mL K):=by
 refine m.jH.ok sc_need_name (fun vs H Q E h=> ?_) (fun cdv A outer s H vs Q E hr h=> ?_)
 ·walk_at"g1";obtain⟨part,z,rfl,hz,k⟩:=h;walk_at"g2";rfl
 ·walk_at"g1";obtain⟨part,z,rfl,hz,k⟩:=h;walk_at"g2";have nd:=sc_need_name.nd;walk_at"hu";have t7:= @P0 P w K mg base m;refine⟨_,(aF (cC (rP (kY (bG t7 hr (aA (pv 1) aD)))) (aF fE) bN)),?_⟩;refine aT (σ:=[some (.str part),some (.str z)]) rfl ?_;walk_at"cx";walk_at"go";exact k _ (by walk_at"sm")
theorem KW (m:M K mg):Fc P w K mg base "need_name" 2 ["part","thing"] (mL K):=⟨_,_,m.MV,m.jH.kp,m.M4,J3 m⟩
inductive lJ (K:PySem.W.Frag)(vs:List V)(H:Hp)(Q:VK)(E:XK):Prop
 | mk (part:Str) (i l:Int) (_:vs=[.str part,.int i,.int l]) (_:l<=i) (_:Q .non H):lJ K vs H Q E
theorem JB {H:Hp}{Q:VK}{E:XK}{part:Str}{i l:Int} (hz:l<=i) (h:Q .non H):lJ K [.str part,.int i,.int l] H Q E:=⟨_,_,_,rfl,hz,h⟩
theorem GC (m:M K mg):FnOk P w K mg base CX0 2 m.sL m.sY ["part","thing","least"] (lJ K):=by
 refine m.cW.ok sc_need_whole (fun vs H Q E h=> ?_) (fun cdv A outer s H vs Q E hr h=> ?_)
 ·walk_at"g1";obtain⟨part,i,l,rfl,hz,k⟩:=h;walk_at"g2";rfl
 ·walk_at"g1";obtain⟨part,i,l,rfl,hz,k⟩:=h;walk_at"g2";have nd:=sc_need_whole.nd;walk_at"hu";have qW:= @ML P w K mg base m;refine⟨_,(aF (cC (PW.pt (qV (rP (kY (bG qW hr (aA (pv 1) aD)))) (rU (aZ mI (pv 1) (pv 2) (bD _))))) (aF fE) bN)),?_⟩;refine aT (σ:=[some (.str part),some (.int i),some (.int l)]) rfl ?_;walk_at"cx";walk_at"go";exact k
theorem lG (m:M K mg):Fc P w K mg base "need_whole" 2 ["part","thing","least"] (lJ K):=⟨_,_,m.LH,m.cW.kp,m.LC,GC m⟩
local macro_rules| `(tactic| walk_at"rd1")=> `(tactic| first|((with_reducible refine' MA ?s ?_);(case s=>assumption);intro H' S')|((with_reducible refine' JB ?s ?_);(case s=>walk_at"sd")))
abbrev oZ (n s e w:V):List (Str×V):=cZ "wide" w (cZ "end" e (cZ "start" s (cZ "name" n [])))
def gK (e:V):Prop:=e= .non∨∃z,e= .str z/\bI z=true
inductive eO (K:PySem.W.Frag)(vs:List V)(H:Hp)(Q:VK)(E:XK):Prop
 | mk (p C dx:Addr) (n s:Str) (e:V) (wd:Int) (_:vs=[.ref p,.str n,.str s,e,.int wd]) (_:DCls K C) (_:H p=some (.ins C dx [])) (_:bI n=true) (_:bI s=true) (_:gK e) (_:0<=wd) (_:∀H',SameBut p H H'->H' p=some (.ins C dx (oZ (.str n) (.str s) e (.int wd)))->Q .non H'):eO K vs H Q E
theorem zQ {H:Hp}{Q:VK}{E:XK}{p C dx:Addr}{n s:Str}{e:V}{wd:Int} (dc:DCls K C) (hp:H p=some (.ins C dx [])) (hn:bI n=true) (hs:bI s=true) (he:gK e) (hw:0<=wd)
  (k:∀H',SameBut p H H'->H' p=some (.ins C dx (oZ (.str n) (.str s) e (.int wd)))->Q .non H'):eO K [.ref p,.str n,.str s,e,.int wd] H Q E:=⟨_,_,_,_,_,_,_,rfl,dc,hp,hn,hs,he,hw,k⟩
theorem lP (m:M K mg):FnOk P w K mg base CX0 3 m.jN m.gZ ["self","name","start","end","wide"] (eO K):=by
 refine m.m6.ok sc_Door___init__ (fun vs H Q E h=> ?_) (fun cdv A outer s H vs Q E hr h=> ?_)
 ·walk_at"g1";obtain⟨p,C,dx,n,st,e,wd,rfl,dc,hp,hn,hs,he,hw,k⟩:=h;walk_at"g2";rfl
 ·walk_at"g1";obtain⟨p,C,dx,n,st,e,wd,rfl,dc,hp,hn,hs,he,hw,k⟩:=h;walk_at"g2";have nd:=sc_Door___init__.nd;walk_at"hu";have jH:= @KW P w K mg base m;have cW:= @lG P w K mg base m;refine⟨_,(aC (bP (bG jH hr (aA gH (aA (pv 1) aD))))
   (aC (bP (bG jH hr (aA gH (aA (pv 2) aD))))
   (aC (cC (aZ NM (pv 3) rJ (bD _)) (aF (bP (bG jH hr (aA gH (aA (pv 3) aD))))) bN)
   (aC (bP (bG cW hr (aA gH (aA (pv 4) (aA aG aD)))))
   (aC (gT (pv 0) (pv 1) rfl)
   (aC (gT (pv 0) (pv 2) rfl)
   (aC (gT (pv 0) (pv 3) rfl)
   (aF (gT (pv 0) (pv 4) rfl))))))))),?_⟩
  refine aT (σ:=[some (.ref p),some (.str n),some (.str st),some (e),some (.int wd)]) rfl ?_;walk_at"cx";rcases he with rfl|⟨z,rfl,hz⟩
  ·walk_at"go";exact k _ (by walk_at"sb") (by assumption)
  ·walk_at"go";exact k _ (by walk_at"sb") (by assumption)
theorem Q9 (m:M K mg):Kc P w K mg base "Door" m.iS 3 [] (eO K):=⟨_,_,_,_,m.LS,m.aBn,.nil,m.t8,lP m⟩
theorem jI (m:M K mg):Dc P w K mg base "Door" "__init__" 3 (eO K):=⟨_,_,_,_,m.LS,m.eM.1,m.eM.2.1,m.eM.2.2,m.m6.kp,m.t8,lP m⟩
theorem uB (m:M K mg):DcD P w K mg base "Door" "__init__" 3 [.int 1] (eO K):=by
 obtain⟨ds,h1,h2⟩:=m.yG;exact⟨_,_,_,_,_,m.LS,m.eM.1,m.eM.2.1,m.eM.2.2,m.m6.kp,h1,h2,lP m⟩
theorem VZ {H:Hp}{Q:VK}{E:XK}{C:Addr}{vs dvs:List V}{n s:Str}{e:V}{wd:Int} (ev:vs++dvs=[.str n,.str s,e,.int wd]) (dc:DCls K C) (hn:bI n=true) (hs:bI s=true) (he:gK e) (hw:0<=wd)
  (k:∀p dx H',H p=none->Same H H'->H' p=some (.ins C dx (oZ (.str n) (.str s) e (.int wd)))->Q (.ref p) H'):tY C (eO K) dvs E Q vs H :=
 rT (fun p dx H0 Q' h k' s0=>by rw[ev];exact zQ dc h hn hs he hw k') k
local macro_rules| `(tactic| walk_at"rd1")=> `(tactic| ((with_reducible refine' VZ ?v ?d ?hn ?hs ?he ?hw ?_);(case v=>rfl);(case d=>assumption);(case hn=>assumption);(case hs=>assumption);(case he=>first|assumption|exact .inl rfl|exact .inr ⟨_,rfl,by assumption⟩);(case hw=>walk_at"sd");intro p' dx' H' n' S' e'))
inductive iE (K:PySem.W.Frag)(vs:List V)(H:Hp)(Q:VK)(E:XK):Prop
 | mk (p C dx:Addr) (fs:List (Str×V)) (e:V) (_:vs=[.ref p]) (_:DCls K C) (_:H p=some (.ins C dx fs)) (_:fs.lookup ("end" :Str)=some e) (_:Q (.bl (decide (e= .non))) H):iE K vs H Q E
theorem aAW {H:Hp}{Q:VK}{E:XK}{p C dx:Addr}{fs:List (Str×V)} (hp:H p=some (.ins C dx fs)) (dc:DCls K C) (l:fs.lookup ("end" :Str)=some .non) (k:Q (.bl true) H):iE K [.ref p] H Q E:=⟨_,_,_,_,_,rfl,dc,hp,l,k⟩
theorem aAG {H:Hp}{Q:VK}{E:XK}{p C dx:Addr}{fs:List (Str×V)}{z:Str} (hp:H p=some (.ins C dx fs)) (dc:DCls K C) (l:fs.lookup ("end" :Str)=some (.str z)) (k:Q (.bl false) H):iE K [.ref p] H Q E :=
 ⟨_,_,_,_,_,rfl,dc,hp,l,by rw[decide_eq_false (fun z=>by cases z)];exact k⟩
theorem gW (m:M K mg):FnOk P w K mg base CX0 1 m.c6 m.oB ["self"] (iE K):=by
 refine m.EJ.ok sc_Door_is_exit (fun vs H Q E h=> ?_) (fun cdv A outer s H vs Q E hr h=> ?_)
 ·walk_at"g1";obtain⟨p,C,dx,fs,e,rfl,dc,hp,l,k⟩:=h;walk_at"g2";rfl
 ·walk_at"g1";obtain⟨p,C,dx,fs,e,rfl,dc,hp,l,k⟩:=h;walk_at"g2";have nd:=sc_Door_is_exit.nd;walk_at"hu";refine⟨_,(aF (aY (u8 SI (aX (pv 0) rfl) rJ (bD _)))),?_⟩;refine aT (σ:=[some (.ref p)]) rfl ?_;walk_at"cx";walk_at"go";exact k
theorem C4 (m:M K mg):Mc P w K mg base m.iS "is_exit" 1 (iE K):=⟨_,_,_,m.vF.ic.cl,m.DE,m.iQ,gW m⟩
theorem z7 (m:M K mg):Mc P w K mg base m.jF "is_exit" 1 (iE K):=⟨_,_,_,m.sQ.ic.cl,m.A1,m.iQ,gW m⟩
theorem z6 (m:M K mg):Mc P w K mg base m.jG "is_exit" 1 (iE K):=⟨_,_,_,m.sM.ic.cl,m.AZ,m.iQ,gW m⟩
theorem BU (m:M K mg):Mc P w K mg base m.lD "is_exit" 1 (iE K):=⟨_,_,_,m.vE.ic.cl,m.DA,m.iQ,gW m⟩
theorem CW (m:M K mg):Mc P w K mg base m.lC "is_exit" 1 (iE K):=⟨_,_,_,m.u9.ic.cl,m.DD,m.iQ,gW m⟩
local macro_rules| `(tactic| walk_at"rd1")=> `(tactic| first|((with_reducible refine' aAW ?e ?d ?l ?_);(case e=>walk_at"hp");(case d=>assumption);(case l=>walk_at"lk"))|((with_reducible refine' aAG ?e ?d ?l ?_);(case e=>walk_at"hp");(case d=>assumption);(case l=>walk_at"lk")))
inductive mS (K:PySem.W.Frag)(vs:List V)(H:Hp)(Q:VK)(E:XK):Prop
 | mk (p C dx:Addr) (fs:List (Str×V)) (t wd:Int) (_:vs=[.ref p,.int t]) (_:DCls K C) (_:H p=some (.ins C dx fs)) (_:fs.lookup ("wide" :Str)=some (.int wd)) (_:Q (.int wd) H):mS K vs H Q E
theorem MN {H:Hp}{Q:VK}{E:XK}{p C dx:Addr}{fs:List (Str×V)}{t wd:Int} (hp:H p=some (.ins C dx fs)) (dc:DCls K C) (l:fs.lookup ("wide" :Str)=some (.int wd)) (k:Q (.int wd) H):mS K [.ref p,.int t] H Q E:=⟨_,_,_,_,_,_,rfl,dc,hp,l,k⟩
theorem JN (m:M K mg):FnOk P w K mg base CX0 1 m.uP m.uG ["self","turn"] (mS K):=by
 refine m.MZ.ok sc_Door_lets (fun vs H Q E h=> ?_) (fun cdv A outer s H vs Q E hr h=> ?_)
 ·walk_at"g1";obtain⟨p,C,dx,fs,t,wd,rfl,dc,hp,l,k⟩:=h;walk_at"g2";rfl
 ·walk_at"g1";obtain⟨p,C,dx,fs,t,wd,rfl,dc,hp,l,k⟩:=h;walk_at"g2";have nd:=sc_Door_lets.nd;walk_at"hu";refine⟨_,(aF (aY (aX (pv 0) rfl))),?_⟩;refine aT (σ:=[some (.ref p),some (.int t)]) rfl ?_;walk_at"cx";walk_at"go";exact k
theorem JY (m:M K mg):Mc P w K mg base m.iS "lets" 1 (mS K):=⟨_,_,_,m.vF.ic.cl,m.LI,m.M5,JN m⟩
local macro_rules| `(tactic| walk_at"rd1")=> `(tactic| ((with_reducible refine' zQ ?d ?e ?hn ?hs ?he ?hw ?_);(case d=>assumption);(case e=>walk_at"hp");(case hn=>assumption);(case hs=>assumption);(case he=>assumption);(case hw=>walk_at"sd");intro H' B' e'))
abbrev yP (n s e w i0:V):List (Str×V):=cZ "since" i0 (oZ n s e w)
inductive i4 (K:PySem.W.Frag)(vs:List V)(H:Hp)(Q:VK)(E:XK):Prop
 | mk (p C dx:Addr) (n s:Str) (e:V) (wd i0:Int) (_:vs=[.ref p,.str n,.str s,e,.int wd,.int i0]) (_:DCls K C) (_:H p=some (.ins C dx [])) (_:bI n=true) (_:bI s=true) (_:gK e) (_:0<=wd) (_:0<=i0) (_:∀H',SameBut p H H'->H' p=some (.ins C dx (yP (.str n) (.str s) e (.int wd) (.int i0)))->Q .non H'):i4 K vs H Q E
theorem JZ {H:Hp}{Q:VK}{E:XK}{p C dx:Addr}{n s:Str}{e:V}{wd i0:Int} (dc:DCls K C) (hp:H p=some (.ins C dx [])) (hn:bI n=true) (hs:bI s=true) (he:gK e) (hw:0<=wd) (b0:0<=i0)
  (k:∀H',SameBut p H H'->H' p=some (.ins C dx (yP (.str n) (.str s) e (.int wd) (.int i0)))->Q .non H'):i4 K [.ref p,.str n,.str s,e,.int wd,.int i0] H Q E:=⟨_,_,_,_,_,_,_,_,rfl,dc,hp,hn,hs,he,hw,b0,k⟩
theorem zH (m:M K mg):FnOk P w K mg base CX0 4 m.l6 m.lZ ["self","name","start","end","wide","since"] (i4 K):=by
 refine m.A7.ok sc_Since___init__ (fun vs H Q E h=> ?_) (fun cdv A outer s H vs Q E hr h=> ?_)
 ·walk_at"g1";obtain⟨p,C,dx,n,st,e,wd,i0,rfl,dc,hp,hn,hs,he,hw,b0,k⟩:=h;walk_at"g2";rfl
 ·walk_at"g1";obtain⟨p,C,dx,n,st,e,wd,i0,rfl,dc,hp,hn,hs,he,hw,b0,k⟩:=h;walk_at"g2";have nd:=sc_Since___init__.nd;walk_at"hu";have D_Door___init__:= @jI P w K mg base m;have cW:= @lG P w K mg base m;refine⟨_,(aC (bP (OM D_Door___init__ hr (aA (pv 0) (aA (pv 1) (aA (pv 2) (aA (pv 3) (aA (pv 4) aD)))))))
   (aC (bP (bG cW hr (aA gH (aA (pv 5) (aA aG aD)))))
   (aF (gT (pv 0) (pv 5) rfl)))),?_⟩
  refine aT (σ:=[some (.ref p),some (.str n),some (.str st),some (e),some (.int wd),some (.int i0)]) rfl ?_;walk_at"cx";walk_at"go";exact k _ (by walk_at"sb") (by assumption)
theorem OU (m:M K mg):Kc P w K mg base "Since" m.jF 4 [] (i4 K):=⟨_,_,_,_,m.aBh,m.X2,.nil,m.AW,zH m⟩
theorem UI {H:Hp}{Q:VK}{E:XK}{C:Addr}{vs dvs:List V}{n s:Str}{e:V}{wd i0:Int} (ev:vs++dvs=[.str n,.str s,e,.int wd,.int i0]) (dc:DCls K C) (hn:bI n=true) (hs:bI s=true) (he:gK e) (hw:0<=wd) (b0:0<=i0)
  (k:∀p dx H',H p=none->Same H H'->H' p=some (.ins C dx (yP (.str n) (.str s) e (.int wd) (.int i0)))->Q (.ref p) H'):tY C (i4 K) dvs E Q vs H :=
 rT (fun p dx H0 Q' h k' s0=>by rw[ev];exact JZ dc h hn hs he hw b0 k') k
local macro_rules| `(tactic| walk_at"rd1")=> `(tactic| ((with_reducible refine' UI ?v ?d ?hn ?hs ?he ?hw ?b0 ?_);(case v=>rfl);(case d=>assumption);(case hn=>assumption);(case hs=>assumption);(case he=>first|assumption|exact .inl rfl|exact .inr ⟨_,rfl,by assumption⟩);(case hw=>walk_at"sd");(case b0=>walk_at"sd");intro p' dx' H' n' S' e'))
def uR (wd i0 t:Int):Int:=if i0<=t then wd else 0
inductive lI (K:PySem.W.Frag)(vs:List V)(H:Hp)(Q:VK)(E:XK):Prop
 | mk (p C dx:Addr) (fs:List (Str×V)) (t wd i0:Int) (_:vs=[.ref p,.int t]) (_:DCls K C) (_:H p=some (.ins C dx fs)) (_:fs.lookup ("wide" :Str)=some (.int wd)) (_:fs.lookup ("since" :Str)=some (.int i0)) (_:0<=t) (_:0<=i0) (_:Q (.int (uR wd i0 t)) H):lI K vs H Q E
theorem w4 {H:Hp}{Q:VK}{E:XK}{p C dx:Addr}{fs:List (Str×V)}{t wd i0:Int} (hp:H p=some (.ins C dx fs)) (dc:DCls K C) (l:fs.lookup ("wide" :Str)=some (.int wd)) (m0:fs.lookup ("since" :Str)=some (.int i0)) (ht:0<=t) (b0:0<=i0) (k:Q (.int (uR wd i0 t)) H):lI K [.ref p,.int t] H Q E:=⟨_,_,_,_,_,_,_,rfl,dc,hp,l,m0,ht,b0,k⟩
theorem GB (m:M K mg):FnOk P w K mg base CX0 1 m.sI m.sZ ["self","turn"] (lI K):=by
 refine m.K8.ok sc_Since_lets (fun vs H Q E h=> ?_) (fun cdv A outer s H vs Q E hr h=> ?_)
 ·walk_at"g1";obtain⟨p,C,dx,fs,t,wd,i0,rfl,dc,hp,l,m0,ht,b0,k⟩:=h;walk_at"g2";rfl
 ·walk_at"g1";obtain⟨p,C,dx,fs,t,wd,i0,rfl,dc,hp,l,m0,ht,b0,k⟩:=h;walk_at"g2";have nd:=sc_Since_lets.nd;walk_at"hu";refine⟨_,(aF (aY (vG (aZ OO (pv 1) (aX (pv 0) rfl) (bD _)) (aX (pv 0) rfl) aG))),?_⟩;refine aT (σ:=[some (.ref p),some (.int t)]) rfl ?_;walk_at"cx";unfold uR at k;walk_at"go";refine c7 (fun hw=> ?_) (fun hw=> ?_)
  ·walk_at"go";rw[if_pos hw]at k;exact k
  ·walk_at"go";rw[if_neg hw]at k;exact k
theorem F7 (m:M K mg):Mc P w K mg base m.jF "lets" 1 (lI K):=⟨_,_,_,m.sQ.ic.cl,m.GZ,m.LW,GB m⟩
local macro_rules| `(tactic| walk_at"rd1")=> `(tactic| ((with_reducible refine' w4 ?e ?d ?l ?m0 ?ht ?b0 ?_);(case e=>walk_at"hp");(case d=>assumption);(case l=>walk_at"lk");(case m0=>walk_at"lk");(case ht=>walk_at"sd");(case b0=>walk_at"sd")))
abbrev zA (n s e w i0:V):List (Str×V):=cZ "until" i0 (oZ n s e w)
inductive i3 (K:PySem.W.Frag)(vs:List V)(H:Hp)(Q:VK)(E:XK):Prop
 | mk (p C dx:Addr) (n s:Str) (e:V) (wd i0:Int) (_:vs=[.ref p,.str n,.str s,e,.int wd,.int i0]) (_:DCls K C) (_:H p=some (.ins C dx [])) (_:bI n=true) (_:bI s=true) (_:gK e) (_:0<=wd) (_:0<=i0) (_:∀H',SameBut p H H'->H' p=some (.ins C dx (zA (.str n) (.str s) e (.int wd) (.int i0)))->Q .non H'):i3 K vs H Q E
theorem IK {H:Hp}{Q:VK}{E:XK}{p C dx:Addr}{n s:Str}{e:V}{wd i0:Int} (dc:DCls K C) (hp:H p=some (.ins C dx [])) (hn:bI n=true) (hs:bI s=true) (he:gK e) (hw:0<=wd) (b0:0<=i0)
  (k:∀H',SameBut p H H'->H' p=some (.ins C dx (zA (.str n) (.str s) e (.int wd) (.int i0)))->Q .non H'):i3 K [.ref p,.str n,.str s,e,.int wd,.int i0] H Q E:=⟨_,_,_,_,_,_,_,_,rfl,dc,hp,hn,hs,he,hw,b0,k⟩
theorem zG (m:M K mg):FnOk P w K mg base CX0 4 m.l7 m.l8 ["self","name","start","end","wide","until"] (i3 K):=by
 refine m.A3.ok sc_Until___init__ (fun vs H Q E h=> ?_) (fun cdv A outer s H vs Q E hr h=> ?_)
 ·walk_at"g1";obtain⟨p,C,dx,n,st,e,wd,i0,rfl,dc,hp,hn,hs,he,hw,b0,k⟩:=h;walk_at"g2";rfl
 ·walk_at"g1";obtain⟨p,C,dx,n,st,e,wd,i0,rfl,dc,hp,hn,hs,he,hw,b0,k⟩:=h;walk_at"g2";have nd:=sc_Until___init__.nd;walk_at"hu";have D_Door___init__:= @jI P w K mg base m;have cW:= @lG P w K mg base m;refine⟨_,(aC (bP (OM D_Door___init__ hr (aA (pv 0) (aA (pv 1) (aA (pv 2) (aA (pv 3) (aA (pv 4) aD)))))))
   (aC (bP (bG cW hr (aA gH (aA (pv 5) (aA aG aD)))))
   (aF (gT (pv 0) (pv 5) rfl)))),?_⟩
  refine aT (σ:=[some (.ref p),some (.str n),some (.str st),some (e),some (.int wd),some (.int i0)]) rfl ?_;walk_at"cx";walk_at"go";exact k _ (by walk_at"sb") (by assumption)
theorem OZ (m:M K mg):Kc P w K mg base "Until" m.jG 4 [] (i3 K):=⟨_,_,_,_,m.aBk,m.X1,.nil,m.A6,zG m⟩
theorem SK {H:Hp}{Q:VK}{E:XK}{C:Addr}{vs dvs:List V}{n s:Str}{e:V}{wd i0:Int} (ev:vs++dvs=[.str n,.str s,e,.int wd,.int i0]) (dc:DCls K C) (hn:bI n=true) (hs:bI s=true) (he:gK e) (hw:0<=wd) (b0:0<=i0)
  (k:∀p dx H',H p=none->Same H H'->H' p=some (.ins C dx (zA (.str n) (.str s) e (.int wd) (.int i0)))->Q (.ref p) H'):tY C (i3 K) dvs E Q vs H :=
 rT (fun p dx H0 Q' h k' s0=>by rw[ev];exact IK dc h hn hs he hw b0 k') k
local macro_rules| `(tactic| walk_at"rd1")=> `(tactic| ((with_reducible refine' SK ?v ?d ?hn ?hs ?he ?hw ?b0 ?_);(case v=>rfl);(case d=>assumption);(case hn=>assumption);(case hs=>assumption);(case he=>first|assumption|exact .inl rfl|exact .inr ⟨_,rfl,by assumption⟩);(case hw=>walk_at"sd");(case b0=>walk_at"sd");intro p' dx' H' n' S' e'))
def uZ (wd i0 t:Int):Int:=if t<i0 then wd else 0
inductive lF (K:PySem.W.Frag)(vs:List V)(H:Hp)(Q:VK)(E:XK):Prop
 | mk (p C dx:Addr) (fs:List (Str×V)) (t wd i0:Int) (_:vs=[.ref p,.int t]) (_:DCls K C) (_:H p=some (.ins C dx fs)) (_:fs.lookup ("wide" :Str)=some (.int wd)) (_:fs.lookup ("until" :Str)=some (.int i0)) (_:0<=t) (_:0<=i0) (_:Q (.int (uZ wd i0 t)) H):lF K vs H Q E
theorem xS {H:Hp}{Q:VK}{E:XK}{p C dx:Addr}{fs:List (Str×V)}{t wd i0:Int} (hp:H p=some (.ins C dx fs)) (dc:DCls K C) (l:fs.lookup ("wide" :Str)=some (.int wd)) (m0:fs.lookup ("until" :Str)=some (.int i0)) (ht:0<=t) (b0:0<=i0) (k:Q (.int (uZ wd i0 t)) H):lF K [.ref p,.int t] H Q E:=⟨_,_,_,_,_,_,_,rfl,dc,hp,l,m0,ht,b0,k⟩
theorem GE (m:M K mg):FnOk P w K mg base CX0 1 m.sJ m.sV ["self","turn"] (lF K):=by
 refine m.LD.ok sc_Until_lets (fun vs H Q E h=> ?_) (fun cdv A outer s H vs Q E hr h=> ?_)
 ·walk_at"g1";obtain⟨p,C,dx,fs,t,wd,i0,rfl,dc,hp,l,m0,ht,b0,k⟩:=h;walk_at"g2";rfl
 ·walk_at"g1";obtain⟨p,C,dx,fs,t,wd,i0,rfl,dc,hp,l,m0,ht,b0,k⟩:=h;walk_at"g2";have nd:=sc_Until_lets.nd;walk_at"hu";refine⟨_,(aF (aY (vG (aZ mI (pv 1) (aX (pv 0) rfl) (bD _)) (aX (pv 0) rfl) aG))),?_⟩;refine aT (σ:=[some (.ref p),some (.int t)]) rfl ?_;walk_at"cx";unfold uZ at k;walk_at"go";refine c7 (fun hw=> ?_) (fun hw=> ?_)
  ·walk_at"go";rw[if_pos hw]at k;exact k
  ·walk_at"go";rw[if_neg hw]at k;exact k
theorem GQ (m:M K mg):Mc P w K mg base m.jG "lets" 1 (lF K):=⟨_,_,_,m.sM.ic.cl,m.GW,m.LO,GE m⟩
local macro_rules| `(tactic| walk_at"rd1")=> `(tactic| ((with_reducible refine' xS ?e ?d ?l ?m0 ?ht ?b0 ?_);(case e=>walk_at"hp");(case d=>assumption);(case l=>walk_at"lk");(case m0=>walk_at"lk");(case ht=>walk_at"sd");(case b0=>walk_at"sd")))
abbrev B0 (n s e w i0 i1:V):List (Str×V):=cZ "since" i1 (cZ "every" i0 (oZ n s e w))
inductive j3 (K:PySem.W.Frag)(vs:List V)(H:Hp)(Q:VK)(E:XK):Prop
 | mk (p C dx:Addr) (n s:Str) (e:V) (wd i0 i1:Int) (_:vs=[.ref p,.str n,.str s,e,.int wd,.int i0,.int i1]) (_:DCls K C) (_:H p=some (.ins C dx [])) (_:bI n=true) (_:bI s=true) (_:gK e) (_:0<=wd) (_:1<=i0) (_:0<=i1) (_:∀H',SameBut p H H'->H' p=some (.ins C dx (B0 (.str n) (.str s) e (.int wd) (.int i0) (.int i1)))->Q .non H'):j3 K vs H Q E
theorem L6 {H:Hp}{Q:VK}{E:XK}{p C dx:Addr}{n s:Str}{e:V}{wd i0 i1:Int} (dc:DCls K C) (hp:H p=some (.ins C dx [])) (hn:bI n=true) (hs:bI s=true) (he:gK e) (hw:0<=wd) (b0:1<=i0) (b1:0<=i1)
  (k:∀H',SameBut p H H'->H' p=some (.ins C dx (B0 (.str n) (.str s) e (.int wd) (.int i0) (.int i1)))->Q .non H'):j3 K [.ref p,.str n,.str s,e,.int wd,.int i0,.int i1] H Q E:=⟨_,_,_,_,_,_,_,_,_,rfl,dc,hp,hn,hs,he,hw,b0,b1,k⟩
theorem AE (m:M K mg):FnOk P w K mg base CX0 4 m.mZ m.jO ["self","name","start","end","wide","every","since"] (j3 K):=by
 refine m.C7.ok sc_Beat___init__ (fun vs H Q E h=> ?_) (fun cdv A outer s H vs Q E hr h=> ?_)
 ·walk_at"g1";obtain⟨p,C,dx,n,st,e,wd,i0,i1,rfl,dc,hp,hn,hs,he,hw,b0,b1,k⟩:=h;walk_at"g2";rfl
 ·walk_at"g1";obtain⟨p,C,dx,n,st,e,wd,i0,i1,rfl,dc,hp,hn,hs,he,hw,b0,b1,k⟩:=h;walk_at"g2";have nd:=sc_Beat___init__.nd;walk_at"hu";have D_Door___init__:= @jI P w K mg base m;have cW:= @lG P w K mg base m;refine⟨_,(aC (bP (OM D_Door___init__ hr (aA (pv 0) (aA (pv 1) (aA (pv 2) (aA (pv 3) (aA (pv 4) aD)))))))
   (aC (bP (bG cW hr (aA gH (aA (pv 5) (aA aG aD)))))
   (aC (bP (bG cW hr (aA gH (aA (pv 6) (aA aG aD)))))
   (aC (gT (pv 0) (pv 5) rfl)
   (aF (gT (pv 0) (pv 6) rfl)))))),?_⟩
  refine aT (σ:=[some (.ref p),some (.str n),some (.str st),some (e),some (.int wd),some (.int i0),some (.int i1)]) rfl ?_;walk_at"cx";walk_at"go";exact k _ (by walk_at"sb") (by assumption)
theorem TK (m:M K mg):Kc P w K mg base "Beat" m.lD 4 [] (j3 K):=⟨_,_,_,_,m.aDD,m.aBm,.nil,m.DF,AE m⟩
theorem WN {H:Hp}{Q:VK}{E:XK}{C:Addr}{vs dvs:List V}{n s:Str}{e:V}{wd i0 i1:Int} (ev:vs++dvs=[.str n,.str s,e,.int wd,.int i0,.int i1]) (dc:DCls K C) (hn:bI n=true) (hs:bI s=true) (he:gK e) (hw:0<=wd) (b0:1<=i0) (b1:0<=i1)
  (k:∀p dx H',H p=none->Same H H'->H' p=some (.ins C dx (B0 (.str n) (.str s) e (.int wd) (.int i0) (.int i1)))->Q (.ref p) H'):tY C (j3 K) dvs E Q vs H :=
 rT (fun p dx H0 Q' h k' s0=>by rw[ev];exact L6 dc h hn hs he hw b0 b1 k') k
local macro_rules| `(tactic| walk_at"rd1")=> `(tactic| ((with_reducible refine' WN ?v ?d ?hn ?hs ?he ?hw ?b0 ?b1 ?_);(case v=>rfl);(case d=>assumption);(case hn=>assumption);(case hs=>assumption);(case he=>first|assumption|exact .inl rfl|exact .inr ⟨_,rfl,by assumption⟩);(case hw=>walk_at"sd");(case b0=>walk_at"sd");(case b1=>walk_at"sd");intro p' dx' H' n' S' e'))
def yR (wd i0 i1 t:Int):Int:=if 0<=t - i1/\(t - i1)%i0=0 then wd else 0
inductive mM (K:PySem.W.Frag)(vs:List V)(H:Hp)(Q:VK)(E:XK):Prop
 | mk (p C dx:Addr) (fs:List (Str×V)) (t wd i0 i1:Int) (_:vs=[.ref p,.int t]) (_:DCls K C) (_:H p=some (.ins C dx fs)) (_:fs.lookup ("wide" :Str)=some (.int wd)) (_:fs.lookup ("every" :Str)=some (.int i0)) (_:fs.lookup ("since" :Str)=some (.int i1)) (_:0<=t) (_:1<=i0) (_:0<=i1) (_:Q (.int (yR wd i0 i1 t)) H):mM K vs H Q E
theorem zR {H:Hp}{Q:VK}{E:XK}{p C dx:Addr}{fs:List (Str×V)}{t wd i0 i1:Int} (hp:H p=some (.ins C dx fs)) (dc:DCls K C) (l:fs.lookup ("wide" :Str)=some (.int wd)) (m0:fs.lookup ("every" :Str)=some (.int i0)) (m1:fs.lookup ("since" :Str)=some (.int i1)) (ht:0<=t) (b0:1<=i0) (b1:0<=i1) (k:Q (.int (yR wd i0 i1 t)) H):mM K [.ref p,.int t] H Q E:=⟨_,_,_,_,_,_,_,_,rfl,dc,hp,l,m0,m1,ht,b0,b1,k⟩
theorem KG (m:M K mg):FnOk P w K mg base CX0 1 m.uH m.uC ["self","turn"] (mM K):=by
 refine m.M3.ok sc_Beat_lets (fun vs H Q E h=> ?_) (fun cdv A outer s H vs Q E hr h=> ?_)
 ·walk_at"g1";obtain⟨p,C,dx,fs,t,wd,i0,i1,rfl,dc,hp,l,m0,m1,ht,b0,b1,k⟩:=h;walk_at"g2";rfl
 ·walk_at"g1";obtain⟨p,C,dx,fs,t,wd,i0,i1,rfl,dc,hp,l,m0,m1,ht,b0,b1,k⟩:=h;walk_at"g2";have nd:=sc_Beat_lets.nd;walk_at"hu";refine⟨_,(aC (aU (i:=2) nd rfl (by walk_at"oi") (aI i8 (pv 1) (aX (pv 0) rfl)))
   (aF (aY (vG (PW.pt (JR (aZ OO (pv 2) aG (bD _)) (DJ (aZ jK (aI bU (pv 2) (aX (pv 0) rfl)) aG (bD _))))) (aX (pv 0) rfl) aG)))),?_⟩
  refine aT (σ:=[some (.ref p),some (.int t),none]) rfl ?_;walk_at"cx";unfold yR at k;walk_at"go";refine c7 (fun hw=> ?_) (fun hw=> ?_)
  ·walk_at"go";refine c7 (fun hv=> ?_) (fun hv=> ?_)
   ·walk_at"go";rw[if_pos ⟨hw,hv⟩]at k;exact k
   ·walk_at"go";rw[if_neg (fun z=>hv z.2)]at k;exact k
  ·walk_at"go";rw[if_neg (fun z=>hw z.1)]at k;exact k
theorem K5 (m:M K mg):Mc P w K mg base m.lD "lets" 1 (mM K):=⟨_,_,_,m.vE.ic.cl,m.LP,m.MS,KG m⟩
local macro_rules| `(tactic| walk_at"rd1")=> `(tactic| ((with_reducible refine' zR ?e ?d ?l ?m0 ?m1 ?ht ?b0 ?b1 ?_);(case e=>walk_at"hp");(case d=>assumption);(case l=>walk_at"lk");(case m0=>walk_at"lk");(case m1=>walk_at"lk");(case ht=>walk_at"sd");(case b0=>walk_at"sd");(case b1=>walk_at"sd")))
abbrev aE:=Str×Str×V×(Int->Int)
def QC:HO->Prop
 | .lst _=>True
 | .dK _=>True
 | .dT _=>True
 | .tbl _=>True
 | .ins _ _ fs=>fs=[]
 | _=>False
structure bA where
 at':Hp->V->aE->Prop
 same:∀{H H' v d},at' H v d->Same H H'->at' H' v d
 but:∀{H H' v d p o},at' H v d->H p=some o->QC o->SameBut p H H'->at' H' v d
def YJ (P:Program)(w:World)(K:PySem.W.Frag)(mg:Str->Option Value)(base:Heap)(kL:Option Nat)(p C dx:Addr)(fs:List (Str×V))(fp:List (Addr×HO))(lt:Int->Int):Prop:=∀kl,kL=some kl →
 ∃sp,Mc P w K mg base C "lets" kl sp/\∀(H':Hp) (t:Int) (Q:VK),H' p=some (.ins C dx fs)->(∀x∈fp,H' x.1=some x.2)->0<=t->(∀H'',Same H' H''->Q (.int (lt t)) H'')->sp [.ref p,.int t] H' Q E0
inductive DoorAt (P:Program)(w:World)(K:PySem.W.Frag)(mg:Str->Option Value)(base:Heap)(kL:Option Nat)(H:Hp)(v:V)(d:aE):Prop
 | mk (p C dx:Addr) (fs:List (Str×V)) (fp:List (Addr×HO)) (_:v= .ref p) (_:H p=some (.ins C dx fs)) (_:DCls K C) (_:fs.lookup ("name" :Str)=some (.str d.1)) (_:fs.lookup ("start" :Str)=some (.str d.2.1)) (_:fs.lookup ("end" :Str)=some d.2.2.1) (_:fs.lookup ("is_exit" :Str)=none) (_:fs.lookup ("lets" :Str)=none) (_:Mc P w K mg base C "is_exit" 1 (iE K)) (_:∀x∈fp,H x.1=some x.2/\¬QC x.2) (_:YJ P w K mg base kL p C dx fs fp d.2.2.2):DoorAt P w K mg base kL H v d
inductive Y0 (P:Program)(w:World)(K:PySem.W.Frag)(mg:Str->Option Value)(base:Heap)(kL:Option Nat)(H:Hp)(v:V)(n st:Str)(e:V)(lt:Int->Int):Prop
 | mk (p C dx:Addr) (fs:List (Str×V)) (fp:List (Addr×HO)) (_:v= .ref p) (_:H p=some (.ins C dx fs)) (_:DCls K C) (_:fs.lookup ("name" :Str)=some (.str n)) (_:fs.lookup ("start" :Str)=some (.str st)) (_:fs.lookup ("end" :Str)=some e) (_:fs.lookup ("is_exit" :Str)=none) (_:fs.lookup ("lets" :Str)=none) (_:Mc P w K mg base C "is_exit" 1 (iE K)) (_:∀x∈fp,H x.1=some x.2/\¬QC x.2) (_:YJ P w K mg base kL p C dx fs fp lt):Y0 P w K mg base kL H v n st e lt
theorem DoorAt.ex {kL:Option Nat}{H:Hp}{v:V}{n st:Str}{e:V}{lt:Int->Int} (h:DoorAt P w K mg base kL H v (n,st,e,lt)):Y0 P w K mg base kL H v n st e lt:=by
 walk_at"g1";obtain⟨p,C,dx,fs,fp,h1,h2,h3,h4,h5,h6,h7,h8,h9,h10,h11⟩:=h;walk_at"g2";exact⟨p,C,dx,fs,fp,h1,h2,h3,h4,h5,h6,h7,h8,h9,h10,h11⟩
def aQ (P:Program)(w:World)(K:PySem.W.Frag)(mg:Str->Option Value)(base:Heap)(kL:Option Nat):bA where
 at':=DoorAt P w K mg base kL
 same:=fun⟨p,C,dx,fs,fp,e,hp,dc,l1,l2,l3,l4,l5,mc,hf,lt⟩ s=>⟨p,C,dx,fs,fp,e,s _ _ hp,dc,l1,l2,l3,l4,l5,mc,fun x hx=>⟨s _ _ (hf x hx).1,(hf x hx).2⟩,lt⟩
 but:=fun {H H' v d q o} ⟨p,C,dx,fs,fp,e,hp,dc,l1,l2,l3,l4,l5,mc,hf,lt⟩ ho so sb=>⟨p,C,dx,fs,fp,e,sb _ _ hp (fun z=>by
   rw[z,ho]at hp;cases hp;have h:fs=[]:=so;rw[h]at l1;cases l1),dc,l1,l2,l3,l4,l5,mc,fun x hx=>⟨sb _ _ (hf x hx).1 (fun z=>by
   have h:=(hf x hx).1;rw[z,ho]at h;cases h;exact(hf x hx).2 so),(hf x hx).2⟩,lt⟩
local macro_rules| `(tactic| walk_at"rd1")=> `(tactic| first|(with_reducible refine Z6 ?_)|(with_reducible refine aAt ?_)|(with_reducible refine aDt ?_)|(with_reducible refine RG ?_)|(with_reducible refine SJ ?_)|(with_reducible refine QD ?_)|(with_reducible refine rd_iItemsT ?_)|(with_reducible refine XD ?_)|((with_reducible refine XG ?_);intro p' H' n' S' e')|((with_reducible refine VM ?_);intro p' H' n' S' e'))
theorem gY {H:Hp}{Q:VK}{l:Addr}{xs:List V}{y:V} (e:H l=some (.lst xs)) (hz:xs.length<sizeLine) (h:∀H',SameBut l H H'->H' l=some (.lst (xs++[y]))->Q .non H'):NL (.ref l) [y] H Q :=
 ⟨l,xs,y,rfl,rfl,e,hz,h _ SameBut.upd bE⟩
inductive wA (vs:List V)(H:Hp)(Q:VK)(E:XK):Prop
 | mk (f l:Int) (_:vs=[.int f,.int l]) (_:0<=f) (_:f<=l) (_:Q .non H):wA vs H Q E
theorem ZP {H:Hp}{Q:VK}{E:XK}{f l:Int} (h0:0<=f) (h1:f<=l) (h:Q .non H):wA [.int f,.int l] H Q E:=⟨_,_,rfl,h0,h1,h⟩
theorem F8 (m:M K mg):FnOk P w K mg base CX0 1 m.r9 m.sW ["first","last"] (wA):=by
 refine m.nA.ok sc_need_turns (fun vs H Q E h=> ?_) (fun cdv A outer s H vs Q E hr h=> ?_)
 ·walk_at"g1";obtain⟨f,l,rfl,h0,h1,k⟩:=h;walk_at"g2";rfl
 ·walk_at"g1";obtain⟨f,l,rfl,h0,h1,k⟩:=h;walk_at"g2";have nd:=sc_need_turns.nd;walk_at"hu";refine⟨_,(aC (cC (aZ mI (pv 0) aG (bD _)) (aF fE) bN)
   (aF (cC (aZ mI (pv 1) (pv 0) (bD _)) (aF fE) bN))),?_⟩
  refine aT (σ:=[some (.int f),some (.int l)]) rfl ?_;walk_at"cx";walk_at"go";exact k
theorem GO (m:M K mg):Fc P w K mg base "need_turns" 1 ["first","last"] (wA):=⟨_,_,m.L4,m.nA.kp,m.LX,F8 m⟩
inductive yU (K:PySem.W.Frag)(vs:List V)(H:Hp)(Q:VK)(E:XK):Prop
 | mk (a:Addr) (ss:List Str) (_:vs=[.ref a]) (_:SqL K H a (ss.map V.str)) (_:ss.Nodup) (_:ss.length<=100) (_:∀H',Same H H'->Q .non H'):yU K vs H Q E
theorem RF {H:Hp}{Q:VK}{E:XK}{a:Addr}{ss:List Str} (hS:SqL K H a (ss.map V.str)) (nd:ss.Nodup) (hl:ss.length<=100) (h:∀H',Same H H'->Q .non H'):yU K [.ref a] H Q E:=⟨_,_,rfl,hS,nd,hl,h⟩
theorem nL {α:Type}{ss:List α} (nd:ss.Nodup) {i:Nat}{z:α} (hz:ss[i]? =some z):z∉ss.take i:=fun h=>by
 obtain⟨hi,e⟩:=List.getElem?_eq_some_iff.mp hz;obtain⟨j,hj,ej⟩:=List.getElem_of_mem h;rw[List.length_take]at hj;rw[List.getElem_take]at ej;exact(List.pairwise_iff_getElem.mp nd) j i (by lia) hi (by lia) (ej.trans e.symm)
theorem cA {α:Type}{ss:List α}{i:Nat}{z:α} (hz:ss[i]? =some z):ss.take (i+1)=ss.take i++[z]:=by rw[List.take_succ,hz];rfl
theorem zE (m:M K mg):FnOk P w K mg base CX0 1 m.lX m.l0 ["names"] (yU K):=by
 refine m.gJ.ok sc_need_each_once (fun vs H Q E h=> ?_) (fun cdv A outer s H vs Q E hr h=> ?_)
 ·walk_at"g1";obtain⟨a,ss,rfl,hS,hnd,hlen,k⟩:=h;walk_at"g2";rfl
 ·walk_at"g1";obtain⟨a,ss,rfl,hS,hnd,hlen,k⟩:=h;walk_at"g2";have nd:=sc_need_each_once.nd;walk_at"hu";refine⟨_,(aC (aU (i:=1) nd rfl (by walk_at"oi") rV)
   (aF (cS PassesOwn.never rfl (bK (pv 0)) (aO (i:=2) nd rfl (by walk_at"oi")) (aC (cC (JX (aCH hu1 (pv 2) (pv 1)) (by with_unfolding_all rfl)) (aF fE) bN)
   (aF (fR hu1 (pv 1) (pv 2) qR rfl)))))),?_⟩
  refine aT (σ:=[some (.ref a),none,none]) rfl ?_;walk_at"cx";walk_at"go";rename_i p H1 n1 S1 e1;let Pv1:Nat->St->Hp->Prop:=fun i σ' H'=>SameBut p H1 H'/\∃kvs,H' p=some (.dK kvs)/\kvs.length<=i/\(∀z,(bH kvs (.inr z)).isSome=true->z∈ss.take i)/\∃x,σ'=[some (.ref a),some (.ref p),x];refine dU (ss.map V.str) Pv1 ⟨SameBut.refl,[],e1,Nat.le_refl _,(fun z h=>by cases h),_,rfl⟩ (fun i σ' H' _ q=>(SameBut.same n1 S1 q.1).seq hS) ?_ ?_
  ·rintro i x _ H' hx hq_;walk_at"g1";obtain⟨sb,kvs,ek,hk,hin,y,rfl⟩:=hq_;walk_at"g2";rw[List.getElem?_map]at hx;obtain⟨z,hz,rfl⟩:=Option.map_eq_some_iff.mp hx;have hi:i<ss.length:=(List.getElem?_eq_some_iff.mp hz).1;have hno:(bH kvs (.inr z)).isSome=false:=by
    cases e:(bH kvs (.inr z)).isSome with
    | false=>rfl
    | true=>exact absurd (hin z e) (nL hnd hz)
   walk_at"go";refine aAK (.inl ek) ?_;rw[hno];walk_at"go";refine j4 ek (by rw[sizeLine_eq];lia) fun H9 B9 e9=> ?_;refine⟨by walk_at"sb",_,e9,Nat.le_trans (jA _ _ _) (by lia),fun y hy=> ?_,_,rfl⟩;rw[vZ]at hy;rw[cA hz]
   by_cases e:(Sum.inr y:Key)= .inr z
   ·cases e;exact List.mem_append_right _ (.head _)
   ·rw[if_neg e]at hy;exact List.mem_append_left _ (hin y hy)
  ·rintro _ H' hq_;walk_at"g1";obtain⟨sb,kvs,ek,hk,hin,y,rfl⟩:=hq_;walk_at"g2";exact k _ (SameBut.same n1 S1 sb)
theorem zD (m:M K mg):Fc P w K mg base "need_each_once" 1 ["names"] (yU K):=⟨_,_,m.A8,m.gJ.kp,m.BA,zE m⟩
def dG (rs:List Str)(d:aE):Prop:=d.2.1∈rs/\(d.2.2.1= .non∨∃z,d.2.2.1= .str z/\z∈rs)
def cI (H:Hp)(v:V)(p:Str×Int):Prop:=∃q,v= .ref q/\H q=some (.tup [.str p.1,.int p.2])
theorem mV {H H':Hp}{vs:List V}{ps:List (Str×Int)} (h:Paired (cI H) vs ps) (s:Same H H'):Paired (cI H') vs ps:=Paired.imp' (fun v z ⟨q,e,h⟩=>⟨q,e,s _ _ h⟩) h
inductive tR (K:PySem.W.Frag)(D:bA)(vs:List V)(H:Hp)(Q:VK)(E:XK):Prop
 | mk (a b:Addr) (us:List V) (ds:List aE) (rs:List Str) (ws:List V) (ps:List (Str×Int)) (_:vs=[.ref a,.ref b]) (_:SqL K H a us) (_:Paired (D.at' H) us ds) (_:(∀d∈ds,dG rs d)) (_:ds.length<=20) (_:SqL K H b ws) (_:Paired (cI H) ws ps) (_:(∀p∈ps,p.1∈rs)) (_:ps.length<=40) (_:∀p (ss:List Str) H',Same H H'->H' p=some (.lst (ss.map V.str))->(∀z∈ss,z∈rs)->ss.length<=80->Q (.ref p) H'):tR K D vs H Q E
theorem VY {D:bA}{H:Hp}{Q:VK}{E:XK}{a b:Addr}{us:List V}{ds:List aE}{rs:List Str}{ws:List V}{ps:List (Str×Int)} (hS:SqL K H a us) (hd:Paired (D.at' H) us ds) (hr:∀d∈ds,dG rs d) (hl:ds.length<=20) (hb:SqL K H b ws) (hw:Paired (cI H) ws ps) (hwr:∀p∈ps,p.1∈rs) (hwl:ps.length<=40) (h:∀p (ss:List Str) H',Same H H'->H' p=some (.lst (ss.map V.str))->(∀z∈ss,z∈rs)->ss.length<=80->Q (.ref p) H'):tR K D [.ref a,.ref b] H Q E:=⟨_,_,_,_,_,_,_,rfl,hS,hd,hr,hl,hb,hw,hwr,hwl,h⟩
theorem xC (m:M K mg):FnOk P w K mg base CX0 2 m.kS m.kW ["doors","people"] (tR K (aQ P w K mg base (some 4))):=by
 refine m.iC.ok sc_rooms_spoken_of (fun vs H Q E h=> ?_) (fun cdv A outer s H vs Q E hr h=> ?_)
 ·walk_at"g1";obtain⟨a,b,us,ds,rs,ws,ps,rfl,hS,hd,hr',hlen,hb,hw,hwr,hwl,k⟩:=h;walk_at"g2";rfl
 ·walk_at"g1";obtain⟨a,b,us,ds,rs,ws,ps,rfl,hS,hd,hr',hlen,hb,hw,hwr,hwl,k⟩:=h;walk_at"g2";have nd:=sc_rooms_spoken_of.nd;walk_at"hu";refine⟨_,(aC (aU (i:=2) nd rfl (by walk_at"oi") (fN aD))
   (aC (cS PassesOwn.never rfl (bK (pv 0)) (aO (i:=3) nd rfl (by walk_at"oi")) (aC (bP (tQ PySem.F.plainAttrs_list PySem.F.slot_list_append PySem.F.type_list_append iU (pv 2) (aA (aX (pv 3) rfl) aD)))
   (aF (cC (rP (kY (cF 1 hr (pv 3)))) (aF (bP (tQ PySem.F.plainAttrs_list PySem.F.slot_list_append PySem.F.type_list_append iU (pv 2) (aA (aX (pv 3) rfl) aD)))) bN))))
   (aF (aY (aI w9 (pv 2) (cM (N:=["room","number"]) (nl:=2) (ci:=[]) rfl (blk (s.heap.objs.size+1) rfl rfl rfl (by kernel_rfl)) (bK (pv 1)) (fun _ _ _ _=>(kG (K:=K) (n:=2) rfl (bF (aO (i:=0) (show (["room","number"]:List Str).Nodup by decide +kernel) rfl (by walk_at"oi")) (bF (aO (i:=1) (show (["room","number"]:List Str).Nodup by decide +kernel) rfl (by walk_at"oi")) dW)))) (fun _ _ _ _=>eU) (fun _ _ _ _=>(pv 0)))))))),?_⟩
  refine aT (σ:=[some (.ref a),some (.ref b),none,none]) rfl ?_;walk_at"cx";have hul:us.length=ds.length:=Paired.length hd;walk_at"go";rename_i p H1 n1 S1 e1;let Pv2:Nat->St->Hp->Prop:=fun i σ' H'=>SameBut p H1 H'/\(∃ss:List Str,H' p=some (.lst (ss.map V.str))/\(∀z∈ss,z∈rs)/\ss.length<=2 * i)/\∃x,σ'=[some (.ref a),some (.ref b),some (.ref p),x];refine dU us Pv2 ⟨SameBut.refl,⟨[],e1,(fun _ z=>nomatch z),Nat.le_refl _⟩,_,rfl⟩ (fun i σ' H' _ q=>(SameBut.same n1 S1 q.1).seq hS) ?_ ?_
  ·rintro i x _ H' hx hq_;walk_at"g1";obtain⟨sb,⟨ss,es,hin,hsl⟩,y,rfl⟩:=hq_;walk_at"g2";have hi:i<us.length:=(List.getElem?_eq_some_iff.mp hx).1;obtain⟨d,hdx⟩:∃d,ds[i]? =some d:=⟨_,List.getElem?_eq_getElem (by lia)⟩
   walk_at"g1";obtain⟨n,st,e,lt⟩:=d;walk_at"g2";walk_at"g1";obtain⟨q,C9,dx,fs,fp,rfl,hq,dcC,l1,l2,l3,l4,l5,mcE,hfp,hlt⟩:=DoorAt.ex (Paired.at2 hd hx hdx);walk_at"g2";obtain⟨r1,r2⟩:=hr' _ (List.mem_of_getElem? hdx);have hqp:q≠p:=fun z=>by rw[z,n1]at hq;cases hq
   have hq':H' q=some (.ins C9 dx fs):=sb _ _ (S1 _ _ hq) hqp;rcases r2 with r2|⟨z,r2,r3⟩
   ·have r2:e= .non:=r2;subst r2;walk_at"go";refine gY es (by rw[sizeLine_eq,List.length_map];lia) fun H8 B8 e8=> ?_;have hq8:=B8 _ _ hq' hqp;walk_at"go";exact⟨by walk_at"sb",⟨ss++[st],by rw[e8,List.map_append];rfl,fun z hz=>(List.mem_append.mp hz).elim (hin z) (fun w=>by cases List.mem_singleton.mp w;exact r1),by rw[List.length_append];show ss.length+1<=_;lia⟩,_,rfl⟩
   ·have r2:e= .str z:=r2;subst r2;walk_at"go";refine gY es (by rw[sizeLine_eq,List.length_map];lia) fun H8 B8 e8=> ?_;have hq8:=B8 _ _ hq' hqp;walk_at"go";refine gY e8 (by rw[sizeLine_eq,List.length_append,List.length_map];show ss.length+1<_;lia) fun H9 B9 e9=> ?_;walk_at"go";refine⟨by walk_at"sb",⟨ss++[st]++[z],by rw[e9,List.map_append,List.map_append];rfl,fun z hz=> ?_,by rw[List.length_append,List.length_append];show ss.length+1+1<=_;lia⟩,_,rfl⟩;rcases List.mem_append.mp hz with hz|hz
    ·exact(List.mem_append.mp hz).elim (hin z) (fun w=>by cases List.mem_singleton.mp w;exact r1)
    ·cases List.mem_singleton.mp hz;exact r3
  ·rintro _ H' hq_;walk_at"g1";obtain⟨sb,⟨ss,es,hin,hsl⟩,y,rfl⟩:=hq_;walk_at"g2";have sH:Same H H':=SameBut.same n1 S1 sb;have hb':=sH.seq hb;walk_at"go";refine uX (α:=Str×Int) (xs:=ps) (vs:=ws) (fun p=> .str p.1) (fun p=> .int p.2) (fun _=>true) (fun p y _=>y= .str p.1) (fun _ _ _ _ h _=>h) (by rw[sizeLine_eq];lia) (rest:=[]) (by rfl) hb' (mV hw sH) (fun x H1 hx s1 R hR=>hR _ (Same.refl _)) (fun x H1 hx _ s1 R hR=> ?_) ?_
   ·walk_at"go";exact hR _ _ rfl (Same.refl _)
   intro ys H2 s2 hys;rw[dR]at hys;obtain rfl:=eV hys;walk_at"go";rename_i q3 H3 n3 S3 e3 q4 H4 n4 S4 e4;refine k _ (ss++ps.map (·.1)) _ (by walk_at"sm") (by rw[e4,List.map_append,List.map_map];rfl) (fun z hz=> ?_) (by rw[List.length_append,List.length_map];lia);rcases List.mem_append.mp hz with hz|hz
   ·exact hin z hz
   ·obtain⟨p,hp,rfl⟩:=List.mem_map.mp hz;exact hwr p hp
theorem xO (m:M K mg):Fc P w K mg base "rooms_spoken_of" 2 ["doors","people"] (tR K (aQ P w K mg base (some 4))):=⟨_,_,m.zN,m.iC.kp,m.zK,xC m⟩
inductive vY (K:PySem.W.Frag)(vs:List V)(H:Hp)(Q:VK)(E:XK):Prop
 | mk (a b:Addr) (ss:List Str) (kvs:List (Key×V)) (_:vs=[.ref a,.ref b]) (_:SqL K H a (ss.map V.str)) (_:Rd H b (.dK kvs)) (_:(∀z∈ss,(bH kvs (.inr z)).isSome=true)) (_:∀H',Same H H'->Q .non H'):vY K vs H Q E
theorem M9 {H:Hp}{Q:VK}{E:XK}{a b:Addr}{ss:List Str}{kvs:List (Key×V)} (hS:SqL K H a (ss.map V.str)) (hb:Rd H b (.dK kvs)) (hk:∀z∈ss,(bH kvs (.inr z)).isSome=true) (h:∀H',Same H H'->Q .non H'):vY K [.ref a,.ref b] H Q E:=⟨_,_,_,_,rfl,hS,hb,hk,h⟩
theorem ZH {H H':Hp}{a:Addr}{u:HO} (s:Same H H') (r:Rd H a u):Rd H' a u:=r.elim (fun e=> .inl (s _ _ e)) fun⟨o,e⟩=> .inr ⟨o,s _ _ e⟩
theorem GD (m:M K mg):FnOk P w K mg base CX0 1 m.sU m.sK ["names","sizes"] (vY K):=by
 refine m.iR.ok sc_need_rooms (fun vs H Q E h=> ?_) (fun cdv A outer s H vs Q E hr h=> ?_)
 ·walk_at"g1";obtain⟨a,b,ss,kvs,rfl,hS,hb,hk,k⟩:=h;walk_at"g2";rfl
 ·walk_at"g1";obtain⟨a,b,ss,kvs,rfl,hS,hb,hk,k⟩:=h;walk_at"g2";have nd:=sc_need_rooms.nd;walk_at"hu";refine⟨_,(aF (cS PassesOwn.never rfl (bK (pv 0)) (aO (i:=2) nd rfl (by walk_at"oi")) (aF (cC (JX (FN hu1 (pv 2) (pv 1)) (by with_unfolding_all rfl)) (aF fE) bN)))),?_⟩;refine aT (σ:=[some (.ref a),some (.ref b),none]) rfl ?_;walk_at"cx";walk_at"go";let Pv3:Nat->St->Hp->Prop:=fun i σ' H'=>Same H H'/\∃x,σ'=[some (.ref a),some (.ref b),x];refine dU (ss.map V.str) Pv3 ⟨Same.refl _,_,rfl⟩ (fun i σ' H' _ q=>q.1.seq hS) ?_ ?_
  ·rintro i x _ H' hx ⟨s1,y,rfl⟩;rw[List.getElem?_map]at hx;obtain⟨z,hz,rfl⟩:=Option.map_eq_some_iff.mp hx;have hz':=hk z (List.mem_of_getElem? hz);walk_at"go";refine BS (ZH s1 hb) ?_;rw[hz'];walk_at"go";exact⟨s1,_,rfl⟩
  ·rintro _ H' ⟨s1,y,rfl⟩;exact k _ s1
theorem wP (m:M K mg):Fc P w K mg base "need_rooms" 1 ["names","sizes"] (vY K):=⟨_,_,m.L1,m.iR.kp,m.LQ,GD m⟩
theorem W9 {H:Hp}{Q:VK}{i j:Int} (h:Q (.int (i+j)) H):aCo (.int i) (.int j) H Q:=by
 first|exact h|exact⟨_,_,rfl,rfl,h⟩|exact .inl ⟨_,_,rfl,rfl,h⟩
theorem JW {H H':Hp}{p c:Addr}{kvs:List (Key×V)}{xs:List V} (h:SqL K H c xs) (hp:H p=some (.dK kvs)) (sb:SameBut p H H'):SqL K H' c xs:=by
 rcases h with (h|⟨o,h⟩)|h
 ·exact .inl (.inl (sb _ _ h fun z=>by rw[z,hp]at h;cases h))
 ·exact .inl (.inr ⟨o,sb _ _ h fun z=>by rw[z,hp]at h;cases h⟩)
 ·exact .inr h
def szK (rz:List (Str×Int)):List (Key×V):=rz.map fun e=>((.inr e.1:Key),V.int e.2)
theorem OA (rz:List (Str×Int)):(szK rz).map (·.1)=(rz.map (·.1)).map (Sum.inr:Str->Key):=by unfold szK;rw[List.map_map,List.map_map];rfl
theorem tW {rs:List Str}(nd:rs.Nodup):(rs.map (Sum.inr:Str->Key)).Nodup:=by
 rw[List.Nodup,List.pairwise_map];exact List.Pairwise.imp (fun h z=>h (Sum.inr.inj z)) nd
theorem AO {rz:List (Str×Int)}(nd:(rz.map (·.1)).Nodup):((szK rz).map (·.1)).Nodup:=by rw[OA];exact tW nd
theorem EG {rz:List (Str×Int)}(nd:(rz.map (·.1)).Nodup){e:Str×Int}(h:e∈rz):bH (szK rz) (.inr e.1)=some (.int e.2) :=
 nM (e:=((.inr e.1:Key),V.int e.2)) (AO nd) (List.mem_map.mpr ⟨e,h,rfl⟩)
theorem KP {rz:List (Str×Int)}(nd:(rz.map (·.1)).Nodup){z:Str}(h:z∈rz.map (·.1)):∃i,(z,i)∈rz/\bH (szK rz) (.inr z)=some (.int i):=by
 obtain⟨e,he,rfl⟩:=List.mem_map.mp h;exact⟨e.2,he,EG nd he⟩
theorem xR {kvs:List (Key×V)}{k:Key} (h:∀e∈kvs,e.1≠k):bH kvs k=none:=by
 induction kvs with
 | nil=>rfl
 | cons a l ih =>
  rw[dI (h a (.head _))];exact ih fun e he=>h e (List.mem_cons_of_mem _ he)
theorem xY:∀(ps kvs:List (Key×V)),(ps.map (·.1)).Nodup->(∀e∈kvs,∀q∈ps,e.1≠q.1)->kZ kvs ps=kvs++ps
 | [],kvs,_,_=>(List.append_nil _).symm
 | (k,v)::ps,kvs,nd,h=>by
  have nd':=List.pairwise_cons.mp nd;show kZ (cJ kvs k v) ps=_;rw[rO v (xR fun e he=>h e he _ (.head _)),xY ps _ nd'.2,List.append_assoc]
  ·rfl
  ·intro e he q hq;rcases List.mem_append.mp he with he|he
   ·exact h e he q (List.mem_cons_of_mem _ hq)
   ·cases List.mem_singleton.mp he;exact nd'.1 q.1 (List.mem_map.mpr ⟨q,hq,rfl⟩)
theorem VH {rz:List (Str×Int)}(nd:(rz.map (·.1)).Nodup):kZ [] (szK rz)=szK rz:=by
 rw[xY _ _ (AO nd) (fun e he=>absurd he (List.not_mem_nil))];rfl
theorem CD {kvs:List (Key×V)}:∀(o:Obj) (x:HO),HO.dK kvs≠ .frz o x:=fun _ _ z=>by cases z
def BI (rz:List (Str×Int))(ps:List (Str×Int))(kvs:List (Key×V)):Prop:=∀z∈rz.map (·.1),bH kvs (.inr z)=some (.int (cU ps z))
inductive v8 (K:PySem.W.Frag)(vs:List V)(H:Hp)(Q:VK)(E:XK):Prop
 | mk (a b:Addr) (rz:List (Str×Int)) (ws:List V) (ps:List (Str×Int)) (_:vs=[.ref a,.ref b]) (_:H a=some (.dK (szK rz))) (_:SqL K H b ws) (_:Paired (cI H) ws ps) (_:(∀p∈ps,p.1∈rz.map (·.1))) (_:(rz.map (·.1)).Nodup) (_:rz.length<=100) (_:∀p H' kvs,H p=none->Same H H'->H' p=some (.dK kvs)->kvs.map (·.1)=(szK rz).map (·.1)->BI rz ps kvs->Q (.ref p) H'):v8 K vs H Q E
theorem NK {H:Hp}{Q:VK}{E:XK}{a b:Addr}{rz:List (Str×Int)}{ws:List V}{ps:List (Str×Int)} (ha:H a=some (.dK (szK rz))) (hb:SqL K H b ws) (hw:Paired (cI H) ws ps) (hwr:∀p∈ps,p.1∈rz.map (·.1)) (nd:(rz.map (·.1)).Nodup) (hl:rz.length<=100) (h:∀p H' kvs,H p=none->Same H H'->H' p=some (.dK kvs)->kvs.map (·.1)=(szK rz).map (·.1)->BI rz ps kvs->Q (.ref p) H'):v8 K [.ref a,.ref b] H Q E:=⟨_,_,_,_,_,rfl,ha,hb,hw,hwr,nd,hl,h⟩
theorem VV {kvs:List (Key×V)}{k:Key}{v:V} (h:(bH kvs k).isSome=true):(cJ kvs k v).map (·.1)=kvs.map (·.1):=by
 unfold cJ;rw[nT,if_pos h,List.map_map]
 apply List.map_congr_left
 intro x _;show (if x.1=k then (x.1,v) else x).1=x.1
 split<;>rfl
theorem BZ (m:M K mg):FnOk P w K mg base CX0 1 m.oO m.oJ ["sizes","people"] (v8 K):=by
 refine m.fU.ok sc_added_people (fun vs H Q E h=> ?_) (fun cdv A outer s H vs Q E hr h=> ?_)
 ·walk_at"g1";obtain⟨a,b,rz,ws,ps,rfl,ha,hb,hw,hwr,ndz,hlen,k⟩:=h;walk_at"g2";rfl
 ·walk_at"g1";obtain⟨a,b,rz,ws,ps,rfl,ha,hb,hw,hwr,ndz,hlen,k⟩:=h;walk_at"g2";have nd:=sc_added_people.nd;walk_at"hu";refine⟨_,(aC (aU (i:=2) nd rfl (by walk_at"oi") rV)
   (aC (aAf (cS PassesOwn.never rfl (AQ (pv 0)) (aO (i:=3) nd rfl (by walk_at"oi")) (aF (fR hu1 (pv 2) (pv 3) aG rfl))))
   (aC (cS PassesOwn.never rfl (bK (pv 1)) (o7 (n:=2) rfl (bF (aO (i:=3) nd rfl (by walk_at"oi")) (bF (aO (i:=4) nd rfl (by walk_at"oi")) dW))) (aF (aA8 hu1 (pv 2) (pv 3) (pv 4) aCI (fun _ _ _=>rfl))))
   (aF (aY (pv 2)))))),?_⟩
  refine aT (σ:=[some (.ref a),some (.ref b),none,none,none]) rfl ?_;walk_at"cx";walk_at"go";rename_i p H1 n1 S1 e1;have hap:a≠p:=fun z=>by rw[z,n1]at ha;cases ha
  have ha1:=S1 _ _ ha;have hl2:(szK rz).length=rz.length:=by unfold szK;rw[List.length_map]
  refine VO ha1 CD ?_;walk_at"go";refine AJ ha1 fun o H2 B2 e2=> ?_;have ep2:H2 p=some (.dK []):=B2 _ _ e1 (Ne.symm hap);have hwl:ws.length=ps.length:=Paired.length hw;let Pv1:Nat->St->Hp->Prop:=fun i σ' H'=>SameBut p H2 H'/\H' p=some (.dK ((rz.take i).map fun e=>((.inr e.1:Key),V.int 0)))/\∃x,σ'=[some (.ref a),some (.ref b),some (.ref p),x,none];refine WI (szK rz) Pv1 ⟨SameBut.refl,ep2,_,rfl⟩ (fun i σ' H' q=>q.1 _ _ e2 hap) ?_ ?_
  ·rintro i kk v _ H' hx hq_;walk_at"g1";obtain⟨sb,ek,y,rfl⟩:=hq_;walk_at"g2";unfold szK at hx;rw[List.getElem?_map]at hx;walk_at"g1";obtain⟨⟨z,sz⟩,hz,ez⟩:=Option.map_eq_some_iff.mp hx;walk_at"g2";cases ez;have hi:i<rz.length:=(List.getElem?_eq_some_iff.mp hz).1;have hnone:bH ((rz.take i).map fun e=>((.inr e.1:Key),V.int 0)) (.inr z)=none:=xR fun e he=>by
    obtain⟨d,hd,rfl⟩:=List.mem_map.mp he;intro zz;have hn:z∉(rz.map (·.1)).take i:=nL ndz (by rw[List.getElem?_map,hz];rfl)
    apply hn
    rw[←List.map_take];exact List.mem_map.mpr ⟨d,hd,Sum.inr.inj zz⟩
   show (_:TG) (.str z) _ _ _;walk_at"go";refine j4 ek (by rw[sizeLine_eq,List.length_map,List.length_take];lia) fun H9 B9 e9=> ?_;refine⟨by walk_at"sb",?_,_,rfl⟩;rw[e9,rO _ hnone,cA hz,List.map_append];rfl
  ·rintro _ H' hq_;walk_at"g1";obtain⟨sb,ek,y,rfl⟩:=hq_;walk_at"g2";rw[hl2,List.take_length]at ek;refine mF (sb _ _ e2 hap) fun H3 B3 e3=> ?_;have ep3:=B3 _ _ ek (Ne.symm hap);have sH:Same H H3:=fun x u hx=>by
    by_cases ex:x=a
    ·subst ex;rw[ha]at hx;cases hx;exact e3
    ·have hxp:x≠p:=fun z=>by rw[z,n1]at hx;cases hx
     exact B3 _ _ (sb _ _ (B2 _ _ (S1 _ _ hx) ex) hxp) ex
   have hb3:=sH.seq hb;have hw3:=mV hw sH;have hnb:∀{H':Hp}{v:V}{r:Str×Int},SameBut p H3 H'->cI H3 v r->cI H' v r:=fun sb ⟨q,e,hq⟩=>⟨q,e,sb _ _ hq fun z=>by rw[z,ep3]at hq;cases hq⟩
   walk_at"go";let Pv2:Nat->St->Hp->Prop:=fun i σ' H'=>SameBut p H3 H'/\(∃kvs,H' p=some (.dK kvs)/\kvs.map (·.1)=(szK rz).map (·.1)/\BI rz (ps.take i) kvs)/\∃x y,σ'=[some (.ref a),some (.ref b),some (.ref p),x,y];refine dU ws Pv2 ⟨SameBut.refl,⟨_,ep3,?_,?_⟩,_,_,rfl⟩ (fun i σ' H' _ q=>JW hb3 ep3 q.1) ?_ ?_
   ·unfold szK;rw[List.map_map,List.map_map];rfl
   ·intro z hz;obtain⟨e,he,rfl⟩:=List.mem_map.mp hz;exact nM (e:=((.inr e.1:Key),V.int 0)) (by rw[show (rz.map fun e=>((.inr e.1:Key),V.int 0)).map (·.1)=(szK rz).map (·.1) from by unfold szK;rw[List.map_map,List.map_map];rfl];exact AO ndz) (List.mem_map.mpr ⟨e,he,rfl⟩)
   ·rintro i x _ H' hx hq_;walk_at"g1";obtain⟨sb',⟨kvs,ek',hkk,hin⟩,x1,x2,rfl⟩:=hq_;walk_at"g2";have hi:i<ws.length:=(List.getElem?_eq_some_iff.mp hx).1;obtain⟨⟨z,nn⟩,hpx⟩:∃d,ps[i]? =some d:=⟨_,List.getElem?_eq_getElem (by lia)⟩
    obtain⟨q,rfl,hq⟩:=Paired.at2 hw3 hx hpx;have hq':H' q=some (.tup [.str z,.int nn]):=sb' _ _ hq fun zz=>by rw[zz,ep3]at hq;cases hq
    have hzr:z∈rz.map (·.1):=hwr _ (List.mem_of_getElem? hpx);have hkl:kvs.length=rz.length:=by rw[←List.length_map (f:=fun e:Key×V=>e.1),hkk,List.length_map,hl2]
    walk_at"go";refine Z7 ?_;walk_at"go";refine WO (.inl ek') (hin z hzr) ?_;walk_at"go";refine W9 ?_;refine ZR ek' (by rw[sizeLine_eq];lia) fun H9 B9 e9=> ?_;refine⟨by walk_at"sb",⟨_,e9,?_,fun y hy=> ?_⟩,_,_,rfl⟩
    ·rw[VV (by rw[hin z hzr];rfl)];exact hkk
    ·rw[vZ,cA hpx,RM]
     by_cases e:(Sum.inr y:Key)= .inr z
     ·cases e;rw[if_pos rfl,if_pos rfl]
     ·rw[if_neg e,if_neg (fun zz=>e (by rw[show z=y from zz])),Int.add_zero];exact hin y hy
   ·rintro _ H' hq_;walk_at"g1";obtain⟨sb',⟨kvs,ek',hkk,hin⟩,x1,x2,rfl⟩:=hq_;walk_at"g2";rw[hwl,List.take_length]at hin;walk_at"go";exact k _ _ _ n1 (SameBut.same n1 (fun x u hx=>sH x u hx) sb') ek' hkk hin
theorem tN (m:M K mg):Fc P w K mg base "added_people" 1 ["sizes","people"] (v8 K):=⟨_,_,m.EK,m.fU.kp,m.EM,BZ m⟩
def uA (rz ps:List (Str×Int)):Prop:=(∀p∈ps,0<=p.2)/\∀e∈rz,cU ps e.1<=e.2
inductive vH (K:PySem.W.Frag)(vs:List V)(H:Hp)(Q:VK)(E:XK):Prop
 | mk (a b:Addr) (rz:List (Str×Int)) (ws:List V) (ps:List (Str×Int)) (_:vs=[.ref a,.ref b]) (_:H a=some (.dK (szK rz))) (_:SqL K H b ws) (_:Paired (cI H) ws ps) (_:(∀p∈ps,p.1∈rz.map (·.1))) (_:(rz.map (·.1)).Nodup) (_:rz.length<=100) (_:ps.length<=100) (_:uA rz ps) (_:∀H',Same H H'->Q .non H'):vH K vs H Q E
theorem aAL {H:Hp}{Q:VK}{E:XK}{a b:Addr}{rz:List (Str×Int)}{ws:List V}{ps:List (Str×Int)} (ha:H a=some (.dK (szK rz))) (hb:SqL K H b ws) (hw:Paired (cI H) ws ps) (hwr:∀p∈ps,p.1∈rz.map (·.1)) (nd:(rz.map (·.1)).Nodup) (hl:rz.length<=100) (hpl:ps.length<=100) (hf:uA rz ps) (h:∀H',Same H H'->Q .non H'):vH K [.ref a,.ref b] H Q E:=⟨_,_,_,_,_,rfl,ha,hb,hw,hwr,nd,hl,hpl,hf,h⟩
theorem wZ {α:Type}:∀{l:List α}{ys:List V},Paired (fun _ y=>y=V.bl false) l ys->ys=(l.map fun _=>false).map V.bl
 | _,_,.nil=>rfl
 | _,_,.cons h t=>by rw[h,wZ t];rfl
theorem FA {α:Type}(l:List α):(l.map fun _=>false).any id=false:=by simp
theorem GN (m:M K mg):FnOk P w K mg base CX0 2 m.tD m.sT ["sizes","people"] (vH K):=by
 refine m.m9.ok sc_need_space (fun vs H Q E h=> ?_) (fun cdv A outer s H vs Q E hr h=> ?_)
 ·walk_at"g1";obtain⟨a,b,rz,ws,ps,rfl,ha,hb,hw,hwr,ndz,hlen,hpl,hf,k⟩:=h;walk_at"g2";rfl
 ·walk_at"g1";obtain⟨a,b,rz,ws,ps,rfl,ha,hb,hw,hwr,ndz,hlen,hpl,hf,k⟩:=h;walk_at"g2";have nd:=sc_need_space.nd;walk_at"hu";have fU:= @tN P w K mg base m;refine⟨_,(aC (cC (kY (bV (FI rfl) rfl m.ZB TU (aA (cM (N:=["room","number"]) (nl:=2) (ci:=[]) rfl (blk (s.heap.objs.size+1) rfl rfl rfl (by kernel_rfl)) (bK (pv 1)) (fun _ _ _ _=>(kG (K:=K) (n:=2) rfl (bF (aO (i:=0) (show (["room","number"]:List Str).Nodup by decide +kernel) rfl (by walk_at"oi")) (bF (aO (i:=1) (show (["room","number"]:List Str).Nodup by decide +kernel) rfl (by walk_at"oi")) dW)))) (fun _ _ _ _=>eU) (fun _ _ _ _=>(u8 mI (pv 1) aG (bD _)))) aD))) (aF fE) bN)
   (aC (aU (i:=2) nd rfl (by walk_at"oi") (bG fU hr (aA (pv 0) (aA (pv 1) aD))))
   (aF (cC (kY (bV (FI rfl) rfl m.ZB TU (aA (u7 (cM (N:=["room","inside","sizes"]) (nl:=1) (ci:=[2,0]) rfl (blk (s.heap.objs.size+1) rfl rfl rfl (by kernel_rfl)) (AQ (pv 0)) (fun _ _ _ _=>(aO (i:=0) (show (["room","inside","sizes"]:List Str).Nodup by decide +kernel) rfl (by walk_at"oi"))) (fun _ _ _ _=>eU) (fun _ _ _ _=>(u8 mU (bR hu1 (pv 1) (pv 0) (fun _ _=>rfl)) (bR hu1 (pv 2) (pv 0) (fun _ _=>rfl)) (bD _))))) aD))) (aF fE) bN)))),?_⟩
  refine aT (σ:=[some (.ref a),some (.ref b),none]) rfl ?_;walk_at"cx";walk_at"go";refine uX (α:=Str×Int) (xs:=ps) (vs:=ws) (fun p=> .str p.1) (fun p=> .int p.2) (fun _=>true) (fun p y _=>y= .bl false) (fun _ _ _ _ h _=>h) (by rw[sizeLine_eq];lia) (rest:=[]) (by rfl) hb hw (fun x H1 hx s1 R hR=>hR _ (Same.refl _)) (fun x H1 hx _ s1 R hR=> ?_) ?_
  ·have h0:=hf.1 x hx;walk_at"go";exact hR _ _ (by rw[decide_eq_false (by lia)]) (Same.refl _)
  intro ys H2 s2 hys;rw[dR]at hys;obtain rfl:=wZ hys;walk_at"go";rename_i q H3 n3 S3 e3;refine R3 (SqL.of e3) ?_;rw[FA];walk_at"go";have sA:Same H H3:=s2.trans S3;refine NK (sA _ _ ha) (sA.seq hb) (mV hw sA) hwr ndz hlen fun p H4 kvs n4 S4 e4 hkk hv=> ?_;have ha4:=S4 _ _ (sA _ _ ha);walk_at"go";refine rQ ha4 CD ?_;walk_at"go";refine AJ ha4 fun o H5 B5 e5=> ?_;have hpa:p≠a:=fun z=>by rw[z,sA _ _ ha]at n4;cases n4
  have ep5:=B5 _ _ e4 hpa;refine Q5 (fun _=>true) (fun _ y _=>y= .bl false) (fun _ _ _ _ h _=>h) (by rw[sizeLine_eq];unfold szK;rw[List.length_map];lia) (rest:=[some (.ref p),some (.ref a)]) (by rfl) e5 (fun x H6 hx s6 R hR=>hR _ (Same.refl _)) ?_ ?_
  ·rintro x H6 hx - s6 R hR;obtain⟨e,he,rfl⟩:=List.mem_map.mp hx;have hfe:=hf.2 e he;show (_:TE) (some (V.str e.1)::[some (.ref p),some (.ref a)]) H6 R;walk_at"go";refine bS (.inl (s6 _ _ ep5)) (hv e.1 (List.mem_map.mpr ⟨e,he,rfl⟩)) ?_;walk_at"go";refine bS (.inr ⟨o,s6 _ _ e5⟩) (EG ndz he) ?_;walk_at"go";exact hR _ _ (by rw[decide_eq_false (by lia)]) (Same.refl _)
  intro ys H6 s6 hys;rw[dR]at hys;obtain rfl:=wZ hys;walk_at"go";rename_i q7 H7 n7 S7 e7;refine mF (S7 _ _ (s6 _ _ e5)) fun H8 B8 e8=> ?_;have hq7:q7≠a:=fun z=>by rw[z,s6 _ _ e5]at n7;cases n7
  have e78:=B8 _ _ e7 hq7;walk_at"go";refine R3 (SqL.of e78) ?_;rw[FA];walk_at"go";exact k _ (t5 (ha) (fun x u hx hxa=>B5 _ _ (S4 _ _ (sA _ _ hx)) hxa) (Same.but (s6.trans S7)) B8 e8)
theorem GK (m:M K mg):Fc P w K mg base "need_space" 2 ["sizes","people"] (vH K):=⟨_,_,m.LZ,m.m9.kp,m.LB,GN m⟩
def RoomsAt (H:Hp)(vs:List V)(rz:List (Str×Int)):Prop:=Paired (cI H) vs rz
theorem RoomsAt.sm {H H':Hp}{vs:List V}{rs:List (Str×Int)} (h:RoomsAt H vs rs) (s:Same H H'):RoomsAt H' vs rs:=Paired.imp' (fun v z ⟨q,e,h⟩=>⟨q,e,s _ _ h⟩) h
theorem zW {H:Hp}:∀{vs:List V}{rs:List (Str×Int)},RoomsAt H vs rs->yW H vs (szK rs)
 | _,_,.nil=> .nil
 | _,_,.cons h t=> .cons h (zW t)
theorem lT {D:bA}{H H':Hp}{us:List V}{ds:List aE} (h:Paired (D.at' H) us ds) (s:Same H H'):Paired (D.at' H') us ds:=Paired.imp' (fun v d h=>D.same h s) h
abbrev OC (f l:Int)(qs qp qd:Addr):List (Str×V):=cZ "named_doors" (.ref qd) (cZ "people" (.ref qp) (cZ "sizes" (.ref qs) (cZ "last" (.int l) (cZ "first" (.int f) []))))
def qQ (D:bA)(H:Hp)(nk:List (Key×V))(ds:List aE):Prop:=Paired (fun e d=>e.1= .inr d.1/\D.at' H e.2 d) nk ds
theorem V8 {D:bA}{H H':Hp}{nk:List (Key×V)}{ds:List aE} (h:qQ D H nk ds) (s:Same H H'):qQ D H' nk ds:=Paired.imp' (fun e d h=>⟨h.1,D.same h.2 s⟩) h
structure aW (C:Addr)(D:bA)(H:Hp)(h:Addr)(f l:Int)(rz ps:List (Str×Int))(ds:List aE):Prop where
 ex:∃dx qs qp qd nk kvs,H h=some (.ins C dx (OC f l qs qp qd))/\H qs=some (.dK (szK rz))/\H qp=some (.dK kvs)/\kvs.map (·.1)=(szK rz).map (·.1)/\BI rz ps kvs/\H qd=some (.dK nk)/\qQ D H nk ds
theorem aK {C:Addr}{D:bA}{H H':Hp}{h:Addr}{f l:Int}{rz ps:List (Str×Int)}{ds:List aE} (x:aW C D H h f l rz ps ds) (s:Same H H'):aW C D H' h f l rz ps ds:=by
 walk_at"g1";obtain⟨dx,qs,qp,qd,nk,kvs,e1,e2,e3,e4,e5,e6,e7⟩:=x.ex;walk_at"g2";exact⟨dx,qs,qp,qd,nk,kvs,s _ _ e1,s _ _ e2,s _ _ e3,e4,e5,s _ _ e6,V8 e7 s⟩
theorem NY {H H':Hp}{p c C dx:Addr}{fs:List (Str×V)}{xs:List V} (h:SqL K H c xs) (hp:H p=some (.ins C dx fs)) (sb:SameBut p H H'):SqL K H' c xs:=by
 rcases h with (h|⟨o,h⟩)|h
 ·exact .inl (.inl (sb _ _ h fun z=>by rw[z,hp]at h;cases h))
 ·exact .inl (.inr ⟨o,sb _ _ h fun z=>by rw[z,hp]at h;cases h⟩)
 ·exact .inr h
theorem BW {α β:Type}{F:α->β->Prop}:∀{l:List α}{m:List β}{x:α},Paired F l m->x∈l->∃y∈m,F x y
 | _,_,_,.cons r t,h=>by
  rcases List.mem_cons.mp h with rfl|h
  ·exact⟨_,.head _,r⟩
  ·obtain⟨y,hy,f⟩:=BW t h;exact⟨y,List.mem_cons_of_mem _ hy,f⟩
 | _,_,_,.nil,h=>nomatch h
inductive i5 (K:PySem.W.Frag)(D:bA)(vs:List V)(H:Hp)(Q:VK)(E:XK):Prop
 | mk (p C dx a b c:Addr) (ws us cs:List V) (rz ps:List (Str×Int)) (ds:List aE) (f l:Int) (_:vs=[.ref p,.ref a,.ref b,.ref c,.int l,.int f]) (_:DCls K C) (_:H p=some (.ins C dx [])) (_:H a=some (.lst ws)) (_:RoomsAt H ws rz) (_:SqL K H b us) (_:Paired (D.at' H) us ds) (_:SqL K H c cs) (_:Paired (cI H) cs ps) (_:(rz.map (·.1)).Nodup) (_:(ds.map (·.1)).Nodup) (_:(∀d∈ds,dG (rz.map (·.1)) d)) (_:(∀p∈ps,p.1∈rz.map (·.1))) (_:uA rz ps) (_:rz.length<=20) (_:ds.length<=20) (_:ps.length<=40) (_:0<=f) (_:f<=l) (_:∀H',SameBut p H H'->aW C D H' p f l rz ps ds->Q .non H'):i5 K D vs H Q E
theorem IX {D:bA}{H:Hp}{Q:VK}{E:XK}{p C dx a b c:Addr}{ws us cs:List V}{rz ps:List (Str×Int)}{ds:List aE}{f l:Int} (dc:DCls K C) (hp:H p=some (.ins C dx [])) (ha:H a=some (.lst ws)) (hr:RoomsAt H ws rz) (hb:SqL K H b us) (hd:Paired (D.at' H) us ds) (hc:SqL K H c cs) (hcp:Paired (cI H) cs ps) (nr:(rz.map (·.1)).Nodup) (nd:(ds.map (·.1)).Nodup) (hin:∀d∈ds,dG (rz.map (·.1)) d) (hpr:∀p∈ps,p.1∈rz.map (·.1)) (hf:uA rz ps) (lr:rz.length<=20) (ld:ds.length<=20) (lp:ps.length<=40) (h0:0<=f) (h1:f<=l)
  (k:∀H',SameBut p H H'->aW C D H' p f l rz ps ds->Q .non H'):i5 K D [.ref p,.ref a,.ref b,.ref c,.int l,.int f] H Q E:=⟨_,_,_,_,_,_,_,_,_,_,_,_,_,_,rfl,dc,hp,ha,hr,hb,hd,hc,hcp,nr,nd,hin,hpr,hf,lr,ld,lp,h0,h1,k⟩
theorem zF (m:M K mg):FnOk P w K mg base CX0 4 m.lY m.iZ ["self","rooms","doors","people","last","first"] (i5 K (aQ P w K mg base (some 4))):=by
 refine m.A0.ok sc_House___init__ (fun vs H Q E h=> ?_) (fun cdv A outer s H vs Q E hr h=> ?_)
 ·walk_at"g1";obtain⟨p,C,dx,a,b,c,ws,us,cs,rz,ps,ds,f,l,rfl,dc,hp,ha,hra,hb,hd,hc,hcp,nr,nd',hin,hpr,hf,lr,ld,lp,h0,h1,k⟩:=h;walk_at"g2";rfl
 ·walk_at"g1";obtain⟨p,C,dx,a,b,c,ws,us,cs,rz,ps,ds,f,l,rfl,dc,hp,ha,hra,hb,hd,hc,hcp,nr,nd',hin,hpr,hf,lr,ld,lp,h0,h1,k⟩:=h;walk_at"g2";have nd:=sc_House___init__.nd;walk_at"hu";have fU:= @tN P w K mg base m;have gJ:= @zD P w K mg base m;have iR:= @wP P w K mg base m;have m9:= @GK P w K mg base m;have nA:= @GO P w K mg base m;have iC:= @xO P w K mg base m;refine⟨_,(aC (bP (bG nA hr (aA (pv 5) (aA (pv 4) aD))))
   (aC (bP (bG gJ hr (aA (cM (N:=["name","size"]) (nl:=2) (ci:=[]) rfl (blk (s.heap.objs.size+1) rfl rfl rfl (by kernel_rfl)) (bK (pv 1)) (fun _ _ _ _=>(kG (K:=K) (n:=2) rfl (bF (aO (i:=0) (show (["name","size"]:List Str).Nodup by decide +kernel) rfl (by walk_at"oi")) (bF (aO (i:=1) (show (["name","size"]:List Str).Nodup by decide +kernel) rfl (by walk_at"oi")) dW)))) (fun _ _ _ _=>eU) (fun _ _ _ _=>(pv 0))) aD)))
   (aC (bP (bG gJ hr (aA (cM (N:=["door"]) (nl:=1) (ci:=[]) rfl (blk (s.heap.objs.size+1) rfl rfl rfl (by kernel_rfl)) (bK (pv 2)) (fun _ _ _ _=>(aO (i:=0) (show (["door"]:List Str).Nodup by decide +kernel) rfl (by walk_at"oi"))) (fun _ _ _ _=>eU) (fun _ _ _ _=>(rE (K:=K) (pv 0) rfl))) aD)))
   (aC (aU (i:=6) nd rfl (by walk_at"oi") (mD (BR rfl) rfl m.U8 N9 (aA (pv 1) aD)))
   (aC (bP (bG iR hr (aA (bG iC hr (aA (pv 2) (aA (pv 3) aD))) (aA (pv 6) aD))))
   (aC (bP (bG m9 hr (aA (pv 6) (aA (pv 3) aD))))
   (aC (gT (pv 0) (pv 5) rfl)
   (aC (gT (pv 0) (pv 4) rfl)
   (aC (gT (pv 0) (pv 6) rfl)
   (aC (gT (pv 0) (bG fU hr (aA (pv 6) (aA (pv 3) aD))) rfl)
   (aC (gT (pv 0) rV rfl)
   (aF (cS PassesOwn.never rfl (bK (pv 2)) (aO (i:=7) nd rfl (by walk_at"oi")) (aF (fR hu1 (aX (pv 0) rfl) (aX (pv 7) rfl) (pv 7) rfl))))))))))))))),?_⟩
  refine aT (σ:=[some (.ref p),some (.ref a),some (.ref b),some (.ref c),some (.int l),some (.int f),none,none]) rfl ?_;walk_at"cx";have hul:us.length=ds.length:=Paired.length hd;have hwl:ws.length=rz.length:=Paired.length hra;walk_at"go";refine ZP h0 h1 ?_;walk_at"go";refine uX (α:=Str×Int) (xs:=rz) (vs:=ws) (fun e=> .str e.1) (fun e=> .int e.2) (fun _=>true) (fun z y _=>y= .str z.1) (fun _ _ _ _ h _=>h) (by rw[sizeLine_eq];lia) (rest:=[]) (by rfl) (SqL.of ha) hra (fun x H1 hx s1 R hR=>hR _ (Same.refl _)) (fun x H1 hx _ s1 R hR=> ?_) ?_
  ·walk_at"go";exact hR _ _ rfl (Same.refl _)
  intro ys H1 s1 hys;rw[dR]at hys;obtain rfl:=eV hys;walk_at"go";rename_i q1 H2 n2 S2 e2;refine RF (ss:=rz.map (·.1)) (SqL.of (by rw[e2,List.map_map];rfl)) nr (by rw[List.length_map];lia) fun H3 S3=> ?_;have sA:Same H H3:=(s1.trans S2).trans S3;walk_at"go";refine fQ (α:=aE) (xs:=ds) (vs:=us) ((aQ P w K mg base (some 4)).at' H3) (fun _=>true) (fun d y _=>y= .str d.1) (fun _ _ _ _ h _=>h) (by rw[sizeLine_eq];lia) (rest:=[]) (by rfl) (sA.seq hb) (lT hd sA) (fun v x H1 _ hx s1 R hR=>hR _ (Same.refl _)) ?_ ?_
  ·rintro v ⟨n,st,e,lt⟩ H4 hv hm - s4 R hR;walk_at"g1";obtain⟨q,C9,dx',fs,fp,rfl,hq,dcC,l1,l2,l3,l4,l5,mcE,hfp,hlt⟩:=DoorAt.ex hv;walk_at"g2";have hq':=s4 _ _ hq;walk_at"go";exact hR _ _ rfl (Same.refl _)
  intro ys H4 s4 hys;rw[dR]at hys;obtain rfl:=eV hys;walk_at"go";rename_i q5 H5 n5 S5 e5;refine RF (ss:=ds.map (·.1)) (SqL.of (by rw[e5,List.map_map];rfl)) nd' (by rw[List.length_map];lia) fun H6 S6=> ?_;have sB:Same H H6:=((sA.trans s4).trans S5).trans S6;walk_at"go";refine KH (sB _ _ ha) (zW (hra.sm sB)) fun qs H7 n7 S7 e7=> ?_;rw[VH nr]at e7;have sC:Same H H7:=sB.trans S7;walk_at"go";refine VY (sC.seq hb) (lT hd sC) hin ld (sC.seq hc) (mV hcp sC) hpr lp fun q8 ss H8 S8 e8 hss lss=> ?_;walk_at"go";refine M9 (SqL.of e8) (.inl (S8 _ _ e7)) (fun z hz=>by obtain⟨i,_,e⟩:=KP nr (hss z hz);rw[e];rfl) fun H9 S9=> ?_;have sD:Same H7 H9:=S8.trans S9;walk_at"go";refine aAL (sD _ _ e7) ((sC.trans sD).seq hc) (mV hcp (sC.trans sD)) hpr nr (by lia) (by lia) hf fun H10 S10=> ?_;have sE:Same H H10:=(sC.trans sD).trans S10;have es:H10 qs=some (.dK (szK rz)):=S10 _ _ (sD _ _ e7);have hp10:=sE _ _ hp;have hqp:qs≠p:=fun z=>by rw[z,hp10]at es;cases es
  walk_at"go";rename_i H11 B11 e11 H12 B12 e12 H13 B13 e13;have sb13:SameBut p H10 H13:=by walk_at"sb"
  have es13:=sb13 _ _ es hqp;have hc13:SqL K H13 c cs:=NY (sE.seq hc) hp10 sb13;have hcp13:Paired (cI H13) cs ps:=Paired.imp' (fun v r ⟨q,e,hq⟩=>⟨q,e,sb13 _ _ (sE _ _ hq) fun z=>by rw[z,hp]at hq;cases hq⟩) hcp;refine NK es13 hc13 hcp13 hpr nr (by lia) fun qp H14 kvs n14 S14 e14 hkk hv14=> ?_;have hp14:=S14 _ _ e13;walk_at"go";rename_i H15 B15 e15 qd H16 n16 S16 e16 H17 B17 e17;have hqd:qd≠p:=fun z=>by rw[z,e15]at n16;cases n16
  have sb17:SameBut p H10 H17:=((((sb13.trans S14.but).trans B15).trans S16.but).trans B17)
  have es17:=sb17 _ _ es hqp;have ed17:=B17 _ _ e16 hqd;have hqpp:qp≠p:=fun z=>by rw[z,e13]at n14;cases n14
  have eq17:H17 qp=some (.dK kvs):=B17 _ _ (S16 _ _ (B15 _ _ e14 hqpp)) hqpp;have hqpd:qp≠qd:=fun z=>by rw[←z,B15 _ _ e14 hqpp]at n16;cases n16
  have fresh:∀x u,H10 x=some u->x≠p->x≠qd:=fun x u hx hxp z=>by
   have h15:H15 x=some u:=B15 _ _ (S14 _ _ (sb13 _ _ hx hxp)) hxp;rw[z,n16]at h15;cases h15
  have hb17:SqL K H17 b us:=NY (sE.seq hb) hp10 sb17;have hd17:Paired ((aQ P w K mg base (some 4)).at' H17) us ds:=Paired.imp' (fun v d h=>(aQ P w K mg base (some 4)).but ((aQ P w K mg base (some 4)).same h sE) hp10 rfl sb17) hd;have ddq:∀{H':Hp}{v:V}{d:aE},SameBut qd H17 H'->(aQ P w K mg base (some 4)).at' H17 v d->(aQ P w K mg base (some 4)).at' H' v d:=fun sb h=>(aQ P w K mg base (some 4)).but h ed17 trivial sb;refine FD hb17 ?_;let Pv1:Nat->St->Hp->Prop:=fun i σ' H'=>SameBut qd H17 H'/\(∃nk,H' qd=some (.dK nk)/\nk.length<=i/\Paired (fun e d=>e.1= .inr d.1/\(aQ P w K mg base (some 4)).at' H17 e.2 d) nk (ds.take i))/\∃x,σ'=[some (.ref p),some (.ref a),some (.ref b),some (.ref c),some (.int l),some (.int f),some (.ref qs),x];refine dU us Pv1 ⟨SameBut.refl,⟨[],ed17,Nat.le_refl _,.nil⟩,_,rfl⟩ (fun i σ' H' _ q=>JW hb17 ed17 q.1) ?_ ?_
  ·rintro i x _ H' hx hq_;walk_at"g1";obtain⟨sb,⟨nk,ek,hk,pr⟩,y,rfl⟩:=hq_;walk_at"g2";have hi:i<us.length:=(List.getElem?_eq_some_iff.mp hx).1;obtain⟨d,hdx⟩:∃d,ds[i]? =some d:=⟨_,List.getElem?_eq_getElem (by lia)⟩
   have hD:=Paired.at2 hd17 hx hdx;walk_at"g1";obtain⟨n,st,e,lt⟩:=d;walk_at"g2";have hD':=ddq sb hD;walk_at"g1";obtain⟨q,C9,dx',fs,fp,rfl,hq',dcC,l1,l2,l3,l4,l5,mcE,hfp,hlt⟩:=DoorAt.ex hD';walk_at"g2";have hpp:H' p=some (.ins C dx (OC f l qs qp qd)):=sb _ _ e17 (Ne.symm hqd);have hnone:bH nk (.inr n)=none:=xR fun e he=>by
    walk_at"g1";obtain⟨d',hd',h1,_⟩:=BW pr he;walk_at"g2";rw[h1];intro z;have hn:n∉(ds.map (·.1)).take i:=nL nd' (by rw[List.getElem?_map,hdx];rfl)
    apply hn
    rw[←List.map_take];exact List.mem_map.mpr ⟨d',hd',Sum.inr.inj z⟩
   walk_at"go";refine j4 ek (by rw[sizeLine_eq];lia) fun H9' B9' e9'=> ?_;rw[rO _ hnone]at e9';refine⟨by walk_at"sb",⟨_,e9',by rw[List.length_append];show nk.length+1<=_;lia,?_⟩,_,rfl⟩;rw[cA hdx];exact L2.Paired.snoc pr ⟨rfl,hD⟩
  ·rintro _ H' hq_;walk_at"g1";obtain⟨sb,⟨nk,ek,hk,pr⟩,y,rfl⟩:=hq_;walk_at"g2";rw[hul,List.take_length]at pr;refine k _ (fun x u hx hxp=>sb _ _ (sb17 _ _ (sE _ _ hx) hxp) (fresh x u (sE _ _ hx) hxp)) ⟨dx,qs,qp,qd,nk,kvs,sb _ _ e17 (Ne.symm hqd),sb _ _ es17 (fresh _ _ es hqp),sb _ _ eq17 hqpd,hkk,hv14,ek,?_⟩;exact Paired.imp' (fun e d h=>⟨h.1,ddq sb h.2⟩) pr
theorem CO (m:M K mg):Kc P w K mg base "House" m.aH 4 [] (i5 K (aQ P w K mg base (some 4))):=⟨_,_,_,_,m.OJ,m.X6,.nil,m.BB,zF m⟩
theorem F2 {C:Addr}{D:bA}{H:Hp}{Q:VK}{E:XK}{dvs vs:List V}{a b c:Addr}{ws us cs:List V}{rz ps:List (Str×Int)}{ds:List aE}{f l:Int} (ev:vs++dvs=[.ref a,.ref b,.ref c,.int l,.int f]) (dc:DCls K C) (ha:H a=some (.lst ws)) (hr:RoomsAt H ws rz) (hb:SqL K H b us) (hd:Paired (D.at' H) us ds) (hc:SqL K H c cs) (hcp:Paired (cI H) cs ps) (nr:(rz.map (·.1)).Nodup) (nd:(ds.map (·.1)).Nodup) (hin:∀d∈ds,dG (rz.map (·.1)) d) (hpr:∀p∈ps,p.1∈rz.map (·.1)) (hf:uA rz ps) (lr:rz.length<=20) (ld:ds.length<=20) (lp:ps.length<=40) (h0:0<=f) (h1:f<=l)
  (k:∀p H',H p=none->Same H H'->aW C D H' p f l rz ps ds->Q (.ref p) H'):tY C (i5 K D) dvs E Q vs H:=by
 intro x dx nx nd0 ne;have s0:Same H (upd (upd H dx (.own x)) x (.ins C dx [])):=fun b o e=>by
  rw[aS (bJ e nx),aS (bJ e nd0)];exact e
 rw[ev];exact IX dc bE (s0 _ _ ha) (hr.sm s0) (s0.seq hb) (lT hd s0) (s0.seq hc) (mV hcp s0) nr nd hin hpr hf lr ld lp h0 h1 fun H' sb hh=>⟨rfl,k x H' nx (fun b o q=>sb b o (s0 b o q) (bJ q nx)) hh⟩
theorem Z0 (rz:List (Str×Int)):((szK rz).map fun e=>kV e.1)=(rz.map (·.1)).map V.str:=by unfold szK;rw[List.map_map,List.map_map];rfl
theorem BV {D:bA}{H:Hp}:∀{nk:List (Key×V)}{ds:List aE},qQ D H nk ds->(nk.map fun e=>kV e.1)=(ds.map (·.1)).map V.str
 | _,_,.nil=>rfl
 | (k,v)::_,_,.cons h t=>by
  rw[List.map_cons,BV t,List.map_cons,List.map_cons];have:k= .inr _:=h.1;rw[this];rfl
theorem BG {D:bA}{H:Hp}:∀{nk:List (Key×V)}{ds:List aE},qQ D H nk ds->nk.map (·.1)=(ds.map (·.1)).map (Sum.inr:Str->Key)
 | _,_,.nil=>rfl
 | (k,v)::_,_,.cons h t=>by
  rw[List.map_cons,BG t,List.map_cons,List.map_cons];have:k= .inr _:=h.1;rw[this]
theorem SN {D:bA}{H:Hp}{nk:List (Key×V)}{ds:List aE} (h:qQ D H nk ds):nk.length=ds.length:=Paired.length h
theorem V1 {D:bA}{H:Hp}{nk:List (Key×V)}{ds:List aE} (h:qQ D H nk ds) (nd:(ds.map (·.1)).Nodup) {d:aE} (hd:d∈ds):∃v,bH nk (.inr d.1)=some v/\D.at' H v d:=by
 obtain⟨i,hi,e⟩:=List.getElem_of_mem hd;have hl:=SN h;have hx:nk[i]? =some nk[i]:=List.getElem?_eq_getElem (by lia);obtain⟨h1,h2⟩:=Paired.at2 h hx (show ds[i]? =some d by rw[List.getElem?_eq_getElem hi,e]);refine⟨_,?_,h2⟩;rw[←h1];exact nM (by rw[BG h];exact tW nd) (List.mem_of_getElem? hx)
inductive nN (C:Addr)(D:bA)(g:List (Str×Int)->List aE->List Str)(vs:List V)(H:Hp)(Q:VK)(E:XK):Prop
 | mk (h:Addr) (f l:Int) (rz ps:List (Str×Int)) (ds:List aE) (_:vs=[.ref h]) (_:aW C D H h f l rz ps ds) (_:∀p H',H p=none->Same H H'->H' p=some (.lst ((g rz ds).map V.str))->Q (.ref p) H'):nN C D g vs H Q E
theorem c5 {C:Addr}{D:bA}{g:List (Str×Int)->List aE->List Str}{H:Hp}{Q:VK}{E:XK}{h:Addr}{f l:Int}{rz ps:List (Str×Int)}{ds:List aE} (hh:aW C D H h f l rz ps ds) (k:∀p H',H p=none->Same H H'->H' p=some (.lst ((g rz ds).map V.str))->Q (.ref p) H'):nN C D g [.ref h] H Q E:=⟨_,_,_,_,_,_,rfl,hh,k⟩
theorem DW (m:M K mg):FnOk P w K mg base CX0 1 m.p8 m.p9 ["self"] (nN m.aH (aQ P w K mg base (some 4)) fun rz _=>rz.map (·.1)):=by
 refine m.GT.ok sc_House_rooms (fun vs H Q E h=> ?_) (fun cdv A outer s H vs Q E hr h=> ?_)
 ·walk_at"g1";obtain⟨h,f,l,rz,ps,ds,rfl,hh,k⟩:=h;walk_at"g2";rfl
 ·walk_at"g1";obtain⟨h,f,l,rz,ps,ds,rfl,hh,k⟩:=h;walk_at"g2";have nd:=sc_House_rooms.nd;walk_at"hu";have w_dc_House:=m.bC;refine⟨_,(aF (aY (mD (CY rfl) rfl m.K9 D9 (aA (aX (pv 0) rfl) aD)))),?_⟩;refine aT (σ:=[some (.ref h)]) rfl ?_;walk_at"cx";walk_at"g1";obtain⟨dx,qs,qp,qd,nk,kvs,e1,e2,e3,e4,e5,e6,e7⟩:=hh.ex;walk_at"g2";walk_at"go";refine J5 (.inl e2) fun p H1 n1 S1 e8=> ?_;rw[Z0]at e8;walk_at"go";exact k _ _ n1 S1 e8
theorem iL (m:M K mg):Mc P w K mg base m.aH "rooms" 1 (nN m.aH (aQ P w K mg base (some 4)) fun rz _=>rz.map (·.1)):=⟨_,_,_,m.bC.ic.cl,m.EX,m.GV,DW m⟩
theorem D6 (m:M K mg):FnOk P w K mg base CX0 1 m.qC m.qI ["self"] (nN m.aH (aQ P w K mg base (some 4)) fun _ ds=>ds.map (·.1)):=by
 refine m.HI.ok sc_House_doors (fun vs H Q E h=> ?_) (fun cdv A outer s H vs Q E hr h=> ?_)
 ·walk_at"g1";obtain⟨h,f,l,rz,ps,ds,rfl,hh,k⟩:=h;walk_at"g2";rfl
 ·walk_at"g1";obtain⟨h,f,l,rz,ps,ds,rfl,hh,k⟩:=h;walk_at"g2";have nd:=sc_House_doors.nd;walk_at"hu";have w_dc_House:=m.bC;refine⟨_,(aF (aY (mD (CY rfl) rfl m.K9 D9 (aA (aX (pv 0) rfl) aD)))),?_⟩;refine aT (σ:=[some (.ref h)]) rfl ?_;walk_at"cx";walk_at"g1";obtain⟨dx,qs,qp,qd,nk,kvs,e1,e2,e3,e4,e5,e6,e7⟩:=hh.ex;walk_at"g2";walk_at"go";refine J5 (.inl e6) fun p H1 n1 S1 e8=> ?_;rw[BV e7]at e8;walk_at"go";exact k _ _ n1 S1 e8
theorem fT (m:M K mg):Mc P w K mg base m.aH "doors" 1 (nN m.aH (aQ P w K mg base (some 4)) fun _ ds=>ds.map (·.1)):=⟨_,_,_,m.bC.ic.cl,m.EH,m.GR,D6 m⟩
inductive mN (C:Addr)(D:bA)(vs:List V)(H:Hp)(Q:VK)(E:XK):Prop
 | mk (h:Addr) (z:Str) (f l:Int) (rz ps:List (Str×Int)) (ds:List aE) (_:vs=[.ref h,.str z]) (_:aW C D H h f l rz ps ds) (_:(rz.map (·.1)).Nodup) (_:z∈rz.map (·.1)) (_:∀H',Same H H'->Q .non H'):mN C D vs H Q E
theorem oP {C:Addr}{D:bA}{H:Hp}{Q:VK}{E:XK}{h:Addr}{z:Str}{f l:Int}{rz ps:List (Str×Int)}{ds:List aE} (hh:aW C D H h f l rz ps ds) (nr:(rz.map (·.1)).Nodup) (hz:z∈rz.map (·.1)) (k:∀H',Same H H'->Q .non H'):mN C D [.ref h,.str z] H Q E:=⟨_,_,_,_,_,_,_,rfl,hh,nr,hz,k⟩
theorem xG (m:M K mg):FnOk P w K mg base CX0 2 m.kP m.kO ["self","room"] (mN m.aH (aQ P w K mg base (some 4))):=by
 refine m.zL.ok sc_House_need_room (fun vs H Q E h=> ?_) (fun cdv A outer s H vs Q E hr h=> ?_)
 ·walk_at"g1";obtain⟨h,z,f,l,rz,ps,ds,rfl,hh,nr,hz,k⟩:=h;walk_at"g2";rfl
 ·walk_at"g1";obtain⟨h,z,f,l,rz,ps,ds,rfl,hh,nr,hz,k⟩:=h;walk_at"g2";have nd:=sc_House_need_room.nd;walk_at"hu";have iR:= @wP P w K mg base m;have w_dc_House:=m.bC;refine⟨_,(aF (bP (bG iR hr (aA (fN (aA (pv 1) aD)) (aA (aX (pv 0) rfl) aD))))),?_⟩;refine aT (σ:=[some (.ref h),some (.str z)]) rfl ?_;walk_at"cx";walk_at"g1";obtain⟨dx,qs,qp,qd,nk,kvs,e1,e2,e3,e4,e5,e6,e7⟩:=hh.ex;walk_at"g2";obtain⟨i,hi,ev⟩:=KP nr hz;walk_at"go";rename_i p H1 n1 S1 e8;refine M9 (ss:=[z]) (SqL.of e8) (.inl (S1 _ _ e2)) (fun y hy=>by cases List.mem_singleton.mp hy;rw[ev];rfl) fun H2 S2=> ?_;walk_at"go";exact k _ (S1.trans S2)
theorem gS (m:M K mg):Mc P w K mg base m.aH "need_room" 2 (mN m.aH (aQ P w K mg base (some 4))):=⟨_,_,_,m.bC.ic.cl,m.x9,m.zJ,xG m⟩
inductive vP (C:Addr)(D:bA)(vs:List V)(H:Hp)(Q:VK)(E:XK):Prop
 | mk (h:Addr) (z:Str) (i f l:Int) (rz ps:List (Str×Int)) (ds:List aE) (_:vs=[.ref h,.str z]) (_:aW C D H h f l rz ps ds) (_:(rz.map (·.1)).Nodup) (_:(z,i)∈rz) (_:∀H',Same H H'->Q (.int i) H'):vP C D vs H Q E
theorem q0 {C:Addr}{D:bA}{H:Hp}{Q:VK}{E:XK}{h:Addr}{z:Str}{i f l:Int}{rz ps:List (Str×Int)}{ds:List aE} (hh:aW C D H h f l rz ps ds) (nr:(rz.map (·.1)).Nodup) (hz:(z,i)∈rz) (k:∀H',Same H H'->Q (.int i) H'):vP C D [.ref h,.str z] H Q E:=⟨_,_,_,_,_,_,_,_,rfl,hh,nr,hz,k⟩
theorem D3 (m:M K mg):FnOk P w K mg base CX0 3 m.pJ m.qF ["self","room"] (vP m.aH (aQ P w K mg base (some 4))):=by
 refine m.HY.ok sc_House_holds (fun vs H Q E h=> ?_) (fun cdv A outer s H vs Q E hr h=> ?_)
 ·walk_at"g1";obtain⟨h,z,i,f,l,rz,ps,ds,rfl,hh,nr,hz,k⟩:=h;walk_at"g2";rfl
 ·walk_at"g1";obtain⟨h,z,i,f,l,rz,ps,ds,rfl,hh,nr,hz,k⟩:=h;walk_at"g2";have nd:=sc_House_holds.nd;walk_at"hu";have w_dc_House:=m.bC;have w_mc_House_need_room:= @gS P w K mg base m;refine⟨_,(aC (bP (dD 2 hr (pv 0) (aA (pv 1) aD)))
   (aF (aY (bR hu1 (aX (pv 0) rfl) (pv 1) (fun _ _=>rfl))))),?_⟩
  refine aT (σ:=[some (.ref h),some (.str z)]) rfl ?_;walk_at"cx";walk_at"g1";obtain⟨dx,qs,qp,qd,nk,kvs,e1,e2,e3,e4,e5,e6,e7⟩:=hh.ex;walk_at"g2";walk_at"go";refine oP hh nr (List.mem_map.mpr ⟨_,hz,rfl⟩) fun H1 S1=> ?_;have e11:=S1 _ _ e1;walk_at"go";refine bS (.inl (S1 _ _ e2)) (EG nr hz) ?_;walk_at"go";exact k _ S1
theorem iP (m:M K mg):Mc P w K mg base m.aH "holds" 3 (vP m.aH (aQ P w K mg base (some 4))):=⟨_,_,_,m.bC.ic.cl,m.E1,m.GS,D3 m⟩
inductive vO (C:Addr)(D:bA)(vs:List V)(H:Hp)(Q:VK)(E:XK):Prop
 | mk (h:Addr) (z:Str) (f l:Int) (rz ps:List (Str×Int)) (ds:List aE) (_:vs=[.ref h,.str z]) (_:aW C D H h f l rz ps ds) (_:(rz.map (·.1)).Nodup) (_:z∈rz.map (·.1)) (_:∀H',Same H H'->Q (.int (cU ps z)) H'):vO C D vs H Q E
theorem zC {C:Addr}{D:bA}{H:Hp}{Q:VK}{E:XK}{h:Addr}{z:Str}{f l:Int}{rz ps:List (Str×Int)}{ds:List aE} (hh:aW C D H h f l rz ps ds) (nr:(rz.map (·.1)).Nodup) (hz:z∈rz.map (·.1)) (k:∀H',Same H H'->Q (.int (cU ps z)) H'):vO C D [.ref h,.str z] H Q E:=⟨_,_,_,_,_,_,_,rfl,hh,nr,hz,k⟩
theorem EA (m:M K mg):FnOk P w K mg base CX0 3 m.qB m.pX ["self","room"] (vO m.aH (aQ P w K mg base (some 4))):=by
 refine m.HV.ok sc_House_found (fun vs H Q E h=> ?_) (fun cdv A outer s H vs Q E hr h=> ?_)
 ·walk_at"g1";obtain⟨h,z,f,l,rz,ps,ds,rfl,hh,nr,hz,k⟩:=h;walk_at"g2";rfl
 ·walk_at"g1";obtain⟨h,z,f,l,rz,ps,ds,rfl,hh,nr,hz,k⟩:=h;walk_at"g2";have nd:=sc_House_found.nd;walk_at"hu";have w_dc_House:=m.bC;have w_mc_House_need_room:= @gS P w K mg base m;refine⟨_,(aC (bP (dD 2 hr (pv 0) (aA (pv 1) aD)))
   (aF (aY (bR hu1 (aX (pv 0) rfl) (pv 1) (fun _ _=>rfl))))),?_⟩
  refine aT (σ:=[some (.ref h),some (.str z)]) rfl ?_;walk_at"cx";walk_at"g1";obtain⟨dx,qs,qp,qd,nk,kvs,e1,e2,e3,e4,e5,e6,e7⟩:=hh.ex;walk_at"g2";walk_at"go";refine oP hh nr hz fun H1 S1=> ?_;have e11:=S1 _ _ e1;walk_at"go";refine bS (.inl (S1 _ _ e3)) (e5 z hz) ?_;walk_at"go";exact k _ S1
theorem kA (m:M K mg):Mc P w K mg base m.aH "found" 3 (vO m.aH (aQ P w K mg base (some 4))):=⟨_,_,_,m.bC.ic.cl,m.ES,m.HU,EA m⟩
inductive yV (C:Addr)(D:bA)(vs:List V)(H:Hp)(Q:VK)(E:XK):Prop
 | mk (h:Addr) (d:aE) (f l:Int) (rz ps:List (Str×Int)) (ds:List aE) (_:vs=[.ref h,.str d.1]) (_:aW C D H h f l rz ps ds) (_:(ds.map (·.1)).Nodup) (_:d∈ds) (_:∀v,D.at' H v d->Q v H):yV C D vs H Q E
theorem mR {C:Addr}{D:bA}{H:Hp}{Q:VK}{E:XK}{h:Addr}{d:aE}{f l:Int}{rz ps:List (Str×Int)}{ds:List aE} (hh:aW C D H h f l rz ps ds) (nd:(ds.map (·.1)).Nodup) (hd:d∈ds) (k:∀v,D.at' H v d->Q v H):yV C D [.ref h,.str d.1] H Q E:=⟨_,_,_,_,_,_,_,rfl,hh,nd,hd,k⟩
theorem GP (m:M K mg):FnOk P w K mg base CX0 1 m.sP m.sR ["self","name"] (yV m.aH (aQ P w K mg base (some 4))):=by
 refine m.LE.ok sc_House_door (fun vs H Q E h=> ?_) (fun cdv A outer s H vs Q E hr h=> ?_)
 ·walk_at"g1";obtain⟨h,d,f,l,rz,ps,ds,rfl,hh,ndd,hd,k⟩:=h;walk_at"g2";rfl
 ·walk_at"g1";obtain⟨h,d,f,l,rz,ps,ds,rfl,hh,ndd,hd,k⟩:=h;walk_at"g2";have nd:=sc_House_door.nd;walk_at"hu";have w_dc_House:=m.bC;refine⟨_,(aC (cC (JX (FN hu1 (pv 1) (aX (pv 0) rfl)) (by with_unfolding_all rfl)) (aF fE) bN)
   (aF (aY (bR hu1 (aX (pv 0) rfl) (pv 1) (fun _ _=>rfl))))),?_⟩
  refine aT (σ:=[some (.ref h),some (.str d.1)]) rfl ?_;walk_at"cx";walk_at"g1";obtain⟨dx,qs,qp,qd,nk,kvs,e1,e2,e3,e4,e5,e6,e7⟩:=hh.ex;walk_at"g2";obtain⟨v,ev,hv⟩:=V1 e7 ndd hd;walk_at"go";refine BS (.inl e6) ?_;rw[show (bH nk (.inr d.1)).isSome=true by rw[ev];rfl];walk_at"go";refine bS (.inl e6) ev ?_;walk_at"go";exact k _ hv
theorem dX (m:M K mg):Mc P w K mg base m.aH "door" 1 (yV m.aH (aQ P w K mg base (some 4))):=⟨_,_,_,m.bC.ic.cl,m.HR,m.LG,GP m⟩
def bL (rz:List (Str×Int))(f:Int)(n:Nat):List (Str×Int):=((List.range n).map fun (i:Nat)=>rz.map fun e=>(e.1,f+(i:Int))).flatten
theorem k8 (rz:List (Str×Int))(f:Int)(n:Nat):bL rz f (n+1)=bL rz f n++rz.map fun e=>(e.1,f+(n:Int)):=by
 unfold bL;rw[List.range_succ,List.map_append,List.flatten_append];simp
theorem qP (rz:List (Str×Int))(f:Int):∀n,(bL rz f n).length=n * rz.length
 | 0=>by simp[bL]
 | n+1=>by rw[k8,List.length_append,qP rz f n,List.length_map,Nat.succ_mul]
theorem JH {H:Hp}{t:Int}:∀{rz:List (Str×Int)}{ys:List V},Paired (fun (e:Key×V) y=>∀z,e.1= .inr z->cI H y (z,t)) (szK rz) ys->Paired (cI H) ys (rz.map fun e=>(e.1,t))
 | [],_,.nil=> .nil
 | _::_,_,.cons h t=> .cons (h _ rfl) (JH t)
theorem OE {H H':Hp}{p:Addr}{xs ws:List V}{ps:List (Str×Int)} (h:Paired (cI H) ws ps) (e:H p=some (.lst xs)) (sb:SameBut p H H'):Paired (cI H') ws ps:=Paired.imp' (fun v r ⟨q,e1,h⟩=>⟨q,e1,sb _ _ h fun z=>by rw[z,e]at h;cases h⟩) h
theorem CA {α β:Type}{F:α->β->Prop}:∀{l l2:List α}{m m2:List β},Paired F l m->Paired F l2 m2->Paired F (l++l2) (m++m2)
 | _,_,_,_,.nil,h=>h
 | _,_,_,_,.cons r t,h=> .cons r (CA t h)
inductive vL (C:Addr)(D:bA)(vs:List V)(H:Hp)(Q:VK)(E:XK):Prop
 | mk (h:Addr) (f l:Int) (rz ps:List (Str×Int)) (ds:List aE) (_:vs=[.ref h]) (_:aW C D H h f l rz ps ds) (_:0<=f) (_:f<=l) (_:l<1000000000000) (_:l - f<=1000) (_:rz.length<=20) (_:∀p ys H',H p=none->Same H H'->H' p=some (.lst ys)->Paired (cI H') ys (bL rz f (l+1 - f).toNat)->Q (.ref p) H'):vL C D vs H Q E
theorem D4 {C:Addr}{D:bA}{H:Hp}{Q:VK}{E:XK}{h:Addr}{f l:Int}{rz ps:List (Str×Int)}{ds:List aE} (hh:aW C D H h f l rz ps ds) (h0:0<=f) (h1:f<=l) (h2:l<1000000000000) (h3:l - f<=1000) (lr:rz.length<=20) (k:∀p ys H',H p=none->Same H H'->H' p=some (.lst ys)->Paired (cI H') ys (bL rz f (l+1 - f).toNat)->Q (.ref p) H'):vL C D [.ref h] H Q E:=⟨_,_,_,_,_,_,rfl,hh,h0,h1,h2,h3,lr,k⟩
theorem D2 (m:M K mg):FnOk P w K mg base CX0 1 m.qA m.pU ["self"] (vL m.aH (aQ P w K mg base (some 4))):=by
 refine m.HS.ok sc_House_pairs (fun vs H Q E h=> ?_) (fun cdv A outer s H vs Q E hr h=> ?_)
 ·walk_at"g1";obtain⟨h,f,l,rz,ps,ds,rfl,hh,h0,h1,h2,h3,lr,k⟩:=h;walk_at"g2";rfl
 ·walk_at"g1";obtain⟨h,f,l,rz,ps,ds,rfl,hh,h0,h1,h2,h3,lr,k⟩:=h;walk_at"g2";have nd:=sc_House_pairs.nd;walk_at"hu";have w_dc_House:=m.bC;refine⟨_,(aC (aU (i:=1) nd rfl (by walk_at"oi") (fN aD))
   (aC (cS PassesOwn.never rfl (tS rfl m.jE (aA (aX (pv 0) rfl) (aA (aI bO (aX (pv 0) rfl) aG) aD))) (aO (i:=2) nd rfl (by walk_at"oi")) (aF (bP (tQ PySem.F.plainAttrs_list PySem.F.slot_list_extend PySem.F.type_list_extend RW (pv 1) (aA (u7 (cM (N:=["room","turn"]) (nl:=1) (ci:=[2]) rfl (blk (s.heap.objs.size+1) rfl rfl rfl (by kernel_rfl)) (AQ (aX (pv 0) rfl)) (fun _ _ _ _=>(aO (i:=0) (show (["room","turn"]:List Str).Nodup by decide +kernel) rfl (by walk_at"oi"))) (fun _ _ _ _=>eU) (fun _ _ _ _=>(cD (aA (pv 0) (aA (pv 1) aD)))))) aD)))))
   (aF (aY (pv 1))))),?_⟩
  refine aT (σ:=[some (.ref h),none,none]) rfl ?_;walk_at"cx";walk_at"g1";obtain⟨dx,qs,qp,qd,nk,kvs,e1,e2,e3,e4,e5,e6,e7⟩:=hh.ex;walk_at"g2";have hl2:(szK rz).length=rz.length:=by unfold szK;rw[List.length_map]
  walk_at"go";rename_i p H1 n1 S1 ep;have e21:=S1 _ _ e2;have e11:=S1 _ _ e1;have hqsp:qs≠p:=fun z=>by rw[z,n1]at e2;cases e2
  have hhp:h≠p:=fun z=>by rw[z,n1]at e1;cases e1
  let Pv1:Nat->St->Hp->Prop:=fun i σ' H'=>SameBut p H1 H'/\(∃ys,H' p=some (.lst ys)/\Paired (cI H') ys (bL rz f i))/\∃x,σ'=[some (.ref h),some (.ref p),x];refine nV Pv1 ⟨SameBut.refl,⟨[],ep,.nil⟩,_,rfl⟩ ?_ ?_
  ·rintro i _ H' hi hq_;walk_at"g1";obtain⟨sb,⟨ys,ey,hys⟩,x,rfl⟩:=hq_;walk_at"g2";have e2':=sb _ _ e21 hqsp;have e1':=sb _ _ e11 hhp;have hyl:ys.length=i * rz.length:=by rw[Paired.length hys,qP]
   have hyb:ys.length<=1001 * 20:=by
    rw[hyl];exact Nat.mul_le_mul (by lia) lr
   walk_at"go";refine rQ e2' CD ?_;walk_at"go";refine AJ e2' fun o H2 B2 e22=> ?_;have hpq:p≠qs:=Ne.symm hqsp;refine Q5 (fun _=>true) (fun e y H=>∀z,e.1= .inr z->cI H y (z,f+(i:Int))) (fun _ _ _ _ hh s z hz=>let ⟨q,a1,a2⟩:=hh z hz;⟨q,a1,s _ _ a2⟩) (by rw[sizeLine_eq];lia) (rest:=[some (.int (f+(i:Int)))]) (by rfl) e22 (fun x H6 hx s6 R hR=>hR _ (Same.refl _)) ?_ ?_
   ·rintro x H6 hx - s6 R hR;obtain⟨e,he,rfl⟩:=List.mem_map.mp hx;show (_:TE) (some (V.str e.1)::[some (.int (f+(i:Int)))]) H6 R;walk_at"go";rename_i q7 H7 n7 S7 e77;exact hR _ _ (fun z hz=>by cases hz;exact⟨q7,rfl,e77⟩) S7
   intro zs H3 s3 hzs;rw[dR]at hzs;have hzp:=JH hzs;walk_at"go";rename_i q4 H4 n4 S4 e44;refine mF (S4 _ _ (s3 _ _ e22)) fun H5 B5 e55=> ?_;have hq4:q4≠qs:=fun z=>by rw[z,s3 _ _ e22]at n4;cases n4
   have ey2:=B2 _ _ ey hpq;have ey5:H5 p=some (.lst ys):=B5 _ _ (S4 _ _ (s3 _ _ ey2)) hpq;have sX:Same H' H5:=t5 e2' B2 (Same.but (s3.trans S4)) B5 e55;have hz5:Paired (cI H5) zs (rz.map fun e=>(e.1,f+(i:Int))):=Paired.imp' (fun v r ⟨q,a1,a2⟩=>⟨q,a1,B5 _ _ (S4 _ _ a2) fun z=>by rw[z,s3 _ _ e22]at a2;cases a2⟩) hzp;have hzl:zs.length=rz.length:=by rw[Paired.length hz5,List.length_map]
   walk_at"go";refine RU ey5 (B5 _ _ e44 hq4) (by rw[sizeLine_eq];lia) fun H6 B6 e66=> ?_;walk_at"go";refine⟨(sb.trans sX.but).trans B6,⟨_,e66,?_⟩,_,rfl⟩;rw[k8];exact CA (OE (mV hys sX) ey5 B6) (OE hz5 ey5 B6)
  ·rintro _ H' hq_;walk_at"g1";obtain⟨sb,⟨ys,ey,hys⟩,x,rfl⟩:=hq_;walk_at"g2";walk_at"go";exact k _ _ _ n1 (SameBut.same n1 S1 sb) ey hys
theorem nQ (m:M K mg):Mc P w K mg base m.aH "pairs" 1 (vL m.aH (aQ P w K mg base (some 4))):=⟨_,_,_,m.bC.ic.cl,m.EL,m.HJ,D2 m⟩
local macro_rules| `(tactic| walk_at"rd1")=> `(tactic| first|(with_reducible refine ZT ?_)|(with_reducible refine aCz ?_)|(with_reducible refine aBM ?_)|(with_reducible refine aCp ?_)|(with_reducible refine aBX ?_)|(with_reducible refine rd_v15 ?_)|(with_reducible refine rd_s15 ?_)|(with_reducible refine rd_v16 ?_)|(with_reducible refine rd_s16 ?_)|(with_reducible refine rd_v17 ?_)|(with_reducible refine rd_s17 ?_)|(with_reducible refine rd_v18 ?_)|(with_reducible refine rd_s18 ?_)|(with_reducible refine rd_iEnum ?_)|((with_reducible refine' rd_iEnumV ?e ?_);(case e=>walk_at"hp"))|((with_reducible refine' rd_repS ?a ?b ?c ?_);(case a=>walk_at"sd");(case b=>walk_at"sd");(case c=>walk_at"sz")))
def jQ (rz ps:List (Str×Int)):Int:=(rz.map fun e=>cU ps e.1).sum
theorem zS {rz ps:List (Str×Int)}:∀{kvs:List (Key×V)}{l:List (Str×Int)},(kvs.map (·.1)).Nodup->kvs.map (·.1)=(szK l).map (·.1)->(∀e∈l,∀v,(Sum.inr e.1,v)∈kvs->v= .int (cU ps e.1))->kvs.map (·.2)=(l.map fun e=>cU ps e.1).map V.int
 | [],[],_,_,_=>rfl
 | [],_::_,_,h,_=>by cases h
 | _::_,[],_,h,_=>by cases h
 | (k,v)::kvs,e::l,nd,h,hv=>by
  have h1:=(List.cons.inj h).1;have h2:=(List.cons.inj h).2;have nd2:=(List.nodup_cons.mp nd).2;have ih:=zS (rz:=rz) (ps:=ps) (kvs:=kvs) (l:=l) nd2 h2 fun e' he' v' hv'=>hv e' (List.mem_cons_of_mem _ he') v' (List.mem_cons_of_mem _ hv');have hk:k= .inr e.1:=h1;rw[List.map_cons,List.map_cons,List.map_cons,ih]
  congr 1
  exact hv e (.head _) v (by rw[hk];exact .head _)
inductive vU (C:Addr)(D:bA)(vs:List V)(H:Hp)(Q:VK)(E:XK):Prop
 | mk (h:Addr) (f l:Int) (rz ps:List (Str×Int)) (ds:List aE) (_:vs=[.ref h]) (_:aW C D H h f l rz ps ds) (_:(rz.map (·.1)).Nodup) (_:∀H',Same H H'->Q (.int (jQ rz ps)) H'):vU C D vs H Q E
theorem DG {C:Addr}{D:bA}{H:Hp}{Q:VK}{E:XK}{h:Addr}{f l:Int}{rz ps:List (Str×Int)}{ds:List aE} (hh:aW C D H h f l rz ps ds) (nr:(rz.map (·.1)).Nodup) (k:∀H',Same H H'->Q (.int (jQ rz ps)) H'):vU C D [.ref h] H Q E:=⟨_,_,_,_,_,_,rfl,hh,nr,k⟩
theorem D8 (m:M K mg):FnOk P w K mg base CX0 1 m.pM m.pY ["self"] (vU m.aH (aQ P w K mg base (some 4))):=by
 refine m.HN.ok sc_House_total (fun vs H Q E h=> ?_) (fun cdv A outer s H vs Q E hr h=> ?_)
 ·walk_at"g1";obtain⟨h,f,l,rz,ps,ds,rfl,hh,nr,k⟩:=h;walk_at"g2";rfl
 ·walk_at"g1";obtain⟨h,f,l,rz,ps,ds,rfl,hh,nr,k⟩:=h;walk_at"g2";have nd:=sc_House_total.nd;walk_at"hu";have w_dc_House:=m.bC;refine⟨_,(aF (aY (bV (R7 rfl) rfl m.IG CU (aA (OV (aX (pv 0) rfl)) aD)))),?_⟩;refine aT (σ:=[some (.ref h)]) rfl ?_;walk_at"cx";walk_at"g1";obtain⟨dx,qs,qp,qd,nk,kvs,e1,e2,e3,e4,e5,e6,e7⟩:=hh.ex;walk_at"g2";have ndk:(kvs.map (·.1)).Nodup:=by rw[e4,OA];exact tW nr
  have hv:kvs.map (·.2)=(rz.map fun e=>cU ps e.1).map V.int:=zS (rz:=rz) ndk e4 fun e he v hm=>by
   have h1:=nM ndk hm;have h2:=e5 e.1 (List.mem_map.mpr ⟨e,he,rfl⟩);have h3:bH kvs (.inr e.1)=some v:=h1;rw[h2]at h3;exact(Option.some.inj h3).symm
  walk_at"go";refine VG (.inl e3) fun v H1 n1 S1 ev=> ?_;walk_at"go";refine ZK ev (.inl (S1 _ _ e3)) hv ?_;exact k _ S1
theorem u4 (m:M K mg):Mc P w K mg base m.aH "total" 1 (vU m.aH (aQ P w K mg base (some 4))):=⟨_,_,_,m.bC.ic.cl,m.EW,m.IA,D8 m⟩
def jM (ds:List aE)(z:Str):List Str:=(ds.filter fun d=>decide (d.2.1=z)).map (·.1)
def iA (ds:List aE)(z:Str):List Str:=(ds.filter fun d=>decide (d.2.2.1= .str z)).map (·.1)
inductive qZ (C:Addr)(D:bA)(g:List aE->Str->List Str)(vs:List V)(H:Hp)(Q:VK)(E:XK):Prop
 | mk (h:Addr) (z:Str) (f l:Int) (rz ps:List (Str×Int)) (ds:List aE) (_:vs=[.ref h,.str z]) (_:aW C D H h f l rz ps ds) (_:(rz.map (·.1)).Nodup) (_:z∈rz.map (·.1)) (_:ds.length<=20) (_:(∀d∈ds,dG (rz.map (·.1)) d)) (_:∀p H',H p=none->Same H H'->H' p=some (.lst ((g ds z).map V.str))->Q (.ref p) H'):qZ C D g vs H Q E
theorem CH {C:Addr}{D:bA}{g:List aE->Str->List Str}{H:Hp}{Q:VK}{E:XK}{h:Addr}{z:Str}{f l:Int}{rz ps:List (Str×Int)}{ds:List aE} (hh:aW C D H h f l rz ps ds) (nr:(rz.map (·.1)).Nodup) (hz:z∈rz.map (·.1)) (ld:ds.length<=20) (hin:∀d∈ds,dG (rz.map (·.1)) d) (k:∀p H',H p=none->Same H H'->H' p=some (.lst ((g ds z).map V.str))->Q (.ref p) H'):qZ C D g [.ref h,.str z] H Q E:=⟨_,_,_,_,_,_,_,rfl,hh,nr,hz,ld,hin,k⟩
theorem xW (m:M K mg):FnOk P w K mg base CX0 3 m.kX m.kR ["self","room"] (qZ m.aH (aQ P w K mg base (some 4)) jM):=by
 refine m.zO.ok sc_House_from_room (fun vs H Q E h=> ?_) (fun cdv A outer s H vs Q E hr h=> ?_)
 ·walk_at"g1";obtain⟨h,z,f,l,rz,ps,ds,rfl,hh,nr,hz,hlen,hin,k⟩:=h;walk_at"g2";rfl
 ·walk_at"g1";obtain⟨h,z,f,l,rz,ps,ds,rfl,hh,nr,hz,hlen,hin,k⟩:=h;walk_at"g2";have nd:=sc_House_from_room.nd;walk_at"hu";have w_dc_House:=m.bC;have w_mc_House_need_room:= @gS P w K mg base m;refine⟨_,(aC (bP (dD 2 hr (pv 0) (aA (pv 1) aD)))
   (aF (aY (u7 (cM (N:=["name","door","room"]) (nl:=2) (ci:=[1]) rfl (blk (s.heap.objs.size+1) rfl rfl rfl (by kernel_rfl)) (FF (aX (pv 0) rfl)) (fun _ _ _ _=>(kG (K:=K) (n:=2) rfl (bF (aO (i:=0) (show (["name","door","room"]:List Str).Nodup by decide +kernel) rfl (by walk_at"oi")) (bF (aO (i:=1) (show (["name","door","room"]:List Str).Nodup by decide +kernel) rfl (by walk_at"oi")) dW)))) (fun _ _ _ _=>(jT (aZ jK (rE (K:=K) (pv 1) rfl) (pv 2) (bD _)))) (fun _ _ _ _=>(pv 0))))))),?_⟩
  refine aT (σ:=[some (.ref h),some (.str z)]) rfl ?_;walk_at"cx";walk_at"g1";obtain⟨dx,qs,qp,qd,nk,kvs,e1,e2,e3',e4',e5',e6,e7⟩:=hh.ex;walk_at"g2";walk_at"go";refine oP hh nr hz fun H1 S1=> ?_;have e31:=S1 _ _ e6;have e11:=S1 _ _ e1;walk_at"go";refine rQ e31 CD ?_;walk_at"go";refine FP e31 fun o H2 B2 e32=> ?_;have hn2:qQ (aQ P w K mg base (some 4)) H2 nk ds:=Paired.imp' (fun e d h=>⟨h.1,(aQ P w K mg base (some 4)).but ((aQ P w K mg base (some 4)).same h.2 S1) e31 trivial B2⟩) e7;refine ND (α:=aE) (xs:=ds) (fun e d=>e.1= .inr d.1/\(aQ P w K mg base (some 4)).at' H2 e.2 d) (fun d=>decide (d.2.1=z)) (fun d y _=>y= .str d.1) (fun _ _ _ _ h _=>h) (by rw[sizeLine_eq];lia) (rest:=[some (.str z)]) (by rfl) e32 hn2 ?_ ?_ ?_
  ·rintro ⟨kk,v⟩ ⟨n,st,e,lt⟩ H3 ⟨h1,h2⟩ hm s3 R hR;walk_at"g1";obtain⟨q,C9,dx,fs,fp,h3,hq,dcC,l1,l2,l3,l4,l5,mcE,hfp,hlt⟩:=DoorAt.ex h2;walk_at"g2";cases h1;have h3:v= .ref q:=h3;subst h3;have hq:=s3 _ _ hq;show (_:TT) (some (V.str n)::some (V.ref q)::[some (.str z)]) H3 R;walk_at"go";exact hR _ (Same.refl _)
  ·rintro ⟨kk,v⟩ ⟨n,st,e,lt⟩ H3 ⟨h1,h2⟩ hm - s3 R hR;cases h1;show (_:TE) (some (V.str n)::some v::[some (.str z)]) H3 R;walk_at"go";exact hR _ _ rfl (Same.refl _)
  intro ys H3 s3 hys;have ey:=eV hys;walk_at"go";rename_i p H4 n4 S4 e4;refine mF (S4 _ _ (s3 _ _ e32)) fun H5 B5 e5=> ?_;have hpq:p≠qd:=fun z=>by rw[z,s3 _ _ e32]at n4;cases n4
  have hn:H p=none:=by
   cases hq:H p with
   | none=>rfl
   | some u =>
    have:=s3 _ _ (B2 _ _ (S1 _ _ hq) hpq);rw[n4]at this;cases this
  walk_at"go";refine k p H5 hn (t5 e6 (fun x u hx hxa=>B2 _ _ (S1 _ _ hx) hxa) (Same.but (s3.trans S4)) B5 e5) ?_;have:=B5 _ _ e4 hpq;rw[this,ey];unfold jM;rw[List.map_map];rfl
theorem xA (m:M K mg):Mc P w K mg base m.aH "from_room" 3 (qZ m.aH (aQ P w K mg base (some 4)) jM):=⟨_,_,_,m.bC.ic.cl,m.x8,m.zP,xW m⟩
theorem F5 (m:M K mg):FnOk P w K mg base CX0 3 m.r6 m.tI ["self","room"] (qZ m.aH (aQ P w K mg base (some 4)) iA):=by
 refine m.LN.ok sc_House_into (fun vs H Q E h=> ?_) (fun cdv A outer s H vs Q E hr h=> ?_)
 ·walk_at"g1";obtain⟨h,z,f,l,rz,ps,ds,rfl,hh,nr,hz,hlen,hin,k⟩:=h;walk_at"g2";rfl
 ·walk_at"g1";obtain⟨h,z,f,l,rz,ps,ds,rfl,hh,nr,hz,hlen,hin,k⟩:=h;walk_at"g2";have nd:=sc_House_into.nd;walk_at"hu";have w_dc_House:=m.bC;have w_mc_House_need_room:= @gS P w K mg base m;refine⟨_,(aC (bP (dD 2 hr (pv 0) (aA (pv 1) aD)))
   (aF (aY (u7 (cM (N:=["name","door","room"]) (nl:=2) (ci:=[1]) rfl (blk (s.heap.objs.size+1) rfl rfl rfl (by kernel_rfl)) (FF (aX (pv 0) rfl)) (fun _ _ _ _=>(kG (K:=K) (n:=2) rfl (bF (aO (i:=0) (show (["name","door","room"]:List Str).Nodup by decide +kernel) rfl (by walk_at"oi")) (bF (aO (i:=1) (show (["name","door","room"]:List Str).Nodup by decide +kernel) rfl (by walk_at"oi")) dW)))) (fun _ _ _ _=>(jT (aZ jK (rE (K:=K) (pv 1) rfl) (pv 2) (bD _)))) (fun _ _ _ _=>(pv 0))))))),?_⟩
  refine aT (σ:=[some (.ref h),some (.str z)]) rfl ?_;walk_at"cx";walk_at"g1";obtain⟨dx,qs,qp,qd,nk,kvs,e1,e2,e3',e4',e5',e6,e7⟩:=hh.ex;walk_at"g2";walk_at"go";refine oP hh nr hz fun H1 S1=> ?_;have e31:=S1 _ _ e6;have e11:=S1 _ _ e1;walk_at"go";refine rQ e31 CD ?_;walk_at"go";refine FP e31 fun o H2 B2 e32=> ?_;have hn2:qQ (aQ P w K mg base (some 4)) H2 nk ds:=Paired.imp' (fun e d h=>⟨h.1,(aQ P w K mg base (some 4)).but ((aQ P w K mg base (some 4)).same h.2 S1) e31 trivial B2⟩) e7;refine ND (α:=aE) (xs:=ds) (fun e d=>e.1= .inr d.1/\(aQ P w K mg base (some 4)).at' H2 e.2 d) (fun d=>decide (d.2.2.1= .str z)) (fun d y _=>y= .str d.1) (fun _ _ _ _ h _=>h) (by rw[sizeLine_eq];lia) (rest:=[some (.str z)]) (by rfl) e32 hn2 ?_ ?_ ?_
  ·rintro ⟨kk,v⟩ ⟨n,st,e,lt⟩ H3 ⟨h1,h2⟩ hm s3 R hR;walk_at"g1";obtain⟨q,C9,dx,fs,fp,h3,hq,dcC,l1,l2,l3,l4,l5,mcE,hfp,hlt⟩:=DoorAt.ex h2;walk_at"g2";cases h1;have h3:v= .ref q:=h3;subst h3;have hq:=s3 _ _ hq;have hend:=(hin _ hm).2;have hR':=hR _ (Same.refl _);show (_:TT) (some (V.str n)::some (V.ref q)::[some (.str z)]) H3 R;rcases hend with hend|⟨y,hend,hy⟩
   ·have hde:e= .non:=hend;subst hde;rw[show decide (((n,st,V.non,lt):aE).2.2.1= .str z)=false from decide_eq_false fun z=>nomatch z]at hR';walk_at"go";exact hR'
   ·have hde:e= .str y:=hend;subst hde;rw[show decide (((n,st,V.str y,lt):aE).2.2.1= .str z)=decide (y=z) by
     by_cases h:y=z
     ·rw[decide_eq_true h];exact decide_eq_true (by rw[h])
     ·rw[decide_eq_false h];exact decide_eq_false fun x=>h (V.str.inj x)]at hR'
    walk_at"go";exact hR'
  ·rintro ⟨kk,v⟩ ⟨n,st,e,lt⟩ H3 ⟨h1,h2⟩ hm - s3 R hR;cases h1;show (_:TE) (some (V.str n)::some v::[some (.str z)]) H3 R;walk_at"go";exact hR _ _ rfl (Same.refl _)
  intro ys H3 s3 hys;have ey:=eV hys;walk_at"go";rename_i p H4 n4 S4 e4;refine mF (S4 _ _ (s3 _ _ e32)) fun H5 B5 e5=> ?_;have hpq:p≠qd:=fun z=>by rw[z,s3 _ _ e32]at n4;cases n4
  have hn:H p=none:=by
   cases hq:H p with
   | none=>rfl
   | some u =>
    have:=s3 _ _ (B2 _ _ (S1 _ _ hq) hpq);rw[n4]at this;cases this
  walk_at"go";refine k p H5 hn (t5 e6 (fun x u hx hxa=>B2 _ _ (S1 _ _ hx) hxa) (Same.but (s3.trans S4)) B5 e5) ?_;have:=B5 _ _ e4 hpq;rw[this,ey];unfold iA;rw[List.map_map];rfl
theorem F6 (m:M K mg):Mc P w K mg base m.aH "into" 3 (qZ m.aH (aQ P w K mg base (some 4)) iA):=⟨_,_,_,m.bC.ic.cl,m.HX,m.L3,F5 m⟩
def fL (f l:Int)(d:aE)(t:Int):Int:=if f<=t/\t<l then d.2.2.2 t else 0
inductive wC (C:Addr)(D:bA)(vs:List V)(H:Hp)(Q:VK)(E:XK):Prop
 | mk (h:Addr) (d:aE) (t f l:Int) (rz ps:List (Str×Int)) (ds:List aE) (_:vs=[.ref h,.str d.1,.int t]) (_:aW C D H h f l rz ps ds) (_:(ds.map (·.1)).Nodup) (_:d∈ds) (_:0<=f) (_:∀H',Same H H'->Q (.int (fL f l d t)) H'):wC C D vs H Q E
theorem uV {C:Addr}{D:bA}{H:Hp}{Q:VK}{E:XK}{h:Addr}{d:aE}{t f l:Int}{rz ps:List (Str×Int)}{ds:List aE} (hh:aW C D H h f l rz ps ds) (nd:(ds.map (·.1)).Nodup) (hd:d∈ds) (hf:0<=f) (k:∀H',Same H H'->Q (.int (fL f l d t)) H'):wC C D [.ref h,.str d.1,.int t] H Q E:=⟨_,_,_,_,_,_,_,_,rfl,hh,nd,hd,hf,k⟩
theorem GI (m:M K mg):FnOk P w K mg base CX0 6 m.tF m.tJ ["self","name","turn"] (wC m.aH (aQ P w K mg base (some 4))):=by
 refine m.LK.ok sc_House_lets (fun vs H Q E h=> ?_) (fun cdv A outer s H vs Q E hr h=> ?_)
 ·walk_at"g1";obtain⟨h,d,t,f,l,rz,ps,ds,rfl,hh,ndd,hd,hf,k⟩:=h;walk_at"g2";rfl
 ·walk_at"g1";obtain⟨h,d,t,f,l,rz,ps,ds,rfl,hh,ndd,hd,hf,k⟩:=h;walk_at"g2";have nd:=sc_House_lets.nd;walk_at"hu";have w_dc_House:=m.bC;have w_mc_House_door:= @dX P w K mg base m;refine⟨_,(aC (aU (i:=3) nd rfl (by walk_at"oi") (dD 1 hr (pv 0) (aA (pv 1) aD)))
   (aC (cC (PW.pt (qV (aZ mI (pv 2) (aX (pv 0) rfl) (bD _)) (rU (aZ OO (pv 2) (aX (pv 0) rfl) (bD _))))) (aF (aY aG)) bN)
   (aF (aY (dD 4 hr (pv 3) (aA (pv 2) aD)))))),?_⟩
  refine aT (σ:=[some (.ref h),some (.str d.1),some (.int t),none]) rfl ?_;walk_at"cx";walk_at"g1";obtain⟨dx,qs,qp,qd,nk,kvs,e1,_⟩:=hh.ex;walk_at"g2";walk_at"g1";obtain⟨n,st,e,lt⟩:=d;walk_at"g2";walk_at"go";refine mR (d:=(n,st,e,lt)) hh ndd hd fun v hv=> ?_;walk_at"g1";obtain⟨q2,C2,dx2,fs2,fp2,rfl,hq2,dcC,l1,l2,l3,l4,l5,mcE,hfp,hlt⟩:=DoorAt.ex hv;walk_at"g2";obtain⟨sp,mcL,hsp⟩:=hlt _ rfl;walk_at"go";refine c7 (fun hc=> ?_) (fun hc=> ?_)
  ·have hk:fL f l (n,st,e,lt) t=0:=by unfold fL;rw[if_neg (by lia)]
   rw[hk]at k;walk_at"go";exact k _ (Same.refl _)
  ·walk_at"go";refine c7 (fun hc2=> ?_) (fun hc2=> ?_)
   ·have hk:fL f l (n,st,e,lt) t=0:=by unfold fL;rw[if_neg (by lia)]
    rw[hk]at k;walk_at"go";exact k _ (Same.refl _)
   ·have hk:fL f l (n,st,e,lt) t=lt t:=by unfold fL;rw[if_pos (by lia)]
    rw[hk]at k;walk_at"go";exact hsp _ _ _ hq2 (fun x hx=>(hfp x hx).1) (by lia) k
theorem lE (m:M K mg):Mc P w K mg base m.aH "lets" 6 (wC m.aH (aQ P w K mg base (some 4))):=⟨_,_,_,m.bC.ic.cl,m.HP,m.L0,GI m⟩
def J6 (H:Hp)(v:V)(r:aN):Prop:=∃q,v= .ref q/\H q=some (.tup [.int r.1,.str r.2.1,.int r.2.2])
abbrev cB (H:Hp)(vs:List V)(rows:List aN):Prop:=Paired (J6 H) vs rows
theorem dN {H H':Hp}{vs:List V}{rows:List aN} (h:cB H vs rows) (s:Same H H'):cB H' vs rows:=Paired.imp' (fun v r ⟨q,e,h⟩=>⟨q,e,s _ _ h⟩) h
theorem jD {α β:Type}{F:α->β->Prop}:∀{l:List α}{m:List β},Paired F l m->Paired (fun b a=>F a b) m l
 | _,_,.nil=> .nil
 | _,_,.cons h t=> .cons h (jD t)
def cnt (ns:List Str)(f l:Int)(r:aN):Bool:=decide (r.2.1∈ns)&&(decide (f<=r.1)&&decide (r.1<l))
inductive v4 (K:PySem.W.Frag)(C:Addr)(D:bA)(vs:List V)(H:Hp)(Q:VK)(E:XK):Prop
 | mk (h a:Addr) (f l:Int) (rz ps:List (Str×Int)) (ds:List aE) (us:List V) (rows:List aN) (_:vs=[.ref h,.ref a]) (_:aW C D H h f l rz ps ds) (_:SqL K H a us) (_:cB H us rows) (_:rows.length<=200) (_:∀p ys H',H p=none->Same H H'->H' p=some (.lst ys)->cB H' ys (rows.filter (cnt (ds.map (·.1)) f l))->Q (.ref p) H'):v4 K C D vs H Q E
theorem DS {C:Addr}{D:bA}{H:Hp}{Q:VK}{E:XK}{h a:Addr}{f l:Int}{rz ps:List (Str×Int)}{ds:List aE}{us:List V}{rows:List aN} (hh:aW C D H h f l rz ps ds) (hS:SqL K H a us) (hp:cB H us rows) (hl:rows.length<=200) (k:∀p ys H',H p=none->Same H H'->H' p=some (.lst ys)->cB H' ys (rows.filter (cnt (ds.map (·.1)) f l))->Q (.ref p) H'):v4 K C D [.ref h,.ref a] H Q E:=⟨_,_,_,_,_,_,_,_,_,rfl,hh,hS,hp,hl,k⟩
theorem xQ (m:M K mg):FnOk P w K mg base CX0 2 m.kU m.kQ ["house","plan"] (v4 K m.aH (aQ P w K mg base (some 4))):=by
 refine m.cO.ok sc_rows_that_count (fun vs H Q E h=> ?_) (fun cdv A outer s H vs Q E hr h=> ?_)
 ·walk_at"g1";obtain⟨h,a,f,l,rz,ps,ds,us,rows,rfl,hh,hS,hpl,hlen,k⟩:=h;walk_at"g2";rfl
 ·walk_at"g1";obtain⟨h,a,f,l,rz,ps,ds,us,rows,rfl,hh,hS,hpl,hlen,k⟩:=h;walk_at"g2";have nd:=sc_rows_that_count.nd;walk_at"hu";have w_dc_House:=m.bC;have w_mc_House_doors:= @fT P w K mg base m;refine⟨_,(aC (aU (i:=2) nd rfl (by walk_at"oi") (cF 1 hr (pv 0)))
   (aF (aY (cM (N:=["row","doors","house"]) (nl:=1) (ci:=[2,0]) rfl (blk (s.heap.objs.size+1) rfl rfl rfl (by kernel_rfl)) (bK (pv 1)) (fun _ _ _ _=>(aO (i:=0) (show (["row","doors","house"]:List Str).Nodup by decide +kernel) rfl (by walk_at"oi"))) (fun _ _ _ _=>(jT (PW.pt (JR (aZ (P5 (K:=K)) (eY (rF (K:=K)) (pv 0) aG (fun _ _=>rfl)) (pv 1) (by with_unfolding_all rfl)) (DJ (WU QJ mI (rE (K:=K) (pv 2) rfl) (eY (rF (K:=K)) (pv 0) aG (fun _ _=>rfl)) (rE (K:=K) (pv 2) rfl))))))) (fun _ _ _ _=>(pv 0)))))),?_⟩
  refine aT (σ:=[some (.ref h),some (.ref a),none]) rfl ?_;walk_at"cx";walk_at"g1";obtain⟨dx,qs,qp,qd,nk,kvs,e1,e2,e3,e4,e5,e6,e7⟩:=hh.ex;walk_at"g2";walk_at"go";refine c5 hh fun p1 H1 n1 S1 e8=> ?_;have e11:=S1 _ _ e1;walk_at"go";refine fQ (α:=aN) (xs:=rows) (vs:=us) (J6 H1) (cnt (ds.map (·.1)) f l) (fun r y H=>J6 H y r) (fun _ _ _ _ ⟨q,h1,h2⟩ s=>⟨q,h1,s _ _ h2⟩) (by rw[sizeLine_eq];lia) (rest:=[some (.ref p1),some (.ref h)]) (by rfl) (S1.seq hS) (dN hpl S1) ?_ ?_ ?_
  ·rintro v ⟨t0,n0,j0⟩ H2 ⟨q,rfl,hq⟩ hm s2 R hR;have hq':H2 q=some (.tup [.int t0,.str n0,.int j0]):=s2 _ _ hq;have ep:=s2 _ _ e8;have eh:=s2 _ _ e11;walk_at"go";refine⟨q,_,1,_,rfl,rfl,SqT.of hq',rfl,?_⟩;walk_at"go";refine UX (SqL.of ep) ?_;have hR':=hR _ (Same.refl _);unfold cnt at hR';walk_at"go";refine c7 (fun hc=> ?_) (fun hc=> ?_)
   ·rw[decide_eq_true hc,Bool.true_and]at hR';walk_at"go";refine⟨q,_,0,_,rfl,rfl,SqT.of hq',rfl,?_⟩;walk_at"go";refine c7 (fun hc2=> ?_) (fun hc2=> ?_)
    ·rw[decide_eq_true hc2,Bool.true_and]at hR';walk_at"go";exact hR'
    ·rw[decide_eq_false hc2,Bool.false_and]at hR';exact⟨false,rfl,hR'⟩
   ·rw[decide_eq_false hc,Bool.false_and]at hR';exact hR'
  ·rintro v ⟨t0,n0,j0⟩ H2 ⟨q,rfl,hq⟩ hm - s2 R hR;walk_at"go";exact hR _ _ ⟨q,rfl,s2 _ _ hq⟩ (Same.refl _)
  intro ys H2 s2 hys;have hpl2:=jD hys;walk_at"go";rename_i p3 H3 n3 S3 e33;refine k _ _ _ ?_ ((S1.trans s2).trans S3) e33 (dN hpl2 S3);cases hq:H p3 with
  | none=>rfl
  | some u=>rw[s2 _ _ (S1 _ _ hq)]at n3;cases n3
theorem jU (m:M K mg):Fc P w K mg base "rows_that_count" 2 ["house","plan"] (v4 K m.aH (aQ P w K mg base (some 4))):=⟨_,_,m.zM,m.cO.kp,m.zI,xQ m⟩
def xL (key:aN->Option (List Key))(kvs:List (List Key×V))(r:aN):List (List Key×V):=match key r with
 | some k=>cJ kvs k (.int (vV ((bH kvs k).getD (.int 0))+r.2.2))
 | none=>kvs
def kM (key:aN->Option (List Key))(rows:List aN):List (List Key×V):=rows.foldl (xL key) []
theorem l9 (key:aN->Option (List Key))(rows:List aN)(r:aN):kM key (rows++[r])=xL key (kM key rows) r:=by unfold kM;rw[List.foldl_append];rfl
def d0 (key:aN->Option (List Key))(rows:List aN)(k:List Key):Int:=((rows.filter fun r=>decide (key r=some k)).map (·.2.2)).sum
theorem UV (key:aN->Option (List Key))(rows:List aN)(r:aN)(k:List Key):d0 key (rows++[r]) k=d0 key rows k+if key r=some k then r.2.2 else 0:=by
 unfold d0;rw[List.filter_append,List.map_append,List.sum_append]
 congr 1
 by_cases h:key r=some k
 ·rw[if_pos h];simp[h]
 ·rw[if_neg h];simp[h]
theorem V6 (key:aN->Option (List Key))(k:List Key)(rows:List aN):vV ((bH (kM key rows) k).getD (.int 0))=d0 key rows k:=by
 induction rows using qY with
 | h0=>rfl
 | hs l r ih =>
  rw[l9,UV];unfold xL;cases hk:key r with
  | none =>
   rw[if_neg (by intro z;cases z),Int.add_zero];exact ih
  | some k2 =>
   show vV ((bH (cJ (kM key l) k2 _) k).getD (.int 0))=_;rw[vZ]
   by_cases e:k=k2
   ·subst e;rw[if_pos rfl,if_pos rfl,←ih];rfl
   ·rw[if_neg e,if_neg (fun z=>e (Option.some.inj z).symm),Int.add_zero];exact ih
theorem R4 (key:aN->Option (List Key))(rows:List aN):∀e∈kM key rows,∃i,e.2= .int i:=by
 induction rows using qY with
 | h0=>intro e h;nomatch h
 | hs l r ih =>
  rw[l9];unfold xL;cases hk:key r with
  | none=>exact ih
  | some k2 =>
   intro e he;rcases IL he with h|⟨h1,h2⟩
   ·exact ih e h
   ·exact⟨_,h2⟩
theorem z3 (key:aN->Option (List Key))(rows:List aN)(k:List Key):∃i,(bH (kM key rows) k).getD (.int 0)= .int i:=by
 cases h:bH (kM key rows) k with
 | none=>exact⟨0,rfl⟩
 | some v =>
  obtain⟨i,e⟩:=R4 key rows _ (FO h);exact⟨i,e⟩
theorem IU (key:aN->Option (List Key))(rows:List aN):(kM key rows).length<=rows.length:=by
 induction rows using qY with
 | h0=>exact Nat.le_refl _
 | hs l r ih =>
  rw[l9,List.length_append];unfold xL;cases hk:key r with
  | none=>exact Nat.le_trans ih (Nat.le_add_right _ _)
  | some k2=>exact Nat.le_trans (jA _ _ _) (by simp;lia)
def cQ (ds:List aE)(n:Str):Option aE:=ds.find? fun d=>decide (d.1=n)
theorem j9 {ds:List aE}{n:Str} (h:n∈ds.map (·.1)):∃d∈ds,d.1=n/\cQ ds n=some d:=by
 obtain⟨d,hd,e⟩:=List.mem_map.mp h;cases hf:cQ ds n with
 | none =>
  have:=List.find?_eq_none.mp hf d hd;exact absurd (decide_eq_true e) this
 | some d2 =>
  have h1:decide (d2.1=n)=true:=List.find?_some (p:=fun d:aE=>decide (d.1=n)) hf;exact⟨d2,List.mem_of_find?_eq_some hf,of_decide_eq_true h1,rfl⟩
def dZ (ds:List aE)(r:aN):Option (List Key):=(cQ ds r.2.1).map fun d=>[.inr d.2.1,.inl r.1]
def d8 (ds:List aE)(r:aN):Option (List Key):=(cQ ds r.2.1).bind fun d=>match d.2.2.1 with
 | .str z=>some [.inr z,.inl r.1]
 | _=>none
inductive nX (K:PySem.W.Frag)(C:Addr)(D:bA)(key:List aE->aN->Option (List Key))(vs:List V)(H:Hp)(Q:VK)(E:XK):Prop
 | mk (h a:Addr) (f l:Int) (rz ps:List (Str×Int)) (ds:List aE) (us:List V) (rows:List aN) (_:vs=[.ref h,.ref a]) (_:aW C D H h f l rz ps ds) (_:(ds.map (·.1)).Nodup) (_:(∀d∈ds,dG (rz.map (·.1)) d)) (_:SqL K H a us) (_:cB H us rows) (_:rows.length<=200) (_:∀p H',H p=none->Same H H'->H' p=some (.dT (kM (key ds) (rows.filter (cnt (ds.map (·.1)) f l))))->Q (.ref p) H'):nX K C D key vs H Q E
theorem EC {C:Addr}{D:bA}{key:List aE->aN->Option (List Key)}{H:Hp}{Q:VK}{E:XK}{h a:Addr}{f l:Int}{rz ps:List (Str×Int)}{ds:List aE}{us:List V}{rows:List aN} (hh:aW C D H h f l rz ps ds) (nd:(ds.map (·.1)).Nodup) (hin:∀d∈ds,dG (rz.map (·.1)) d) (hS:SqL K H a us) (hp:cB H us rows) (hl:rows.length<=200) (k:∀p H',H p=none->Same H H'->H' p=some (.dT (kM (key ds) (rows.filter (cnt (ds.map (·.1)) f l))))->Q (.ref p) H'):nX K C D key [.ref h,.ref a] H Q E:=⟨_,_,_,_,_,_,_,_,_,rfl,hh,nd,hin,hS,hp,hl,k⟩
theorem OL (m:M K mg):FnOk P w K mg base CX0 3 m.x0 m.yL ["house","plan"] (nX K m.aH (aQ P w K mg base (some 4)) dZ):=by
 refine m.mG.ok sc_leaving (fun vs H Q E h=> ?_) (fun cdv A outer s H vs Q E hr h=> ?_)
 ·walk_at"g1";obtain⟨h,a,f,l,rz,ps,ds,us,rows,rfl,hh,ndd,hin,hS,hpl,hlen,k⟩:=h;walk_at"g2";rfl
 ·walk_at"g1";obtain⟨h,a,f,l,rz,ps,ds,us,rows,rfl,hh,ndd,hin,hS,hpl,hlen,k⟩:=h;walk_at"g2";have nd:=sc_leaving.nd;walk_at"hu";have cO:= @jU P w K mg base m;have w_dc_House:=m.bC;have w_mc_House_door:= @dX P w K mg base m;refine⟨_,(aC (aU (i:=2) nd rfl (by walk_at"oi") wF)
   (aC (cS PassesOwn.never rfl (bK (bG cO hr (aA (pv 0) (aA (pv 1) aD)))) (o7 (n:=3) rfl (bF (aO (i:=3) nd rfl (by walk_at"oi")) (bF (aO (i:=4) nd rfl (by walk_at"oi")) (bF (aO (i:=5) nd rfl (by walk_at"oi")) dW)))) (aC (aU (i:=6) nd rfl (by walk_at"oi") (cD (aA (aX (dD 1 hr (pv 0) (aA (pv 4) aD)) rfl) (aA (pv 3) aD))))
   (aF (fR hu1 (pv 2) (pv 6) (aI bO (nO hu1 (pv 2) (pv 6) aG ⟨rfl,rfl,rfl,rfl⟩) (pv 5)) rfl))))
   (aF (aY (pv 2))))),?_⟩
  refine aT (σ:=[some (.ref h),some (.ref a),none,none,none,none,none]) rfl ?_;walk_at"cx";walk_at"go";rename_i p H1 n1 S1 ep;refine DS (aK hh S1) (S1.seq hS) (dN hpl S1) hlen fun q ys H2 n2 S2 eq hcr=> ?_;generalize hce:rows.filter (cnt (ds.map (·.1)) f l)=cr at hcr k;have hcn:∀r∈cr,r.2.1∈ds.map (·.1):=fun r hr=>by
   rw[←hce]at hr;have:=(List.mem_filter.mp hr).2;unfold cnt at this;rw[Bool.and_eq_true]at this;exact of_decide_eq_true this.1
  have hcl:cr.length<=200:=by rw[←hce];exact Nat.le_trans (List.length_filter_le _ _) hlen
  have hyl:ys.length=cr.length:=Paired.length hcr;have ep2:=S2 _ _ ep;have hqp:q≠p:=fun z=>by rw[z,ep]at n2;cases n2
  have hh2:=aK hh (S1.trans S2);have npd:∀x u,H x=some u->x≠p:=fun x u hx z=>by rw[z,n1]at hx;cases hx
  walk_at"go";let Pv1:Nat->St->Hp->Prop:=fun i σ' H'=>SameBut p H2 H'/\H' p=some (.dT (kM (dZ ds) (cr.take i)))/\∃x y z u,σ'=[some (.ref h),some (.ref a),some (.ref p),x,y,z,u];refine dU ys Pv1 ⟨SameBut.refl,ep2,_,_,_,_,rfl⟩ (fun i σ' H' _ g=>SqL.of (g.1 _ _ eq hqp)) ?_ ?_
  ·rintro i x _ H' hx hq_;walk_at"g1";obtain⟨sb,ek,x1,x2,x3,x4,rfl⟩:=hq_;walk_at"g2";have hi:i<ys.length:=(List.getElem?_eq_some_iff.mp hx).1;obtain⟨⟨t,n,j⟩,hrx⟩:∃r,cr[i]? =some r:=⟨_,List.getElem?_eq_getElem (by lia)⟩
   obtain⟨q1,rfl,hq1⟩:=Paired.at2 hcr hx hrx;have hq1':H' q1=some (.tup [.int t,.str n,.int j]):=sb _ _ hq1 fun z=>by rw[z,ep2]at hq1;cases hq1
   have sH:Same H H':=fun x u hx=>sb _ _ (S2 _ _ (S1 _ _ hx)) (npd x u hx);have hh':=aK hh sH;walk_at"g1";obtain⟨dx,qs,qp,qd,nk,kvs,e1,_⟩:=hh'.ex;walk_at"g2";walk_at"g1";obtain⟨⟨dn,dst,de,dw⟩,hd,rfl,hdo⟩:=j9 (hcn _ (List.mem_of_getElem? hrx));walk_at"g2";have hkey:dZ ds (t,dn,j)=some [.inr dst,.inl t]:=by
    unfold dZ;rw[show cQ ds ((t,dn,j):aN).2.1=some (dn,dst,de,dw) from hdo];rfl
   obtain⟨i0,ei⟩:=z3 (dZ ds) (cr.take i) [.inr dst,.inl t];have hkl:=IU (dZ ds) (cr.take i);rw[List.length_take]at hkl;walk_at"go";refine mR (d:=(dn,dst,de,dw)) hh' ndd hd fun v hv=> ?_;walk_at"g1";obtain⟨q2,C2,dx2,fs2,fp2,rfl,hq2,dcC,l1,l2,l3,l4,l5,mcE,hfp,hlt⟩:=DoorAt.ex hv;walk_at"g2";walk_at"go";rename_i b3 H3 n3 S3 e3;refine mE (S3 _ _ ek) ?_;walk_at"go";refine nU [.inr dst,.inl t] (S3 _ _ ek) e3 ?_;rw[ei];walk_at"go";refine rY [.inr dst,.inl t] (S3 _ _ ek) e3 (by rw[sizeLine_eq];lia) fun H4 B4 e4=> ?_;refine⟨(sb.trans S3.but).trans B4,?_,_,_,_,_,rfl⟩;rw[e4,cA hrx,l9];unfold xL;rw[hkey];show _=some (HO.dT (cJ _ _ (.int (vV ((bH _ _).getD (.int 0))+j))));rw[ei];rfl
  ·rintro _ H' hq_;walk_at"g1";obtain⟨sb,ek,x1,x2,x3,x4,rfl⟩:=hq_;walk_at"g2";rw[hyl,List.take_length]at ek;walk_at"go";exact k _ _ n1 (fun x u hx=>sb _ _ (S2 _ _ (S1 _ _ hx)) (npd x u hx)) ek
theorem CB (m:M K mg):Fc P w K mg base "leaving" 3 ["house","plan"] (nX K m.aH (aQ P w K mg base (some 4)) dZ):=⟨_,_,m.UZ,m.mG.kp,m.U4,OL m⟩
theorem UY (m:M K mg):FnOk P w K mg base CX0 3 m.A5 m.AY ["house","plan"] (nX K m.aH (aQ P w K mg base (some 4)) d8):=by
 refine m.wM.ok sc_coming (fun vs H Q E h=> ?_) (fun cdv A outer s H vs Q E hr h=> ?_)
 ·walk_at"g1";obtain⟨h,a,f,l,rz,ps,ds,us,rows,rfl,hh,ndd,hin,hS,hpl,hlen,k⟩:=h;walk_at"g2";rfl
 ·walk_at"g1";obtain⟨h,a,f,l,rz,ps,ds,us,rows,rfl,hh,ndd,hin,hS,hpl,hlen,k⟩:=h;walk_at"g2";have nd:=sc_coming.nd;walk_at"hu";have cO:= @jU P w K mg base m;have w_dc_House:=m.bC;have w_mc_House_door:= @dX P w K mg base m;refine⟨_,(aC (aU (i:=2) nd rfl (by walk_at"oi") wF)
   (aC (cS PassesOwn.never rfl (bK (bG cO hr (aA (pv 0) (aA (pv 1) aD)))) (o7 (n:=3) rfl (bF (aO (i:=3) nd rfl (by walk_at"oi")) (bF (aO (i:=4) nd rfl (by walk_at"oi")) (bF (aO (i:=5) nd rfl (by walk_at"oi")) dW)))) (aC (aU (i:=6) nd rfl (by walk_at"oi") (dD 1 hr (pv 0) (aA (pv 4) aD)))
   (aF (cC (rP (kY (cF 1 hr (pv 6)))) (aC (aU (i:=7) nd rfl (by walk_at"oi") (cD (aA (aX (pv 6) rfl) (aA (pv 3) aD))))
   (aF (fR hu1 (pv 2) (pv 7) (aI bO (nO hu1 (pv 2) (pv 7) aG ⟨rfl,rfl,rfl,rfl⟩) (pv 5)) rfl))) bN))))
   (aF (aY (pv 2))))),?_⟩
  refine aT (σ:=[some (.ref h),some (.ref a),none,none,none,none,none,none]) rfl ?_;walk_at"cx";walk_at"go";rename_i p H1 n1 S1 ep;refine DS (aK hh S1) (S1.seq hS) (dN hpl S1) hlen fun q ys H2 n2 S2 eq hcr=> ?_;generalize hce:rows.filter (cnt (ds.map (·.1)) f l)=cr at hcr k;have hcn:∀r∈cr,r.2.1∈ds.map (·.1):=fun r hr=>by
   rw[←hce]at hr;have:=(List.mem_filter.mp hr).2;unfold cnt at this;rw[Bool.and_eq_true]at this;exact of_decide_eq_true this.1
  have hcl:cr.length<=200:=by rw[←hce];exact Nat.le_trans (List.length_filter_le _ _) hlen
  have hyl:ys.length=cr.length:=Paired.length hcr;have ep2:=S2 _ _ ep;have hqp:q≠p:=fun z=>by rw[z,ep]at n2;cases n2
  have hh2:=aK hh (S1.trans S2);have npd:∀x u,H x=some u->x≠p:=fun x u hx z=>by rw[z,n1]at hx;cases hx
  walk_at"go";let Pv2:Nat->St->Hp->Prop:=fun i σ' H'=>SameBut p H2 H'/\H' p=some (.dT (kM (d8 ds) (cr.take i)))/\∃x y z u w,σ'=[some (.ref h),some (.ref a),some (.ref p),x,y,z,u,w];refine dU ys Pv2 ⟨SameBut.refl,ep2,_,_,_,_,_,rfl⟩ (fun i σ' H' _ g=>SqL.of (g.1 _ _ eq hqp)) ?_ ?_
  ·rintro i x _ H' hx hq_;walk_at"g1";obtain⟨sb,ek,x1,x2,x3,x4,x5,rfl⟩:=hq_;walk_at"g2";have hi:i<ys.length:=(List.getElem?_eq_some_iff.mp hx).1;obtain⟨⟨t,n,j⟩,hrx⟩:∃r,cr[i]? =some r:=⟨_,List.getElem?_eq_getElem (by lia)⟩
   obtain⟨q1,rfl,hq1⟩:=Paired.at2 hcr hx hrx;have hq1':H' q1=some (.tup [.int t,.str n,.int j]):=sb _ _ hq1 fun z=>by rw[z,ep2]at hq1;cases hq1
   have sH:Same H H':=fun x u hx=>sb _ _ (S2 _ _ (S1 _ _ hx)) (npd x u hx);have hh':=aK hh sH;walk_at"g1";obtain⟨dx,qs,qp,qd,nk,kvs,e1,_⟩:=hh'.ex;walk_at"g2";walk_at"g1";obtain⟨⟨dn,dst,de,dw⟩,hd,rfl,hdo⟩:=j9 (hcn _ (List.mem_of_getElem? hrx));walk_at"g2";have hkl:=IU (d8 ds) (cr.take i);rw[List.length_take]at hkl;have hend:=(hin _ hd).2;walk_at"go";refine mR (d:=(dn,dst,de,dw)) hh' ndd hd fun v hv=> ?_;walk_at"g1";obtain⟨q2,C2,dx2,fs2,fp2,rfl,hq2,dcC,l1,l2,l3,l4,l5,mcE,hfp,hlt⟩:=DoorAt.ex hv;walk_at"g2";rcases hend with hend|⟨z,hend,hz⟩
   ·have hde:de= .non:=hend;subst hde;have hkey:d8 ds (t,dn,j)=none:=by
     unfold d8;rw[show cQ ds ((t,dn,j):aN).2.1=some (dn,dst,.non,dw) from hdo];rfl
    walk_at"go";refine⟨sb,?_,_,_,_,_,_,rfl⟩;rw[ek,cA hrx,l9];unfold xL;rw[hkey]
   ·have hde:de= .str z:=hend;subst hde;have hkey:d8 ds (t,dn,j)=some [.inr z,.inl t]:=by
     unfold d8;rw[show cQ ds ((t,dn,j):aN).2.1=some (dn,dst,.str z,dw) from hdo];rfl
    obtain⟨i0,ei⟩:=z3 (d8 ds) (cr.take i) [.inr z,.inl t];walk_at"go";rename_i b3 H3 n3 S3 e3;refine mE (S3 _ _ ek) ?_;walk_at"go";refine nU [.inr z,.inl t] (S3 _ _ ek) e3 ?_;rw[ei];walk_at"go";refine rY [.inr z,.inl t] (S3 _ _ ek) e3 (by rw[sizeLine_eq];lia) fun H4 B4 e4=> ?_;refine⟨(sb.trans S3.but).trans B4,?_,_,_,_,_,_,rfl⟩;rw[e4,cA hrx,l9];unfold xL;rw[hkey];show _=some (HO.dT (cJ _ _ (.int (vV ((bH _ _).getD (.int 0))+j))));rw[ei];rfl
  ·rintro _ H' hq_;walk_at"g1";obtain⟨sb,ek,x1,x2,x3,x4,x5,rfl⟩:=hq_;walk_at"g2";rw[hyl,List.take_length]at ek;walk_at"go";exact k _ _ n1 (fun x u hx=>sb _ _ (S2 _ _ (S1 _ _ hx)) (npd x u hx)) ek
theorem UQ (m:M K mg):Fc P w K mg base "coming" 3 ["house","plan"] (nX K m.aH (aQ P w K mg base (some 4)) d8):=⟨_,_,m.X9,m.wM.kp,m.X3,UY m⟩
theorem AG (key:aN->Option (List Key))(rows:List aN)(k:List Key):(bH (kM key rows) k).getD (.int 0)= .int (d0 key rows k):=by
 obtain⟨i,e⟩:=z3 key rows k;have h:=V6 key k rows;rw[e]at h ⊢;rw[←h];rfl
theorem pairsN_mem {rz:List (Str×Int)}{f:Int}{z:Str}{t:Int}:∀{n:Nat},(z,t)∈bL rz f n↔z∈rz.map (·.1)/\∃i:Nat,i<n/\t=f+i
 | 0=>⟨(fun h=>by cases h),(fun⟨_,i,h,_⟩=>absurd h (Nat.not_lt_zero _))⟩
 | n+1=>by
  rw[k8,List.mem_append,pairsN_mem (n:=n)]
  constructor
  ·rintro (⟨h1,i,h2,h3⟩|h)
   ·exact⟨h1,i,by lia,h3⟩
   ·obtain⟨e,he,ee⟩:=List.mem_map.mp h;cases ee;exact⟨List.mem_map.mpr ⟨e,he,rfl⟩,n,by lia,rfl⟩
  ·rintro hq_;walk_at"g1";obtain⟨h1,i,h2,h3⟩:=hq_;walk_at"g2"
   by_cases hi:i=n
   ·subst hi;obtain⟨e,he,rfl⟩:=List.mem_map.mp h1;exact .inr (List.mem_map.mpr ⟨e,he,by rw[h3]⟩)
   ·exact .inl ⟨h1,i,by lia,h3⟩
theorem iO {rz:List (Str×Int)}(nd:(rz.map (·.1)).Nodup)(f:Int):∀n,(bL rz f n).Nodup
 | 0=>by simp[bL]
 | n+1=>by
  rw[k8,List.nodup_append];refine⟨iO nd f n,?_,?_⟩
  ·rw[List.Nodup,List.pairwise_map]at nd ⊢;exact nd.imp fun h z=>h (Prod.mk.inj z).1
  ·intro a ha b hb e;subst e;obtain⟨z,t⟩:=a;walk_at"g1";obtain⟨_,i,hi,ht⟩:=pairsN_mem.mp ha;walk_at"g2";obtain⟨e,_,ee⟩:=List.mem_map.mp hb;cases ee
   lia
theorem BH (rz:List (Str×Int))(f:Int)(m:Nat):∀k,∃l,bL rz f (m+k)=bL rz f m++l
 | 0=>⟨[],by rw[Nat.add_zero,List.append_nil]⟩
 | k+1=>by
  obtain⟨l,e⟩:=BH rz f m k;exact⟨l++_,by rw[←Nat.add_assoc,k8,e,List.append_assoc]⟩
theorem KB {rz:List (Str×Int)}{f:Int}{n i:Nat}{z:Str}{t:Int} (h:(bL rz f n)[i]? =some (z,t)) (ht:t≠f):(z,t - 1)∈(bL rz f n).take i/\f<t:=by
 have hi:=(List.getElem?_eq_some_iff.mp h).1;walk_at"g1";obtain⟨hz,m,hm,rfl⟩:=pairsN_mem.mp (List.mem_of_getElem? h);walk_at"g2";have hm0:0<m:=by
  cases m with
  | zero=>exact absurd (by simp) ht
  | succ m=>exact Nat.succ_pos _
 obtain⟨l,el⟩:=BH rz f m (n - m);rw[show m+(n - m)=n by lia]at el;have hge:(bL rz f m).length<=i:=by
  rcases Nat.lt_or_ge i (bL rz f m).length with hlt|hge
  ·rw[el,List.getElem?_append_left hlt]at h;walk_at"g1";obtain⟨_,j,hj,ej⟩:=pairsN_mem.mp (List.mem_of_getElem? h);walk_at"g2"
   lia
  ·exact hge
 refine⟨?_,by lia⟩;have h1:(z,f+(m:Int) - 1)∈bL rz f m:=pairsN_mem.mpr ⟨hz,m - 1,by lia,by lia⟩;rw[el,List.take_append,List.take_of_length_le hge];exact List.mem_append_left _ h1
def bB (p:Str×Int):List Key:=[.inr p.1,.inl p.2]
theorem lU {a b:Str×Int}(h:bB a=bB b):a=b:=by
 unfold bB at h;injection h with h1 h2;injection h2 with h2;exact Prod.ext (Sum.inr.inj h1) (Sum.inl.inj h2)
def cY (ps:List (Str×Int))(L C:List Key->Int)(z:Str)(f:Int):Nat->Int
 | 0=>cU ps z
 | n+1=>cY ps L C z f n - L (bB (z,f+(n:Int)))+C (bB (z,f+(n:Int)))
def jW (ps:List (Str×Int))(L C:List Key->Int)(f:Int)(pp:List (Str×Int)):List (List Key×V):=pp.map fun p=>(bB p,V.int (cY ps L C p.1 f (p.2 - f).toNat))
theorem rW {ps:List (Str×Int)}{L C:List Key->Int}{f:Int}{pp:List (Str×Int)} (nd:pp.Nodup) {p:Str×Int} (h:p∈pp):bH (jW ps L C f pp) (bB p)=some (.int (cY ps L C p.1 f (p.2 - f).toNat)):=by
 refine nM (e:=(bB p,V.int (cY ps L C p.1 f (p.2 - f).toNat))) ?_ (List.mem_map.mpr ⟨p,h,rfl⟩);unfold jW;rw[List.map_map,List.Nodup,List.pairwise_map];exact nd.imp fun hne z=>hne (lU z)
theorem KJ {ps:List (Str×Int)}{L C:List Key->Int}{f:Int}{pp:List (Str×Int)}{p:Str×Int} (h:p∉pp):bH (jW ps L C f pp) (bB p)=none:=by
 have:∀e∈jW ps L C f pp,e.1≠bB p:=fun e he z=>by
  obtain⟨q,hq,rfl⟩:=List.mem_map.mp he;exact h (lU z▸hq)
 revert this;generalize jW ps L C f pp=kvs;intro this
 induction kvs with
 | nil=>rfl
 | cons a l ih =>
  rw[dI (this a (.head _))];exact ih fun e he=>this e (List.mem_cons_of_mem _ he)
inductive AB (K:PySem.W.Frag)(C:Addr)(D:bA)(vs:List V)(H:Hp)(Q:VK)(E:XK):Prop
 | mk (h a:Addr) (f l:Int) (rz ps:List (Str×Int)) (ds:List aE) (us:List V) (rows:List aN) (_:vs=[.ref h,.ref a]) (_:aW C D H h f l rz ps ds) (_:(rz.map (·.1)).Nodup) (_:(ds.map (·.1)).Nodup) (_:(∀d∈ds,dG (rz.map (·.1)) d)) (_:0<=f) (_:f<=l) (_:l<1000000000000) (_:l - f<=1000) (_:rz.length<=20) (_:SqL K H a us) (_:cB H us rows) (_:rows.length<=200) (_:∀p H',H p=none->Same H H'->H' p=some (.dT (jW ps (d0 (dZ ds) (rows.filter (cnt (ds.map (·.1)) f l))) (d0 (d8 ds) (rows.filter (cnt (ds.map (·.1)) f l))) f (bL rz f (l+1 - f).toNat)))->Q (.ref p) H'):AB K C D vs H Q E
theorem VQ (m:M K mg):FnOk P w K mg base CX0 4 m.EN m.E3 ["house","plan"] (AB K m.aH (aQ P w K mg base (some 4))):=by
 refine m.mH.ok sc_there (fun vs H Q E h=> ?_) (fun cdv A outer s H vs Q E hr h=> ?_)
 ·walk_at"g1";obtain⟨h,a,f,l,rz,ps,ds,us,rows,rfl,hh,nr,ndd,hin,h0,h1,h2,h3,lr,hS,hpl,hlen,k⟩:=h;walk_at"g2";rfl
 ·walk_at"g1";obtain⟨h,a,f,l,rz,ps,ds,us,rows,rfl,hh,nr,ndd,hin,h0,h1,h2,h3,lr,hS,hpl,hlen,k⟩:=h;walk_at"g2";have nd:=sc_there.nd;walk_at"hu";have wM:= @UQ P w K mg base m;have mG:= @CB P w K mg base m;have w_dc_House:=m.bC;have w_mc_House_pairs:= @nQ P w K mg base m;have w_mc_House_found:= @kA P w K mg base m;refine⟨_,(aC (aU (i:=2) nd rfl (by walk_at"oi") (bG mG hr (aA (pv 0) (aA (pv 1) aD))))
   (aC (aU (i:=3) nd rfl (by walk_at"oi") (bG wM hr (aA (pv 0) (aA (pv 1) aD))))
   (aC (aU (i:=4) nd rfl (by walk_at"oi") wF)
   (aC (cS PassesOwn.never rfl (bK (cF 1 hr (pv 0))) (o7 (n:=2) rfl (bF (aO (i:=5) nd rfl (by walk_at"oi")) (bF (aO (i:=6) nd rfl (by walk_at"oi")) dW))) (aF (cC (aZ jK (pv 6) (aX (pv 0) rfl) (bD _)) (aF (fR hu1 (pv 4) (cD (aA (pv 5) (aA (pv 6) aD))) (dD 3 hr (pv 0) (aA (pv 5) aD)) rfl)) (aC (aU (i:=7) nd rfl (by walk_at"oi") (cD (aA (pv 5) (aA (aI i8 (pv 6) aG) aD))))
   (aF (fR hu1 (pv 4) (cD (aA (pv 5) (aA (pv 6) aD))) (aI bO (aI i8 (bR hu1 (pv 4) (pv 7) (fun _ _=>rfl)) (nO hu1 (pv 2) (pv 7) aG ⟨rfl,rfl,rfl,rfl⟩)) (nO hu1 (pv 3) (pv 7) aG ⟨rfl,rfl,rfl,rfl⟩)) rfl))))))
   (aF (aY (pv 4))))))),?_⟩
  refine aT (σ:=[some (.ref h),some (.ref a),none,none,none,none,none,none]) rfl ?_;walk_at"cx";walk_at"g1";obtain⟨dx,qs,qp,qd,nk,kvs,e1,_⟩:=hh.ex;walk_at"g2";walk_at"go";refine EC hh ndd hin hS hpl hlen fun pL H1 n1 S1 eL=> ?_;walk_at"go";refine EC (aK hh S1) ndd hin (S1.seq hS) (dN hpl S1) hlen fun pC H2 n2 S2 eC=> ?_;have e12:=S2 _ _ (S1 _ _ e1);walk_at"go";rename_i p H3 n3 S3 ep;have e13:=S3 _ _ e12;walk_at"go";have sA:Same H H3:=(S1.trans S2).trans S3;refine D4 (aK hh sA) h0 h1 h2 h3 lr fun q ys H4 n4 S4 eq hpp=> ?_;have ep4:=S4 _ _ ep;have hqp:q≠p:=fun z=>by rw[z,ep]at n4;cases n4
  have npd:∀x u,H2 x=some u->x≠p:=fun x u hx z=>by rw[z,n3]at hx;cases hx
  have pnd:=iO nr f (l+1 - f).toNat;have pll:=qP rz f (l+1 - f).toNat;have plb:(l+1 - f).toNat * rz.length<=1001 * 20:=Nat.mul_le_mul (by lia) lr;have hyl:ys.length=(bL rz f (l+1 - f).toNat).length:=Paired.length hpp;generalize hLe:d0 (dZ ds) (rows.filter (cnt (ds.map (·.1)) f l))=LL at k;generalize hCe:d0 (d8 ds) (rows.filter (cnt (ds.map (·.1)) f l))=CC at k;walk_at"go";let Pv1:Nat->St->Hp->Prop:=fun i σ' H'=>SameBut p H4 H'/\H' p=some (.dT (jW ps LL CC f ((bL rz f (l+1 - f).toNat).take i)))/\∃x y z,σ'=[some (.ref h),some (.ref a),some (.ref pL),some (.ref pC),some (.ref p),x,y,z];refine dU ys Pv1 ⟨SameBut.refl,ep4,_,_,_,rfl⟩ (fun i σ' H' _ g=>SqL.of (g.1 _ _ eq hqp)) ?_ ?_
  ·rintro i x _ H' hx hq_;walk_at"g1";obtain⟨sb,ek,x1,x2,x3,rfl⟩:=hq_;walk_at"g2";have hi:i<ys.length:=(List.getElem?_eq_some_iff.mp hx).1;obtain⟨⟨z,t⟩,hrx⟩:∃r,(bL rz f (l+1 - f).toNat)[i]? =some r:=⟨_,List.getElem?_eq_getElem (by lia)⟩
   obtain⟨q1,rfl,hq1⟩:=Paired.at2 hpp hx hrx;have hq1':H' q1=some (.tup [.str z,.int t]):=sb _ _ hq1 fun zz=>by rw[zz,ep4]at hq1;cases hq1
   have sH2:Same H2 H':=fun x u hx=>sb _ _ (S4 _ _ (S3 _ _ hx)) (npd x u hx);have hh':=aK hh ((S1.trans S2).trans sH2);have e1':=sH2 _ _ e12;have eL':=sH2 _ _ (S2 _ _ eL);have eC':=sH2 _ _ eC;have hz:z∈rz.map (·.1):=(pairsN_mem.mp (List.mem_of_getElem? hrx)).1;have hnew:(z,t)∉(bL rz f (l+1 - f).toNat).take i:=nL pnd hrx;have hkl:(jW ps LL CC f ((bL rz f (l+1 - f).toNat).take i)).length<=20020:=by unfold jW;rw[List.length_map,List.length_take];lia
   have nd':((bL rz f (l+1 - f).toNat).take i).Nodup:=pnd.sublist (List.take_sublist _ _);walk_at"go";refine c7 (fun hc=> ?_) (fun hc=> ?_)
   ·subst hc;walk_at"go";refine zC hh' nr hz fun H5 S5=> ?_;walk_at"go";rename_i b6 H6 n6 S6 e6;have ek6:=S6 _ _ (S5 _ _ ek);refine rY (bB (z,t)) ek6 e6 (by rw[sizeLine_eq];lia) fun H7 B7 e7=> ?_;refine⟨(sb.trans (S5.trans S6).but).trans B7,?_,_,_,_,rfl⟩;rw[e7,rO _ (KJ hnew),cA hrx];unfold jW;rw[List.map_append]
    congr 3
    show [(bB (z,t),V.int (cU ps z))]=[(bB (z,t),V.int (cY ps LL CC z t (t - t).toNat))];rw[show (t - t).toNat=0 by lia];rfl
   ·obtain⟨hah,hft⟩:=KB hrx hc;have gL:(bH (kM (dZ ds) (rows.filter (cnt (ds.map (·.1)) f l))) (bB (z,t - 1))).getD (.int 0)= .int (LL (bB (z,t - 1))):=by rw[←hLe];exact AG _ _ _
    have gC:(bH (kM (d8 ds) (rows.filter (cnt (ds.map (·.1)) f l))) (bB (z,t - 1))).getD (.int 0)= .int (CC (bB (z,t - 1))):=by rw[←hCe];exact AG _ _ _
    walk_at"go";rename_i b6 H6 n6 S6 e6;refine nR (bB (z,t - 1)) (.inl (S6 _ _ ek)) e6 (rW nd' hah) ?_;walk_at"go";refine mE (S6 _ _ eL') ?_;walk_at"go";refine nU (bB (z,t - 1)) (S6 _ _ eL') e6 ?_;rw[gL];walk_at"go";refine mE (S6 _ _ eC') ?_;walk_at"go";refine nU (bB (z,t - 1)) (S6 _ _ eC') e6 ?_;rw[gC];walk_at"go";rename_i b8 H8 n8 S8 e8;have ek8:=S8 _ _ (S6 _ _ ek);refine rY (bB (z,t)) ek8 e8 (by rw[sizeLine_eq];lia) fun H9 B9 e9=> ?_;refine⟨(sb.trans (S6.trans S8).but).trans B9,?_,_,_,_,rfl⟩;rw[e9,rO _ (KJ hnew),cA hrx];unfold jW;rw[List.map_append]
    congr 3
    show [(bB (z,t),V.int (cY ps LL CC z f (t - 1 - f).toNat - LL (bB (z,t - 1))+CC (bB (z,t - 1))))]=[(bB (z,t),V.int (cY ps LL CC z f (t - f).toNat))];rw[show (t - f).toNat=(t - 1 - f).toNat+1 by lia];show _=[(bB (z,t),V.int (cY ps LL CC z f (t - 1 - f).toNat - LL (bB (z,f+((t - 1 - f).toNat:Int)))+CC (bB (z,f+((t - 1 - f).toNat:Int)))))];rw[show f+((t - 1 - f).toNat:Int)=t - 1 by lia]
  ·rintro _ H' hq_;walk_at"g1";obtain⟨sb,ek,x1,x2,x3,rfl⟩:=hq_;walk_at"g2";rw[hyl,List.take_length]at ek;walk_at"go";refine k _ _ ?_ (fun x u hx=>sb _ _ (S4 _ _ (S3 _ _ (S2 _ _ (S1 _ _ hx)))) (npd x u (S2 _ _ (S1 _ _ hx)))) ek;cases hq:H p with
   | none=>rfl
   | some u=>rw[S2 _ _ (S1 _ _ hq)]at n3;cases n3
theorem AM (m:M K mg):Fc P w K mg base "there" 4 ["house","plan"] (AB K m.aH (aQ P w K mg base (some 4))):=⟨_,_,m.aBq,m.mH.kp,m.aBl,VQ m⟩
def kF (ds:List aE)(n:Str):Bool:=match cQ ds n with
 | some d=>decide (d.2.2.1= .non)
 | none=>false
def w6 (ds:List aE)(f l:Int)(rows:List aN)(t:Int):Int:=(((rows.filter (cnt (ds.map (·.1)) f l)).filter fun r=>decide (r.1<t)&&kF ds r.2.1).map (·.2.2)).sum
inductive AH (K:PySem.W.Frag)(C:Addr)(D:bA)(vs:List V)(H:Hp)(Q:VK)(E:XK):Prop
 | mk (h a:Addr) (t f l:Int) (rz ps:List (Str×Int)) (ds:List aE) (us:List V) (rows:List aN) (_:vs=[.ref h,.ref a,.int t]) (_:aW C D H h f l rz ps ds) (_:(ds.map (·.1)).Nodup) (_:(∀d∈ds,dG (rz.map (·.1)) d)) (_:SqL K H a us) (_:cB H us rows) (_:rows.length<=200) (_:∀H',Same H H'->Q (.int (w6 ds f l rows t)) H'):AH K C D vs H Q E
theorem R1 (m:M K mg):FnOk P w K mg base CX0 3 m.A9 m.AX ["house","plan","turn"] (AH K m.aH (aQ P w K mg base (some 4))):=by
 refine m.wH.ok sc_out_by (fun vs H Q E h=> ?_) (fun cdv A outer s H vs Q E hr h=> ?_)
 ·walk_at"g1";obtain⟨h,a,t,f,l,rz,ps,ds,us,rows,rfl,hh,ndd,hin,hS,hpl,hlen,k⟩:=h;walk_at"g2";rfl
 ·walk_at"g1";obtain⟨h,a,t,f,l,rz,ps,ds,us,rows,rfl,hh,ndd,hin,hS,hpl,hlen,k⟩:=h;walk_at"g2";have nd:=sc_out_by.nd;walk_at"hu";have cO:= @jU P w K mg base m;have w_dc_House:=m.bC;have w_mc_House_door:= @dX P w K mg base m;refine⟨_,(aC (aU (i:=3) nd rfl (by walk_at"oi") (bG cO hr (aA (pv 0) (aA (pv 1) aD))))
   (aF (aY (bV (xU rfl) rfl m.IG CU (aA (cM (N:=["at","name","number","turn","house"]) (nl:=3) (ci:=[2,0]) rfl (blk (s.heap.objs.size+1) rfl rfl rfl (by kernel_rfl)) (bK (pv 3)) (fun _ _ _ _=>(kG (K:=K) (n:=3) rfl (bF (aO (i:=0) (show (["at","name","number","turn","house"]:List Str).Nodup by decide +kernel) rfl (by walk_at"oi")) (bF (aO (i:=1) (show (["at","name","number","turn","house"]:List Str).Nodup by decide +kernel) rfl (by walk_at"oi")) (bF (aO (i:=2) (show (["at","name","number","turn","house"]:List Str).Nodup by decide +kernel) rfl (by walk_at"oi")) dW))))) (fun _ _ _ _=>(jT (PW.pt (JR (aZ mI (pv 0) (pv 3) (bD _)) (DJ (kY (Z3 (P:=P) (w:=w) (K:=K) (mg:=mg) (base:=base) 1 hr (o0 (P:=P) (w:=w) (K:=K) (mg:=mg) (base:=base) 1 hr (pv 4) (aA (pv 1) aD))))))))) (fun _ _ _ _=>(pv 2))) aD))))),?_⟩
  refine aT (σ:=[some (.ref h),some (.ref a),some (.int t),none]) rfl ?_;walk_at"cx";walk_at"go";refine DS hh hS hpl hlen fun q ys H1 n1 S1 eq hcr=> ?_;unfold w6 at k;generalize hce:rows.filter (cnt (ds.map (·.1)) f l)=cr at hcr k;have hcn:∀r∈cr,r.2.1∈ds.map (·.1):=fun r hr=>by
   rw[←hce]at hr;have:=(List.mem_filter.mp hr).2;unfold cnt at this;rw[Bool.and_eq_true]at this;exact of_decide_eq_true this.1
  have hcl:cr.length<=200:=by rw[←hce];exact Nat.le_trans (List.length_filter_le _ _) hlen
  have hyl:ys.length=cr.length:=Paired.length hcr;have hh1:=aK hh S1;walk_at"go";refine aA4 (α:=aN) (xs:=cr) (vs:=ys) (fun r=> .int r.1) (fun r=> .str r.2.1) (fun r=> .int r.2.2) (fun r=>decide (r.1<t)&&kF ds r.2.1) (fun r y _=>y= .int r.2.2) (fun _ _ _ _ h _=>h) (by rw[sizeLine_eq];lia) (rest:=[some (.int t),some (.ref h)]) (by rfl) (SqL.of eq) hcr ?_ ?_ ?_
  ·rintro ⟨t0,n0,j0⟩ H2 hm s2 R hR;have hR':=hR _ (Same.refl _);have hh2:=aK hh1 s2;walk_at"g1";obtain⟨dx,qs,qp,qd,nk,kvs,e1,_⟩:=hh2.ex;walk_at"g2";walk_at"g1";obtain⟨⟨dn,dst,de,lt⟩,hd,rfl,hdo⟩:=j9 (hcn _ hm);walk_at"g2";have hend:=(hin _ hd).2;have hx:kF ds dn=decide (de= .non):=by unfold kF;rw[hdo]
   walk_at"go";refine c7 (fun hc=> ?_) (fun hc=> ?_)
   ·rw[show (decide (((t0,dn,j0):aN).1<t))=true from decide_eq_true hc,Bool.true_and,hx]at hR';walk_at"go";refine mR (d:=(dn,dst,de,lt)) hh2 ndd hd fun v hv=> ?_;walk_at"g1";obtain⟨q2,C2,dx2,fs2,fp2,rfl,hq2,dcC,l1,l2,l3,l4,l5,mcE,hfp,hlt⟩:=DoorAt.ex hv;walk_at"g2";rcases hend with hend|⟨z,hend,hz⟩
    ·have hde:de= .non:=hend;subst hde;walk_at"go";exact hR'
    ·have hde:de= .str z:=hend;subst hde;rw[decide_eq_false (fun z=>nomatch z)]at hR';walk_at"go";exact hR'
   ·rw[show (decide (((t0,dn,j0):aN).1<t))=false from decide_eq_false hc,Bool.false_and]at hR';exact hR'
  ·rintro ⟨t0,n0,j0⟩ H2 hm - s2 R hR;walk_at"go";exact hR _ _ rfl (Same.refl _)
  intro ys2 H2 s2 hys2;have ey2:ys2=((cr.filter fun r=>decide (r.1<t)&&kF ds r.2.1).map (·.2.2)).map V.int:=by rw[eV hys2,List.map_map];rfl
  subst ey2;walk_at"go";rename_i q3 H3 n3 S3 e3;refine JV (SqL.of e3) ?_;exact k _ ((S1.trans s2).trans S3)
theorem RX (m:M K mg):Fc P w K mg base "out_by" 3 ["house","plan","turn"] (AH K m.aH (aQ P w K mg base (some 4))):=⟨_,_,m.YA,m.wH.kp,m.YB,R1 m⟩
inductive C1 (K:PySem.W.Frag)(vs:List V)(H:Hp)(Q:VK)(E:XK):Prop
 | mk (a:Addr) (us:List V) (rows:List aN) (_:vs=[.ref a]) (_:SqL K H a us) (_:cB H us rows) (_:rows.length<=200) (_:∀p H',H p=none->Same H H'->H' p=some (.dT (pH rows))->Q (.ref p) H'):C1 K vs H Q E
theorem aEg {H:Hp}{Q:VK}{E:XK}{a:Addr}{us:List V}{rows:List aN} (hS:SqL K H a us) (hr:cB H us rows) (hl:rows.length<=200) (h:∀p H',H p=none->Same H H'->H' p=some (.dT (pH rows))->Q (.ref p) H'):C1 K [.ref a] H Q E:=⟨_,_,_,rfl,hS,hr,hl,h⟩
theorem MD (m:M K mg):FnOk P w K mg base CX0 1 m.wK m.wL ["plan"] (C1 K):=by
 refine m.qX.ok sc_added_up (fun vs H Q E h=> ?_) (fun cdv A outer s H vs Q E hr h=> ?_)
 ·walk_at"g1";obtain⟨a,us,rows,rfl,hS,hpl,hlen,k⟩:=h;walk_at"g2";rfl
 ·walk_at"g1";obtain⟨a,us,rows,rfl,hS,hpl,hlen,k⟩:=h;walk_at"g2";have nd:=sc_added_up.nd;walk_at"hu";refine⟨_,(aC (aU (i:=1) nd rfl (by walk_at"oi") wF)
   (aC (cS PassesOwn.never rfl (bK (pv 0)) (o7 (n:=3) rfl (bF (aO (i:=2) nd rfl (by walk_at"oi")) (bF (aO (i:=3) nd rfl (by walk_at"oi")) (bF (aO (i:=4) nd rfl (by walk_at"oi")) dW)))) (aF (fR hu1 (pv 1) (cD (aA (pv 2) (aA (pv 3) aD))) (aI bO (nO hu1 (pv 1) (cD (aA (pv 2) (aA (pv 3) aD))) aG ⟨rfl,rfl,rfl,rfl⟩) (pv 4)) rfl)))
   (aF (aY (pv 1))))),?_⟩
  refine aT (σ:=[some (.ref a),none,none,none,none]) rfl ?_;walk_at"cx";have hul:us.length=rows.length:=Paired.length hpl;walk_at"go";rename_i p H1 n1 S1 e1;let Pv1:Nat->St->Hp->Prop:=fun i σ' H'=>SameBut p H1 H'/\H' p=some (.dT (pH (rows.take i)))/\∃x y z,σ'=[some (.ref a),some (.ref p),x,y,z];refine dU us Pv1 ⟨SameBut.refl,e1,_,_,_,rfl⟩ (fun i σ' H' _ q=>(SameBut.same n1 S1 q.1).seq hS) ?_ ?_
  ·rintro i x _ H' hx hq_;walk_at"g1";obtain⟨sb,ek,x1,x2,x3,rfl⟩:=hq_;walk_at"g2";have hi:i<us.length:=(List.getElem?_eq_some_iff.mp hx).1;obtain⟨⟨t,n,j⟩,hrx⟩:∃r,rows[i]? =some r:=⟨_,List.getElem?_eq_getElem (by lia)⟩
   obtain⟨q,rfl,hq⟩:=Paired.at2 hpl hx hrx;have hq':H' q=some (.tup [.int t,.str n,.int j]):=(SameBut.same n1 S1 sb) _ _ hq;obtain⟨i0,ei⟩:=W3 (rows.take i) t n;have hkl:=J8 (rows.take i);rw[List.length_take]at hkl;walk_at"go";refine mE ek ?_;walk_at"go";rename_i b1 H2 n2 S2 e2;refine nU (jP t n) (by walk_at"hp") (by assumption) ?_;rw[ei];walk_at"go";rename_i b3 H3 n3 S3 e3;refine rY (jP t n) (by walk_at"hp") (by assumption) (by rw[sizeLine_eq];lia) fun H4 B4 e4=> ?_;refine⟨by walk_at"sb",?_,_,_,_,rfl⟩;rw[e4,cA hrx,tO];unfold QL;rw[ei];rfl
  ·rintro _ H' hq_;walk_at"g1";obtain⟨sb,ek,x1,x2,x3,rfl⟩:=hq_;walk_at"g2";rw[hul,List.take_length]at ek;walk_at"go";exact k _ _ n1 (SameBut.same n1 S1 sb) ek
theorem MB (m:M K mg):Fc P w K mg base "added_up" 1 ["plan"] (C1 K):=⟨_,_,m.QV,m.qX.kp,m.QY,MD m⟩
theorem AD {α β γ:Type}{F:α->γ->Prop} (g:β->γ):∀{l:List β}{m:List α},Paired (fun x y=>F y (g x)) l m->Paired F m (l.map g)
 | _,_,.nil=> .nil
 | _,_,.cons r t=> .cons r (AD g t)
theorem xF {H:Hp}{Q:VK}{p:Addr}{xs:List V}{j:Nat}{v:V} (e:SqL K H p xs) (hx:xs[j]? =some v) (h:Q v H):JC K (.ref p) (.int (j:Int)) H Q:=⟨p,xs,_,v,rfl,rfl,e,zB hx,h⟩
theorem aD6 {kvs:List (List Key×V)}:∀(o:Obj) (x:HO),HO.dT kvs≠ .frz o x:=fun _ _ z=>by cases z
theorem VI {C:Addr}{D:bA}{H H':Hp}{p:Addr}{kvs:List (List Key×V)}{h:Addr}{f l:Int}{rz ps:List (Str×Int)}{ds:List aE} (x:aW C D H h f l rz ps ds) (e:H p=some (.dT kvs)) (s:SameBut p H H'):aW C D H' h f l rz ps ds:=by
 walk_at"g1";obtain⟨dx,qs,qp,qd,nk,kv,e1,e2,e3,e4,e5,e6,e7⟩:=x.ex;walk_at"g2";have ne:∀(q:Addr) (o:HO),H q=some o->(∀k,o≠ .dT k)->q≠p:=fun q o h hn z=>by
  rw[z,e]at h;cases h;exact hn _ rfl
 exact⟨dx,qs,qp,qd,nk,kv,s _ _ e1 (ne _ _ e1 fun _ z=>by cases z),s _ _ e2 (ne _ _ e2 fun _ z=>by cases z),s _ _ e3 (ne _ _ e3 fun _ z=>by cases z),e4,e5,s _ _ e6 (ne _ _ e6 fun _ z=>by cases z),Paired.imp' (fun _ d hd=>⟨hd.1,D.but hd.2 e trivial s⟩) e7⟩
theorem FS {rz:List (Str×Int)}{f:Int}{n:Nat} (h:rz.length<=20) (hn:n<=1001):(bL rz f n).length<=20100:=by
 rw[qP]
 calc _<=_:=Nat.le_refl _
  _<=20100:=by
   first|exact Nat.le_trans (Nat.mul_le_mul hn h) (by decide)|exact Nat.le_trans (Nat.mul_le_mul h hn) (by decide)
theorem UR {H:Hp}{Q:VK}{p:Addr}{z:Str}{ss:List Str} (e:SqL K H p (ss.map V.str)) (h:Q (.bl (!decide (z∈ss))) H):rIn K true (.str z) (.ref p) H Q:=by
 walk_at"g1";obtain⟨p',xs,e1,e2,e3,e4,e5⟩:=UX (Q:=fun v H'=>v= .bl (decide (z∈ss))/\H'=H) e ⟨rfl,rfl⟩;walk_at"g2";refine⟨p',xs,e1,e2,e3,e4,?_⟩;have e5:V.bl (inV (.str z) xs)= .bl (decide (z∈ss)):=e5.1;have e6:inV (.str z) xs=decide (z∈ss):=by injection e5
 show Q (.bl (!inV (.str z) xs)) H;rw[e6];exact h
def iY (ds:List aE)(f l t:Int)(n:Str):Int:=match cQ ds n with
 | some d=>fL f l d t
 | none=>0
theorem MQ {ds:List aE}{n:Str} (h:n∉ds.map (·.1)):cQ ds n=none:=by
 unfold cQ;rw[List.find?_eq_none];intro d hd z;exact h (List.mem_map.mpr ⟨d,hd,by simpa using z⟩)
inductive y6 (C:Addr)(D:bA)(vs:List V)(H:Hp)(Q:VK)(E:XK):Prop
 | mk (h:Addr) (t:Int) (n:Str) (f l:Int) (rz ps:List (Str×Int)) (ds:List aE) (_:vs=[.ref h,.int t,.str n]) (_:aW C D H h f l rz ps ds) (_:(ds.map (·.1)).Nodup) (_:0<=f) (_:ds.length<=20) (_:∀H',Same H H'->Q (.int (iY ds f l t n)) H'):y6 C D vs H Q E
theorem aCr {C:Addr}{D:bA}{H:Hp}{Q:VK}{E:XK}{h:Addr}{t:Int}{n:Str}{f l:Int}{rz ps:List (Str×Int)}{ds:List aE} (hh:aW C D H h f l rz ps ds) (nd:(ds.map (·.1)).Nodup) (hf:0<=f) (ld:ds.length<=20) (k:∀H',Same H H'->Q (.int (iY ds f l t n)) H'):y6 C D [.ref h,.int t,.str n] H Q E:=⟨_,_,_,_,_,_,_,_,rfl,hh,nd,hf,ld,k⟩
theorem CT (m:M K mg):FnOk P w K mg base CX0 8 m.nZ m.oG ["house","turn","name"] (y6 m.aH (aQ P w K mg base (some 4))):=by
 refine m.kH.ok sc_most_through (fun vs H Q E h=> ?_) (fun cdv A outer s H vs Q E hr h=> ?_)
 ·walk_at"g1";obtain⟨h,t,n,f,l,rz,ps,ds,rfl,hh,ndd,hf,ld,k⟩:=h;walk_at"g2";rfl
 ·walk_at"g1";obtain⟨h,t,n,f,l,rz,ps,ds,rfl,hh,ndd,hf,ld,k⟩:=h;walk_at"g2";have nd:=sc_most_through.nd;walk_at"hu";have w_dc_House:=m.bC;have w_mc_House_doors:= @fT P w K mg base m;have w_mc_House_lets:= @lE P w K mg base m;refine⟨_,(aC (cC (aZ JD (pv 2) (cF 1 hr (pv 0)) (by with_unfolding_all rfl)) (aF (aY aG)) bN)
   (aF (aY (dD 6 hr (pv 0) (aA (pv 2) (aA (pv 1) aD)))))),?_⟩
  refine aT (σ:=[some (.ref h),some (.int t),some (.str n)]) rfl ?_;walk_at"cx";walk_at"g1";obtain⟨dx,qs,qp,qd,nk,kvs0,e1,_⟩:=hh.ex;walk_at"g2";walk_at"go";refine c5 hh fun p1 H1 n1 S1 f1=> ?_;walk_at"go";refine UR (SqL.of f1) ?_;walk_at"go"
  by_cases hm:n∈ds.map (·.1)
  ·walk_at"g1";obtain⟨d,hd,rfl,hdo⟩:=j9 hm;walk_at"g2";rw[decide_eq_true hm];have e11:=S1 _ _ e1;have hk:iY ds f l t d.1=fL f l d t:=by unfold iY;rw[hdo]
   rw[hk]at k;walk_at"go";refine uV (d:=d) (aK hh S1) ndd hd hf fun H2 S2=> ?_;exact k _ (S1.trans S2)
  ·rw[decide_eq_false hm];have hk:iY ds f l t n=0:=by unfold iY;rw[MQ hm]
   rw[hk]at k;walk_at"go";exact k _ S1
theorem BL (m:M K mg):Fc P w K mg base "most_through" 8 ["house","turn","name"] (y6 m.aH (aQ P w K mg base (some 4))):=⟨_,_,m.E4,m.kH.kp,m.EQ,CT m⟩
inductive y0 (K:PySem.W.Frag)(C:Addr)(D:bA)(vs:List V)(H:Hp)(Q:VK)(E:XK):Prop
 | mk (h a:Addr) (f l:Int) (rz ps:List (Str×Int)) (ds:List aE) (us:List V) (rows:List aN) (_:vs=[.ref h,.ref a]) (_:aW C D H h f l rz ps ds) (_:(ds.map (·.1)).Nodup) (_:0<=f) (_:ds.length<=20) (_:SqL K H a us) (_:cB H us rows) (_:rows.length<=200) (_:(∀t n,dF rows t n<=iY ds f l t n)) (_:∀p H',H p=none->Same H H'->H' p=some (.lst [])->Q (.ref p) H'):y0 K C D vs H Q E
theorem aC5 {C:Addr}{D:bA}{H:Hp}{Q:VK}{E:XK}{h a:Addr}{f l:Int}{rz ps:List (Str×Int)}{ds:List aE}{us:List V}{rows:List aN} (hh:aW C D H h f l rz ps ds) (nd:(ds.map (·.1)).Nodup) (hf:0<=f) (ld:ds.length<=20) (hS:SqL K H a us) (hp:cB H us rows) (hl:rows.length<=200) (hc:∀t n,dF rows t n<=iY ds f l t n) (k:∀p H',H p=none->Same H H'->H' p=some (.lst [])->Q (.ref p) H'):y0 K C D [.ref h,.ref a] H Q E:=⟨_,_,_,_,_,_,_,_,_,rfl,hh,nd,hf,ld,hS,hp,hl,hc,k⟩
theorem DN (m:M K mg):FnOk P w K mg base CX0 9 m.qE m.pK ["house","plan"] (y0 K m.aH (aQ P w K mg base (some 4))):=by
 refine m.lL.ok sc_door_faults (fun vs H Q E h=> ?_) (fun cdv A outer s H vs Q E hr h=> ?_)
 ·walk_at"g1";obtain⟨h,a,f,l,rz,ps,ds,us,rows,rfl,hh,ndd,hf,ld,hS,hpl,hlen,hc,k⟩:=h;walk_at"g2";rfl
 ·walk_at"g1";obtain⟨h,a,f,l,rz,ps,ds,us,rows,rfl,hh,ndd,hf,ld,hS,hpl,hlen,hc,k⟩:=h;walk_at"g2";have nd:=sc_door_faults.nd;walk_at"hu";have qX:= @MB P w K mg base m;have kH:= @BL P w K mg base m;have w_dc_House:=m.bC;refine⟨_,(aC (aU (i:=2) nd rfl (by walk_at"oi") (bG qX hr (aA (pv 1) aD)))
   (aF (aY (u7 (cM (N:=["turn","name","going","house"]) (nl:=2) (ci:=[2,0]) rfl (blk (s.heap.objs.size+1) rfl rfl rfl (by kernel_rfl)) (WR (pv 2)) (fun _ _ _ _=>(kG (K:=K) (n:=2) rfl (bF (aO (i:=0) (show (["turn","name","going","house"]:List Str).Nodup by decide +kernel) rfl (by walk_at"oi")) (bF (aO (i:=1) (show (["turn","name","going","house"]:List Str).Nodup by decide +kernel) rfl (by walk_at"oi")) dW)))) (fun _ _ _ _=>(jT (aZ mU (bR hu1 (pv 2) (cD (aA (pv 0) (aA (pv 1) aD))) (fun _ _=>rfl)) (bG kH hr (aA (pv 3) (aA (pv 0) (aA (pv 1) aD)))) (bD _)))) (fun _ _ _ _=>(cD (aA (pv 0) (aA gH (aA (pv 1) aD)))))))))),?_⟩
  refine aT (σ:=[some (.ref h),some (.ref a),none]) rfl ?_;walk_at"cx";walk_at"go";refine aEg hS hpl hlen fun p1 H1 n1 S1 e1=> ?_;walk_at"go";refine rQ e1 aD6 ?_;walk_at"go";refine WV ?_;walk_at"go";refine WX e1 fun o H2 B2 e2=> ?_;have hg:=FV rows;have hln:=J8 rows;have hh2:aW m.aH (aQ P w K mg base (some 4)) H2 h f l rz ps ds:=VI (aK hh S1) e1 B2;refine aDc (fun _=>false) (fun _ _ _=>False) (fun _ _ _ _ h _=>h) (fun e he=>by
   walk_at"g1";obtain⟨t,n,i,rfl⟩:=hg.2 e he;walk_at"g2";rfl) (by rw[sizeLine_eq];lia) (rest:=[some (.ref p1),some (.ref h)]) (by rfl) e2 ?_ (fun _ _ _ _ _ hc=>nomatch hc) ?_
  ·intro k1 k2 v H3 hm s3 R hR;walk_at"g1";obtain⟨t,n,i,hte⟩:=hg.2 _ hm;walk_at"g2";have h1:k1= .inl t/\k2= .inr n/\v= .int i:=by
    have e1':=congrArg Prod.fst hte;have e2':=congrArg Prod.snd hte;have e1'':[k1,k2]=jP t n:=e1';unfold jP at e1'';injection e1'' with a1 a2;injection a2 with a2;exact⟨a1,a2,e2'⟩
   obtain⟨rfl,rfl,rfl⟩:=h1;have hv:bH (pH rows) (jP t n)=some (.int i):=nM hg.1 hm;have hi:i=dF rows t n:=by
    have:=WB t n rows;rw[hv]at this;exact this
   have hle:=hc t n;show (_:TT) (some (V.int t)::some (V.str n)::[some (.ref p1),some (.ref h)]) H3 R;walk_at"go";rename_i b4 H4 n4 S4 e4;refine nR (jP t n) (.inr ⟨o,S4 _ _ (s3 _ _ e2)⟩) e4 hv ?_;walk_at"go";refine aCr (aK hh2 (s3.trans S4)) ndd hf ld fun H5 S5=> ?_;walk_at"go";rw[decide_eq_false (by lia)];exact hR _ (S4.trans S5)
  intro ys H3 s3 hys;rw[List.filter_eq_nil_iff.mpr (fun _ _=>Bool.false_ne_true)]at hys;cases hys;walk_at"go";rename_i p4 H4 n4 S4 e4;refine mF (S4 _ _ (s3 _ _ e2)) fun H5 B5 e5=> ?_;have hpq:p4≠p1:=fun z=>by rw[z,s3 _ _ e2]at n4;cases n4
  have hn:H p4=none:=by
   cases hq:H p4 with
   | none=>rfl
   | some u =>
    have:=s3 _ _ (B2 _ _ (S1 _ _ hq) hpq);rw[n4]at this;cases this
  have fr:∀b u,H b=some u->b≠p1:=fun b u hb z=>by rw[z,n1]at hb;cases hb
  exact k p4 H5 hn (fun b u hb=>B5 _ _ (S4 _ _ (s3 _ _ (B2 _ _ (S1 _ _ hb) (fr b u hb)))) (fr b u hb)) (B5 _ _ e4 hpq)
theorem ED (m:M K mg):Fc P w K mg base "door_faults" 9 ["house","plan"] (y0 K m.aH (aQ P w K mg base (some 4))):=⟨_,_,m.HZ,m.lL.kp,m.GX,DN m⟩
inductive yQ (K:PySem.W.Frag)(C:Addr)(D:bA)(vs:List V)(H:Hp)(Q:VK)(E:XK):Prop
 | mk (h a b:Addr) (f l:Int) (rz ps:List (Str×Int)) (ds:List aE) (us:List V) (rows:List aN) (L C':List Key->Int) (_:vs=[.ref h,.ref a,.ref b]) (_:aW C D H h f l rz ps ds) (_:(rz.map (·.1)).Nodup) (_:(ds.map (·.1)).Nodup) (_:(∀d∈ds,dG (rz.map (·.1)) d)) (_:0<=f) (_:f<=l) (_:l<1000000000000) (_:l - f<=1000) (_:rz.length<=20) (_:SqL K H a us) (_:cB H us rows) (_:rows.length<=200) (_:H b=some (.dT (jW ps L C' f (bL rz f (l+1 - f).toNat)))) (_:(∀e∈rz,∀i:Nat,f+(i:Int)<l->d0 (dZ ds) (rows.filter (cnt (ds.map (·.1)) f l)) (bB (e.1,f+(i:Int)))<=cY ps L C' e.1 f i)) (_:∀p H',H p=none->Same H H'->H' p=some (.lst [])->Q (.ref p) H'):yQ K C D vs H Q E
theorem CP (m:M K mg):FnOk P w K mg base CX0 5 m.oI m.oH ["house","plan","inside"] (yQ K m.aH (aQ P w K mg base (some 4))):=by
 refine m.kK.ok sc_leave_faults (fun vs H Q E h=> ?_) (fun cdv A outer s H vs Q E hr h=> ?_)
 ·walk_at"g1";obtain⟨h,a,b,f,l,rz,ps,ds,us,rows,L,C',rfl,hh,nr,ndd,hin,h0,h1,h2,h3,lr,hS,hpl,hlen,eb,hc,k⟩:=h;walk_at"g2";rfl
 ·walk_at"g1";obtain⟨h,a,b,f,l,rz,ps,ds,us,rows,L,C',rfl,hh,nr,ndd,hin,h0,h1,h2,h3,lr,hS,hpl,hlen,eb,hc,k⟩:=h;walk_at"g2";have nd:=sc_leave_faults.nd;walk_at"hu";have mG:= @CB P w K mg base m;have w_dc_House:=m.bC;have w_mc_House_pairs:= @nQ P w K mg base m;refine⟨_,(aC (aU (i:=3) nd rfl (by walk_at"oi") (bG mG hr (aA (pv 0) (aA (pv 1) aD))))
   (aC (iV (i:=4) nd rfl (by walk_at"oi") (N:=["pair","house"]) (nl:=1) (ci:=[0]) rfl (blk (s.heap.objs.size+1) rfl rfl rfl (by kernel_rfl)) (bK (cF 1 hr (pv 0))) (fun _ _ _ _=>(aO (i:=0) (show (["pair","house"]:List Str).Nodup by decide +kernel) rfl (by walk_at"oi"))) (fun _ _ _ _=>(jT (aZ mI (eY (rF (K:=K)) (pv 0) aG (fun _ _=>rfl)) (rE (K:=K) (pv 1) rfl) (bD _)))) (fun _ _ _ _=>(pv 0)))
   (aF (aY (cM (N:=["room","turn","inside","leave"]) (nl:=2) (ci:=[2,3]) rfl (blk (s.heap.objs.size+1) rfl rfl rfl (by kernel_rfl)) (bK (pv 4)) (fun _ _ _ _=>(kG (K:=K) (n:=2) rfl (bF (aO (i:=0) (show (["room","turn","inside","leave"]:List Str).Nodup by decide +kernel) rfl (by walk_at"oi")) (bF (aO (i:=1) (show (["room","turn","inside","leave"]:List Str).Nodup by decide +kernel) rfl (by walk_at"oi")) dW)))) (fun _ _ _ _=>(jT (aZ mU (nO hu1 (pv 3) (cD (aA (pv 0) (aA (pv 1) aD))) aG ⟨rfl,rfl,rfl,rfl⟩) (bR hu1 (pv 2) (cD (aA (pv 0) (aA (pv 1) aD))) (fun _ _=>rfl)) (bD _)))) (fun _ _ _ _=>(cD (aA (pv 1) (aA gH (aA (pv 0) aD)))))))))),?_⟩
  refine aT (σ:=[some (.ref h),some (.ref a),some (.ref b),none,none]) rfl ?_;walk_at"cx";walk_at"g1";obtain⟨dx,qs,qp,qd,nk,kvs0,e1,_⟩:=hh.ex;walk_at"g2";walk_at"go";refine EC hh ndd hin hS hpl hlen fun p1 H1 n1 S1 f1=> ?_;have e11:=S1 _ _ e1;walk_at"go";refine D4 (aK hh S1) h0 h1 h2 h3 lr fun p2 ys H2 n2 S2 f2 hys=> ?_;have e12:=S2 _ _ e11;walk_at"go";have hpn:(bL rz f (l+1 - f).toNat).length<=20100:=FS lr (by lia);have hyl:ys.length=(bL rz f (l+1 - f).toNat).length:=Paired.length hys;refine fQ (α:=Str×Int) (xs:=bL rz f (l+1 - f).toNat) (vs:=ys) (cI H2) (fun x=>decide (x.2<l)) (fun x y H=>cI H y x) (fun _ _ _ _ ⟨q,h1,h2⟩ s=>⟨q,h1,s _ _ h2⟩) (by rw[sizeLine_eq];lia) (rest:=[some (.ref h)]) (by rfl) (SqL.of f2) hys ?_ ?_ ?_
  ·rintro v ⟨z,u⟩ H3 ⟨q3,rfl,hq3⟩ hm s3 R hR;have hq3:H3 q3=some (.tup [.str z,.int u]):=s3 _ _ hq3;have e13:=s3 _ _ e12;walk_at"go";refine⟨q3,_,1,_,rfl,rfl,SqT.of hq3,rfl,?_⟩;walk_at"go";exact hR _ (Same.refl _)
  ·rintro v x H3 ⟨q3,rfl,hq3⟩ hm - s3 R hR;walk_at"go";exact hR _ _ ⟨q3,rfl,s3 _ _ hq3⟩ (Same.refl _)
  intro zs H3 s3 hzs;have hzp:Paired (cI H3) zs ((bL rz f (l+1 - f).toNat).filter fun x=>decide (x.2<l)):=jD hzs;have hfl:((bL rz f (l+1 - f).toNat).filter fun x=>decide (x.2<l)).length<=20100:=Nat.le_trans (List.length_filter_le _ _) hpn;walk_at"go";rename_i p4 H4 n4 S4 e4;have s14:=S2.trans (s3.trans S4);have f14:=s14 _ _ f1;have eb4:=s14 _ _ (S1 _ _ eb);refine uX (α:=Str×Int) (xs:=(bL rz f (l+1 - f).toNat).filter fun x=>decide (x.2<l)) (vs:=zs) (fun x=> .str x.1) (fun x=> .int x.2) (fun _=>false) (fun _ _ _=>False) (fun _ _ _ _ h _=>h) (by rw[sizeLine_eq];lia) (rest:=[some (.ref b),some (.ref p1)]) (by rfl) (SqL.of e4) (mV hzp S4) ?_ (fun _ _ _ hc=>nomatch hc) ?_
  ·rintro ⟨z,u⟩ H5 hx s5 R hR;obtain⟨hx1,hx2⟩:=List.mem_filter.mp hx;have hx2:u<l:=by simpa using hx2
   walk_at"g1";obtain⟨hz,i,hi,hu⟩:=pairsN_mem.mp hx1;walk_at"g2";obtain⟨e,he,hez⟩:=List.mem_map.mp hz;have hez:e.1=z:=hez;have hle:=hc e he i (by lia);rw[hez,←hu]at hle;have f15:=s5 _ _ f14;have eb5:=s5 _ _ eb4;have hui:(u - f).toNat=i:=by lia
   have hpi:bH (jW ps L C' f (bL rz f (l+1 - f).toNat)) (bB (z,u))=some (.int (cY ps L C' z f i)):=by
    have h:=rW (ps:=ps) (L:=L) (C:=C') (f:=f) (iO nr f (l+1 - f).toNat) hx1;rw[show (((z,u):Str×Int).2 - f).toNat=i from hui]at h;exact h
   show (_:TT) (some (V.str z)::some (V.int u)::[some (.ref b),some (.ref p1)]) H5 R;walk_at"go";refine mE f15 ?_;walk_at"go";rename_i b6 H6 n6 S6 e6;refine nU (bB (z,u)) (S6 _ _ f15) e6 ?_;rw[AG];walk_at"go";rename_i b7 H7 n7 S7 e7;refine nR (bB (z,u)) (.inl (S7 _ _ (S6 _ _ eb5))) e7 hpi ?_;walk_at"go";rw[decide_eq_false (by lia)];exact hR _ (S6.trans S7)
  intro ws H5 s5 hws;rw[List.filter_eq_nil_iff.mpr (fun _ _=>Bool.false_ne_true)]at hws;cases hws;walk_at"go";rename_i p6 H6 n6 S6 e6;have s06:Same H H6:=S1.trans (s14.trans (s5.trans S6));refine k p6 H6 ?_ s06 e6;cases hq:H p6 with
  | none=>rfl
  | some u =>
   have:=(S1.trans (s14.trans s5)) _ _ hq;rw[n6]at this;cases this
theorem BN (m:M K mg):Fc P w K mg base "leave_faults" 5 ["house","plan","inside"] (yQ K m.aH (aQ P w K mg base (some 4))):=⟨_,_,m.ET,m.kK.kp,m.ER,CP m⟩
theorem aCO {C:Addr}{D:bA}{H:Hp}{Q:VK}{E:XK}{h a b:Addr}{f l:Int}{rz ps:List (Str×Int)}{ds:List aE}{us:List V}{rows:List aN}{L C':List Key->Int} (hh:aW C D H h f l rz ps ds) (nr:(rz.map (·.1)).Nodup) (nd:(ds.map (·.1)).Nodup) (hin:∀d∈ds,dG (rz.map (·.1)) d) (h0:0<=f) (h1:f<=l) (h2:l<1000000000000) (h3:l - f<=1000) (lr:rz.length<=20) (hS:SqL K H a us) (hp:cB H us rows) (hl:rows.length<=200) (eb:H b=some (.dT (jW ps L C' f (bL rz f (l+1 - f).toNat)))) (hc:∀e∈rz,∀i:Nat,f+(i:Int)<l->d0 (dZ ds) (rows.filter (cnt (ds.map (·.1)) f l)) (bB (e.1,f+(i:Int)))<=cY ps L C' e.1 f i) (k:∀p H',H p=none->Same H H'->H' p=some (.lst [])->Q (.ref p) H'):yQ K C D [.ref h,.ref a,.ref b] H Q E:=⟨_,_,_,_,_,_,_,_,_,_,_,_,rfl,hh,nr,nd,hin,h0,h1,h2,h3,lr,hS,hp,hl,eb,hc,k⟩
inductive yX (C:Addr)(D:bA)(vs:List V)(H:Hp)(Q:VK)(E:XK):Prop
 | mk (h b:Addr) (f l:Int) (rz ps:List (Str×Int)) (ds:List aE) (L C':List Key->Int) (_:vs=[.ref h,.ref b]) (_:aW C D H h f l rz ps ds) (_:(rz.map (·.1)).Nodup) (_:0<=f) (_:f<=l) (_:l<1000000000000) (_:l - f<=1000) (_:rz.length<=20) (_:H b=some (.dT (jW ps L C' f (bL rz f (l+1 - f).toNat)))) (_:(∀e∈rz,∀i:Nat,f+(i:Int)<=l->cY ps L C' e.1 f i<=e.2)) (_:∀p H',H p=none->Same H H'->H' p=some (.lst [])->Q (.ref p) H'):yX C D vs H Q E
theorem aC0 {C:Addr}{D:bA}{H:Hp}{Q:VK}{E:XK}{h b:Addr}{f l:Int}{rz ps:List (Str×Int)}{ds:List aE}{L C':List Key->Int} (hh:aW C D H h f l rz ps ds) (nr:(rz.map (·.1)).Nodup) (h0:0<=f) (h1:f<=l) (h2:l<1000000000000) (h3:l - f<=1000) (lr:rz.length<=20) (eb:H b=some (.dT (jW ps L C' f (bL rz f (l+1 - f).toNat)))) (hc:∀e∈rz,∀i:Nat,f+(i:Int)<=l->cY ps L C' e.1 f i<=e.2) (k:∀p H',H p=none->Same H H'->H' p=some (.lst [])->Q (.ref p) H'):yX C D [.ref h,.ref b] H Q E:=⟨_,_,_,_,_,_,_,_,_,rfl,hh,nr,h0,h1,h2,h3,lr,eb,hc,k⟩
theorem D1 (m:M K mg):FnOk P w K mg base CX0 5 m.qK m.pV ["house","inside"] (yX m.aH (aQ P w K mg base (some 4))):=by
 refine m.lK.ok sc_full_faults (fun vs H Q E h=> ?_) (fun cdv A outer s H vs Q E hr h=> ?_)
 ·walk_at"g1";obtain⟨h,b,f,l,rz,ps,ds,L,C',rfl,hh,nr,h0,h1,h2,h3,lr,eb,hc,k⟩:=h;walk_at"g2";rfl
 ·walk_at"g1";obtain⟨h,b,f,l,rz,ps,ds,L,C',rfl,hh,nr,h0,h1,h2,h3,lr,eb,hc,k⟩:=h;walk_at"g2";have nd:=sc_full_faults.nd;walk_at"hu";have w_dc_House:=m.bC;have w_mc_House_pairs:= @nQ P w K mg base m;have w_mc_House_holds:= @iP P w K mg base m;refine⟨_,(aF (aY (cM (N:=["room","turn","inside","house"]) (nl:=2) (ci:=[1,0]) rfl (blk (s.heap.objs.size+1) rfl rfl rfl (by kernel_rfl)) (bK (cF 1 hr (pv 0))) (fun _ _ _ _=>(kG (K:=K) (n:=2) rfl (bF (aO (i:=0) (show (["room","turn","inside","house"]:List Str).Nodup by decide +kernel) rfl (by walk_at"oi")) (bF (aO (i:=1) (show (["room","turn","inside","house"]:List Str).Nodup by decide +kernel) rfl (by walk_at"oi")) dW)))) (fun _ _ _ _=>(jT (aZ mU (bR hu1 (pv 2) (cD (aA (pv 0) (aA (pv 1) aD))) (fun _ _=>rfl)) (o0 (P:=P) (w:=w) (K:=K) (mg:=mg) (base:=base) 3 hr (pv 3) (aA (pv 0) aD)) (bD _)))) (fun _ _ _ _=>(cD (aA (pv 1) (aA gH (aA (pv 0) aD)))))))),?_⟩;refine aT (σ:=[some (.ref h),some (.ref b)]) rfl ?_;walk_at"cx";walk_at"g1";obtain⟨dx,qs,qp,qd,nk,kvs0,e1,_⟩:=hh.ex;walk_at"g2";walk_at"go";refine D4 hh h0 h1 h2 h3 lr fun p2 ys H2 n2 S2 f2 hys=> ?_;have hpn:(bL rz f (l+1 - f).toNat).length<=20100:=FS lr (by lia);have eb2:=S2 _ _ eb;have hh2:=aK hh S2;have e12:=S2 _ _ e1;walk_at"go";refine uX (α:=Str×Int) (xs:=bL rz f (l+1 - f).toNat) (vs:=ys) (fun x=> .str x.1) (fun x=> .int x.2) (fun _=>false) (fun _ _ _=>False) (fun _ _ _ _ h _=>h) (by rw[sizeLine_eq];lia) (rest:=[some (.ref b),some (.ref h)]) (by rfl) (SqL.of f2) hys ?_ (fun _ _ _ hc=>nomatch hc) ?_
  ·rintro ⟨z,u⟩ H5 hx1 s5 R hR;walk_at"g1";obtain⟨hz,i,hi,hu⟩:=pairsN_mem.mp hx1;walk_at"g2";walk_at"g1";obtain⟨⟨ez,ej⟩,he,hez⟩:=List.mem_map.mp hz;walk_at"g2";have hez:ez=z:=hez;subst hez;have hle:cY ps L C' ez f i<=ej:=hc _ he i (by lia);have eb5:=s5 _ _ eb2;have e15:=s5 _ _ e12;have hui:(u - f).toNat=i:=by lia
   have hpi:bH (jW ps L C' f (bL rz f (l+1 - f).toNat)) (bB (ez,u))=some (.int (cY ps L C' ez f i)):=by
    have h:=rW (ps:=ps) (L:=L) (C:=C') (f:=f) (iO nr f (l+1 - f).toNat) hx1;rw[show (((ez,u):Str×Int).2 - f).toNat=i from hui]at h;exact h
   show (_:TT) (some (V.str ez)::some (V.int u)::[some (.ref b),some (.ref h)]) H5 R;walk_at"go";rename_i b7 H7 n7 S7 e7;refine nR (bB (ez,u)) (.inl (S7 _ _ eb5)) e7 hpi ?_;have e17:=S7 _ _ e15;walk_at"go";refine q0 (aK hh2 (s5.trans S7)) nr he fun H8 S8=> ?_;walk_at"go";rw[decide_eq_false (by lia)];exact hR _ (S7.trans S8)
  intro ws H5 s5 hws;rw[List.filter_eq_nil_iff.mpr (fun _ _=>Bool.false_ne_true)]at hws;cases hws;walk_at"go";rename_i p6 H6 n6 S6 e6;refine k p6 H6 ?_ (S2.trans (s5.trans S6)) e6;cases hq:H p6 with
  | none=>rfl
  | some u =>
   have:=(S2.trans s5) _ _ hq;rw[n6]at this;cases this
theorem DZ (m:M K mg):Fc P w K mg base "full_faults" 5 ["house","inside"] (yX m.aH (aQ P w K mg base (some 4))):=⟨_,_,m.HM,m.lK.kp,m.GY,D1 m⟩
structure IE (rz ps:List (Str×Int))(ds:List aE)(f l:Int)(rows:List aN):Prop where
 door:∀t n,dF rows t n<=iY ds f l t n
 lv:∀e∈rz,∀i:Nat,f+(i:Int)<l->d0 (dZ ds) (rows.filter (cnt (ds.map (·.1)) f l)) (bB (e.1,f+(i:Int)))<=cY ps (d0 (dZ ds) (rows.filter (cnt (ds.map (·.1)) f l))) (d0 (d8 ds) (rows.filter (cnt (ds.map (·.1)) f l))) e.1 f i
 full:∀e∈rz,∀i:Nat,f+(i:Int)<=l->cY ps (d0 (dZ ds) (rows.filter (cnt (ds.map (·.1)) f l))) (d0 (d8 ds) (rows.filter (cnt (ds.map (·.1)) f l))) e.1 f i<=e.2
inductive CS (K:PySem.W.Frag)(C:Addr)(D:bA)(vs:List V)(H:Hp)(Q:VK)(E:XK):Prop
 | mk (h a:Addr) (f l:Int) (rz ps:List (Str×Int)) (ds:List aE) (us:List V) (rows:List aN) (_:vs=[.ref h,.ref a]) (_:aW C D H h f l rz ps ds) (_:(rz.map (·.1)).Nodup) (_:(ds.map (·.1)).Nodup) (_:(∀d∈ds,dG (rz.map (·.1)) d)) (_:0<=f) (_:f<=l) (_:l<1000000000000) (_:l - f<=1000) (_:rz.length<=20) (_:ds.length<=20) (_:SqL K H a us) (_:cB H us rows) (_:rows.length<=200) (_:IE rz ps ds f l rows) (_:∀p H',H p=none->Same H H'->H' p=some (.lst [])->Q (.ref p) H'):CS K C D vs H Q E
theorem aEy {C:Addr}{D:bA}{H:Hp}{Q:VK}{E:XK}{h a:Addr}{f l:Int}{rz ps:List (Str×Int)}{ds:List aE}{us:List V}{rows:List aN} (hh:aW C D H h f l rz ps ds) (nr:(rz.map (·.1)).Nodup) (nd:(ds.map (·.1)).Nodup) (hin:∀d∈ds,dG (rz.map (·.1)) d) (h0:0<=f) (h1:f<=l) (h2:l<1000000000000) (h3:l - f<=1000) (lr:rz.length<=20) (ld:ds.length<=20) (hS:SqL K H a us) (hp:cB H us rows) (hl:rows.length<=200) (nf:IE rz ps ds f l rows) (k:∀p H',H p=none->Same H H'->H' p=some (.lst [])->Q (.ref p) H'):CS K C D [.ref h,.ref a] H Q E:=⟨_,_,_,_,_,_,_,_,_,rfl,hh,nr,nd,hin,h0,h1,h2,h3,lr,ld,hS,hp,hl,nf,k⟩
theorem UW (m:M K mg):FnOk P w K mg base CX0 10 m.A2 m.A4 ["house","plan"] (CS K m.aH (aQ P w K mg base (some 4))):=by
 refine m.wI.ok sc_faults (fun vs H Q E h=> ?_) (fun cdv A outer s H vs Q E hr h=> ?_)
 ·walk_at"g1";obtain⟨h,a,f,l,rz,ps,ds,us,rows,rfl,hh,nr,ndd,hin,h0,h1,h2,h3,lr,ld,hS,hpl,hlen,nf,k⟩:=h;walk_at"g2";rfl
 ·walk_at"g1";obtain⟨h,a,f,l,rz,ps,ds,us,rows,rfl,hh,nr,ndd,hin,h0,h1,h2,h3,lr,ld,hS,hpl,hlen,nf,k⟩:=h;walk_at"g2";have nd:=sc_faults.nd;walk_at"hu";have lL:= @ED P w K mg base m;have lK:= @DZ P w K mg base m;have kK:= @BN P w K mg base m;have mH:= @AM P w K mg base m;have w_dc_House:=m.bC;refine⟨_,(aC (aU (i:=2) nd rfl (by walk_at"oi") (bG mH hr (aA (pv 0) (aA (pv 1) aD))))
   (aF (aY (bV JT rfl m.LR FK (aA (aI w9 (aI w9 (bG lL hr (aA (pv 0) (aA (pv 1) aD))) (bG kK hr (aA (pv 0) (aA (pv 1) (aA (pv 2) aD))))) (bG lK hr (aA (pv 0) (aA (pv 2) aD)))) aD))))),?_⟩
  refine aT (σ:=[some (.ref h),some (.ref a),none]) rfl ?_;walk_at"cx";walk_at"go";refine⟨_,_,_,_,_,_,_,_,_,rfl,hh,nr,ndd,hin,h0,h1,h2,h3,lr,hS,hpl,hlen,fun p1 H1 n1 S1 e1=> ?_⟩;walk_at"go";refine aC5 (aK hh S1) ndd h0 ld (S1.seq hS) (dN hpl S1) hlen nf.door fun p2 H2 n2 S2 e2=> ?_;have s02:=S1.trans S2;walk_at"go";refine aCO (aK hh s02) nr ndd hin h0 h1 h2 h3 lr (s02.seq hS) (dN hpl s02) hlen (S2 _ _ e1) nf.lv fun p3 H3 n3 S3 e3=> ?_;have s03:=s02.trans S3;walk_at"go";refine N2 (S3 _ _ e2) e3 (by decide) fun p4 H4 n4 S4 e4=> ?_;have s04:=s03.trans S4;walk_at"go";refine aC0 (aK hh s04) nr h0 h1 h2 h3 lr ((S2.trans (S3.trans S4)) _ _ e1) nf.full fun p5 H5 n5 S5 e5=> ?_;walk_at"go";rename_i p6 H6 n6 S6 e6;have e6:H6 p6=some (.lst []):=e6;have s06:=s04.trans (S5.trans S6);refine VT (rs:=[]) (sh:=[true]) (SqL.of e6) .nil (by decide) (fun _ z=>nomatch z) (by decide) fun p7 ws H7 n7 S7 e7 hws=> ?_;rw[show IF []=[] from rfl]at hws;cases hws;refine k p7 H7 ?_ (s06.trans S7) e7;cases hq:H p7 with
  | none=>rfl
  | some u =>
   have:=s06 _ _ hq;rw[n7]at this;cases this
theorem RC (m:M K mg):Fc P w K mg base "faults" 10 ["house","plan"] (CS K m.aH (aQ P w K mg base (some 4))):=⟨_,_,m.X8,m.wI.kp,m.X5,UW m⟩
def gM (ds:List aE)(f:Int)(z:Str)(t:Int)(r:aN):Int:=if r.2.1∈ds.map (·.1)/\f<=r.1/\r.1<t then (match cQ ds r.2.1 with|some d=>(if d.2.1=z then - r.2.2 else 0)+(if d.2.2.1= .str z then r.2.2 else 0)|none=>0) else 0
def fP (ds:List aE)(f:Int)(z:Str)(t:Int)(rows:List aN):Int:=(rows.map (gM ds f z t)).sum
theorem TW (ds:List aE)(f:Int)(z:Str):∀rows:List aN,fP ds f z f rows=0
 | []=>rfl
 | r::rows=>by
  have h:=TW ds f z rows;unfold fP at h ⊢;rw[List.map_cons,List.sum_cons,h];unfold gM;rw[if_neg (by lia)];rfl
theorem FY (key:aN->Option (List Key))(rt:Int)(rn:Str)(rj:Int)(rows:List aN)(k:List Key):d0 key ((rt,rn,rj)::rows) k=(if key (rt,rn,rj)=some k then rj else 0)+d0 key rows k:=by
 unfold d0
 by_cases h:key (rt,rn,rj)=some k
 ·rw[List.filter_cons_of_pos (by simp[h]),List.map_cons,List.sum_cons,if_pos h]
 ·rw[List.filter_cons_of_neg (by simp[h]),if_neg h,Int.zero_add]
theorem JA {z y:Str}{t u:Int}:(some [Sum.inr z,Sum.inl t]:Option (List Key))=some (bB (y,u))↔z=y/\t=u:=by
 constructor
 ·intro h;have:=lU (a:=(z,t)) (b:=(y,u)) (Option.some.inj h);cases this;exact⟨rfl,rfl⟩
 ·rintro ⟨rfl,rfl⟩;rfl
theorem FH (ds:List aE)(f l:Int)(z:Str)(t:Int)(hf:f<=t)(hl:t<l):∀rows:List aN,fP ds f z (t+1) rows=fP ds f z t rows - d0 (dZ ds) (rows.filter (cnt (ds.map (·.1)) f l)) (bB (z,t))+d0 (d8 ds) (rows.filter (cnt (ds.map (·.1)) f l)) (bB (z,t))
 | []=>by simp[fP,d0]
 | r::rows=>by
  have ih:=FH ds f l z t hf hl rows;obtain⟨rt,rn,rj⟩:=r;have e1:fP ds f z (t+1) ((rt,rn,rj)::rows)=gM ds f z (t+1) (rt,rn,rj)+fP ds f z (t+1) rows:=by unfold fP;rw[List.map_cons,List.sum_cons]
  have e2:fP ds f z t ((rt,rn,rj)::rows)=gM ds f z t (rt,rn,rj)+fP ds f z t rows:=by unfold fP;rw[List.map_cons,List.sum_cons]
  rw[e1,e2,ih]
  by_cases hm:rn∈ds.map (·.1)
  ·walk_at"g1";obtain⟨⟨dn,dst,de,dw⟩,hd,rfl,hdo⟩:=j9 hm;walk_at"g2";have kL:dZ ds (rt,dn,rj)=some [.inr dst,.inl rt]:=by
    unfold dZ;rw[show cQ ds ((rt,dn,rj):aN).2.1=some (dn,dst,de,dw) from hdo];rfl
   have g:∀u,gM ds f z u (rt,dn,rj)=if f<=rt/\rt<u then (if dst=z then - rj else 0)+(if de= .str z then rj else 0) else 0:=fun u=>by
    unfold gM;rw[show cQ ds ((rt,dn,rj):aN).2.1=some (dn,dst,de,dw) from hdo]
    by_cases hu:f<=rt/\rt<u
    ·rw[if_pos ⟨hm,hu⟩,if_pos hu]
    ·rw[if_neg (fun z=>hu z.2),if_neg hu]
   have kc2:(d8 ds (rt,dn,rj)=some (bB (z,t)))↔(de= .str z/\rt=t):=by
    unfold d8;rw[show cQ ds ((rt,dn,rj):aN).2.1=some (dn,dst,de,dw) from hdo,Option.bind_some];clear e1 e2 hm hdo g kL hd;cases de with
    | str y =>
     show some [Sum.inr y,Sum.inl rt]=_↔_;rw[JA]
     constructor
     ·rintro ⟨rfl,rfl⟩;exact⟨rfl,rfl⟩
     ·rintro ⟨h,rfl⟩;cases h;exact⟨rfl,rfl⟩
    | _=>exact⟨(fun h=>nomatch h),(fun h=>nomatch h.1)⟩
   have kl2:(dZ ds (rt,dn,rj)=some (bB (z,t)))↔(dst=z/\rt=t):=by rw[kL,JA]
   rw[g,g]
   by_cases hc:f<=rt/\rt<l
   ·have hcn:cnt (ds.map (·.1)) f l (rt,dn,rj)=true:=by
     unfold cnt;simp only[Bool.and_eq_true,decide_eq_true_eq];exact⟨hm,hc⟩
    rw[List.filter_cons_of_pos hcn,FY,FY]
    by_cases ht:rt=t
    ·subst ht;have a1:(if dZ ds (rt,dn,rj)=some (bB (z,rt)) then rj else 0)=if dst=z then rj else 0:=by
      by_cases h:dst=z
      ·rw[if_pos h,if_pos (kl2.mpr ⟨h,rfl⟩)]
      ·rw[if_neg h,if_neg (fun y=>h (kl2.mp y).1)]
     have a2:(if d8 ds (rt,dn,rj)=some (bB (z,rt)) then rj else 0)=if de= .str z then rj else 0:=by
      by_cases h:de= .str z
      ·rw[if_pos h,if_pos (kc2.mpr ⟨h,rfl⟩)]
      ·rw[if_neg h,if_neg (fun y=>h (kc2.mp y).1)]
     have p1:f<=rt/\rt<rt+1:=by lia
     have p2:¬(f<=rt/\rt<rt):=by lia
     rw[a1,a2,if_pos p1,if_neg p2]
     by_cases h1:dst=z
     ·rw[if_pos h1,if_pos h1];lia
     ·rw[if_neg h1,if_neg h1];lia
    ·rw[if_neg (fun z=>ht (kl2.mp z).2),if_neg (fun z=>ht (kc2.mp z).2)]
     by_cases hu:f<=rt/\rt<t
     ·have p1:f<=rt/\rt<t+1:=by lia
      rw[if_pos p1,if_pos hu];lia
     ·have p1:¬(f<=rt/\rt<t+1):=by lia
      rw[if_neg p1,if_neg hu];lia
   ·have hcn:¬cnt (ds.map (·.1)) f l (rt,dn,rj)=true:=by
     unfold cnt;simp only[Bool.and_eq_true,decide_eq_true_eq];exact fun z=>hc z.2
    have p1:¬(f<=rt/\rt<t+1):=by lia
    have p2:¬(f<=rt/\rt<t):=by lia
    rw[List.filter_cons_of_neg hcn,if_neg p1,if_neg p2];lia
  ·have hcn:¬cnt (ds.map (·.1)) f l (rt,rn,rj)=true:=by
    unfold cnt;simp only[Bool.and_eq_true,decide_eq_true_eq];exact fun z=>hm z.1
   have g:∀u,gM ds f z u (rt,rn,rj)=0:=fun u=>by unfold gM;rw[if_neg (fun z=>hm z.1)]
   rw[List.filter_cons_of_neg hcn,g,g];lia
theorem KQ (ps:List (Str×Int))(ds:List aE)(f l:Int)(z:Str)(rows:List aN):∀n:Nat,f+(n:Int)<=l->cY ps (d0 (dZ ds) (rows.filter (cnt (ds.map (·.1)) f l))) (d0 (d8 ds) (rows.filter (cnt (ds.map (·.1)) f l))) z f n=cU ps z+fP ds f z (f+(n:Int)) rows
 | 0,_=>by
  show cU ps z=_;rw[show f+((0:Nat):Int)=f by lia,TW];lia
 | n+1,h=>by
  have ih:=KQ ps ds f l z rows n (by lia);have st:=FH ds f l z (f+(n:Int)) (by lia) (by lia) rows;unfold cY;rw[ih,show f+((n+1:Nat):Int)=f+(n:Int)+1 by lia,st];lia
theorem o8 {ds:List aE}(nd:(ds.map (·.1)).Nodup){d:aE}(hd:d∈ds):cQ ds d.1=some d:=by
 induction ds with
 | nil=>exact nomatch hd
 | cons a l ih =>
  have nd':=List.nodup_cons.mp nd;unfold cQ;rcases List.mem_cons.mp hd with rfl|h
  ·rw[List.find?_cons_of_pos (by simp)]
  ·have hne:¬a.1=d.1:=fun z=>nd'.1 (show a.1∈_ by rw[z];exact List.mem_map.mpr ⟨d,h,rfl⟩);rw[List.find?_cons_of_neg (by simpa using hne)];exact ih nd'.2 h
theorem ZV {ds:List aE}{d:aE} (h:cQ ds d.1=some d) (rt rj:Int) (z:Str) (t:Int):d8 ds (rt,d.1,rj)=some (bB (z,t))↔d.2.2.1= .str z/\rt=t:=by
 unfold d8;rw[show cQ ds ((rt,d.1,rj):aN).2.1=some d from h,Option.bind_some];walk_at"g1";obtain⟨dn,dst,de,lt⟩:=d;walk_at"g2";show (match de with| .str z=>some [Sum.inr z,Sum.inl rt]|_=>none)=_↔de= .str z/\rt=t;cases de with
 | str y =>
  show some (bB (y,rt))=_↔_
  constructor
  ·intro h;have h:=lU (Option.some.inj h);cases h;exact⟨rfl,rfl⟩
  ·rintro ⟨h,rfl⟩;cases h;rfl
 | _=>exact⟨(fun h=>nomatch h),(fun h=>nomatch h.1)⟩
abbrev goL (ds:List aE)(f l:Int)(rows:List aN):List Key->Int:=d0 (dZ ds) (rows.filter (cnt (ds.map (·.1)) f l))
abbrev goC (ds:List aE)(f l:Int)(rows:List aN):List Key->Int:=d0 (d8 ds) (rows.filter (cnt (ds.map (·.1)) f l))
def wt (g:Int->Str->Bool)(rows:List aN):Int:=((rows.filter fun r=>g r.1 r.2.1).map (·.2.2)).sum
theorem yY (g:Int->Str->Bool)(r:aN)(rows:List aN):wt g (r::rows)=(if g r.1 r.2.1=true then r.2.2 else 0)+wt g rows:=by
 unfold wt
 by_cases h:g r.1 r.2.1=true
 ·rw[List.filter_cons_of_pos (p:=fun r:aN=>g r.1 r.2.1) h,List.map_cons,List.sum_cons,if_pos h]
 ·rw[List.filter_cons_of_neg (p:=fun r:aN=>g r.1 r.2.1) h,if_neg h,Int.zero_add]
theorem BQ (r:aN)(rows:List aN)(t:Int)(n:Str):dF (r::rows) t n=(if (r.1,r.2.1)=(t,n) then r.2.2 else 0)+dF rows t n:=by
 have h:=yY (fun t' n'=>decide (t'=t)&&decide (n'=n)) r rows;have e:((decide (r.1=t)&&decide (r.2.1=n))=true)↔((r.1,r.2.1)=(t,n)):=by
  rw[Bool.and_eq_true,decide_eq_true_eq,decide_eq_true_eq,Prod.mk.injEq]
 by_cases c:(r.1,r.2.1)=(t,n)
 ·rw[if_pos (e.mpr c)]at h;rw[if_pos c];exact h
 ·rw[if_neg (fun z=>c (e.mp z))]at h;rw[if_neg c];exact h
theorem TH (a b:List aN)(t:Int)(n:Str):dF (a++b) t n=dF a t n+dF b t n:=by
 unfold dF;rw[List.filter_append,List.map_append,List.sum_append]
theorem JS {α:Type}(f g:α->Int):∀l:List α,(l.map fun x=>f x+g x).sum=(l.map f).sum+(l.map g).sum
 | []=>rfl
 | a::l=>by
  have ih:=JS f g l;simp only[List.map_cons,List.sum_cons]
  lia
theorem AF {α:Type}{f:α->Int}:∀{l:List α},(∀x∈l,f x=0)->(l.map f).sum=0
 | [],_=>rfl
 | a::l,h=>by
  rw[List.map_cons,List.sum_cons,h a (.head _),AF fun x hx=>h x (List.mem_cons_of_mem _ hx)];rfl
theorem NX {α:Type}[DecidableEq α]{a:α}{c:Int}:∀{l:List α},l.Nodup->a∈l->(l.map fun x=>if a=x then c else 0).sum=c
 | b::l,nd,h=>by
  have nd':=List.nodup_cons.mp nd;rw[List.map_cons,List.sum_cons];rcases List.mem_cons.mp h with rfl|h
  ·rw[if_pos rfl,AF (fun x hx=>if_neg fun z=>nd'.1 (by rw[z];exact hx))];exact Int.add_zero _
  ·rw[if_neg (fun z=>nd'.1 (by rw[←z];exact h)),NX nd'.2 h];exact Int.zero_add _
def ded {α:Type}[DecidableEq α]:List α->List α
 | []=>[]
 | a::l=>if a∈ded l then ded l else a::ded l
theorem DR {α:Type}[DecidableEq α]{x:α}:∀{l:List α},x∈l->x∈ded l
 | a::l,h=>by
  unfold ded;rcases List.mem_cons.mp h with rfl|h
  ·split
   ·assumption
   ·exact .head _
  ·split
   ·exact DR h
   ·exact List.mem_cons_of_mem _ (DR h)
theorem xI {α:Type}[DecidableEq α]:∀l:List α,(ded l).Nodup
 | []=>List.nodup_nil
 | a::l=>by
  unfold ded
  split
  ·exact xI l
  ·rename_i h;exact List.nodup_cons.mpr ⟨h,xI l⟩
theorem DT (g:Int->Str->Bool){Ks:List (Int×Str)}(nd:Ks.Nodup):∀{rows:List aN},(∀r∈rows,(r.1,r.2.1)∈Ks)->wt g rows=(Ks.map fun k=>if g k.1 k.2=true then dF rows k.1 k.2 else 0).sum
 | [],_=>by
  rw[AF (fun k _=>by split<;>rfl)];rfl
 | r::rows,h=>by
  have ih:=DT g nd (rows:=rows) fun r hr=>h r (List.mem_cons_of_mem _ hr);have hk:=h r (.head _);rw[yY,ih];have e:(fun k:Int×Str=>if g k.1 k.2=true then dF (r::rows) k.1 k.2 else 0)=fun k=>(if (r.1,r.2.1)=k then (if g r.1 r.2.1=true then r.2.2 else 0) else 0)+(if g k.1 k.2=true then dF rows k.1 k.2 else 0):=by
   funext k
   rw[BQ]
   by_cases c:(r.1,r.2.1)=k
   ·subst c;rw[if_pos rfl,if_pos rfl]
    by_cases d:g r.1 r.2.1=true
    ·rw[if_pos d,if_pos d,if_pos d]
    ·rw[if_neg d,if_neg d,if_neg d];rfl
   ·rw[if_neg c,if_neg c,Int.zero_add,Int.zero_add]
  rw[e,JS,NX nd hk]
theorem M8 {g g':Int->Str->Bool}{rows:List aN} (h:∀t n,dF rows t n≠0->g t n=g' t n):wt g rows=wt g' rows:=by
 have nd:=xI (rows.map fun r=>(r.1,r.2.1));have hm:∀r∈rows,(r.1,r.2.1)∈ded (rows.map fun r=>(r.1,r.2.1)):=fun r hr=>DR (List.mem_map.mpr ⟨r,hr,rfl⟩);rw[DT g nd hm,DT g' nd hm]
 congr 2
 funext k
 by_cases c:dF rows k.1 k.2=0
 ·rw[c,ite_self,ite_self]
 ·rw[h _ _ c]
theorem NB (rows:List aN):wt (fun _ _=>false) rows=0:=by
 unfold wt;rw[List.filter_eq_nil_iff.mpr (fun _ _=>Bool.false_ne_true)];rfl
theorem uQ (ds:List aE)(f l:Int)(rows:List aN)(k:List Key):goL ds f l rows k=wt (fun t n=>decide (dZ ds (t,n,0)=some k)&&cnt (ds.map (·.1)) f l (t,n,0)) rows:=by
 unfold goL d0;rw[List.filter_filter];rfl
theorem rM (ds:List aE)(f l:Int)(rows:List aN)(k:List Key):goC ds f l rows k=wt (fun t n=>decide (d8 ds (t,n,0)=some k)&&cnt (ds.map (·.1)) f l (t,n,0)) rows:=by
 unfold goC d0;rw[List.filter_filter];rfl
theorem UF {ds:List aE}{f l t:Int}{d:aE} (hd:d∈ds) (h0:f<=t) (h1:t<l):cnt (ds.map (·.1)) f l (t,d.1,0)=true:=by
 unfold cnt;simp only[Bool.and_eq_true,decide_eq_true_eq];exact⟨List.mem_map.mpr ⟨d,hd,rfl⟩,h0,h1⟩
theorem WG {ds:List aE}(nd:(ds.map (·.1)).Nodup){f l t:Int}{d:aE} (hd:d∈ds) (h0:f<=t) (h1:t<l) (c:Int) (R:List aN) (z:Str) (t':Int):goL ds f l ((t,d.1,c)::R) (bB (z,t'))=(if d.2.1=z/\t=t' then c else 0)+goL ds f l R (bB (z,t')):=by
 rw[uQ,uQ,yY]
 congr 1
 show (if (decide (dZ ds (t,d.1,0)=some (bB (z,t')))&&cnt (ds.map (·.1)) f l (t,d.1,0))=true then c else 0)=_;rw[UF hd h0 h1,Bool.and_true];have e:dZ ds (t,d.1,0)=some (bB (d.2.1,t)):=by
  unfold dZ;rw[show cQ ds ((t,d.1,0):aN).2.1=some d from o8 nd hd];rfl
 rw[e]
 by_cases h:d.2.1=z/\t=t'
 ·rw[if_pos h,if_pos (by rw[h.1,h.2];exact decide_eq_true rfl)]
 ·rw[if_neg h,if_neg (fun y=>h (by
   have:=lU (Option.some.inj (of_decide_eq_true y));exact⟨(Prod.mk.inj this).1,(Prod.mk.inj this).2⟩))]
theorem V0 {ds:List aE}(nd:(ds.map (·.1)).Nodup){f l t:Int}{d:aE} (hd:d∈ds) (h0:f<=t) (h1:t<l) (c:Int) (R:List aN) (z:Str) (t':Int):goC ds f l ((t,d.1,c)::R) (bB (z,t'))=(if d.2.2.1= .str z/\t=t' then c else 0)+goC ds f l R (bB (z,t')):=by
 rw[rM,rM,yY]
 congr 1
 show (if (decide (d8 ds (t,d.1,0)=some (bB (z,t')))&&cnt (ds.map (·.1)) f l (t,d.1,0))=true then c else 0)=_;rw[UF hd h0 h1,Bool.and_true];have e:=ZV (o8 nd hd) t 0 z t'
 by_cases h:d.2.2.1= .str z/\t=t'
 ·rw[if_pos h,if_pos (decide_eq_true (e.mpr h))]
 ·rw[if_neg h,if_neg (fun y=>h (e.mp (of_decide_eq_true y)))]
theorem E8 {ps:List (Str×Int)}{L C L' C':List Key->Int}{z:Str}{f:Int}:∀{n:Nat},(∀j:Nat,j<n->L (bB (z,f+(j:Int)))=L' (bB (z,f+(j:Int)))/\C (bB (z,f+(j:Int)))=C' (bB (z,f+(j:Int))))->cY ps L C z f n=cY ps L' C' z f n
 | 0,_=>rfl
 | n+1,h=>by
  have ih:=E8 (ps:=ps) (n:=n) fun j hj=>h j (by lia);have h1:=h n (by lia);show cY ps L C z f n - L (bB (z,f+(n:Int)))+C (bB (z,f+(n:Int)))=cY ps L' C' z f n - L' (bB (z,f+(n:Int)))+C' (bB (z,f+(n:Int)));rw[ih,h1.1,h1.2]
theorem SS {ds:List aE}{t c T:Int}{n z:Str} (h:dZ ds (t,n,c)=some (bB (z,T))):t=T:=by
 unfold dZ at h;obtain⟨d,_,e⟩:=Option.map_eq_some_iff.mp h;exact(Prod.mk.inj (lU (a:=(d.2.1,t)) (b:=(z,T)) e)).2
theorem UP {ds:List aE}{t c T:Int}{n z:Str} (h:d8 ds (t,n,c)=some (bB (z,T))):t=T:=by
 unfold d8 at h;obtain⟨d,_,e⟩:=Option.bind_eq_some_iff.mp h;walk_at"g1";obtain⟨dn,dst,de,lt⟩:=d;walk_at"g2";cases de<;>first|(cases e;done)|skip
 rename_i y e;have e:some (bB (y,t))=some (bB (z,T)):=e;exact(Prod.mk.inj (lU (Option.some.inj e))).2
theorem XI {ds:List aE}{f l T:Int}{R:List aN} (tm:∀t n,dF R t n≠0->t<T) (z:Str):goL ds f l R (bB (z,T))=0:=by
 rw[uQ,←NB R];refine M8 fun t n hne=> ?_;have:=tm t n hne;rw[decide_eq_false (fun y=>by have:=SS y;lia),Bool.false_and]
theorem V2 {ds:List aE}{f l T:Int}{R:List aN} (tm:∀t n,dF R t n≠0->t<T) (z:Str):goC ds f l R (bB (z,T))=0:=by
 rw[rM,←NB R];refine M8 fun t n hne=> ?_;have:=tm t n hne;rw[decide_eq_false (fun y=>by have:=UP y;lia),Bool.false_and]
theorem oT {α:Type}(f g:α->Int):∀l:List α,(l.map fun x=>f x+g x).sum=(l.map f).sum+(l.map g).sum
 | []=>rfl
 | a::l=>by rw[List.map_cons,List.map_cons,List.map_cons,List.sum_cons,List.sum_cons,List.sum_cons,oT f g l];lia
theorem iI {α:Type}(f:α->Int):∀l:List α,(∀x∈l,f x=0)->(l.map f).sum=0
 | [],_=>rfl
 | a::l,h=>by rw[List.map_cons,List.sum_cons,h a (.head _),iI f l fun x hx=>h x (List.mem_cons_of_mem _ hx)];rfl
theorem AV (j:Int)(y:Str):∀rz:List (Str×Int),(rz.map (·.1)).Nodup->y∈rz.map (·.1)->(rz.map fun e=>if y=e.1 then j else 0).sum=j
 | [],_,h=>nomatch h
 | a::l,nd,h=>by
  have nd':=List.nodup_cons.mp nd;rw[List.map_cons,List.sum_cons]
  by_cases hy:y=a.1
  ·rw[if_pos hy,iI _ l fun x hx=>if_neg fun z=>nd'.1 (show a.1∈_ by rw[←hy,z];exact List.mem_map.mpr ⟨x,hx,rfl⟩)];exact Int.add_zero _
  ·rw[if_neg hy,AV j y l nd'.2 ((List.mem_cons.mp h).resolve_left hy)];exact Int.zero_add _
theorem R8 (ds:List aE)(f l:Int)(r:aN)(rows:List aN)(t:Int):w6 ds f l (r::rows) t=(if (cnt (ds.map (·.1)) f l r&&(decide (r.1<t)&&kF ds r.2.1))=true then r.2.2 else 0)+w6 ds f l rows t:=by
 unfold w6
 by_cases h1:cnt (ds.map (·.1)) f l r=true
 ·rw[List.filter_cons_of_pos h1]
  by_cases h2:(decide (r.1<t)&&kF ds r.2.1)=true
  ·rw[List.filter_cons_of_pos (p:=fun r:aN=>decide (r.1<t)&&kF ds r.2.1) h2,List.map_cons,List.sum_cons,if_pos (by rw[h1,h2];rfl)]
  ·rw[List.filter_cons_of_neg (p:=fun r:aN=>decide (r.1<t)&&kF ds r.2.1) h2,if_neg (by rw[h1,Bool.true_and];exact h2),Int.zero_add]
 ·rw[List.filter_cons_of_neg h1,if_neg (by rw[Bool.not_eq_true]at h1;rw[h1,Bool.false_and];decide),Int.zero_add]
theorem XA {rz:List (Str×Int)}{ds:List aE}{f l t:Int} (nr:(rz.map (·.1)).Nodup) (hin:∀d∈ds,dG (rz.map (·.1)) d) (ht:t<=l) (rt:Int) (rn:Str) (rj:Int) :
  (rz.map fun e=>gM ds f e.1 t (rt,rn,rj)).sum+(if (cnt (ds.map (·.1)) f l (rt,rn,rj)&&(decide (rt<t)&&kF ds rn))=true then rj else 0)=0:=by
 by_cases hm:rn∈ds.map (·.1)
 ·walk_at"g1";obtain⟨⟨dn,dst,de,dw⟩,hd,rfl,hdo⟩:=j9 hm;walk_at"g2";obtain⟨h1,h2⟩:=hin _ hd;have hx:kF ds dn=decide (de= .non):=by unfold kF;rw[hdo]
  by_cases hu:f<=rt/\rt<t
  ·have g:∀z,gM ds f z t (rt,dn,rj)=(if dst=z then - rj else 0)+(if de= .str z then rj else 0):=fun z=>by
    unfold gM;rw[show cQ ds ((rt,dn,rj):aN).2.1=some (dn,dst,de,dw) from hdo,if_pos ⟨hm,hu⟩]
   have e1:(rz.map fun e=>gM ds f e.1 t (rt,dn,rj)).sum= -rj+(rz.map fun e=>if de= .str e.1 then rj else 0).sum:=by
    rw[show (fun e:Str×Int=>gM ds f e.1 t (rt,dn,rj))=fun e=>(if dst=e.1 then - rj else 0)+(if de= .str e.1 then rj else 0) from funext fun e=>g e.1,oT,AV _ _ rz nr h1]
   have hcn:cnt (ds.map (·.1)) f l (rt,dn,rj)=true:=by
    unfold cnt;simp only[Bool.and_eq_true,decide_eq_true_eq];exact⟨hm,hu.1,by lia⟩
   have hlt:decide (rt<t)=true:=decide_eq_true hu.2;rw[e1,hcn,hlt,hx,Bool.true_and,Bool.true_and];rcases h2 with h2|⟨y,h2,h3⟩
   ·have hde:de= .non:=h2;subst hde;have z0:(rz.map fun e=>if V.non= .str e.1 then rj else 0).sum=0:=iI _ rz fun x _=>if_neg fun z=>nomatch z;have z1:(if decide (V.non=V.non)=true then rj else 0)=rj:=if_pos (decide_eq_true rfl);rw[z0,z1]
    lia
   ·have hde:de= .str y:=h2;subst hde;rw[show (fun e:Str×Int=>if V.str y= .str e.1 then rj else 0)=fun e=>if y=e.1 then rj else 0 from funext fun e=>by
     by_cases h:y=e.1
     ·rw[if_pos h,if_pos (by rw[h])]
     ·rw[if_neg h,if_neg (fun x=>h (V.str.inj x))],AV _ _ rz nr h3,if_neg (by rw[decide_eq_false (fun z=>nomatch z)];decide)]
    lia
  ·have g:∀z,gM ds f z t (rt,dn,rj)=0:=fun z=>by unfold gM;rw[if_neg (fun y=>hu y.2)]
   rw[iI _ rz fun x _=>g x.1,if_neg]
   ·rfl
   ·intro h;simp only[Bool.and_eq_true,decide_eq_true_eq,cnt]at h;exact hu ⟨h.1.2.1,h.2.1⟩
 ·have g:∀z,gM ds f z t (rt,rn,rj)=0:=fun z=>by unfold gM;rw[if_neg (fun y=>hm y.1)]
  rw[iI _ rz fun x _=>g x.1,if_neg]
  ·rfl
  ·intro h;simp only[Bool.and_eq_true,decide_eq_true_eq,cnt]at h;exact hm h.1.1
theorem FT {rz:List (Str×Int)}{ds:List aE}{f l t:Int} (nr:(rz.map (·.1)).Nodup) (hin:∀d∈ds,dG (rz.map (·.1)) d) (ht:t<=l):∀rows:List aN,(rz.map fun e=>fP ds f e.1 t rows).sum+w6 ds f l rows t=0
 | []=>by
  have h0:(rz.map fun e=>fP ds f e.1 t []).sum=0:=iI _ rz fun x _=>rfl;rw[h0];rfl
 | (rt,rn,rj)::rows=>by
  have ih:=FT (f:=f) nr hin ht rows;have h1:=XA (f:=f) nr hin ht rt rn rj;rw[R8,show (fun e:Str×Int=>fP ds f e.1 t ((rt,rn,rj)::rows))=fun e=>gM ds f e.1 t (rt,rn,rj)+fP ds f e.1 t rows from funext fun e=>by unfold fP;rw[List.map_cons,List.sum_cons],oT];show _+_+((if (cnt (ds.map (·.1)) f l (rt,rn,rj)&&(decide (rt<t)&&kF ds rn))=true then rj else 0)+_)=0
  lia
theorem WD {rz:List (Str×Int)}{ps:List (Str×Int)}{ds:List aE}{f l t:Int} (nr:(rz.map (·.1)).Nodup) (hin:∀d∈ds,dG (rz.map (·.1)) d) (ht:t<=l) (rows:List aN):(rz.map fun e=>cU ps e.1+fP ds f e.1 t rows).sum+w6 ds f l rows t=jQ rz ps:=by
 have h:=FT (f:=f) nr hin ht rows;rw[oT];unfold jQ
 lia
theorem N4 {ps:List (Str×Int)}(h:∀p∈ps,0<=p.2)(z:Str):0<=cU ps z:=by
 induction ps with
 | nil=>exact Int.le_refl _
 | cons a l ih =>
  have h1:=ih fun p hp=>h p (List.mem_cons_of_mem _ hp);have h2:=h a (.head _);unfold cU at h1 ⊢
  by_cases e:a.1=z
  ·rw[List.filter_cons_of_pos (by simpa using e),List.map_cons,List.sum_cons];lia
  ·rw[List.filter_cons_of_neg (by simpa using e)];exact h1
def c9 (ks:List Str)(g:Str->Int):List (Key×V):=ks.map fun n=>(Sum.inr n,V.int (g n))
def dY (g:Str->Int)(n:Str)(v:Int):Str->Int:=fun x=>if x=n then v else g x
theorem FW (ks:List Str)(g:Str->Int):(c9 ks g).map (·.1)=ks.map (Sum.inr:Str->Key):=by unfold c9;rw[List.map_map];rfl
theorem rR (ks:List Str)(g:Str->Int):(c9 ks g).length=ks.length:=by unfold c9;rw[List.length_map]
theorem cE {g:Str->Int}{n:Str}:∀{ks:List Str},n∈ks->bH (c9 ks g) (.inr n)=some (.int (g n))
 | a::ks,h=>by
  show bH ((Sum.inr a,V.int (g a))::c9 ks g) (.inr n)=_
  by_cases e:a=n
  ·subst e;rw[d9 rfl]
  ·rw[dI (fun z=>e (Sum.inr.inj z))];exact cE ((List.mem_cons.mp h).resolve_left (fun z=>e z.symm))
theorem IS {g:Str->Int}{n:Str}{ks:List Str}:((c9 ks g).any fun kv=>decide (kv.1=Sum.inr n))=decide (n∈ks):=by
 rw[Bool.eq_iff_iff,List.any_eq_true,decide_eq_true_eq]
 constructor
 ·rintro ⟨e,he,hk⟩;obtain⟨x,hx,rfl⟩:=List.mem_map.mp he;have:=Sum.inr.inj (of_decide_eq_true hk);exact this▸hx
 ·intro h;exact⟨_,List.mem_map.mpr ⟨n,h,rfl⟩,decide_eq_true rfl⟩
theorem AI {ks:List Str}{g:Str->Int}{n:Str}{v:Int} (h:n∈ks):cJ (c9 ks g) (.inr n) (.int v)=c9 ks (dY g n v):=by
 unfold cJ;rw[IS,decide_eq_true h,if_pos rfl];unfold c9;rw[List.map_map];refine List.map_congr_left fun x _=> ?_;show (if (Sum.inr x:Key)=Sum.inr n then ((Sum.inr x:Key),V.int v) else (Sum.inr x,V.int (g x)))=_;unfold dY
 by_cases e:x=n
 ·rw[if_pos (by rw[e]),if_pos e]
 ·rw[if_neg (fun z=>e (Sum.inr.inj z)),if_neg e]
theorem IN {ks:List Str}{g:Str->Int}{n:Str}{v:Int} (h:n∉ks):cJ (c9 ks g) (.inr n) (.int v)=c9 (ks++[n]) (dY g n v):=by
 unfold cJ;rw[IS,decide_eq_false h,if_neg Bool.false_ne_true];unfold c9;rw[List.map_append,List.map_singleton]
 congr 1
 ·refine List.map_congr_left fun x hx=> ?_;unfold dY;rw[if_neg (fun z:x=n=>h (z▸hx))]
 ·unfold dY;rw[if_pos rfl]
theorem UE (g:Str->Int)(n:Str):dY g n (g n)=g:=funext fun x=>by
 unfold dY
 split
 ·subst_vars;rfl
 ·rfl
theorem W8 {ks:List Str}{g:Str->Int}{n:Str} (h:n∉ks):cJ (c9 ks g) (.inr n) (.int (g n))=c9 (ks++[n]) g:=by rw[IN h,UE]
theorem K7 {g:Str->Int}{n:Str}{v:Int}:∀{ks:List Str},ks.Nodup->n∈ks->(ks.map (dY g n v)).sum=(ks.map g).sum - g n+v
 | a::ks,nd,h=>by
  have nd':=List.nodup_cons.mp nd;rw[List.map_cons,List.sum_cons,List.map_cons,List.sum_cons]
  by_cases e:a=n
  ·subst e;have:ks.map (dY g a v)=ks.map g:=List.map_congr_left fun x hx=>by
    unfold dY;rw[if_neg (fun z:x=a=>nd'.1 (z▸hx))]
   rw[this];show (if a=a then v else g a)+_=_;rw[if_pos rfl];lia
  ·rw[K7 nd'.2 ((List.mem_cons.mp h).resolve_left (fun z=>e z.symm))];show (if a=n then v else g a)+_=_;rw[if_neg e];lia
theorem CG {g:Str->Int}:∀{ks:List Str},(∀n∈ks,0<=g n)->0<=(ks.map g).sum
 | [],_=>Int.le_refl _
 | a::ks,h=>by
  rw[List.map_cons,List.sum_cons];have:=CG (ks:=ks) fun n hn=>h n (List.mem_cons_of_mem _ hn);have:=h a (.head _)
  lia
theorem NN {g:Str->Int}:∀{ks:List Str},0<(ks.map g).sum->∃n∈ks,0<g n
 | [],h=>absurd h (Int.lt_irrefl 0)
 | a::ks,h=>by
  rw[List.map_cons,List.sum_cons]at h
  by_cases c:0<g a
  ·exact⟨a,.head _,c⟩
  ·obtain⟨n,hn,hp⟩:=NN (g:=g) (ks:=ks) (by lia);exact⟨n,List.mem_cons_of_mem _ hn,hp⟩
def iB (ds:List aE)(g:Str->Int)(z:Str):Int:=((jM ds z).map g).sum
def qS (ds:List aE)(g:Str->Int)(z:Str):Int:=((iA ds z).map g).sum
def sLf (ds:List aE)(g:Str->Int)(z n:Str):Int:=match cQ ds n with
 | some d=>if d.2.1=z then g n else 0
 | none=>0
def sCf (ds:List aE)(g:Str->Int)(z n:Str):Int:=match cQ ds n with
 | some d=>if d.2.2.1= .str z then g n else 0
 | none=>0
theorem CJ {ds:List aE}(nd:(ds.map (·.1)).Nodup){d:aE}(hd:d∈ds)(g:Str->Int)(z:Str):sLf ds g z d.1=if d.2.1=z then g d.1 else 0:=by unfold sLf;rw[o8 nd hd]
theorem CZ {ds:List aE}(nd:(ds.map (·.1)).Nodup){d:aE}(hd:d∈ds)(g:Str->Int)(z:Str):sCf ds g z d.1=if d.2.2.1= .str z then g d.1 else 0:=by unfold sCf;rw[o8 nd hd]
theorem DO {α:Type}(q:α->Bool)(h:α->Int):∀l:List α,((l.filter q).map h).sum=(l.map fun x=>if q x=true then h x else 0).sum
 | []=>rfl
 | a::l=>by
  have ih:=DO q h l;rw[List.map_cons,List.sum_cons]
  by_cases c:q a=true
  ·rw[List.filter_cons_of_pos c,List.map_cons,List.sum_cons,ih,if_pos c]
  ·rw[List.filter_cons_of_neg c,ih,if_neg c,Int.zero_add]
theorem AS {ds:List aE}(nd:(ds.map (·.1)).Nodup)(g:Str->Int)(z:Str):((ds.map (·.1)).map (sLf ds g z)).sum=iB ds g z:=by
 unfold iB jM;rw[List.map_map,List.map_map,DO]
 congr 1
 refine List.map_congr_left fun d hd=> ?_;show sLf ds g z d.1=if decide (d.2.1=z)=true then g d.1 else 0;rw[CJ nd hd]
 by_cases c:d.2.1=z
 ·rw[if_pos c,if_pos (decide_eq_true c)]
 ·rw[if_neg c,if_neg (fun y=>c (of_decide_eq_true y))]
theorem z4 {ds:List aE}(nd:(ds.map (·.1)).Nodup)(g:Str->Int)(z:Str):((ds.map (·.1)).map (sCf ds g z)).sum=qS ds g z:=by
 unfold qS iA;rw[List.map_map,List.map_map,DO]
 congr 1
 refine List.map_congr_left fun d hd=> ?_;show sCf ds g z d.1=if decide (d.2.2.1= .str z)=true then g d.1 else 0;rw[CZ nd hd]
 by_cases c:d.2.2.1= .str z
 ·rw[if_pos c,if_pos (decide_eq_true c)]
 ·rw[if_neg c,if_neg (fun y=>c (of_decide_eq_true y))]
theorem nW {f:Str->Int}{a b:List Str} (h:a.Perm b):(a.map f).sum=(b.map f).sum:=by
 induction h with
 | nil=>rfl
 | cons x _ ih=>rw[List.map_cons,List.sum_cons,List.map_cons,List.sum_cons,ih]
 | swap x y l=>simp only[List.map_cons,List.sum_cons];lia
 | trans _ _ h1 h2=>exact h1.trans h2
def IC (rz:List (Str×Int))(ds:List aE)(g I:Str->Int):Prop:=∀e∈rz,iB ds g e.1<=I e.1/\I e.1 - iB ds g e.1+qS ds g e.1<=e.2
def cR (T:Int)(g:Str->Int)(L:List Str):List aN:=(L.filter fun n=>decide (0<g n)).map fun n=>(T,n,g n)
theorem qN (T:Int)(g:Str->Int)(L:List Str)(n:Str):cR T g (L++[n])=if 0<g n then cR T g L++[(T,n,g n)] else cR T g L:=by
 unfold cR;rw[List.filter_append,List.map_append]
 by_cases c:0<g n
 ·rw[List.filter_cons_of_pos (p:=fun n=>decide (0<g n)) (decide_eq_true c),if_pos c];rfl
 ·rw[List.filter_cons_of_neg (p:=fun n=>decide (0<g n)) (fun y=>c (of_decide_eq_true y)),if_neg c];exact List.append_nil _
theorem wE (T:Int)(g:Str->Int)(L:List Str)(n:Str):cR T g (n::L)=if 0<g n then (T,n,g n)::cR T g L else cR T g L:=by
 unfold cR
 by_cases c:0<g n
 ·rw[List.filter_cons_of_pos (p:=fun n=>decide (0<g n)) (decide_eq_true c),if_pos c];rfl
 ·rw[List.filter_cons_of_neg (p:=fun n=>decide (0<g n)) (fun y=>c (of_decide_eq_true y)),if_neg c]
theorem FR (T:Int)(g:Str->Int)(L:List Str):(cR T g L).length<=L.length:=by
 unfold cR;rw[List.length_map];exact List.length_filter_le _ _
theorem xT {T:Int}{g:Str->Int}{L:List Str}{r:aN} (h:r∈cR T g L):r.1=T/\r.2.1∈L/\r.2.2=g r.2.1/\0<r.2.2:=by
 obtain⟨n,hn,rfl⟩:=List.mem_map.mp h;obtain⟨h1,h2⟩:=List.mem_filter.mp hn;exact⟨rfl,h1,rfl,of_decide_eq_true h2⟩
theorem aBa (ds:List aE)(f l:Int)(a b:List aN)(k:List Key):goL ds f l (a++b) k=goL ds f l a k+goL ds f l b k:=by
 rw[uQ,uQ,uQ];unfold wt;rw[List.filter_append,List.map_append,List.sum_append]
theorem aAC (ds:List aE)(f l:Int)(a b:List aN)(k:List Key):goC ds f l (a++b) k=goC ds f l a k+goC ds f l b k:=by
 rw[rM,rM,rM];unfold wt;rw[List.filter_append,List.map_append,List.sum_append]
theorem K3 {ds:List aE}(nd:(ds.map (·.1)).Nodup){f l T:Int}(h0:f<=T)(h1:T<l){g:Str->Int}(z:Str)(t':Int):∀{L:List Str},(∀n∈L,n∈ds.map (·.1)/\0<=g n)->goL ds f l (cR T g L) (bB (z,t'))=if T=t' then (L.map (sLf ds g z)).sum else 0
 | [],_=>by
  rw[show goL ds f l (cR T g []) (bB (z,t'))=0 from rfl]
  split<;>rfl
 | n::L,h=>by
  have ih:=K3 nd h0 h1 z t' (L:=L) fun n hn=>h n (List.mem_cons_of_mem _ hn);obtain⟨hn,hg⟩:=h n (.head _);obtain⟨d,hd,rfl⟩:=List.mem_map.mp hn;rw[wE,List.map_cons,List.sum_cons,CJ nd hd]
  by_cases c:0<g d.1
  ·rw[if_pos c,WG nd hd h0 h1,ih]
   by_cases e:T=t'
   ·rw[if_pos e,if_pos e]
    by_cases q:d.2.1=z
    ·rw[if_pos ⟨q,e⟩,if_pos q]
    ·rw[if_neg (fun y=>q y.1),if_neg q]
   ·rw[if_neg e,if_neg e,if_neg (fun y=>e y.2)];rfl
  ·have g0:g d.1=0:=by lia
   rw[if_neg c,ih,g0,ite_self,Int.zero_add]
theorem IR {ds:List aE}(nd:(ds.map (·.1)).Nodup){f l T:Int}(h0:f<=T)(h1:T<l){g:Str->Int}(z:Str)(t':Int):∀{L:List Str},(∀n∈L,n∈ds.map (·.1)/\0<=g n)->goC ds f l (cR T g L) (bB (z,t'))=if T=t' then (L.map (sCf ds g z)).sum else 0
 | [],_=>by
  rw[show goC ds f l (cR T g []) (bB (z,t'))=0 from rfl]
  split<;>rfl
 | n::L,h=>by
  have ih:=IR nd h0 h1 z t' (L:=L) fun n hn=>h n (List.mem_cons_of_mem _ hn);obtain⟨hn,hg⟩:=h n (.head _);obtain⟨d,hd,rfl⟩:=List.mem_map.mp hn;rw[wE,List.map_cons,List.sum_cons,CZ nd hd]
  by_cases c:0<g d.1
  ·rw[if_pos c,V0 nd hd h0 h1,ih]
   by_cases e:T=t'
   ·rw[if_pos e,if_pos e]
    by_cases q:d.2.2.1= .str z
    ·rw[if_pos ⟨q,e⟩,if_pos q]
    ·rw[if_neg (fun y=>q y.1),if_neg q]
   ·rw[if_neg e,if_neg e,if_neg (fun y=>e y.2)];rfl
  ·have g0:g d.1=0:=by lia
   rw[if_neg c,ih,g0,ite_self,Int.zero_add]
theorem C0 {T:Int}{g:Str->Int} (t:Int) (n:Str):∀{L:List Str},L.Nodup->(∀n∈L,0<=g n)->dF (cR T g L) t n=if T=t/\n∈L then g n else 0
 | [],_,_=>by
  rw[if_neg (fun y=>nomatch y.2)];rfl
 | a::L,nd,h=>by
  have nd':=List.nodup_cons.mp nd;have ih:=C0 (T:=T) t n nd'.2 fun n hn=>h n (List.mem_cons_of_mem _ hn);have ha:=h a (.head _);rw[wE]
  by_cases c:0<g a
  ·rw[if_pos c,BQ,ih]
   by_cases e:(T,a)=(t,n)
   ·have e1:T=t:=(Prod.mk.inj e).1;have e2:a=n:=(Prod.mk.inj e).2;subst e2;rw[if_pos e,if_neg (fun y=>nd'.1 y.2),if_pos ⟨e1,.head _⟩,Int.add_zero]
   ·rw[if_neg e,Int.zero_add]
    by_cases q:T=t/\n∈L
    ·rw[if_pos q,if_pos ⟨q.1,List.mem_cons_of_mem _ q.2⟩]
    ·rw[if_neg q,if_neg (fun y=>(List.mem_cons.mp y.2).elim (fun z=>e (by rw[y.1,z])) (fun z=>q ⟨y.1,z⟩))]
  ·rw[if_neg c,ih]
   by_cases q:T=t/\n∈L
   ·rw[if_pos q,if_pos ⟨q.1,List.mem_cons_of_mem _ q.2⟩]
   ·rw[if_neg q]
    by_cases q2:T=t/\n∈a::L
    ·rw[if_pos q2];have:n=a:=(List.mem_cons.mp q2.2).resolve_right (fun z=>q ⟨q2.1,z⟩);subst this
     lia
    ·rw[if_neg q2]
structure Lawn (rz ps:List (Str×Int))(ds:List aE)(f l:Int)(i:Nat)(I:Str->Int)(R:List aN):Prop where
 ins:∀z∈rz.map (·.1),I z=cY ps (goL ds f l R) (goC ds f l R) z f i
 bd:∀e∈rz,0<=I e.1/\I e.1<=e.2
 lv:∀j:Nat,j<i->∀z∈rz.map (·.1),goL ds f l R (bB (z,f+(j:Int)))<=cY ps (goL ds f l R) (goC ds f l R) z f j
 fu:∀j:Nat,j<=i->∀e∈rz,cY ps (goL ds f l R) (goC ds f l R) e.1 f j<=e.2
 le:∀t n,dF R t n<=iY ds f l t n
 tm:∀r∈R,f<=r.1/\r.1<f+(i:Int)
 nm:∀r∈R,r.2.1∈ds.map (·.1)
 ps0:∀r∈R,0<r.2.2
 len:R.length<=8 * i
theorem CF {R:List aN}{t:Int}{n:Str} (h:∀r∈R,r.1≠t):dF R t n=0:=by
 unfold dF;rw[List.filter_eq_nil_iff.mpr (fun r hr=>by
  rw[Bool.and_eq_true,decide_eq_true_eq];exact fun y=>h r hr y.1)]
 rfl
theorem ZE {ds:List aE}{f l T:Int}{R:List aN} (tm:∀r∈R,f<=r.1/\r.1<T) (z:Str):goL ds f l R (bB (z,T))=0/\goC ds f l R (bB (z,T))=0:=by
 have h:∀t n,dF R t n≠0->t<T:=fun t n hne=>by
  by_cases c:t<T
  ·exact c
  ·exact absurd (CF fun r hr e=>by have:=(tm r hr).2;lia) hne
 exact⟨XI h z,V2 h z⟩
theorem Lawn.start {rz ps:List (Str×Int)}{ds:List aE}{f l:Int} (nr:(rz.map (·.1)).Nodup) (hfit:uA rz ps) (hm:∀t n,0<=iY ds f l t n):Lawn rz ps ds f l 0 (fun z=>cU ps z) []:=by
 refine⟨fun z _=>rfl,fun e he=>⟨?_,hfit.2 e he⟩,fun j hj=>absurd hj (Nat.not_lt_zero _),fun j hj e he=> ?_,fun t n=>hm t n,(fun _ z=>nomatch z),(fun _ z=>nomatch z),(fun _ z=>nomatch z),Nat.le_refl _⟩
 ·exact N4 hfit.1 e.1
 ·obtain rfl:j=0:=by lia
  exact hfit.2 e he
theorem Lawn.step {rz ps:List (Str×Int)}{ds:List aE}{f l:Int}{i:Nat}{I:Str->Int}{R:List aN} (h:Lawn rz ps ds f l i I R) (nd:(ds.map (·.1)).Nodup) (ld:ds.length<=8) (hi:f+(i:Int)<l) {g:Str->Int} (hg:∀d∈ds,0<=g d.1/\g d.1<=fL f l d (f+(i:Int))) (hm:∀t n,0<=iY ds f l t n) (ok:IC rz ds g I) {L:List Str} (hL:L.Perm (ds.map (·.1))) :
  Lawn rz ps ds f l (i+1) (fun z=>I z - (L.map (sLf ds g z)).sum+(L.map (sCf ds g z)).sum) (R++cR (f+(i:Int)) g L):=by
 have hLn:∀n∈L,n∈ds.map (·.1)/\0<=g n:=fun n hn=>by
  have:=hL.mem_iff.mp hn;obtain⟨d,hd,rfl⟩:=List.mem_map.mp this;exact⟨this,(hg d hd).1⟩
 have ndL:L.Nodup:=hL.nodup_iff.mpr nd;have h0:f<=f+(i:Int):=by lia
 have gz:=ZE (ds:=ds) (l:=l) h.tm;have eL:∀z (j:Nat),goL ds f l (R++cR (f+(i:Int)) g L) (bB (z,f+(j:Int)))=if j=i then iB ds g z else goL ds f l R (bB (z,f+(j:Int))):=fun z j=>by
  rw[aBa,K3 nd h0 hi z _ hLn,nW hL,AS nd]
  by_cases c:j=i
  ·subst c;rw[if_pos rfl,if_pos rfl,(gz z).1,Int.zero_add]
  ·rw[if_neg (by lia),if_neg c,Int.add_zero]
 have eC:∀z (j:Nat),goC ds f l (R++cR (f+(i:Int)) g L) (bB (z,f+(j:Int)))=if j=i then qS ds g z else goC ds f l R (bB (z,f+(j:Int))):=fun z j=>by
  rw[aAC,IR nd h0 hi z _ hLn,nW hL,z4 nd]
  by_cases c:j=i
  ·subst c;rw[if_pos rfl,if_pos rfl,(gz z).2,Int.zero_add]
  ·rw[if_neg (by lia),if_neg c,Int.add_zero]
 have eI:∀z (j:Nat),j<=i->cY ps (goL ds f l (R++cR (f+(i:Int)) g L)) (goC ds f l (R++cR (f+(i:Int)) g L)) z f j=cY ps (goL ds f l R) (goC ds f l R) z f j:=fun z j hj=>E8 fun q hq=>by
  rw[eL,eC,if_neg (by lia),if_neg (by lia)];exact⟨rfl,rfl⟩
 have eI1:∀z∈rz.map (·.1),cY ps (goL ds f l (R++cR (f+(i:Int)) g L)) (goC ds f l (R++cR (f+(i:Int)) g L)) z f (i+1)=I z - iB ds g z+qS ds g z:=fun z hz=>by
  show cY ps (goL ds f l (R++cR (f+(i:Int)) g L)) (goC ds f l (R++cR (f+(i:Int)) g L)) z f i - goL ds f l (R++cR (f+(i:Int)) g L) (bB (z,f+(i:Int)))+goC ds f l (R++cR (f+(i:Int)) g L) (bB (z,f+(i:Int)))=_;rw[eI z i (Nat.le_refl _),eL,eC,if_pos rfl,if_pos rfl,h.ins z hz]
 have cn:∀z,0<=qS ds g z:=fun z=>CG fun n hn=>by
  unfold iA at hn;obtain⟨d,hd,rfl⟩:=List.mem_map.mp hn;exact(hg d (List.mem_filter.mp hd).1).1
 refine⟨fun z hz=> ?_,fun e he=> ?_,fun j hj z hz=> ?_,fun j hj e he=> ?_,fun t n=> ?_,fun r hr=> ?_,fun r hr=> ?_,fun r hr=> ?_,?_⟩
 ·show I z - (L.map (sLf ds g z)).sum+(L.map (sCf ds g z)).sum=_;rw[nW hL,AS nd,nW hL,z4 nd];exact(eI1 z hz).symm
 ·show 0<=I e.1 - (L.map (sLf ds g e.1)).sum+(L.map (sCf ds g e.1)).sum/\I e.1 - (L.map (sLf ds g e.1)).sum+(L.map (sCf ds g e.1)).sum<=e.2;rw[nW hL,AS nd,nW hL,z4 nd];have:=ok e he;have:=cn e.1
  lia
 ·rw[eL,eI z j (by lia)]
  by_cases c:j=i
  ·subst c;rw[if_pos rfl,←h.ins z hz];obtain⟨e,he,rfl⟩:=List.mem_map.mp hz;exact(ok e he).1
  ·rw[if_neg c];exact h.lv j (by lia) z hz
 ·by_cases c:j<=i
  ·rw[eI _ j c];exact h.fu j c e he
  ·obtain rfl:j=i+1:=by lia
   rw[eI1 _ (List.mem_map.mpr ⟨e,he,rfl⟩)];exact(ok e he).2
 ·rw[TH,C0 t n ndL fun n hn=>(hLn n hn).2]
  by_cases c:f+(i:Int)=t/\n∈L
  ·rw[if_pos c,CF (fun r hr e=>by have:=(h.tm r hr).2;have:=c.1;lia),Int.zero_add];obtain⟨d,hd,rfl⟩:=List.mem_map.mp (hLn n c.2).1;unfold iY;rw[o8 nd hd,←c.1];exact(hg d hd).2
  ·rw[if_neg c,Int.add_zero];exact h.le t n
 ·rcases List.mem_append.mp hr with hr|hr
  ·have:=h.tm r hr;lia
  ·have:=(xT hr).1;lia
 ·rcases List.mem_append.mp hr with hr|hr
  ·exact h.nm r hr
  ·exact(hLn _ (xT hr).2.1).1
 ·rcases List.mem_append.mp hr with hr|hr
  ·exact h.ps0 r hr
  ·exact(xT hr).2.2.2
 ·have l1:=FR (f+(i:Int)) g L;have l2:=hL.length_eq;rw[List.length_map]at l2;have l3:=h.len;rw[List.length_append]
  lia
theorem Lawn.nf {rz ps:List (Str×Int)}{ds:List aE}{f l:Int}{i:Nat}{I:Str->Int}{R:List aN} (h:Lawn rz ps ds f l i I R) (hi:f+(i:Int)=l):IE rz ps ds f l R :=
 ⟨h.le,fun e he j hj=>h.lv j (by lia) e.1 (List.mem_map.mpr ⟨e,he,rfl⟩),fun e he j hj=>h.fu j (by lia) e he⟩
def j7 (ns:List Int)(k:Int):Int:=ns.getD k.toNat 0
inductive yZ (K:PySem.W.Frag)(vs:List V)(H:Hp)(Q:VK)(E:XK):Prop
 | mk (a:Addr) (ns:List Int) (k:Int) (_:vs=[.ref a,.int k]) (_:SqL K H a (ns.map V.int)) (_:0<=k) (_:Q (.int (j7 ns k)) H):yZ K vs H Q E
theorem aDg {H:Hp}{Q:VK}{E:XK}{a:Addr}{ns:List Int}{i:Int} (hS:SqL K H a (ns.map V.int)) (hi:0<=i) (h:Q (.int (j7 ns i)) H):yZ K [.ref a,.int i] H Q E:=⟨_,_,_,rfl,hS,hi,h⟩
theorem BP (m:M K mg):FnOk P w K mg base CX0 1 m.nY m.oN ["_law_script","_law_k"] (yZ K):=by
 refine m.bZ.ok sc__law_cell_at (fun vs H Q E h=> ?_) (fun cdv A outer s H vs Q E hr h=> ?_)
 ·walk_at"g1";obtain⟨a,ns,i,rfl,hS,hi,k⟩:=h;walk_at"g2";rfl
 ·walk_at"g1";obtain⟨a,ns,i,rfl,hS,hi,k⟩:=h;walk_at"g2";have nd:=sc__law_cell_at.nd;walk_at"hu";refine⟨_,(aC (cC (aZ mI (pv 1) (bV iT rfl m.oV k7 (aA (pv 0) aD)) (bD _)) (aF (aY (eY iG (pv 0) (pv 1) (fun _ _=>rfl)))) bN)
   (aF (aY aG))),?_⟩
  refine aT (σ:=[some (.ref a),some (.int i)]) rfl ?_;walk_at"cx";walk_at"go";rw[List.length_map];refine c7 (fun h1=> ?_) (fun h1=> ?_)
  ·have hlt:i.toNat<ns.length:=by lia
   have e:=zB (xs:=ns.map V.int) (j:=i.toNat) (v:= .int (j7 ns i)) (by
    rw[List.getElem?_map,List.getElem?_eq_getElem hlt];unfold j7;rw[List.getD_eq_getElem?_getD,List.getElem?_eq_getElem hlt];rfl)
   rw[show ((i.toNat:Nat):Int)=i by lia]at e;exact⟨_,rfl,_,rfl,a,_,i,_,rfl,rfl,hS,e,k⟩
  ·have e:j7 ns i=0:=by
    unfold j7;rw[List.getD_eq_getElem?_getD,List.getElem?_eq_none (by lia)];rfl
   rw[e]at k;exact k
theorem mQ (m:M K mg):Fc P w K mg base "_law_cell_at" 1 ["_law_script","_law_k"] (yZ K):=⟨_,_,m.E2,m.bZ.kp,m.EI,BP m⟩
def J0 (c k:Int):Int:=(c+7919 * k+1) * 48271%2147483647
def JL (c k:Int):Int:=J0 c k * (J0 c k/1009+69621)%2147483647
def bT (c k:Int):Int:=if c%2=1 then c/2^(20 * k+1).toNat%1048576 else (JL c k+31 * k+1) * (JL c k/757+16807)%2147483629
theorem WK (c k:Int):0<=bT c k:=by
 unfold bT
 split
 ·exact Int.emod_nonneg _ (by decide)
 ·exact Int.emod_nonneg _ (by decide)
theorem V9 (c k:Int):bT c k<2147483648:=by
 unfold bT
 split
 ·exact Int.lt_trans (Int.emod_lt_of_pos _ (by decide)) (by decide)
 ·exact Int.lt_trans (Int.emod_lt_of_pos _ (by decide)) (by decide)
inductive vW (vs:List V)(H:Hp)(Q:VK)(E:XK):Prop
 | mk (c k:Int) (_:vs=[.int c,.int k]) (_:0<=k) (_:k<=100) (_:((0<=bT c k/\bT c k<2147483648)->Q (.int (bT c k)) H)):vW vs H Q E
theorem aAZ {H:Hp}{Q:VK}{E:XK}{c k:Int} (h0:0<=k) (h1:k<=100) (h:∀n,n=bT c k->0<=n->n<2147483648->Q (.int n) H):vW [.int c,.int k] H Q E:=⟨_,_,rfl,h0,h1,fun x=>h _ rfl x.1 x.2⟩
theorem GM (m:M K mg):FnOk P w K mg base CX0 1 m.rZ m.tK ["_law_cell","_law_k"] (vW):=by
 refine m.b9.ok sc__law_drawn (fun vs H Q E h=> ?_) (fun cdv A outer s H vs Q E hr h=> ?_)
 ·walk_at"g1";obtain⟨c,j,rfl,j0,j1,k⟩:=h;walk_at"g2";rfl
 ·walk_at"g1";obtain⟨c,j,rfl,j0,j1,k⟩:=h;walk_at"g2";have nd:=sc__law_drawn.nd;walk_at"hu";refine⟨_,(aC (cC (aZ jK (aI bU (pv 0) aG) aG (bD _)) (aF (aY (aI bU (aI TC (pv 0) (aI bO (aI i7 aG (pv 1)) aG)) aG))) bN)
   (aC (aU (i:=2) nd rfl (by walk_at"oi") (aI bU (aI i7 (aI bO (aI bO (pv 0) (aI i7 aG (pv 1))) aG) aG) aG))
   (aC (aU (i:=2) nd rfl (by walk_at"oi") (aI bU (aI i7 (pv 2) (aI bO (aI dS (pv 2) aG) aG)) aG))
   (aF (aY (aI bU (aI i7 (aI bO (aI bO (pv 2) (aI i7 aG (pv 1))) aG) (aI bO (aI dS (pv 2) aG) aG)) aG)))))),?_⟩
  refine aT (σ:=[some (.int c),some (.int j),none]) rfl ?_;walk_at"cx";have k:=k ⟨WK c j,V9 c j⟩;walk_at"go";refine c7 (fun h=> ?_) (fun h=> ?_)
  ·have e:bT c j=c/2^(20 * j+1).toNat%1048576:=by unfold bT;rw[if_pos h]
   rw[e]at k;walk_at"go";refine⟨_,_,rfl,rfl,by lia,?_⟩;walk_at"go";exact k
  ·unfold bT JL J0 at k;rw[if_neg h]at k;walk_at"go";exact k
theorem pG (m:M K mg):Fc P w K mg base "_law_drawn" 1 ["_law_cell","_law_k"] (vW):=⟨_,_,m.LM,m.b9.kp,m.LY,GM m⟩
local macro_rules| `(tactic| walk_at"rd1")=> `(tactic| first|((with_reducible refine' aDg ?e ?s ?_);(case e=>walk_at"hp");(case s=>walk_at"sd"))|((with_reducible refine' aAZ ?u ?v ?_);(case u=>walk_at"sd");(case v=>walk_at"sd");intro n' d' h0' h1'))
theorem y9:kN "abcdefghijklmnopqrstuvwxyz" =true:=by decide +kernel
theorem NQ:("abcdefghijklmnopqrstuvwxyz" :Str).length=26:=by rw[bY];decide
theorem NG {x rest:Str}{b p:Int}{ch:Nat} (hx:kN x=true) (hb0:0<=b) (hb:b<8) (er:rest=Txt.slice x none (some b)) (hp0:0<=p) (hp:p<rest.length+1) (hc:kN ⟨#[ch]⟩=true):bI (Txt.slice rest none (some p)++⟨#[ch]⟩++Txt.slice rest (some p) none)=true:=by
 have l1:rest.length<=7:=by
  rcases PyProof.Rows.slice_ns_cases x b hb0 with h|h
  ·rw[er];lia
  ·rw[er];lia
 have hr:kN rest=true:=by rw[er];exact mW hx
 have l2:=(PyProof.Rows.fact_slice_ns rest p).1 hp0 (by lia);have l3:=(PyProof.Rows.fact_slice_sn rest p).1 hp0 (by lia);have l4:(⟨#[ch]⟩:Str).length=1:=rfl;refine W1 ?_ ?_ (JQ (JQ (mW hr) hc) (mW hr))
 ·rw[g9,g9];lia
 ·rw[g9,g9];lia
theorem AA:("abcdefghijklmnopqrstuvwxyz" :Str).cps.toList=List.range' 97 26:=by decide +kernel
theorem aBF {i:Int}(h0:0<=i)(h1:i<26):atI ("abcdefghijklmnopqrstuvwxyz" :Str).cps.toList i=some (97+i.toNat):=by
 have e:=zB (xs:=("abcdefghijklmnopqrstuvwxyz" :Str).cps.toList) (j:=i.toNat) (v:=97+i.toNat) (by rw[AA,List.getElem?_range' (by lia)];simp);rw[show ((i.toNat:Nat):Int)=i by lia]at e;exact e
def QG (c:Int):Str:=Txt.slice (Txt.slice "abcdefghijklmnopqrstuvwxyz" (some (bT c 1%20)) none) none (some (bT c 2%8))
def SO (c:Int):Int:=bT c 3%((QG c).length+1)
def dQ (c k:Int):Str:=Txt.slice (QG c) none (some (SO c))++⟨#[97+((bT c 4+5 * k)%26).toNat]⟩++Txt.slice (QG c) (some (SO c)) none
theorem Q3 {c k1 k2:Int}(h0:0<=k1)(h1:k1<26)(h2:0<=k2)(h3:k2<26)(h:dQ c k1=dQ c k2):k1=k2:=by
 have h':=congrArg (fun z:Str=>z.cps.toList) h;unfold dQ at h';simp only[zT]at h';have h4:=List.append_cancel_left (List.append_cancel_right h');have h5:97+((bT c 4+5 * k1)%26).toNat=97+((bT c 4+5 * k2)%26).toNat:=by simpa using h4
 omega
inductive v9 (vs:List V)(H:Hp)(Q:VK)(E:XK):Prop
 | mk (c k:Int) (_:vs=[.int c,.int k]) (_:(bI (dQ c k)=true->Q (.str (dQ c k)) H)):v9 vs H Q E
theorem aAR {H:Hp}{Q:VK}{E:XK}{c k:Int} (h:∀z,z=dQ c k->bI z=true->Q (.str z) H):v9 [.int c,.int k] H Q E:=⟨_,_,rfl,h _ rfl⟩
theorem IV (m:M K mg):FnOk P w K mg base CX0 2 m.uM m.uI ["_law_cell","_law_k"] (v9):=by
 refine m.lA.ok sc__law_name (fun vs H Q E h=> ?_) (fun cdv A outer s H vs Q E hr h=> ?_)
 ·walk_at"g1";obtain⟨c,j,rfl,k⟩:=h;walk_at"g2";rfl
 ·walk_at"g1";obtain⟨c,j,rfl,k⟩:=h;walk_at"g2";have nd:=sc__law_name.nd;walk_at"hu";have b9:= @pG P w K mg base m;refine⟨_,(aC (aU (i:=2) nd rfl (by walk_at"oi") gH)
   (aC (aU (i:=3) nd rfl (by walk_at"oi") (rN BO (rN BO (pv 2) (rD (aI bU (bG b9 hr (aA (pv 0) (aA aG aD))) aG)) yN) yN (rD (aI bU (bG b9 hr (aA (pv 0) (aA aG aD))) aG))))
   (aC (aU (i:=4) nd rfl (by walk_at"oi") (aI bU (bG b9 hr (aA (pv 0) (aA aG aD))) (aI bO (bV FU rfl m.oV k7 (aA (pv 3) aD)) aG)))
   (aF (aY (aI NA (aI NA (rN BO (pv 3) yN (rD (pv 4))) (eY aCJ (pv 2) (aI bU (aI bO (bG b9 hr (aA (pv 0) (aA aG aD))) (aI i7 aG (pv 1))) aG) (fun _ _=>rfl))) (rN BO (pv 3) (rD (pv 4)) yN))))))),?_⟩
  refine aT (σ:=[some (.int c),some (.int j),none,none,none]) rfl ?_;walk_at"cx";have hl:=NQ;walk_at"go";refine⟨_,_,_,rfl,rfl,(by walk_at"sz"),aBF (by lia) (by lia),?_⟩;walk_at"go"
  subst_vars
  refine k ?_;refine' NG (x:=Txt.slice "abcdefghijklmnopqrstuvwxyz" (some (bT c 1%20)) none) (b:=bT c 2%8) ?x ?b0 ?b1 ?er ?p0 ?p1 ?hc
  case er=>rfl
  case x=>exact mW y9
  case b0=>lia
  case b1=>lia
  case p0=>exact Int.emod_nonneg _ (by lia)
  case p1=>exact Int.emod_lt_of_pos _ (by lia)
  case hc =>
   refine IO y9 ?_;rw[AA,List.mem_range'_1]
   lia
theorem KU (m:M K mg):Fc P w K mg base "_law_name" 2 ["_law_cell","_law_k"] (v9):=⟨_,_,m.MT,m.lA.kp,m.MU,IV m⟩
local macro_rules| `(tactic| walk_at"rd1")=> `(tactic| ((with_reducible refine aAR ?_);intro z' dz' hz'))
theorem Mc.mono {C:Addr}{nm:Str}{j k:Nat}{sp:Sp} (F:Mc P w K mg base C nm j sp) (h:j<=k):Mc P w K mg base C nm k sp:=by
 walk_at"g1";obtain⟨f,fd,ps,h1,h2,h3,h4⟩:=F.ex;walk_at"g2";exact⟨f,fd,ps,h1,h2,h3,h4.mono h⟩
abbrev BC (n s e l:V):List (Str×V):=cZ "letting" l (oZ n s e (.int 1))
inductive jY (K:PySem.W.Frag)(vs:List V)(H:Hp)(Q:VK)(E:XK):Prop
 | mk (p C dx:Addr) (n s:Str) (e l:V) (_:vs=[.ref p,.str n,.str s,e,l]) (_:DCls K C) (_:H p=some (.ins C dx [])) (_:bI n=true) (_:bI s=true) (_:gK e) (_:∀H',SameBut p H H'->H' p=some (.ins C dx (BC (.str n) (.str s) e l))->Q .non H'):jY K vs H Q E
theorem MI {H:Hp}{Q:VK}{E:XK}{p C dx:Addr}{n s:Str}{e l:V} (dc:DCls K C) (hp:H p=some (.ins C dx [])) (hn:bI n=true) (hs:bI s=true) (he:gK e)
  (k:∀H',SameBut p H H'->H' p=some (.ins C dx (BC (.str n) (.str s) e l))->Q .non H'):jY K [.ref p,.str n,.str s,e,l] H Q E:=⟨_,_,_,_,_,_,_,rfl,dc,hp,hn,hs,he,k⟩
theorem AL (m:M K mg):FnOk P w K mg base CX0 4 m.nH m.nE ["self","name","start","end","letting"] (jY K):=by
 refine m.C5.ok sc_Told___init__ (fun vs H Q E h=> ?_) (fun cdv A outer s H vs Q E hr h=> ?_)
 ·walk_at"g1";obtain⟨p,C,dx,n,st,e,l,rfl,dc,hp,hn,hs,he,k⟩:=h;walk_at"g2";rfl
 ·walk_at"g1";obtain⟨p,C,dx,n,st,e,l,rfl,dc,hp,hn,hs,he,k⟩:=h;walk_at"g2";have nd:=sc_Told___init__.nd;walk_at"hu";have DD_Door___init___1:=uB (P:=P) (w:=w) (base:=base) m;refine⟨_,(aC (bP (aCw DD_Door___init___1 hr (aA (pv 0) (aA (pv 1) (aA (pv 2) (aA (pv 3) aD))))))
   (aF (gT (pv 0) (pv 4) rfl))),?_⟩
  refine aT (σ:=[some (.ref p),some (.str n),some (.str st),some (e),some (l)]) rfl ?_;walk_at"cx";walk_at"go";refine J2 ?_;walk_at"go";show eO K [.ref p,.str n,.str st,e,.int 1] _ _ _;walk_at"go";exact k _ (by walk_at"sb") (by assumption)
theorem UD (m:M K mg):Kc P w K mg base "Told" m.lC 4 [] (jY K):=⟨_,_,_,_,m.aDF,m.aBp,.nil,m.DC,AL m⟩
theorem V4 {H:Hp}{Q:VK}{E:XK}{C:Addr}{vs dvs:List V}{n s:Str}{e l:V} (ev:vs++dvs=[.str n,.str s,e,l]) (dc:DCls K C) (hn:bI n=true) (hs:bI s=true) (he:gK e)
  (k:∀p dx H',H p=none->Same H H'->H' p=some (.ins C dx (BC (.str n) (.str s) e l))->Q (.ref p) H'):tY C (jY K) dvs E Q vs H :=
 rT (fun p dx H0 Q' h k' s0=>by rw[ev];exact MI dc h hn hs he k') k
inductive mT (P:Program)(w:World)(K:PySem.W.Frag)(mg:Str->Option Value)(base:Heap)(vs:List V)(H:Hp)(Q:VK)(E:XK):Prop
 | mk (p C dx:Addr) (fs:List (Str×V)) (t:Int) (F:Addr) (o:Obj) (fd:FuncData) (ps:List Str) (sp:Sp) (_:vs=[.ref p,.int t]) (_:DCls K C) (_:H p=some (.ins C dx fs)) (_:fs.lookup ("letting" :Str)=some (.ref F)) (_:H F=some (kn o)) (_:o.data= .func fd) (_:Binds K fd ps []) (_:FnOk P w K mg base CX0 3 F fd ps sp) (_:sp [.int t] H Q E0):mT P w K mg base vs H Q E
theorem MG {H:Hp}{Q:VK}{E:XK}{p C dx:Addr}{fs:List (Str×V)}{t:Int}{F:Addr}{o:Obj}{fd:FuncData}{ps:List Str}{sp:Sp} (hp:H p=some (.ins C dx fs)) (dc:DCls K C) (l:fs.lookup ("letting" :Str)=some (.ref F)) (hF:H F=some (kn o)) (hd:o.data= .func fd)
  (hb:Binds K fd ps [])(hf:FnOk P w K mg base CX0 3 F fd ps sp)(k:sp [.int t] H Q E0):mT P w K mg base [.ref p,.int t] H Q E:=⟨_,_,_,_,_,_,_,_,_,_,rfl,dc,hp,l,hF,hd,hb,hf,k⟩
theorem KF (m:M K mg):FnOk P w K mg base CX0 4 m.uF m.uJ ["self","turn"] (mT P w K mg base):=by
 refine m.MX.ok sc_Told_lets (fun vs H Q E h=> ?_) (fun cdv A outer s H vs Q E hr h=> ?_)
 ·walk_at"g1";obtain⟨p,C,dx,fs,t,F,o,fd,ps,sp,rfl,dc,hp,l,hF,hd,hb,hf,k⟩:=h;walk_at"g2";rfl
 ·walk_at"g1";obtain⟨p,C,dx,fs,t,F,o,fd,ps,sp,rfl,dc,hp,l,hF,hd,hb,hf,k⟩:=h;walk_at"g2";have nd:=sc_Told_lets.nd;walk_at"hu";refine⟨_,(aC (aU (i:=2) nd rfl (by walk_at"oi") (aX (pv 0) rfl))
   (aF (aY (XB 3 2 hr (aA (pv 1) aD))))),?_⟩
  refine aT (σ:=[some (.ref p),some (.int t),none]) rfl ?_;walk_at"cx";walk_at"go";refine⟨F,o,fd,rfl,hF,hd,?_⟩;walk_at"go";exact⟨ps,sp,hF,hb,hf,k⟩
theorem KS (m:M K mg):Mc P w K mg base m.lC "lets" 4 (mT P w K mg base):=⟨_,_,_,m.u9.ic.cl,m.LV,m.M1,KF m⟩
theorem ZI {H:Hp}{p dx:Addr}{n st:Str}{e:V}{wd:Int} (m:M K mg) (h:H p=some (.ins m.iS dx (oZ (.str n) (.str st) e (.int wd)))):(aQ P w K mg base (some 4)).at' H (.ref p) (n,st,e,fun _=>wd) :=
 ⟨p,_,dx,_,[],rfl,h,m.vF,by walk_at"lk",by walk_at"lk",by walk_at"lk",by walk_at"lk",by walk_at"lk",C4 m,(fun _ z=>nomatch z),fun kl hk=>by
  cases hk;exact⟨_,Mc.mono (JY m) (by decide),fun H' t Q hp _ ht k=>MN hp m.vF (by walk_at"lk") (k _ (Same.refl _))⟩⟩
theorem WW {H:Hp}{p dx:Addr}{n st:Str}{e:V}{wd i0:Int} (m:M K mg) (b0:0<=i0) (h:H p=some (.ins m.jF dx (yP (.str n) (.str st) e (.int wd) (.int i0)))):(aQ P w K mg base (some 4)).at' H (.ref p) (n,st,e,uR wd i0) :=
 ⟨p,_,dx,_,[],rfl,h,m.sQ,by walk_at"lk",by walk_at"lk",by walk_at"lk",by walk_at"lk",by walk_at"lk",z7 m,(fun _ z=>nomatch z),fun kl hk=>by
  cases hk;exact⟨_,Mc.mono (F7 m) (by decide),fun H' t Q hp _ ht k=>w4 hp m.sQ (by walk_at"lk") (by walk_at"lk") ht b0 (k _ (Same.refl _))⟩⟩
theorem V5 {H:Hp}{p dx:Addr}{n st:Str}{e:V}{wd i0:Int} (m:M K mg) (b0:0<=i0) (h:H p=some (.ins m.jG dx (zA (.str n) (.str st) e (.int wd) (.int i0)))):(aQ P w K mg base (some 4)).at' H (.ref p) (n,st,e,uZ wd i0) :=
 ⟨p,_,dx,_,[],rfl,h,m.sM,by walk_at"lk",by walk_at"lk",by walk_at"lk",by walk_at"lk",by walk_at"lk",z6 m,(fun _ z=>nomatch z),fun kl hk=>by
  cases hk;exact⟨_,Mc.mono (GQ m) (by decide),fun H' t Q hp _ ht k=>xS hp m.sM (by walk_at"lk") (by walk_at"lk") ht b0 (k _ (Same.refl _))⟩⟩
theorem aBb {H:Hp}{p dx:Addr}{n st:Str}{e:V}{wd i0 i1:Int} (m:M K mg) (b0:1<=i0) (b1:0<=i1) (h:H p=some (.ins m.lD dx (B0 (.str n) (.str st) e (.int wd) (.int i0) (.int i1)))):(aQ P w K mg base (some 4)).at' H (.ref p) (n,st,e,yR wd i0 i1) :=
 ⟨p,_,dx,_,[],rfl,h,m.vE,by walk_at"lk",by walk_at"lk",by walk_at"lk",by walk_at"lk",by walk_at"lk",BU m,(fun _ z=>nomatch z),fun kl hk=>by
  cases hk;exact⟨_,Mc.mono (K5 m) (by decide),fun H' t Q hp _ ht k=>zR hp m.vE (by walk_at"lk") (by walk_at"lk") (by walk_at"lk") ht b0 b1 (k _ (Same.refl _))⟩⟩
theorem aCK {kL:Option Nat}{H H':Hp}{v:V}{d:aE} (h:DoorAt P w K mg base kL H v d) (T:SameT H H'):DoorAt P w K mg base kL H' v d:=by
 walk_at"g1";obtain⟨p,C,dx,fs,fp,e,hp,dc,l1,l2,l3,l4,l5,mc,hf,lt⟩:=h;walk_at"g2";exact⟨p,C,dx,fs,fp,e,T _ _ hp (fun ps z=>by cases z),dc,l1,l2,l3,l4,l5,mc,fun x hx=>⟨T _ _ (hf x hx).1 (fun ps z=>(hf x hx).2 (by rw[z];trivial)),(hf x hx).2⟩,lt⟩
def XT (n f s t:Int):Int:=n/2^((t - f)%17).toNat%4 * s
theorem aBW {H:Hp}{c1 c2 c3:Addr}{v1 v2 v3:V} (h:o9 H [c1,c2,c3] [v1,v2,v3]):∃o1 o2 o3:Obj,H c1=some (kn o1)/\H c2=some (kn o2)/\H c3=some (kn o3)/\∀H':Hp,H' c1=some (kn o1)->H' c2=some (kn o2)->H' c3=some (kn o3)->o9 H' [c1,c2,c3] [v1,v2,v3]:=by
 cases h with
 | cons a t =>
  cases t with
  | cons b t =>
   cases t with
   | cons c t =>
    walk_at"g1";obtain⟨o1,u1,e1,d1⟩:=a;walk_at"g2";walk_at"g1";obtain⟨o2,u2,e2,d2⟩:=b;walk_at"g2";walk_at"g1";obtain⟨o3,u3,e3,d3⟩:=c;walk_at"g2";exact⟨o1,o2,o3,e1,e2,e3,fun H' g1 g2 g3=> .cons ⟨o1,u1,g1,d1⟩ (.cons ⟨o2,u2,g2,d2⟩ (.cons ⟨o3,u3,g3,d3⟩ .nil))⟩
inductive LetAt (P:Program)(w:World)(K:PySem.W.Frag)(mg:Str->Option Value)(base:Heap)(H:Hp)(F:Addr)(lt:Int->Int):Prop
 | mk (o:Obj) (fd:FuncData) (fp:List (Addr×HO)) (sp:Sp) (_:o.data= .func fd) (_:Binds K fd ["_law_at"] []) (_:FnOk P w K mg base CX0 3 F fd ["_law_at"] sp) (_:(F,kn o)∈fp) (_:∀x∈fp,H x.1=some x.2/\¬QC x.2)
  (_:∀(H':Hp) (t:Int) (Q:VK),(∀x∈fp,H' x.1=some x.2)->0<=t->Q (.int (lt t)) H'->sp [.int t] H' Q E0)
theorem LetAt.same {H H':Hp}{F:Addr}{lt:Int->Int} (h:LetAt P w K mg base H F lt) (s:Same H H'):LetAt P w K mg base H' F lt:=by
 walk_at"g1";obtain⟨o,fd,fp,sp,h1,h2,h3,h4,h5,h6⟩:=h;walk_at"g2";exact⟨o,fd,fp,sp,h1,h2,h3,h4,fun x hx=>⟨s _ _ (h5 x hx).1,(h5 x hx).2⟩,h6⟩
theorem aBZ {H:Hp}{F:Addr}{fd:FuncData}{qual:Str}{args:Arguments}{body:Expr}{lsc:Scope}{ys:List Str}{c1 c2 c3:Addr}{v1 v2 v3:V}{val:Int->Int} (hL:LamL H F fd qual args body lsc (ys.zip [c1,c2,c3])) (kc:o9 H [c1,c2,c3] [v1,v2,v3]) (hbd:Binds K fd ["_law_at"] [])
  (FL:FnOk P w K mg base CX0 3 F fd ["_law_at"] (NZ F fd qual args body lsc ys [c1,c2,c3] [v1,v2,v3] val)):LetAt P w K mg base H F val:=by
 walk_at"g1";obtain⟨o1,o2,o3,g1,g2,g3,gk⟩:=aBW kc;walk_at"g2";walk_at"g1";obtain⟨c',pm,ctv,oc,fv,tt,hfd,hF,hc',hdc,hfv⟩:=hL;walk_at"g2";refine⟨PySem.W.kla_obj "<lambda>" qual args body lsc (ys.zip [c1,c2,c3]) pm c' ctv,fd,[(F,kn (PySem.W.kla_obj "<lambda>" qual args body lsc (ys.zip [c1,c2,c3]) pm c' ctv)),(c',kn oc),(c1,kn o1),(c2,kn o2),(c3,kn o3)],_,by rw[hfd],hbd,FL,.head _,fun x hx=> ?_,fun H' t Q hfp ht hq=> ?_⟩
 ·simp only[List.mem_cons,List.not_mem_nil,or_false]at hx;rcases hx with rfl|rfl|rfl|rfl|rfl
  ·exact⟨hF,fun z=>z⟩
  ·exact⟨hc',fun z=>z⟩
  ·exact⟨g1,fun z=>z⟩
  ·exact⟨g2,fun z=>z⟩
  ·exact⟨g3,fun z=>z⟩
 ·have gF:=hfp _ (.head _);have gc':=hfp _ (.tail _ (.head _));have a1:=hfp _ (.tail _ (.tail _ (.head _)));have a2:=hfp _ (.tail _ (.tail _ (.tail _ (.head _))));have a3:=hfp _ (.tail _ (.tail _ (.tail _ (.tail _ (.head _)))));exact⟨t,rfl,ht,⟨c',pm,ctv,oc,fv,tt,hfd,gF,gc',hdc,hfv⟩,gk H' a1 a2 a3,hq⟩
abbrev jX:Pos:=⟨342,11,342,88⟩
abbrev qL:Str:=("_law_letting" :Str)++ ".<locals>." ++ "<lambda>"
inductive qU (P:Program)(w:World)(K:PySem.W.Frag)(mg:Str->Option Value)(base:Heap)(PL:Addr)(vs:List V)(H:Hp)(Q:VK)(E:XK):Prop
 | mk (n f s:Int) (_:vs=[.int n,.int f,.int s]) (_:TabS H PL jX qL) (_:∀F H',SameT H H'->TabS H' PL jX qL->LetAt P w K mg base H' F (XT n f s)->Q (.ref F) H'):qU P w K mg base PL vs H Q E
theorem SX {PL:Addr}{H:Hp}{Q:VK}{E:XK}{n f s:Int} (ht:TabS H PL jX qL) (k:∀F H',SameT H H'->TabS H' PL jX qL->LetAt P w K mg base H' F (XT n f s)->Q (.ref F) H'):qU P w K mg base PL [.int n,.int f,.int s] H Q E:=⟨_,_,_,rfl,ht,k⟩
local macro_rules| `(tactic| walk_at"rd1")=> `(tactic| first|(with_reducible refine rd_seqC ?_)|(with_reducible refine ZG ?_))
theorem BX (m:M K mg){cL PL:Addr}(hcL:m.cN.code= .ref cL)(hCL:PySem.W.CodeHd base cL PL)(hBL:base.BuiltinsAt mg PL):FnOk P w K mg base CX0 1 m.oK m.cN ["_law_number","_law_first","_law_scale"] (qU P w K mg base PL):=by
 refine m.kJ.okL sc__law_letting (iys:=[(2,"_law_scale"),(0,"_law_number"),(1,"_law_first")]) (by decide +kernel) (fun vs H Q E h=> ?_) (fun cdv A outer s H vs Q E ics hcd hics hr h=> ?_)
 ·walk_at"g1";obtain⟨n,f,sc,rfl,hT,k⟩:=h;walk_at"g2";rfl
 ·walk_at"g1";obtain⟨n,f,sc,rfl,hT,k⟩:=h;walk_at"g2";have nd:=sc__law_letting.nd;walk_at"hu";obtain rfl:=hcd.symm.trans hcL;obtain rfl:=aB7 hics (js:=[(2,s.heap.objs.size+3),(0,s.heap.objs.size+1),(1,s.heap.objs.size+2)]) (.cons ⟨rfl,by kernel_rfl⟩ (.cons ⟨rfl,by kernel_rfl⟩ (.cons ⟨rfl,by kernel_rfl⟩ (.nil))));refine⟨F4 _,?_⟩;refine⟨_,(aAa (aAd rfl hCL hBL rfl)),?_⟩;refine RZ (σ:=[some (.int n),some (.int f),some (.int sc)]) rfl ?_;walk_at"go";refine⟨hT,fun F fd G hFn hL T hT'=> ?_⟩;refine⟨_,.cons rfl (.cons rfl (.cons rfl .nil)),fun H2 S2 hn kc=> ?_⟩;refine k _ _ (T.snoc S2) (hT'.same S2) ?_;have hL2:=hL.same S2;have hbd:Binds K fd ["_law_at"] []:=by
   walk_at"g1";obtain⟨c',pm,ctv,oc,fv,tt,hfd,_⟩:=id hL2;walk_at"g2";rw[hfd];exact Binds.all<|aM 1 _ fun _=>rfl
  refine aBZ (ys:=["_law_scale","_law_number","_law_first"]) hL2 kc hbd ?_;refine aAM (k:=2) rfl rfl rfl (by decide +kernel) (by kernel_rfl) (by decide +kernel) (by decide +kernel) (by decide +kernel) (F4 s.heap.objs.size (a:=3) (b:=1) (c:=2) (i:=0) (j:=0) (k:=0)) rfl (fun cdv A outer s H E hr=>⟨_,(aI i7 (aI bU (aI TC (pv 2) (aI bU (aI i8 (pv 0) (pv 3)) aG)) aG) (pv 1)),fun i Q h0 hq=> ?_⟩);show (_:TE) [some (.int i),some (.int sc),some (.int n),some (.int f)] H Q;walk_at"go";refine⟨_,_,rfl,rfl,Int.emod_nonneg _ (by decide),?_⟩;walk_at"go";exact hq
theorem BD (m:M K mg){cL PL:Addr}(hcL:m.cN.code= .ref cL)(hCL:PySem.W.CodeHd base cL PL)(hBL:base.BuiltinsAt mg PL):Fc P w K mg base "_law_letting" 1 ["_law_number","_law_first","_law_scale"] (qU P w K mg base PL):=⟨_,_,m.EO,m.kJ.kp,m.EU,BX m hcL hCL hBL⟩
theorem aAB (m:M K mg){H:Hp}{p dx F:Addr}{nm st:Str}{e:V}{lt:Int->Int} (hp:H p=some (.ins m.lC dx (BC (.str nm) (.str st) e (.ref F)))) (hL:LetAt P w K mg base H F lt):(aQ P w K mg base (some 4)).at' H (.ref p) (nm,st,e,lt):=by
 walk_at"g1";obtain⟨o,fd,fp,sp,h1,h2,h3,h4,h5,h6⟩:=hL;walk_at"g2";refine⟨p,_,dx,_,fp,rfl,hp,m.u9,by walk_at"lk",by walk_at"lk",by walk_at"lk",by walk_at"lk",by walk_at"lk",CW m,h5,fun kl hk=> ?_⟩;cases hk;exact⟨_,KS m,fun H' t Q hp' hfp ht k=>MG hp' m.u9 (by walk_at"lk") (hfp _ h4) h1 h2 h3 (h6 H' t _ hfp ht (k _ (Same.refl _)))⟩
theorem aC8 {wd i:Int}(h:0<=wd)(t:Int):0<=uR wd i t:=by unfold uR;split<;>lia
theorem aB1 {wd i:Int}(h:0<=wd)(t:Int):0<=uZ wd i t:=by unfold uZ;split<;>lia
theorem aEq {wd i j:Int}(h:0<=wd)(t:Int):0<=yR wd i j t:=by unfold yR;split<;>lia
theorem aE0 {n f s:Int}(h:0<=s)(t:Int):0<=XT n f s t:=Int.mul_nonneg (Int.emod_nonneg _ (by decide)) h
inductive vJ (P:Program)(w:World)(K:PySem.W.Frag)(mg:Str->Option Value)(base:Heap)(PL:Addr)(vs:List V)(H:Hp)(Q:VK)(E:XK):Prop
 | mk (dd:Int) (n st:Str) (e:V) (f sc:Int) (_:vs=[.int dd,.str n,.str st,e,.int f,.int sc]) (_:0<=dd) (_:bI n=true) (_:bI st=true) (_:gK e) (_:0<=f) (_:0<=sc) (_:TabS H PL jX qL) (_:∀v lt H',SameT H H'->TabS H' PL jX qL->(aQ P w K mg base (some 4)).at' H' v (n,st,e,lt)->(∀t,0<=lt t)->Q v H'):vJ P w K mg base PL vs H Q E
theorem aAu {PL:Addr}{H:Hp}{Q:VK}{E:XK}{dd:Int}{n st:Str}{e:V}{f sc:Int} (hd:0<=dd) (hn:bI n=true) (hs:bI st=true) (he:gK e) (hf:0<=f) (hc:0<=sc) (ht:TabS H PL jX qL) (k:∀v lt H',SameT H H'->TabS H' PL jX qL->(aQ P w K mg base (some 4)).at' H' v (n,st,e,lt)->(∀t,0<=lt t)->Q v H'):vJ P w K mg base PL [.int dd,.str n,.str st,e,.int f,.int sc] H Q E:=⟨_,_,_,_,_,_,rfl,hd,hn,hs,he,hf,hc,ht,k⟩
theorem J7 (m:M K mg){cL PL:Addr}(hcL:m.cN.code= .ref cL)(hCL:PySem.W.CodeHd base cL PL)(hBL:base.BuiltinsAt mg PL):FnOk P w K mg base CX0 6 m.uE m.uO ["_law_number","_law_name_here","_law_start","_law_end","_law_first","_law_scale"] (vJ P w K mg base PL):=by
 refine m.oU.ok sc__law_door (fun vs H Q E h=> ?_) (fun cdv A outer s H vs Q E hr h=> ?_)
 ·walk_at"g1";obtain⟨dd,n,st,e,f,sc,rfl,hdd,hn,hs,he,hf,hsc,hPL,k⟩:=h;walk_at"g2";rfl
 ·walk_at"g1";obtain⟨dd,n,st,e,f,sc,rfl,hdd,hn,hs,he,hf,hsc,hPL,k⟩:=h;walk_at"g2";have nd:=sc__law_door.nd;walk_at"hu";have kJ:=BD (P:=P) (w:=w) (base:=base) m hcL hCL hBL;have K_Beat_0:= @TK P w K mg base m;have K_Door_0:= @Q9 P w K mg base m;have K_Since_0:= @OU P w K mg base m;have K_Told_0:= @UD P w K mg base m;have K_Until_0:= @OZ P w K mg base m;have w_dc_Door:=m.vF;have w_dc_Since:=m.sQ;have w_dc_Until:=m.sM;have w_dc_Beat:=m.vE;have w_dc_Told:=m.u9;refine⟨_,(aC (aU (i:=6) nd rfl (by walk_at"oi") (aI i7 (aI bU (aI dS (pv 0) aG) aG) (pv 5)))
   (aC (aU (i:=7) nd rfl (by walk_at"oi") (aI bO (pv 4) (aI bU (aI dS (pv 0) aG) aG)))
   (aC (cC (aZ jK (aI bU (pv 0) aG) aG (bD _)) (aF (aY (vR K_Since_0 hr (aA (pv 1) (aA (pv 2) (aA (pv 3) (aA (pv 6) (aA (pv 7) aD)))))))) bN)
   (aC (cC (aZ jK (aI bU (pv 0) aG) aG (bD _)) (aF (aY (vR K_Until_0 hr (aA (pv 1) (aA (pv 2) (aA (pv 3) (aA (aI bO (pv 6) aG) (aA (pv 7) aD)))))))) bN)
   (aC (cC (aZ jK (aI bU (pv 0) aG) aG (bD _)) (aF (aY (vR K_Beat_0 hr (aA (pv 1) (aA (pv 2) (aA (pv 3) (aA (aI bO (pv 6) aG) (aA (aI bO aG (aI bU (aI dS (pv 0) aG) aG)) (aA (aI bO (pv 4) (aI bU (aI dS (pv 0) aG) aG)) aD))))))))) bN)
   (aC (cC (aZ jK (aI bU (pv 0) aG) aG (bD _)) (aF (aY (vR K_Told_0 hr (aA (pv 1) (aA (pv 2) (aA (pv 3) (aA (bG kJ hr (aA (pv 0) (aA (pv 4) (aA (pv 5) aD)))) aD))))))) bN)
   (aF (aY (vR K_Door_0 hr (aA (pv 1) (aA (pv 2) (aA (pv 3) (aA (pv 6) aD))))))))))))),?_⟩
  refine aT (σ:=[some (.int dd),some (.str n),some (.str st),some (e),some (.int f),some (.int sc),none,none]) rfl ?_;walk_at"cx";have hw:0<=dd/5%5 * sc:=Int.mul_nonneg (Int.emod_nonneg _ (by decide)) hsc;walk_at"go";generalize dd/5%5 * sc=wd at hw ⊢;refine c7 (fun h1=> ?_) (fun h1=> ?_)
  ·walk_at"go";rename_i p dx H2 n2 S2 e2;exact k _ _ _ (Same.t S2) (hPL.same S2) (WW (P:=P) (w:=w) (base:=base) m (by lia) e2) (aC8 hw)
  walk_at"go";refine c7 (fun h2=> ?_) (fun h2=> ?_)
  ·walk_at"go";rename_i p dx H2 n2 S2 e2;exact k _ _ _ (Same.t S2) (hPL.same S2) (V5 (P:=P) (w:=w) (base:=base) m (by lia) e2) (aB1 (by lia))
  walk_at"go";refine c7 (fun h3=> ?_) (fun h3=> ?_)
  ·walk_at"go";rename_i p dx H2 n2 S2 e2;exact k _ _ _ (Same.t S2) (hPL.same S2) (aBb (P:=P) (w:=w) (base:=base) m (by lia) (by lia) e2) (aEq (by lia))
  walk_at"go";refine c7 (fun h4=> ?_) (fun h4=> ?_)
  ·walk_at"go";refine SX hPL fun F H1 T1 hT1 hF=> ?_;walk_at"go";refine V4 rfl w_dc_Told hn hs he fun p5 dx5 G5 n5 S5 e5=> ?_;walk_at"go";exact k _ _ _ (T1.snoc S5) (hT1.same S5) (aAB (P:=P) (w:=w) (base:=base) m e5 (hF.same S5)) (aE0 hsc)
  walk_at"go";rename_i p dx H2 n2 S2 e2;exact k _ _ _ (Same.t S2) (hPL.same S2) (ZI (P:=P) (w:=w) (base:=base) m e2) (fun _=>hw)
theorem JK (m:M K mg){cL PL:Addr}(hcL:m.cN.code= .ref cL)(hCL:PySem.W.CodeHd base cL PL)(hBL:base.BuiltinsAt mg PL):Fc P w K mg base "_law_door" 6 ["_law_number","_law_name_here","_law_start","_law_end","_law_first","_law_scale"] (vJ P w K mg base PL):=⟨_,_,m.MY,m.oU.kp,m.M0,J7 m hcL hCL hBL⟩
def TBut (p:Addr)(H H':Hp):Prop:=∀b u,H b=some u->(∀ps,u≠ .tbl ps)->b≠p->H' b=some u
theorem TBut.refl (p:Addr)(H:Hp):TBut p H H:=fun _ _ e _ _=>e
theorem TBut.same {p:Addr}{H H1 H2:Hp} (t:TBut p H H1) (s:Same H1 H2):TBut p H H2:=fun b u e n hb=>s b u (t b u e n hb)
theorem TBut.t {p:Addr}{H H1 H2:Hp} (t:TBut p H H1) (s:SameT H1 H2):TBut p H H2:=fun b u e n hb=>s b u (t b u e n hb) n
theorem TBut.but {p:Addr}{H H1 H2:Hp} (t:TBut p H H1) (s:SameBut p H1 H2):TBut p H H2:=fun b u e n hb=>s b u (t b u e n hb) hb
theorem TBut.out {p:Addr}{H H1 H2:Hp} (n:H p=none) (s:Same H H1) (t:TBut p H1 H2):SameT H H2:=fun b u e hn=>t b u (s b u e) hn fun z=>by rw[z,n]at e;cases e
theorem XL {H H':Hp}{PL p:Addr}{pos:Pos}{q:Str}{xs:List V} (h:TabS H PL pos q) (e:H p=some (.lst xs)) (s:SameBut p H H'):TabS H' PL pos q:=by
 rcases h with h|⟨c',oc,fv,t,h1,h2,h3⟩
 ·exact .inl (s _ _ h fun z=>by rw[z,e]at h;cases h)
 ·exact .inr ⟨c',oc,fv,t,s _ _ h1 (fun z=>by rw[z,e]at h1;cases h1),s _ _ h2 (fun z=>by rw[z,e]at h2;cases h2),h3⟩
theorem NS {α:Type}(nm:α->Str)(sz pp:α->Int):∀{l:List α},(l.map nm).Nodup->(∀i∈l,0<=pp i/\pp i<=sz i)->uA (l.map fun i=>(nm i,sz i)) (l.map fun i=>(nm i,pp i)):=fun {l} nd h=>by
 refine⟨fun p hp=> ?_,fun e he=> ?_⟩
 ·obtain⟨e,he,rfl⟩:=List.mem_map.mp hp;exact(h e he).1
 ·obtain⟨j,hj,rfl⟩:=List.mem_map.mp he;have key:∀l:List α,(l.map nm).Nodup->j∈l->cU (l.map fun i=>(nm i,pp i)) (nm j)=pp j:=fun l=>by
   induction l with
   | nil=>exact fun _ h=>nomatch h
   | cons a l ih =>
    intro nd hm;have nd':=List.nodup_cons.mp nd;have hz:∀l:List α,nm a∉l.map nm->cU (l.map fun i=>(nm i,pp i)) (nm a)=0:=fun l=>by
     induction l with
     | nil=>exact fun _=>rfl
     | cons b l ih =>
      intro hn;rw[List.map_cons,List.mem_cons,not_or]at hn;have:=ih hn.2;unfold cU at this ⊢;rw[List.map_cons,List.filter_cons_of_neg (by simpa using fun z=>hn.1 z.symm),this]
    rcases List.mem_cons.mp hm with h|h
    ·subst h;have:=hz l nd'.1;unfold cU at this ⊢;rw[List.map_cons,List.filter_cons_of_pos (by simp),List.map_cons,List.sum_cons,this];exact Int.add_zero _
    ·have hne:¬nm a=nm j:=fun z=>nd'.1 (show nm a∈_ by rw[z];exact List.mem_map.mpr ⟨j,h,rfl⟩);have:=ih nd'.2 h;unfold cU at this ⊢;rw[List.map_cons,List.filter_cons_of_neg (by simpa using hne),this]
  show cU _ (nm j)<=sz j;rw[key l nd hj];exact(h j hj).2
theorem zV (c b:Int)(n:Nat)(h0:0<=b)(hb:b+n<=26):((List.range n).map fun k:Nat=>dQ c ((k:Int)+b)).Nodup:=by
 rw[List.Nodup,List.pairwise_map];refine List.Pairwise.imp_of_mem ?_ (List.nodup_range (n:=n));intro i j hi hj hne z;have hi':=List.mem_range.mp hi;have hj':=List.mem_range.mp hj;have:=Q3 (by lia) (by lia) (by lia) (by lia) z
 lia
theorem JU (c k:Int):bI (dQ c k)=true:=by
 have hl:=NQ;refine NG (x:=Txt.slice "abcdefghijklmnopqrstuvwxyz" (some (bT c 1%20)) none) (b:=bT c 2%8) (mW y9) (by lia) (by lia) rfl ?_ ?_ ?_
 ·exact Int.emod_nonneg _ (by lia)
 ·exact Int.emod_lt_of_pos _ (by lia)
 ·refine IO y9 ?_;rw[AA,List.mem_range'_1]
  lia
def gX (c sh sc:Int)(i:Nat):Str×Int:=(dQ c (i:Int),bT sh (i:Int)%9 * sc)
def DU (c sh sc c3:Int)(i:Nat):Str×Int:=(dQ c (i:Int),bT c3 (i:Int) * (sc/1000+1)%(bT sh (i:Int)%9 * sc+1))
structure DrawnH (rz ps:List (Str×Int))(ds:List aE)(f l:Int):Prop where
 nr:(rz.map (·.1)).Nodup
 nd:(ds.map (·.1)).Nodup
 hin:∀d∈ds,dG (rz.map (·.1)) d
 lt0:∀d∈ds,∀t,0<=d.2.2.2 t
 hpr:∀p∈ps,p.1∈rz.map (·.1)
 fit:uA rz ps
 sz:∀e∈rz,0<=e.2
 lr:rz.length<=5
 lp:ps.length<=5
 ld:ds.length<=8
 f0:0<=f
 f1:f<=l
 f2:l<=f+8
 f3:f<100000000000
theorem DrawnH.most {rz ps:List (Str×Int)}{ds:List aE}{f l:Int} (h:DrawnH rz ps ds f l) (t:Int) (n:Str):0<=iY ds f l t n:=by
 unfold iY;cases hd:cQ ds n with
 | none=>exact Int.le_refl _
 | some d =>
  show 0<=fL f l d t;unfold fL
  split
  ·exact h.lt0 d (List.mem_of_find?_eq_some hd) t
  ·exact Int.le_refl _
inductive tX (K:PySem.W.Frag)(C:Addr)(D:bA)(PL:Addr)(vs:List V)(H:Hp)(Q:VK)(E:XK):Prop
 | mk (a:Addr) (ns:List Int) (f l:Int) (_:vs=[.ref a,.int f,.int l]) (_:SqL K H a (ns.map V.int)) (_:0<=f) (_:f<=l) (_:l<=f+8) (_:f<100000000000) (_:TabS H PL jX qL) (_:∀h H' rz ps ds,SameT H H'->aW C D H' h f l rz ps ds->DrawnH rz ps ds f l->Q (.ref h) H'):tX K C D PL vs H Q E
theorem XC {C:Addr}{D:bA}{PL:Addr}{H:Hp}{Q:VK}{E:XK}{a:Addr}{ns:List Int}{f l:Int} (hS:SqL K H a (ns.map V.int)) (h0:0<=f) (h1:f<=l) (h2:l<=f+8) (h3:f<100000000000) (ht:TabS H PL jX qL) (k:∀h H' rz ps ds,SameT H H'->aW C D H' h f l rz ps ds->DrawnH rz ps ds f l->Q (.ref h) H'):tX K C D PL [.ref a,.int f,.int l] H Q E:=⟨_,_,_,_,rfl,hS,h0,h1,h2,h3,ht,k⟩
theorem GH (m:M K mg){cL PL:Addr}(hcL:m.cN.code= .ref cL)(hCL:PySem.W.CodeHd base cL PL)(hBL:base.BuiltinsAt mg PL):FnOk P w K mg base CX0 8 m.sO m.tG ["_law_script","_law_first","_law_last"] (tX K m.aH (aQ P w K mg base (some 4)) PL):=by
 refine m.nJ.ok sc__law_house (fun vs H Q E h=> ?_) (fun cdv A outer s H vs Q E hr h=> ?_)
 ·walk_at"g1";obtain⟨a,ns,f,l,rfl,hS,h0,h1,h2,h3,hPL,k⟩:=h;walk_at"g2";rfl
 ·walk_at"g1";obtain⟨a,ns,f,l,rfl,hS,h0,h1,h2,h3,hPL,k⟩:=h;walk_at"g2";have nd:=sc__law_house.nd;walk_at"hu";have bZ:= @mQ P w K mg base m;have oU:=JK (P:=P) (w:=w) (base:=base) m hcL hCL hBL;have b9:= @pG P w K mg base m;have lA:= @KU P w K mg base m;have K_House_0:= @CO P w K mg base m;have w_dc_House:=m.bC;refine⟨_,(aC (aU (i:=3) nd rfl (by walk_at"oi") (bG bZ hr (aA (pv 0) (aA aG aD))))
   (aC (aU (i:=4) nd rfl (by walk_at"oi") (eY iG (fN (aA aG (aA (aI bO (NH 10000000000 (by decide) ⟨by decide,by decide,by decide⟩) aG) aD))) (aI bU (aI dS (bG bZ hr (aA (pv 0) (aA aG aD))) aG) aG) (fun _ _=>rfl)))
   (aC (aU (i:=5) nd rfl (by walk_at"oi") (cM (N:=["_law_k","_law_cell"]) (nl:=1) (ci:=[3]) rfl (blk (s.heap.objs.size+1) rfl rfl rfl (by kernel_rfl)) (mB rfl m.jE (aA (aI bO aG (aI bU (aI dS (pv 3) aG) aG)) aD)) (fun _ _ _ _=>(aO (i:=0) (show (["_law_k","_law_cell"]:List Str).Nodup by decide +kernel) rfl (by walk_at"oi"))) (fun _ _ _ _=>eU) (fun _ _ _ _=>(bG lA hr (aA (pv 1) (aA (pv 0) aD))))))
   (aC (aU (i:=6) nd rfl (by walk_at"oi") (bG bZ hr (aA (pv 0) (aA aG aD))))
   (aC (iV (i:=7) nd rfl (by walk_at"oi") (N:=["_law_k","_law_names","_law_scale","_law_shape"]) (nl:=1) (ci:=[5,4,6]) rfl (blk (s.heap.objs.size+1) rfl rfl rfl (by kernel_rfl)) (mB rfl m.jE (aA (bV iT rfl m.oV k7 (aA (pv 5) aD)) aD)) (fun _ _ _ _=>(aO (i:=0) (show (["_law_k","_law_names","_law_scale","_law_shape"]:List Str).Nodup by decide +kernel) rfl (by walk_at"oi"))) (fun _ _ _ _=>eU) (fun _ _ _ _=>(cD (aA (eY (W6 (K:=K)) (pv 1) (pv 0) (fun _ _=>rfl)) (aA (aI i7 (aI bU (bG b9 hr (aA (pv 3) (aA (pv 0) aD))) aG) (pv 2)) aD)))))
   (aC (aU (i:=8) nd rfl (by walk_at"oi") (fN aD))
   (aC (cS PassesOwn.never rfl (mB rfl m.jE (aA (aI bO aG (aI bU (bG b9 hr (aA (pv 3) (aA aG aD))) aG)) aD)) (aO (i:=9) nd rfl (by walk_at"oi")) (aC (aU (i:=10) nd rfl (by walk_at"oi") (bG b9 hr (aA (pv 3) (aA (aI bO aG (pv 9)) aD))))
   (aC (aU (i:=11) nd rfl (by walk_at"oi") (eY iG (aI w9 (pv 5) (fN (aA rJ (aA rJ aD)))) (aI bU (aI dS (pv 10) aG) (aI bO (bV iT rfl m.oV k7 (aA (pv 5) aD)) aG)) (fun _ _=>rfl)))
   (aC (aU (i:=12) nd rfl (by walk_at"oi") (bG b9 hr (aA (pv 3) (aA (aI bO aG (pv 9)) aD))))
   (aC (aU (i:=13) nd rfl (by walk_at"oi") (eY iG (pv 5) (aI bU (pv 10) (bV iT rfl m.oV k7 (aA (pv 5) aD))) (fun _ _=>rfl)))
   (aF (bP (tQ PySem.F.plainAttrs_list PySem.F.slot_list_append PySem.F.type_list_append iU (pv 8) (aA (bG oU hr (aA (pv 12) (aA (bG lA hr (aA (pv 3) (aA (aI bO (pv 9) aG) aD))) (aA (pv 13) (aA (pv 11) (aA (pv 1) (aA (pv 4) aD))))))) aD)))))))))
   (aC (aU (i:=14) nd rfl (by walk_at"oi") (fN aD))
   (aC (cS PassesOwn.never rfl (mB rfl m.jE (aA (bV iT rfl m.oV k7 (aA (pv 7) aD)) aD)) (aO (i:=9) nd rfl (by walk_at"oi")) (aC (aU (i:=10) nd rfl (by walk_at"oi") (aI i7 (bG b9 hr (aA (bG bZ hr (aA (pv 0) (aA aG aD))) (aA (pv 9) aD))) (aI bO (aI dS (pv 4) aG) aG)))
   (aF (bP (tQ PySem.F.plainAttrs_list PySem.F.slot_list_append PySem.F.type_list_append iU (pv 14) (aA (cD (aA (eY JF (eY iG (pv 7) (pv 9) (fun _ _=>rfl)) aG (fun _ _=>rfl)) (aA (aI bU (pv 10) (aI bO (eY JF (eY iG (pv 7) (pv 9) (fun _ _=>rfl)) aG (fun _ _=>rfl)) aG)) aD))) aD))))))
   (aF (aY (vR K_House_0 hr (aA (pv 7) (aA (pv 8) (aA (pv 14) (aA (pv 2) (aA (pv 1) aD))))))))))))))))),?_⟩
  refine aT (σ:=[some (.ref a),some (.int f),some (.int l),none,none,none,none,none,none,none,none,none,none,none,none]) rfl ?_;walk_at"cx";walk_at"go";rename_i pF G1 n1 S1 e1 sc hsc;generalize hcc:j7 ns 0=c0;have hsc0:1<=sc:=by lia
  refine JG (fun i=> .str (dQ c0 (i:Int))) (by rw[sizeLine_eq];lia) (rest:=[some (.int c0)]) (by rfl) ?_ ?_
  ·intro i H1 hi s1 R hR;walk_at"go"
   subst_vars
   rw[Int.zero_add];exact hR _ (Same.refl _)
  intro H1 s1;generalize hne:(1+c0/2%5).toNat=n;have hn0:0<n:=by lia
  have hn5:n<=5:=by lia
  have hnl:((List.range n).map fun i:Nat=>V.str (dQ c0 (i:Int))).length=n:=by rw[List.length_map,List.length_range]
  have hnm:∀v∈(List.range n).map (fun i:Nat=>V.str (dQ c0 (i:Int))),∃i:Nat,i<n/\v= .str (dQ c0 (i:Int)):=fun v hv=>by
   obtain⟨i,hi,rfl⟩:=List.mem_map.mp hv;exact⟨i,List.mem_range.mp hi,rfl⟩
  have hat:∀i:Nat,i<n->((List.range n).map fun i:Nat=>V.str (dQ c0 (i:Int)))[i]? =some (.str (dQ c0 (i:Int))):=fun i hi=>by rw[List.getElem?_map,List.getElem?_range hi];rfl
  generalize hN:((List.range n).map fun i:Nat=>V.str (dQ c0 (i:Int)))=N at hnl hnm hat ⊢;walk_at"go";rename_i pN H2 n2 S2 eN;generalize hsh:j7 ns 2=sh;rw[show ((N.length:Nat):Int).toNat=n by lia];refine aBY (fun i y H=>cI H y (gX c0 sh sc i)) (fun _ _ _ _ ⟨q,e,h⟩ s=>⟨q,e,s _ _ h⟩) (by rw[sizeLine_eq];lia) (rest:=[some (.ref pN),some (.int sc),some (.int sh)]) (by rfl) ?_ ?_
  ·intro i H3 hi s3 R hR;have eN3:=s3 _ _ eN;walk_at"go";rw[Int.zero_add];refine xF (SqL.of eN3) (hat i hi) ?_;walk_at"go";rename_i q4 H4 n4 S4 e4
   subst_vars
   exact hR _ _ ⟨q4,rfl,e4⟩ S4
  intro ws H3 s3 hws;have hra:RoomsAt H3 ws ((List.range n).map (gX c0 sh sc)):=AD (gX c0 sh sc) hws;have hwl:ws.length=n:=by rw[Paired.length hra,List.length_map,List.length_range]
  have hrn:((List.range n).map (gX c0 sh sc)).map (·.1)=(List.range n).map fun k:Nat=>dQ c0 ((k:Int)+0):=by rw[List.map_map];exact List.map_congr_left fun k _=>by rw[Int.add_zero];rfl
  have hnr:(((List.range n).map (gX c0 sh sc)).map (·.1)).Nodup:=by rw[hrn];exact zV c0 0 n (Int.le_refl _) (by lia)
  have hmem:∀i:Nat,i<n->dQ c0 (i:Int)∈((List.range n).map (gX c0 sh sc)).map (·.1):=fun i hi=>List.mem_map.mpr ⟨gX c0 sh sc i,List.mem_map.mpr ⟨i,List.mem_range.mpr hi,rfl⟩,rfl⟩;have hsz:∀i:Nat,0<=bT sh (i:Int)%9 * sc:=fun i=>Int.mul_nonneg (Int.emod_nonneg _ (by decide)) (by lia);walk_at"go";rename_i pW H4 n4 S4 eW p H5 n5 S5 ep nn dn hn1 hn2;have eN5:H5 pN=some (.lst N):=S5 _ _ (S4 _ _ (s3 _ _ eN));have eW5:=S5 _ _ eW;have s05:Same H H5:=S1.trans (s1.trans (S2.trans (s3.trans (S4.trans S5))));have hPL5:=hPL.same s05;have hS5:=s05.seq hS;have hra5:=hra.sm (S4.trans S5);let Pv1:Nat->St->Hp->Prop:=fun i σ' H'=>TBut p H5 H'/\TabS H' PL jX qL/\(∃us ds,H' p=some (.lst us)/\Paired ((aQ P w K mg base (some 4)).at' H') us ds/\(∀d∈ds,dG (((List.range n).map (gX c0 sh sc)).map (·.1)) d)/\(∀d∈ds,∀t,0<=d.2.2.2 t)/\ds.map (·.1)=(List.range i).map fun k:Nat=>dQ c0 ((k:Int)+8))/\∃x y z u v,σ'=[some (.ref a),some (.int f),some (.int l),some (.int c0),some (.int sc),some (.ref pN),some (.int sh),some (.ref pW),some (.ref p),x,y,z,u,v,none];refine nV Pv1 ⟨TBut.refl _ _,hPL5,⟨[],[],ep,.nil,(fun _ z=>nomatch z),(fun _ z=>nomatch z),rfl⟩,_,_,_,_,_,rfl⟩ ?_ ?_
  ·rintro i _ H' hi hq_;walk_at"g1";obtain⟨tb,hT,⟨us,ds,eu,hud,hds,hdt,hnm2⟩,x1,x2,x3,x4,x5,rfl⟩:=hq_;walk_at"g2";have hi8:i<8:=by lia
   have hul:us.length=i:=by
    have h5:ds.length=i:=by rw[←List.length_map (f:=fun d:aE=>d.1),hnm2,List.length_map,List.length_range]
    rw[Paired.length hud];exact h5
   have hpN:pN≠p:=fun z=>by rw[z,ep]at eN5;cases eN5;exact absurd hnl (by show ¬0=n;lia)
   have eN':=tb _ _ eN5 (fun ps z=>by cases z) hpN;walk_at"go";rename_i dd ed hd0 hd1 pA G1 m1 T1 eA pB G2 m2 T2 eB hx0 hx1;refine JP (SqL.of eB) hx0 (by rw[List.length_append];show _<(((N.length+2:Nat)):Int);lia) fun v hv=> ?_;have hve:gK v/\(v= .non∨∃z,v= .str z/\z∈((List.range n).map (gX c0 sh sc)).map (·.1)):=by
    rcases List.mem_append.mp hv with hv|hv
    ·obtain⟨j,hj,rfl⟩:=hnm v hv;exact⟨.inr ⟨_,rfl,JU c0 _⟩,.inr ⟨_,rfl,hmem j hj⟩⟩
    ·have:v= .non:=by simpa using hv
     exact⟨.inl this,.inl this⟩
   obtain⟨hve,hvi⟩:=hve;clear hv;have tG2:TBut p H5 G2:=tb.same (T1.trans T2);have eN2:=(T1.trans T2) _ _ eN';have hT2:=hT.same (T1.trans T2);have eu2:=(T1.trans T2) _ _ eu;have hud2:Paired ((aQ P w K mg base (some 4)).at' G2) us ds:=lT hud (T1.trans T2);clear eB eA;walk_at"go";rename_i kd ekd hk0 hk1 hy0 hy1;refine JP (SqL.of eN2) (by lia) (by lia) fun v2 hv2=> ?_;obtain⟨j2,hj2,rfl⟩:=hnm v2 hv2;walk_at"go";rename_i zn ezn hzn;refine aAu hk0 hzn (JU c0 _) hve h0 (by lia) hT2 fun v6 lt H6 T6 hT6 hd6 hlt6=> ?_;have eu6:=T6 _ _ eu2 (fun ps z=>by cases z);walk_at"go";refine gY eu6 (by rw[sizeLine_eq];lia) fun H7 B7 e7=> ?_;walk_at"go";refine⟨(tG2.t T6).but B7,XL hT6 eu6 B7,⟨us++[v6],ds++[(zn,dQ c0 (j2:Int),v,lt)],e7,L2.Paired.snoc (Paired.imp' (fun _ _ h=>(aQ P w K mg base (some 4)).but (aCK h T6) eu6 trivial B7) hud2) ((aQ P w K mg base (some 4)).but hd6 eu6 trivial B7),?_,?_,?_⟩,_,_,_,_,_,rfl⟩
   ·intro d' hd';rcases List.mem_append.mp hd' with hd'|hd'
    ·exact hds d' hd'
    ·cases List.mem_singleton.mp hd';exact⟨hmem j2 hj2,hvi⟩
   ·intro d' hd';rcases List.mem_append.mp hd' with hd'|hd'
    ·exact hdt d' hd'
    ·cases List.mem_singleton.mp hd';exact hlt6
   ·rw[List.map_append,hnm2,List.range_succ,List.map_append,List.map_singleton,List.map_singleton,ezn,Int.zero_add]
  ·rintro _ H' hq_;walk_at"g1";obtain⟨tb,hT,⟨us,ds,eu,hud,hds,hdt,hnm2⟩,x1,x2,x3,x4,x5,rfl⟩:=hq_;walk_at"g2";have hdl:ds.length=(1+nn%8).toNat:=by rw[←List.length_map (f:=fun d:aE=>d.1),hnm2,List.length_map,List.length_range]
   have hpW:pW≠p:=fun z=>by rw[z,ep]at eW5;cases eW5;exact absurd hwl (by show ¬0=n;lia)
   have eW':=tb _ _ eW5 (fun ps z=>by cases z) hpW;have T5:SameT H H':=TBut.out (by
    cases hq:H p with
    | none=>rfl
    | some u =>
     have:=(S1.trans (s1.trans (S2.trans (s3.trans S4)))) _ _ hq;rw[n5]at this;cases this) s05 tb
   have hS':=T5.seq hS;have hra':RoomsAt H' ws ((List.range n).map (gX c0 sh sc)):=Paired.imp' (fun _ _ ⟨q,e,h⟩=>⟨q,e,tb _ _ h (fun ps z=>by cases z) (fun z=>by rw[z,ep]at h;cases h)⟩) hra5;walk_at"go";rename_i pC H6 n6 S6 e6;rw[show ((ws.length:Nat):Int).toNat=n by lia];have eW6:=S6 _ _ eW';have hS6:=S6.seq hS';have hra6:=hra'.sm S6;have eu6:=S6 _ _ eu;have hud6:Paired ((aQ P w K mg base (some 4)).at' H6) us ds:=lT hud S6;generalize hc3:j7 ns 3=c3;let Pv2:Nat->St->Hp->Prop:=fun i σ' H'=>SameBut pC H6 H'/\(∃cs,H' pC=some (.lst cs)/\Paired (cI H') cs ((List.range i).map (DU c0 sh sc c3)))/\∃x y z u v,σ'=[some (.ref a),some (.int f),some (.int l),some (.int c0),some (.int sc),some (.ref pN),some (.int sh),some (.ref pW),some (.ref p),x,y,z,u,v,some (.ref pC)];refine nV Pv2 ⟨SameBut.refl,⟨[],e6,.nil⟩,_,_,_,_,_,rfl⟩ ?_ ?_
   ·rintro i _ G hi hq_;walk_at"g1";obtain⟨sb,⟨cs,ec,hcs⟩,y1,y2,y3,y4,y5,rfl⟩:=hq_;walk_at"g2";have hcl:cs.length=i:=by rw[Paired.length hcs,List.length_map,List.length_range]
    have sG:Same H' G:=SameBut.same n6 S6 sb;have hwi:ws[i]? =some ws[i]:=List.getElem?_eq_getElem (by lia);have hri:((List.range n).map (gX c0 sh sc))[i]? =some (gX c0 sh sc i):=by rw[List.getElem?_map,List.getElem?_range hi];rfl
    obtain⟨q,hq,hqt⟩:=Paired.at2 (hra'.sm sG) hwi hri;rw[hq]at hwi;have hqt':G q=some (.tup [.str (dQ c0 (i:Int)),.int (bT sh (i:Int)%9 * sc)]):=hqt;have eWG:=sG _ _ eW';have hSG:=sG.seq hS';have hs0:=hsz i;walk_at"go";rename_i nd2 ed2 hd20 hd21;rw[Int.zero_add];refine xF (SqL.of eWG) hwi ?_;walk_at"go";refine⟨q,_,0,_,rfl,rfl,SqT.of hqt',rfl,?_⟩;walk_at"go";refine xF (SqL.of eWG) hwi ?_;walk_at"go";refine⟨q,_,1,_,rfl,rfl,SqT.of hqt',rfl,?_⟩;generalize hz:bT sh (i:Int)%9 * sc=z0 at hs0 ⊢;walk_at"go";rename_i q7 G7 m7 T7 e7;have ec7:=T7 _ _ ec;refine gY ec7 (by rw[sizeLine_eq];lia) fun G8 B8 e8=> ?_;walk_at"go";have hq7:q7≠pC:=fun z=>by rw[z,ec7]at e7;cases e7
    refine⟨(sb.trans T7.but).trans B8,⟨cs++[.ref q7],e8,?_⟩,_,_,_,_,_,rfl⟩;rw[List.range_succ,List.map_append,List.map_singleton];refine L2.Paired.snoc (Paired.imp' (fun _ _ ⟨q,e,h⟩=>⟨q,e,B8 _ _ (T7 _ _ h) (fun z=>by rw[z,ec]at h;cases h)⟩) hcs) ⟨q7,rfl,?_⟩;rw[B8 _ _ e7 hq7,ed2];unfold DU;rw[hz,←hc3,Int.zero_add]
   ·rintro _ G hq_;walk_at"g1";obtain⟨sb,⟨cs,ec,hcs⟩,y1,y2,y3,y4,y5,rfl⟩:=hq_;walk_at"g2";have sG:Same H' G:=SameBut.same n6 S6 sb;have hnd:(ds.map (·.1)).Nodup:=by rw[hnm2];exact zV c0 8 _ (by decide) (by lia)
    have hszs:∀e∈(List.range n).map (gX c0 sh sc),0<=e.2:=fun e he=>by
     obtain⟨i,_,rfl⟩:=List.mem_map.mp he;exact hsz i
    have hfit:uA ((List.range n).map (gX c0 sh sc)) ((List.range n).map (DU c0 sh sc c3)):=NS (fun i:Nat=>dQ c0 (i:Int)) (fun i:Nat=>bT sh (i:Int)%9 * sc) (fun i:Nat=>bT c3 (i:Int) * (sc/1000+1)%(bT sh (i:Int)%9 * sc+1)) (by
      have:=hnr;rw[List.map_map]at this;exact this) fun i _=>by
     have h0:=hsz i;have h1:=Int.emod_nonneg (bT c3 (i:Int) * (sc/1000+1)) (show bT sh (i:Int)%9 * sc+1≠0 by lia);have h2:=Int.emod_lt_of_pos (bT c3 (i:Int) * (sc/1000+1)) (show 0<bT sh (i:Int)%9 * sc+1 by lia);exact⟨h1,by show _<=bT sh (i:Int)%9 * sc;lia⟩
    have hpr:∀p∈(List.range n).map (DU c0 sh sc c3),p.1∈((List.range n).map (gX c0 sh sc)).map (·.1):=fun p hp=>by
     obtain⟨i,hi,rfl⟩:=List.mem_map.mp hp;exact hmem i (List.mem_range.mp hi)
    have hrl:((List.range n).map (gX c0 sh sc)).length=n:=by rw[List.length_map,List.length_range]
    have hpl:((List.range n).map (DU c0 sh sc c3)).length=n:=by rw[List.length_map,List.length_range]
    walk_at"go";refine F2 (rz:=(List.range n).map (gX c0 sh sc)) (ds:=ds) (ps:=(List.range n).map (DU c0 sh sc c3)) rfl (by assumption) (sG _ _ eW') (hra'.sm sG) (SqL.of (sG _ _ eu)) (lT hud sG) (SqL.of ec) hcs hnr hnd hds hpr hfit (by lia) (by lia) (by lia) (by lia) (by lia) fun h G4 m4 T4 hh=> ?_;exact k _ _ _ _ _ (T5.snoc (sG.trans T4)) hh ⟨hnr,hnd,hds,hdt,hpr,hfit,hszs,by lia,by lia,by lia,by lia,by lia,by lia,by lia⟩
theorem GG (m:M K mg){cL PL:Addr}(hcL:m.cN.code= .ref cL)(hCL:PySem.W.CodeHd base cL PL)(hBL:base.BuiltinsAt mg PL):Fc P w K mg base "_law_house" 8 ["_law_script","_law_first","_law_last"] (tX K m.aH (aQ P w K mg base (some 4)) PL):=⟨_,_,m.LF,m.nJ.kp,m.LA,GH m hcL hCL hBL⟩
theorem oX (ss:List Str):Paired (fun (v:V) (x:Str)=>v= .str x) (ss.map V.str) ss:=by
 induction ss with
 | nil=>exact .nil
 | cons a l ih=>exact .cons rfl ih
theorem oY {ds:List aE}{z n:Str} (h:n∈jM ds z):n∈ds.map (·.1):=by
 unfold jM at h;obtain⟨d,hd,rfl⟩:=List.mem_map.mp h;exact List.mem_map.mpr ⟨d,(List.mem_filter.mp hd).1,rfl⟩
theorem tZ {ds:List aE}{z n:Str} (h:n∈iA ds z):n∈ds.map (·.1):=by
 unfold iA at h;obtain⟨d,hd,rfl⟩:=List.mem_map.mp h;exact List.mem_map.mpr ⟨d,(List.mem_filter.mp hd).1,rfl⟩
theorem RA (ds:List aE)(z:Str):(jM ds z).length<=ds.length:=by unfold jM;rw[List.length_map];exact List.length_filter_le _ _
theorem RD (ds:List aE)(z:Str):(iA ds z).length<=ds.length:=by unfold iA;rw[List.length_map];exact List.length_filter_le _ _
inductive VC (rz:List (Str×Int))(ds:List aE)(g I:Str->Int)(H H':Hp)(q:Addr):Prop
 | mk (p:Addr) (ss:List Str) (more:Int) (_:Same H H') (_:H' q=some (.tup [.ref p,.int more])) (_:H' p=some (.lst (ss.map V.str))) (_:∀n∈ss,n∈ds.map (·.1)/\0<g n) (_:ss=[]->IC rz ds g I) (_:ss.length<=8)
inductive BE (C:Addr)(D:bA)(vs:List V)(H:Hp)(Q:VK)(E:XK):Prop
 | mk (h pn pi:Addr) (f l:Int) (rz ps:List (Str×Int)) (ds:List aE) (g I:Str->Int) (_:vs=[.ref h,.ref pn,.ref pi]) (_:aW C D H h f l rz ps ds) (_:DrawnH rz ps ds f l) (_:H pn=some (.dK (c9 (ds.map (·.1)) g))) (_:H pi=some (.dK (c9 (rz.map (·.1)) I))) (_:(∀d∈ds,0<=g d.1)) (_:(∀e∈rz,0<=I e.1/\I e.1<=e.2)) (_:∀q H',VC rz ds g I H H' q->Q (.ref q) H'):BE C D vs H Q E
theorem YI {C:Addr}{D:bA}{H:Hp}{Q:VK}{E:XK}{h pn pi:Addr}{f l:Int}{rz ps:List (Str×Int)}{ds:List aE}{g I:Str->Int} (hh:aW C D H h f l rz ps ds) (dh:DrawnH rz ps ds f l) (en:H pn=some (.dK (c9 (ds.map (·.1)) g))) (ei:H pi=some (.dK (c9 (rz.map (·.1)) I))) (hg:∀d∈ds,0<=g d.1) (hI:∀e∈rz,0<=I e.1/\I e.1<=e.2) (k:∀q H',VC rz ds g I H H' q->Q (.ref q) H'):BE C D [.ref h,.ref pn,.ref pi] H Q E:=⟨_,_,_,_,_,_,_,_,_,_,rfl,hh,dh,en,ei,hg,hI,k⟩
theorem IT {ds:List aE}{g:Str->Int}{ss:List Str} (hs:∀n∈ss,n∈ds.map (·.1)) (h:0<(ss.map g).sum):ss.filter (fun n=>decide (0<g n))≠[]:=fun z=>by
 obtain⟨n,hn,hp⟩:=NN h;have:n∈ss.filter (fun n=>decide (0<g n)):=List.mem_filter.mpr ⟨hn,decide_eq_true hp⟩;rw[z]at this;exact nomatch this
theorem N3 {ds:List aE}{g:Str->Int}{ss:List Str} (hs:∀n∈ss,n∈ds.map (·.1)):∀n∈ss.filter (fun n=>decide (0<g n)),n∈ds.map (·.1)/\0<g n:=fun n hn=>by
 obtain⟨h1,h2⟩:=List.mem_filter.mp hn;exact⟨hs n h1,of_decide_eq_true h2⟩
theorem D0 (m:M K mg):FnOk P w K mg base CX0 6 m.qD m.qG ["_law_house_here","_law_numbers_here","_law_inside"] (BE m.aH (aQ P w K mg base (some 4))):=by
 refine m.i9.ok sc__law_excess (fun vs H Q E h=> ?_) (fun cdv A outer s H vs Q E hr h=> ?_)
 ·walk_at"g1";obtain⟨h,pn,pi,f,l,rz,ps,ds,g,I,rfl,hh,dh,en,ei,hg,hI,k⟩:=h;walk_at"g2";rfl
 ·walk_at"g1";obtain⟨h,pn,pi,f,l,rz,ps,ds,g,I,rfl,hh,dh,en,ei,hg,hI,k⟩:=h;walk_at"g2";have nd:=sc__law_excess.nd;walk_at"hu";have w_dc_House:=m.bC;have w_mc_House_rooms:= @iL P w K mg base m;have w_mc_House_from_room:= @xA P w K mg base m;have w_mc_House_into:= @F6 P w K mg base m;have w_mc_House_holds:= @iP P w K mg base m;refine⟨_,(aC (aU (i:=3) nd rfl (by walk_at"oi") rV)
   (aC (cS PassesOwn.never rfl (bK (cF 1 hr (pv 0))) (aO (i:=4) nd rfl (by walk_at"oi")) (aC (fR hu1 (pv 3) (pv 4) (bV (xU rfl) rfl m.IG CU (aA (cM (N:=["_law_name_here","_law_numbers_here"]) (nl:=1) (ci:=[1]) rfl (blk (s.heap.objs.size+1) rfl rfl rfl (by kernel_rfl)) (bK (dD 3 hr (pv 0) (aA (pv 4) aD))) (fun _ _ _ _=>(aO (i:=0) (show (["_law_name_here","_law_numbers_here"]:List Str).Nodup by decide +kernel) rfl (by walk_at"oi"))) (fun _ _ _ _=>eU) (fun _ _ _ _=>(bR hu1 (pv 1) (pv 0) (fun _ _=>rfl)))) aD)) rfl)
   (aF (cC (aZ mU (bR hu1 (pv 3) (pv 4) (fun _ _=>rfl)) (bR hu1 (pv 2) (pv 4) (fun _ _=>rfl)) (bD _)) (aC (iV (i:=5) nd rfl (by walk_at"oi") (N:=["_law_name_here","_law_numbers_here"]) (nl:=1) (ci:=[1]) rfl (blk (s.heap.objs.size+1) rfl rfl rfl (by kernel_rfl)) (bK (dD 3 hr (pv 0) (aA (pv 4) aD))) (fun _ _ _ _=>(aO (i:=0) (show (["_law_name_here","_law_numbers_here"]:List Str).Nodup by decide +kernel) rfl (by walk_at"oi"))) (fun _ _ _ _=>(jT (aZ mU (bR hu1 (pv 1) (pv 0) (fun _ _=>rfl)) aG (bD _)))) (fun _ _ _ _=>(pv 0)))
   (aF (aY (cD (aA (pv 5) (aA (aI i8 (bR hu1 (pv 3) (pv 4) (fun _ _=>rfl)) (bR hu1 (pv 2) (pv 4) (fun _ _=>rfl))) aD)))))) bN))))
   (aC (cS PassesOwn.never rfl (bK (cF 1 hr (pv 0))) (aO (i:=4) nd rfl (by walk_at"oi")) (aC (aU (i:=6) nd rfl (by walk_at"oi") (bV (xU rfl) rfl m.IG CU (aA (cM (N:=["_law_name_here","_law_numbers_here"]) (nl:=1) (ci:=[1]) rfl (blk (s.heap.objs.size+1) rfl rfl rfl (by kernel_rfl)) (bK (dD 3 hr (pv 0) (aA (pv 4) aD))) (fun _ _ _ _=>(aO (i:=0) (show (["_law_name_here","_law_numbers_here"]:List Str).Nodup by decide +kernel) rfl (by walk_at"oi"))) (fun _ _ _ _=>eU) (fun _ _ _ _=>(bR hu1 (pv 1) (pv 0) (fun _ _=>rfl)))) aD)))
   (aC (aU (i:=7) nd rfl (by walk_at"oi") (aI i8 (aI bO (aI i8 (bR hu1 (pv 2) (pv 4) (fun _ _=>rfl)) (bR hu1 (pv 3) (pv 4) (fun _ _=>rfl))) (pv 6)) (dD 3 hr (pv 0) (aA (pv 4) aD))))
   (aF (cC (aZ mU (pv 7) aG (bD _)) (aC (iV (i:=5) nd rfl (by walk_at"oi") (N:=["_law_name_here","_law_numbers_here"]) (nl:=1) (ci:=[1]) rfl (blk (s.heap.objs.size+1) rfl rfl rfl (by kernel_rfl)) (bK (dD 3 hr (pv 0) (aA (pv 4) aD))) (fun _ _ _ _=>(aO (i:=0) (show (["_law_name_here","_law_numbers_here"]:List Str).Nodup by decide +kernel) rfl (by walk_at"oi"))) (fun _ _ _ _=>(jT (aZ mU (bR hu1 (pv 1) (pv 0) (fun _ _=>rfl)) aG (bD _)))) (fun _ _ _ _=>(pv 0)))
   (aF (aY (cD (aA (pv 5) (aA (pv 7) aD)))))) bN)))))
   (aF (aY (cD (aA (fN aD) (aA aG aD)))))))),?_⟩
  refine aT (σ:=[some (.ref h),some (.ref pn),some (.ref pi),none,none,none,none,none]) rfl ?_;walk_at"cx";walk_at"g1";obtain⟨dnr,dnd,dhin,dlt,hpr,dfit,dsz,dlr,dlp,dld,df0,df1,df2,df3⟩:=id dh;walk_at"g2";walk_at"g1";obtain⟨dx,qs,qp,qd,nk,kvs,e1,_⟩:=id hh.ex;walk_at"g2";have fl:=RA ds;have il:=RD ds;walk_at"go";rename_i pL H1 n1 S1 eL;refine c5 (aK hh S1) fun pR H2 n2 S2 eR=> ?_;walk_at"go";have s02:Same H H2:=S1.trans S2;have eL2:=S2 _ _ eL;have kT:∀(q:Addr) (H':Hp),VC rz ds g I H H' q->Q (.ref q) H':=k;let Pv1:Nat->St->Hp->Prop:=fun i σ' H'=>SameBut pL H2 H'/\H' pL=some (.dK (c9 ((rz.map (·.1)).take i) (iB ds g)))/\(∀z∈(rz.map (·.1)).take i,iB ds g z<=I z)/\∃x y,σ'=[some (.ref h),some (.ref pn),some (.ref pi),some (.ref pL),x,y,none,none];refine dU ((rz.map (·.1)).map V.str) Pv1 ⟨SameBut.refl,by rw[eL2];rfl,(fun _ z=>nomatch z),_,_,rfl⟩ (fun i σ' H' _ q=>SqL.of (q.1 _ _ eR fun z=>by rw[z,eL2]at eR;cases eR)) ?_ ?_
  ·rintro i x _ H' hx hq_;walk_at"g1";obtain⟨sb,ek,hok,y1,y2,rfl⟩:=hq_;walk_at"g2";rw[List.getElem?_map]at hx;obtain⟨z,hz,rfl⟩:=Option.map_eq_some_iff.mp hx;have hzm:z∈rz.map (·.1):=List.mem_of_getElem? hz;have hzn:=nL dnr hz;have sH:Same H H':=SameBut.same n1 s02 sb;have hh':=aK hh sH;have en':=sH _ _ en;have ei':=sH _ _ ei;have e1':=sH _ _ e1;have flz:=fl z;walk_at"go";refine CH hh' dnr hzm (by lia) dhin fun pF G1 m1 T1 eF=> ?_;walk_at"go";refine fQ (α:=Str) (xs:=jM ds z) (vs:=(jM ds z).map V.str) (fun v x=>v= .str x) (fun _=>true) (fun n y _=>y= .int (g n)) (fun _ _ _ _ h _=>h) (by rw[sizeLine_eq];lia) (rest:=[some (.ref pn)]) (by rfl) (SqL.of eF) (oX _) ?_ ?_ ?_
   ·exact fun v x H1 _ _ s1 R hR=>hR _ (Same.refl _)
   ·rintro _ n G2 rfl hm - s2 R hR;have en2:=(T1.trans s2) _ _ en';walk_at"go";refine bS (.inl en2) (cE (oY hm)) ?_;exact hR _ _ rfl (Same.refl _)
   intro ys G2 s2 hys;rw[dR]at hys;have ey:ys=((jM ds z).map g).map V.int:=by rw[eV hys,List.map_map];rfl
   subst ey;walk_at"go";rename_i q3 G3 m3 T3 e3;refine JV (SqL.of e3) ?_;have sG:Same H' G3:=T1.trans (s2.trans T3);have ek3:=sG _ _ ek;walk_at"go";refine j4 ek3 (by rw[rR,List.length_take,List.length_map,sizeLine_eq];lia) fun G4 B4 e4=> ?_;have e4':G4 pL=some (.dK (c9 ((rz.map (·.1)).take (i+1)) (iB ds g))):=by rw[e4,cA hz];exact congrArg (fun x=>some (HO.dK x)) (W8 (g:=iB ds g) hzn)
   have sH4:Same H G4:=SameBut.same n1 s02 ((sb.trans sG.but).trans B4);have ei4:=sH4 _ _ ei;have e14:=sH4 _ _ e1;have en4:=sH4 _ _ en;have hv4:bH (c9 ((rz.map (·.1)).take (i+1)) (iB ds g)) (.inr z)=some (.int (iB ds g z)):=cE (by rw[cA hz];exact List.mem_append_right _ (.head _));walk_at"go";refine bS (.inl e4') hv4 ?_;walk_at"go";refine bS (.inl ei4) (cE hzm) ?_;walk_at"go";refine c7 (fun hc=> ?_) (fun hc=> ?_)
   ·walk_at"go";refine CH (aK hh sH4) dnr hzm (by lia) dhin fun pF2 G5 m5 T5 eF2=> ?_;walk_at"go";refine fQ (α:=Str) (xs:=jM ds z) (vs:=(jM ds z).map V.str) (fun v x=>v= .str x) (fun n=>decide (0<g n)) (fun n y _=>y= .str n) (fun _ _ _ _ h _=>h) (by rw[sizeLine_eq];lia) (rest:=[some (.ref pn)]) (by rfl) (SqL.of eF2) (oX _) ?_ ?_ ?_
    ·rintro _ n G6 rfl hm s6 R hR;have en6:=(T5.trans s6) _ _ en4;walk_at"go";refine bS (.inl en6) (cE (oY hm)) ?_;walk_at"go";exact hR _ (Same.refl _)
    ·rintro _ n G6 rfl hm - s6 R hR;walk_at"go";exact hR _ _ rfl (Same.refl _)
    intro ys G6 s6 hys;obtain rfl:=eV hys;walk_at"go";rename_i q7 G7 m7 T7 e7;have s47:Same G4 G7:=T5.trans (s6.trans T7);have e47:=s47 _ _ e4';have ei7:=s47 _ _ ei4;refine bS (.inl e47) hv4 ?_;walk_at"go";refine bS (.inl ei7) (cE hzm) ?_;walk_at"go";rename_i q8 G8 m8 T8 e8;have hI0:0<=I z:=by obtain⟨e,he,rfl⟩:=List.mem_map.mp hzm;exact(hI e he).1
    exact kT _ _ (.mk _ _ _ (sH4.trans (s47.trans T8)) e8 (T8 _ _ e7) (N3 fun n hn=>oY hn) (fun y=>absurd y (IT (ds:=ds) (fun n hn=>oY hn) (by unfold iB at hc;lia))) (Nat.le_trans (List.length_filter_le _ _) (by lia)))
   ·walk_at"go";refine⟨(sb.trans sG.but).trans B4,e4',fun z' hz'=> ?_,_,_,rfl⟩;rw[cA hz]at hz';rcases List.mem_append.mp hz' with hz'|hz'
    ·exact hok z' hz'
    ·cases List.mem_singleton.mp hz'
     lia
  ·rintro _ H' hq_;walk_at"g1";obtain⟨sb,ek,hok,y1,y2,rfl⟩:=hq_;walk_at"g2";rw[List.length_map,List.take_length]at ek hok;have sH:Same H H':=SameBut.same n1 s02 sb;have hh':=aK hh sH;have e1':=sH _ _ e1;walk_at"go";refine c5 hh' fun pR2 H3 n3 S3 eR2=> ?_;have s03:Same H H3:=sH.trans S3;have en3:=s03 _ _ en;have ei3:=s03 _ _ ei;have ek3:=S3 _ _ ek;have e13:=s03 _ _ e1;walk_at"go";let Pv2:Nat->St->Hp->Prop:=fun i σ' H'=>Same H3 H'/\(∀e∈rz.take i,I e.1 - iB ds g e.1+qS ds g e.1<=e.2)/\∃x y u v,σ'=[some (.ref h),some (.ref pn),some (.ref pi),some (.ref pL),x,y,u,v];refine dU ((rz.map (·.1)).map V.str) Pv2 ⟨Same.refl _,(fun _ z=>nomatch z),_,_,_,_,rfl⟩ (fun i σ' H' _ q=>SqL.of (q.1 _ _ eR2)) ?_ ?_
   ·rintro i x _ G hx hq_;walk_at"g1";obtain⟨sG,hfu,y1,y2,y3,y4,rfl⟩:=hq_;walk_at"g2";rw[List.getElem?_map]at hx;obtain⟨z,hz,rfl⟩:=Option.map_eq_some_iff.mp hx;rw[List.getElem?_map]at hz;walk_at"g1";obtain⟨⟨z',sz'⟩,he,rfl⟩:=Option.map_eq_some_iff.mp hz;walk_at"g2";have hem:(z',sz')∈rz:=List.mem_of_getElem? he;have hzm:z'∈rz.map (·.1):=List.mem_map.mpr ⟨_,hem,rfl⟩;have s0G:Same H G:=s03.trans sG;have hhG:=aK hh s0G;have enG:=sG _ _ en3;have eiG:=sG _ _ ei3;have ekG:=sG _ _ ek3;have e1G:=sG _ _ e13;have ilz:=il z';show (_:TG) (V.str z') _ _ _;walk_at"go";refine CH hhG dnr hzm (by lia) dhin fun pF G1 m1 T1 eF=> ?_;walk_at"go";refine fQ (α:=Str) (xs:=iA ds z') (vs:=(iA ds z').map V.str) (fun v x=>v= .str x) (fun _=>true) (fun n y _=>y= .int (g n)) (fun _ _ _ _ h _=>h) (by rw[sizeLine_eq];lia) (rest:=[some (.ref pn)]) (by rfl) (SqL.of eF) (oX _) ?_ ?_ ?_
    ·exact fun v x H1 _ _ s1 R hR=>hR _ (Same.refl _)
    ·rintro _ n G2 rfl hm - s2 R hR;have en2:=(T1.trans s2) _ _ enG;walk_at"go";refine bS (.inl en2) (cE (tZ hm)) ?_;exact hR _ _ rfl (Same.refl _)
    intro ys G2 s2 hys;rw[dR]at hys;have ey:ys=((iA ds z').map g).map V.int:=by rw[eV hys,List.map_map];rfl
    subst ey;walk_at"go";rename_i q3 G3 m3 T3 e3;refine JV (SqL.of e3) ?_;have sG3:Same G G3:=T1.trans (s2.trans T3);have ei3':=sG3 _ _ eiG;have ek3':=sG3 _ _ ekG;have e13':=sG3 _ _ e1G;have en3':=sG3 _ _ enG;walk_at"go";refine bS (.inl ei3') (cE hzm) ?_;walk_at"go";refine bS (.inl ek3') (cE hzm) ?_;walk_at"go";refine q0 (i:=sz') (aK hhG sG3) dnr hem fun G4 T4=> ?_;have hcm:((iA ds z').map g).sum=qS ds g z':=rfl;rw[hcm];have en4:=T4 _ _ en3';have e14:=T4 _ _ e13';walk_at"go";refine c7 (fun hc=> ?_) (fun hc=> ?_)
    ·walk_at"go";refine CH (aK hhG (sG3.trans T4)) dnr hzm (by lia) dhin fun pF2 G5 m5 T5 eF2=> ?_;walk_at"go";refine fQ (α:=Str) (xs:=iA ds z') (vs:=(iA ds z').map V.str) (fun v x=>v= .str x) (fun n=>decide (0<g n)) (fun n y _=>y= .str n) (fun _ _ _ _ h _=>h) (by rw[sizeLine_eq];lia) (rest:=[some (.ref pn)]) (by rfl) (SqL.of eF2) (oX _) ?_ ?_ ?_
     ·rintro _ n G6 rfl hm s6 R hR;have en6:=(T5.trans s6) _ _ en4;walk_at"go";refine bS (.inl en6) (cE (tZ hm)) ?_;walk_at"go";exact hR _ (Same.refl _)
     ·rintro _ n G6 rfl hm - s6 R hR;walk_at"go";exact hR _ _ rfl (Same.refl _)
     intro ys G6 s6 hys;obtain rfl:=eV hys;walk_at"go";rename_i q7 G7 m7 T7 e7 q8 G8 m8 T8 e8;have hI1:I z'<=sz':=(hI _ hem).2;have hl0:0<=iB ds g z':=CG fun n hn=>by
      obtain⟨d,hd,rfl⟩:=List.mem_map.mp (oY hn);exact hg d hd
     exact kT _ _ (.mk _ _ _ (s0G.trans (sG3.trans (T4.trans (T5.trans (s6.trans (T7.trans T8)))))) e8 (T8 _ _ e7) (N3 fun n hn=>tZ hn) (fun y=>absurd y (IT (ds:=ds) (fun n hn=>tZ hn) (by rw[hcm];lia))) (Nat.le_trans (List.length_filter_le _ _) (by lia)))
    ·walk_at"go";refine⟨sG.trans (sG3.trans T4),fun e' he'=> ?_,_,_,_,_,rfl⟩;rw[cA he]at he';rcases List.mem_append.mp he' with he'|he'
     ·exact hfu e' he'
     ·cases List.mem_singleton.mp he';show I z' - iB ds g z'+qS ds g z'<=sz'
      lia
   ·rintro _ G hq_;walk_at"g1";obtain⟨sG,hfu,y1,y2,y3,y4,rfl⟩:=hq_;walk_at"g2";rw[List.length_map,List.length_map,List.take_length]at hfu;walk_at"go";rename_i q7 G7 m7 T7 e7 q8 G8 m8 T8 e8;exact kT _ _ (.mk _ [] _ (s03.trans (sG.trans (T7.trans T8))) e8 (T8 _ _ e7) (fun _ z=>nomatch z) (fun _ e he=>⟨hok _ (List.mem_map.mpr ⟨e,he,rfl⟩),hfu e he⟩) (Nat.zero_le _))
theorem EB (m:M K mg):Fc P w K mg base "_law_excess" 6 ["_law_house_here","_law_numbers_here","_law_inside"] (BE m.aH (aQ P w K mg base (some 4))):=⟨_,_,m.GU,m.i9.kp,m.HW,D0 m⟩
inductive aBO (rz:List (Str×Int))(ds:List aE)(f l t:Int)(I:Str->Int)(H H':Hp)(p:Addr):Prop
 | mk (g:Str->Int) (_:H p=none) (_:Same H H') (_:H' p=some (.dK (c9 (ds.map (·.1)) g))) (_:∀d∈ds,0<=g d.1/\g d.1<=fL f l d t) (_:IC rz ds g I)
inductive CM (C:Addr)(D:bA)(vs:List V)(H:Hp)(Q:VK)(E:XK):Prop
 | mk (h pi:Addr) (c t f l:Int) (rz ps:List (Str×Int)) (ds:List aE) (I:Str->Int) (_:vs=[.ref h,.int c,.int t,.ref pi]) (_:aW C D H h f l rz ps ds) (_:DrawnH rz ps ds f l) (_:H pi=some (.dK (c9 (rz.map (·.1)) I))) (_:(∀e∈rz,0<=I e.1/\I e.1<=e.2)) (_:∀p H',aBO rz ds f l t I H H' p->Q (.ref p) H'):CM C D vs H Q E
theorem aEw {C:Addr}{D:bA}{H:Hp}{Q:VK}{E:XK}{h pi:Addr}{c t f l:Int}{rz ps:List (Str×Int)}{ds:List aE}{I:Str->Int} (hh:aW C D H h f l rz ps ds) (dh:DrawnH rz ps ds f l) (ei:H pi=some (.dK (c9 (rz.map (·.1)) I))) (hI:∀e∈rz,0<=I e.1/\I e.1<=e.2) (k:∀p H',aBO rz ds f l t I H H' p->Q (.ref p) H'):CM C D [.ref h,.int c,.int t,.ref pi] H Q E:=⟨_,_,_,_,_,_,_,_,_,_,rfl,hh,dh,ei,hI,k⟩
theorem aDq {rz ps:List (Str×Int)}{ds:List aE}{f l:Int} (dh:DrawnH rz ps ds f l) {d:aE} (hd:d∈ds) (t:Int):0<=fL f l d t:=by
 unfold fL
 split
 ·exact dh.lt0 d hd t
 ·exact Int.le_refl _
theorem BT (m:M K mg):FnOk P w K mg base CX0 9 m.oE m.oM ["_law_house_here","_law_cell","_law_turn","_law_inside"] (CM m.aH (aQ P w K mg base (some 4))):=by
 refine m.kI.ok sc__law_numbers (fun vs H Q E h=> ?_) (fun cdv A outer s H vs Q E hr h=> ?_)
 ·walk_at"g1";obtain⟨h,pi,c,t,f,l,rz,ps,ds,I,rfl,hh,dh,ei,hI,k⟩:=h;walk_at"g2";rfl
 ·walk_at"g1";obtain⟨h,pi,c,t,f,l,rz,ps,ds,I,rfl,hh,dh,ei,hI,k⟩:=h;walk_at"g2";have nd:=sc__law_numbers.nd;walk_at"hu";have b9:= @pG P w K mg base m;have i9:= @EB P w K mg base m;have w_dc_House:=m.bC;have w_mc_House_doors:= @fT P w K mg base m;have w_mc_House_lets:= @lE P w K mg base m;refine⟨_,(aC (aU (i:=4) nd rfl (by walk_at"oi") rV)
   (aC (aU (i:=5) nd rfl (by walk_at"oi") (cF 1 hr (pv 0)))
   (aC (cS PassesOwn.never rfl (mB rfl m.jE (aA (bV iT rfl m.oV k7 (aA (pv 5) aD)) aD)) (aO (i:=6) nd rfl (by walk_at"oi")) (aC (aU (i:=7) nd rfl (by walk_at"oi") (dD 6 hr (pv 0) (aA (eY iG (pv 5) (pv 6) (fun _ _=>rfl)) (aA (pv 2) aD))))
   (aC (aU (i:=8) nd rfl (by walk_at"oi") (aI i7 (bG b9 hr (aA (pv 1) (aA (pv 6) aD))) (aI bO (aI dS (pv 7) aG) aG)))
   (aF (fR hu1 (pv 4) (eY iG (pv 5) (pv 6) (fun _ _=>rfl)) (aI bU (pv 8) (aI bO (pv 7) aG)) rfl)))))
   (aC (SH (bG i9 hr (aA (pv 0) (aA (pv 4) (aA (pv 3) aD)))) (o7 (n:=2) rfl (bF (aO (i:=9) nd rfl (by walk_at"oi")) (bF (aO (i:=10) nd rfl (by walk_at"oi")) dW))))
   (aC (WY PassesOwn.never (aZ (aCu hu0) (pv 9) (fN aD) (bD _)) (aC (aU (i:=11) nd rfl (by walk_at"oi") (eY iG (pv 9) (aI bU (pv 1) (bV iT rfl m.oV k7 (aA (pv 9) aD))) (fun _ _=>rfl)))
   (aC (aU (i:=12) nd rfl (by walk_at"oi") (bV (RQ rfl) rfl m.aEJ aCt (aA (pv 10) (aA (aI dS (aI bO (bR hu1 (pv 4) (pv 11) (fun _ _=>rfl)) aG) aG) aD))))
   (aC (aU (i:=12) nd rfl (by walk_at"oi") (bV (TM rfl) rfl m.aEF aBS (aA (pv 12) (aA (bR hu1 (pv 4) (pv 11) (fun _ _=>rfl)) aD))))
   (aC (fR hu1 (pv 4) (pv 11) (aI i8 (bR hu1 (pv 4) (pv 11) (fun _ _=>rfl)) (pv 12)) rfl)
   (aF (SH (bG i9 hr (aA (pv 0) (aA (pv 4) (aA (pv 3) aD)))) (o7 (n:=2) rfl (bF (aO (i:=9) nd rfl (by walk_at"oi")) (bF (aO (i:=10) nd rfl (by walk_at"oi")) dW))))))))))
   (aF (aY (pv 4)))))))),?_⟩
  refine aT (σ:=[some (.ref h),some (.int c),some (.int t),some (.ref pi),none,none,none,none,none,none,none,none,none]) rfl ?_;walk_at"cx";walk_at"g1";obtain⟨dnr,dnd,dhin,dlt,hpr,dfit,dsz,dlr,dlp,dld,df0,df1,df2,df3⟩:=id dh;walk_at"g2";walk_at"g1";obtain⟨dx,qs,qp,qd,nk,kvs,e1,_⟩:=id hh.ex;walk_at"g2";walk_at"go";rename_i p H1 n1 S1 eP;refine c5 (aK hh S1) fun pN H2 n2 S2 eN=> ?_;have s02:Same H H2:=S1.trans S2;have eP2:=S2 _ _ eP;have hNp:pN≠p:=fun z=>by rw[z,eP2]at eN;cases eN
  have nl:((ds.map (·.1)).map V.str).length=ds.length:=by rw[List.length_map,List.length_map]
  walk_at"go";rw[show ((((ds.map (·.1)).map V.str).length:Nat):Int).toNat=ds.length by lia];let Pv1:Nat->St->Hp->Prop:=fun i σ' H'=>SameBut p H2 H'/\(∃g,H' p=some (.dK (c9 ((ds.map (·.1)).take i) g))/\∀d∈ds.take i,0<=g d.1/\g d.1<=fL f l d t)/\∃x y z,σ'=[some (.ref h),some (.int c),some (.int t),some (.ref pi),some (.ref p),some (.ref pN),x,y,z,none,none,none,none];refine nV Pv1 ⟨SameBut.refl,⟨fun _=>0,by rw[eP2];rfl,(fun _ z=>nomatch z)⟩,_,_,_,rfl⟩ ?_ ?_
  ·rintro i _ H' hi hq_;walk_at"g1";obtain⟨sb,⟨g,ek,hg⟩,y1,y2,y3,rfl⟩:=hq_;walk_at"g2";have sH:Same H H':=SameBut.same n1 s02 sb;have hh':=aK hh sH;have e1':=sH _ _ e1;have eN':=sb _ _ eN hNp;have hd:ds[i]? =some ds[i]:=List.getElem?_eq_getElem hi;have hdm:ds[i]∈ds:=List.getElem_mem hi;have hni:(ds.map (·.1))[i]? =some ds[i].1:=by rw[List.getElem?_map,hd];rfl
   have hvi:((ds.map (·.1)).map V.str)[i]? =some (.str ds[i].1):=by rw[List.getElem?_map,hni];rfl
   have hnn:=aDq dh hdm t;generalize ds[i]=d at hd hdm hni hvi hnn;walk_at"go";rw[Int.zero_add];refine xF (SqL.of eN') hvi ?_;walk_at"go";refine uV hh' dnd hdm df0 fun H3 S3=> ?_;generalize hlt:fL f l d t=lt at hnn ⊢;walk_at"go";rename_i nn en hn0 hn1 hv0 hv1;refine xF (SqL.of (S3 _ _ eN')) hvi ?_;generalize nn * (lt/1000+1)%(lt+1)=vv at hv0 hv1 ⊢;have ek3:=S3 _ _ ek;refine j4 ek3 (by rw[rR,List.length_take,List.length_map,sizeLine_eq];lia) fun H4 B4 e4=> ?_;have hnew:=nL dnd hni;refine⟨(sb.trans S3.but).trans B4,⟨dY g d.1 vv,by rw[e4,cA hni,IN hnew],fun d' hd'=> ?_⟩,_,_,_,rfl⟩;rw[cA hd]at hd';rcases List.mem_append.mp hd' with hd'|hd'
   ·unfold dY;rw[if_neg (fun z:d'.1=d.1=>hnew (by rw[←z,←List.map_take];exact List.mem_map.mpr ⟨d',hd',rfl⟩))];exact hg d' hd'
   ·cases List.mem_singleton.mp hd';unfold dY;rw[if_pos rfl];have:=hlt
    lia
  ·rintro _ H' hq_;walk_at"g1";obtain⟨sb,⟨g,ek,hg⟩,y1,y2,y3,rfl⟩:=hq_;walk_at"g2";rw[show (ds.map (·.1)).take ds.length=ds.map (·.1) by rw[←List.length_map (f:=fun d:aE=>d.1),List.take_length]]at ek;rw[List.take_length]at hg;have sH:Same H H':=SameBut.same n1 s02 sb;walk_at"go";refine YI (aK hh sH) dh ek (sH _ _ ei) (fun d hd=>(hg d hd).1) hI fun q H3 hX=> ?_;walk_at"g1";obtain⟨pS,ss,more,S3,eq,eS,hss,hx,hsl⟩:=hX;walk_at"g2";walk_at"go";have hpS:pS≠p:=fun z=>by rw[z,S3 _ _ ek]at eS;cases eS
   refine VX (W:=fun m' σ' H'=>SameBut p H2 H'/\(∃(g:Str->Int) (ss:List Str) (more:Int) (pS:Addr) (x1 x2 x3 x4 x5:Option V),H' p=some (.dK (c9 (ds.map (·.1)) g))/\(∀d∈ds,0<=g d.1/\g d.1<=fL f l d t)/\H' pS=some (.lst (ss.map V.str))/\(∀n∈ss,n∈ds.map (·.1)/\0<g n)/\(ss=[]->IC rz ds g I)/\ss.length<=8/\m'=(((ds.map (·.1)).map g).sum).toNat/\σ'=[some (.ref h),some (.int c),some (.int t),some (.ref pi),some (.ref p),some (.ref pN),x1,x2,x3,some (.ref pS),some (.int more),x4,x5])) _ ⟨sb.trans S3.but,g,ss,more,pS,_,_,_,_,_,S3 _ _ ek,hg,eS,hss,hx,hsl,rfl,rfl⟩ ?_;clear hg hss hx hsl eS hpS ek sb sH eq;clear pS ss more S3 H3 q g y1 y2 y3 H';rintro m' _ H' hq_;walk_at"g1";obtain⟨sb,g,ss,more,pS,x1,x2,x3,x4,x5,ek,hg,eS,hss,hx,hsl,rfl,rfl⟩:=hq_;walk_at"g2";have sH:Same H H':=SameBut.same n1 s02 sb;walk_at"go";rename_i pZ H3 n3 S3 eZ;have eS3:=S3 _ _ eS;have ek3:=S3 _ _ ek;refine aCd (SqL.of eS3) (SqL.of eZ) ?_;walk_at"go";cases ss with
   | nil =>
    rw[if_neg (show ¬((!(([]:List Str).map V.str).isEmpty)=true) from fun z=>by cases z)];walk_at"go";exact k _ _ (.mk g (by
     cases hq:H p with
     | none=>rfl
     | some u=>rw[n1]at hq;cases hq) (sH.trans S3) ek3 hg (hx rfl))
   | cons z0 ss0 =>
    generalize hse:z0::ss0=ss at hss hx hsl eS eS3 ⊢;have hs0:0<ss.length:=by rw[←hse];exact Nat.succ_pos _
    have hie:(!(ss.map V.str).isEmpty)=true:=by rw[←hse];rfl
    rw[hie,if_pos rfl];refine aCQ ?_;have hsl':(ss.map V.str).length=ss.length:=List.length_map ..;walk_at"go";rename_i hi0 hi1;refine JP (SqL.of eS3) hi0 hi1 fun v hv=> ?_;obtain⟨n,hn,rfl⟩:=List.mem_map.mp hv;obtain⟨hnm,hgn⟩:=hss n hn;walk_at"go";refine bS (.inl ek3) (cE hnm) ?_;walk_at"go";refine bS (.inl ek3) (cE hnm) ?_;generalize hgv:g n=gv at hgn ⊢;walk_at"go";refine bS (.inl ek3) (cE hnm) ?_;rw[hgv];walk_at"go";generalize hmo:min (max more ((gv+1)/2)) gv=mo;have hmo0:1<=mo/\mo<=gv:=by lia
    refine j4 ek3 (by rw[rR,List.length_map,sizeLine_eq];lia) fun H4 B4 e4=> ?_;rw[AI hnm]at e4;have sb4:SameBut p H2 H4:=(sb.trans S3.but).trans B4;have sH4:Same H H4:=SameBut.same n1 s02 sb4;have hsm:=K7 (g:=g) (v:=gv - mo) dnd hnm;have hg':∀d∈ds,0<=dY g n (gv - mo) d.1/\dY g n (gv - mo) d.1<=fL f l d t:=fun d hd=>by
     have h1:=hg d hd;unfold dY
     by_cases e:d.1=n
     ·rw[if_pos e];rw[e,hgv]at h1
      lia
     ·rw[if_neg e];exact h1
    have hs0':0<=((ds.map (·.1)).map (dY g n (gv - mo))).sum:=CG fun x hx=>by
     obtain⟨d,hd,rfl⟩:=List.mem_map.mp hx;exact(hg' d hd).1
    walk_at"go";refine YI (aK hh sH4) dh e4 (sH4 _ _ ei) (fun d hd=>(hg' d hd).1) hI fun q H5 hX=> ?_;walk_at"g1";obtain⟨pS',ss',more',S5,eq5,eS5,hss',hx',hsl5⟩:=hX;walk_at"g2";walk_at"go";refine⟨_,?_,sb4.trans S5.but,_,ss',more',pS',_,_,_,_,_,S5 _ _ e4,hg',eS5,hss',hx',hsl5,rfl,rfl⟩;rw[hgv]at hsm
    lia
theorem BF (m:M K mg):Fc P w K mg base "_law_numbers" 9 ["_law_house_here","_law_cell","_law_turn","_law_inside"] (CM m.aH (aQ P w K mg base (some 4))):=⟨_,_,m.EY,m.kI.kp,m.EZ,BT m⟩
def Same2 (p q:Addr)(H H':Hp):Prop:=∀b u,H b=some u->b≠p->b≠q->H' b=some u
theorem Same2.refl (p q:Addr)(H:Hp):Same2 p q H H:=fun _ _ e _ _=>e
theorem Same2.same {p q:Addr}{H H1 H2:Hp} (t:Same2 p q H H1) (s:Same H1 H2):Same2 p q H H2:=fun b u e n hb=>s b u (t b u e n hb)
theorem Same2.fst {p q:Addr}{H H1 H2:Hp} (t:Same2 p q H H1) (s:SameBut p H1 H2):Same2 p q H H2:=fun b u e n hb=>s b u (t b u e n hb) n
theorem Same2.snd {p q:Addr}{H H1 H2:Hp} (t:Same2 p q H H1) (s:SameBut q H1 H2):Same2 p q H H2:=fun b u e n hb=>s b u (t b u e n hb) hb
theorem Same2.out {p q:Addr}{H H1 H2:Hp} (n1:H p=none) (n2:H q=none) (s:Same H H1) (t:Same2 p q H1 H2):Same H H2:=fun b u e=>t b u (s b u e) (fun z=>by rw[z,n1]at e;cases e) (fun z=>by rw[z,n2]at e;cases e)
theorem tM {H H':Hp}{p:Addr} (s:Same H H') (n:H' p=none):H p=none:=by
 cases hq:H p with
 | none=>rfl
 | some u=>rw[s _ _ hq]at n;cases n
theorem vX {H H':Hp}{p:Addr}{o:HO}{us:List V}{R:List aN} (h:cB H us R) (e:H p=some o) (ho:∀xs,o≠ .tup xs) (s:SameBut p H H'):cB H' us R:=Paired.imp' (fun v r ⟨q,e1,h1⟩=>⟨q,e1,s _ _ h1 (fun z=>by
 rw[z,e]at h1;cases h1;exact ho _ rfl)⟩) h
theorem PJ {ks:List Str}(nd:ks.Nodup)(g:Str->Int):kZ [] (c9 ks g)=c9 ks g:=by
 rw[xY _ _ (by rw[FW];exact tW nd) (fun _ z=>by cases z)];rfl
def inJ (ds:List aE)(g I:Str->Int)(L:List Str)(z:Str):Int:=I z - (L.map (sLf ds g z)).sum+(L.map (sCf ds g z)).sum
theorem aAj {ds:List aE}(nd:(ds.map (·.1)).Nodup){d:aE}(hd:d∈ds)(he:d.2.2.1= .non)(g I:Str->Int)(L:List Str):dY (inJ ds g I L) d.2.1 (inJ ds g I L d.2.1 - g d.1)=inJ ds g I (L++[d.1]):=funext fun z=>by
 unfold dY inJ;rw[List.map_append,List.sum_append,List.map_append,List.sum_append,List.map_singleton,List.map_singleton,CJ nd hd,CZ nd hd,he,if_neg (show ¬V.non=V.str z from fun y=>by cases y)]
 by_cases c:z=d.2.1
 ·subst c;rw[if_pos rfl,if_pos rfl];simp only[List.sum_cons,List.sum_nil]
  lia
 ·rw[if_neg c,if_neg (fun y=>c y.symm)];simp only[List.sum_cons,List.sum_nil]
  lia
theorem aDe {ds:List aE}(nd:(ds.map (·.1)).Nodup){d:aE}(hd:d∈ds){y:Str}(he:d.2.2.1= .str y)(g I:Str->Int)(L:List Str):dY (dY (inJ ds g I L) d.2.1 (inJ ds g I L d.2.1 - g d.1)) y (dY (inJ ds g I L) d.2.1 (inJ ds g I L d.2.1 - g d.1) y+g d.1)=inJ ds g I (L++[d.1]):=funext fun z=>by
 have e1:∀z,dY (inJ ds g I L) d.2.1 (inJ ds g I L d.2.1 - g d.1) z=inJ ds g I L z - (if d.2.1=z then g d.1 else 0):=fun z=>by
  unfold dY
  by_cases c:z=d.2.1
  ·rw[if_pos c,if_pos c.symm,c]
  ·rw[if_neg c,if_neg (fun y=>c y.symm),Int.sub_zero]
 have e2:∀z,dY (dY (inJ ds g I L) d.2.1 (inJ ds g I L d.2.1 - g d.1)) y (dY (inJ ds g I L) d.2.1 (inJ ds g I L d.2.1 - g d.1) y+g d.1) z=dY (inJ ds g I L) d.2.1 (inJ ds g I L d.2.1 - g d.1) z+(if y=z then g d.1 else 0):=fun z=>by
  show (if z=y then _ else _)=_
  by_cases c:z=y
  ·rw[if_pos c,if_pos c.symm,c]
  ·rw[if_neg c,if_neg (fun y=>c y.symm),Int.add_zero]
 rw[e2,e1];unfold inJ;rw[List.map_append,List.sum_append,List.map_append,List.sum_append,List.map_singleton,List.map_singleton,CJ nd hd,CZ nd hd,he];have e3:(if V.str y=V.str z then g d.1 else 0)=if y=z then g d.1 else 0:=by
  by_cases c:y=z
  ·rw[if_pos c,if_pos (by rw[c])]
  ·rw[if_neg c,if_neg (fun q=>c (by injection q))]
 rw[e3];simp only[List.sum_cons,List.sum_nil]
 lia
inductive aCY (rz ps:List (Str×Int))(ds:List aE)(f l:Int)(H H':Hp)(p:Addr):Prop
 | mk (us:List V) (R:List aN) (I:Str->Int) (_:H p=none) (_:Same H H') (_:H' p=some (.lst us)) (_:cB H' us R) (_:Lawn rz ps ds f l (l - f).toNat I R)
inductive tT (K:PySem.W.Frag)(C:Addr)(D:bA)(vs:List V)(H:Hp)(Q:VK)(E:XK):Prop
 | mk (h b:Addr) (f l:Int) (rz ps:List (Str×Int)) (ds:List aE) (cs:List Int) (_:vs=[.ref h,.ref b]) (_:aW C D H h f l rz ps ds) (_:DrawnH rz ps ds f l) (_:SqL K H b (cs.map V.int)) (_:∀p H',aCY rz ps ds f l H H' p->Q (.ref p) H'):tT K C D vs H Q E
theorem XV {C:Addr}{D:bA}{H:Hp}{Q:VK}{E:XK}{h b:Addr}{f l:Int}{rz ps:List (Str×Int)}{ds:List aE}{cs:List Int} (hh:aW C D H h f l rz ps ds) (dh:DrawnH rz ps ds f l) (hS:SqL K H b (cs.map V.int)) (k:∀p H',aCY rz ps ds f l H H' p->Q (.ref p) H'):tT K C D [.ref h,.ref b] H Q E:=⟨_,_,_,_,_,_,_,_,rfl,hh,dh,hS,k⟩
theorem DH (m:M K mg):FnOk P w K mg base CX0 11 m.qJ m.pO ["_law_house_here","_law_cells"] (tT K m.aH (aQ P w K mg base (some 4))):=by
 refine m.lN.ok sc__law_lawful (fun vs H Q E h=> ?_) (fun cdv A outer s H vs Q E hr h=> ?_)
 ·walk_at"g1";obtain⟨h,b,f,l,rz,ps,ds,cs,rfl,hh,dh,hS,k⟩:=h;walk_at"g2";rfl
 ·walk_at"g1";obtain⟨h,b,f,l,rz,ps,ds,cs,rfl,hh,dh,hS,k⟩:=h;walk_at"g2";have nd:=sc__law_lawful.nd;walk_at"hu";have bZ:= @mQ P w K mg base m;have kI:= @BF P w K mg base m;have w_dc_House:=m.bC;have w_mc_House_rooms:= @iL P w K mg base m;have w_mc_House_found:= @kA P w K mg base m;have w_mc_House_door:= @dX P w K mg base m;refine⟨_,(aC (aU (i:=2) nd rfl (by walk_at"oi") (fN aD))
   (aC (aU (i:=3) nd rfl (by walk_at"oi") (mD (BR rfl) rfl m.U8 N9 (aA (cM (N:=["_law_room","_law_house_here"]) (nl:=1) (ci:=[0]) rfl (blk (s.heap.objs.size+1) rfl rfl rfl (by kernel_rfl)) (bK (cF 1 hr (pv 0))) (fun _ _ _ _=>(aO (i:=0) (show (["_law_room","_law_house_here"]:List Str).Nodup by decide +kernel) rfl (by walk_at"oi"))) (fun _ _ _ _=>eU) (fun _ _ _ _=>(cD (aA (pv 0) (aA (o0 (P:=P) (w:=w) (K:=K) (mg:=mg) (base:=base) 3 hr (pv 1) (aA (pv 0) aD)) aD))))) aD)))
   (aC (cS PassesOwn.never rfl (tS rfl m.jE (aA (aX (pv 0) rfl) (aA (aX (pv 0) rfl) aD))) (aO (i:=4) nd rfl (by walk_at"oi")) (aC (aU (i:=5) nd rfl (by walk_at"oi") (bG bZ hr (aA (pv 1) (aA (aI i8 (pv 4) (aX (pv 0) rfl)) aD))))
   (aC (aU (i:=6) nd rfl (by walk_at"oi") (bG kI hr (aA (pv 0) (aA (pv 5) (aA (pv 4) (aA (pv 3) aD))))))
   (aF (cS PassesOwn.never rfl (bK (bV (GF rfl) rfl m.LR FK (aA (pv 6) aD))) (aO (i:=7) nd rfl (by walk_at"oi")) (aC (aU (i:=8) nd rfl (by walk_at"oi") (dD 1 hr (pv 0) (aA (pv 7) aD)))
   (aC (fR hu1 (pv 3) (aX (pv 8) rfl) (aI i8 (bR hu1 (pv 3) (aX (pv 8) rfl) (fun _ _=>rfl)) (bR hu1 (pv 6) (pv 7) (fun _ _=>rfl))) rfl)
   (aC (cC (aZ NM (aX (pv 8) rfl) rJ (bD _)) (aF (fR hu1 (pv 3) (aX (pv 8) rfl) (aI bO (bR hu1 (pv 3) (aX (pv 8) rfl) (fun _ _=>rfl)) (bR hu1 (pv 6) (pv 7) (fun _ _=>rfl))) rfl)) bN)
   (aF (cC (aZ mU (bR hu1 (pv 6) (pv 7) (fun _ _=>rfl)) aG (bD _)) (aF (bP (tQ PySem.F.plainAttrs_list PySem.F.slot_list_append PySem.F.type_list_append iU (pv 2) (aA (cD (aA (pv 4) (aA (pv 7) (aA (bR hu1 (pv 6) (pv 7) (fun _ _=>rfl)) aD)))) aD)))) bN))))))))))
   (aF (aY (pv 2)))))),?_⟩
  refine aT (σ:=[some (.ref h),some (.ref b),none,none,none,none,none,none,none]) rfl ?_;walk_at"cx";walk_at"g1";obtain⟨dnr,dnd,dhin,dlt,hpr,dfit,dsz,dlr,dlp,dld,df0,df1,df2,df3⟩:=id dh;walk_at"g2";walk_at"g1";obtain⟨dx,qs,qp,qd,nk,kvs,e1,_⟩:=id hh.ex;walk_at"g2";have hm:=dh.most;walk_at"go";rename_i p H1 n1 S1 eP;refine c5 (aK hh S1) fun pR H2 n2 S2 eR=> ?_;have s02:Same H H2:=S1.trans S2;walk_at"go";refine fQ (α:=Str) (xs:=rz.map (·.1)) (vs:=(rz.map (·.1)).map V.str) (fun v x=>v= .str x) (fun _=>true) (fun n y H=>∃q,y= .ref q/\H q=some (.tup [.str n,.int (cU ps n)])) (fun _ _ _ _ ⟨q,h1,h2⟩ s=>⟨q,h1,s _ _ h2⟩) (by rw[sizeLine_eq,List.length_map];lia) (rest:=[some (.ref h)]) (by rfl) (SqL.of eR) (oX _) ?_ ?_ ?_
  ·exact fun v x H1 _ _ s1 R hR=>hR _ (Same.refl _)
  ·rintro _ n G2 rfl hm - s2 R hR;have e12:=(s02.trans s2) _ _ e1;walk_at"go";refine zC (aK hh (s02.trans s2)) dnr hm fun G3 T3=> ?_;walk_at"go";rename_i q4 G4 m4 T4 e4;exact hR _ _ ⟨q4,rfl,e4⟩ (T3.trans T4)
  intro ys H3 s3 hys;rw[dR]at hys;walk_at"go";rename_i pD H4 n4 S4 eD;have pr:yW H4 ys (c9 (rz.map (·.1)) (cU ps)):=by
   have key:∀{ks:List Str}{ys:List V},Paired (fun x y=>∃q,y=V.ref q/\H3 q=some (.tup [.str x,.int (cU ps x)])) ks ys->yW H4 ys (c9 ks (cU ps)):=fun h=>by
    induction h with
    | nil=>exact .nil
    | cons a t ih =>
     obtain⟨q,e,hq⟩:=a;exact .cons ⟨q,e,S4 _ _ hq⟩ ih
   exact key hys
  refine KH eD pr fun pi H5 n5 S5 e5=> ?_;rw[PJ dnr]at e5;have s05:Same H H5:=s02.trans (s3.trans (S4.trans S5));have nP:H p=none:=n1;have nI:H pi=none:=tM (s02.trans (s3.trans S4)) n5;have eP5:H5 p=some (.lst []):=(S2.trans (s3.trans (S4.trans S5))) _ _ eP;have hpi:pi≠p:=fun z=>by rw[z,eP5]at e5;cases e5
  have e15:=s05 _ _ e1;clear hys pr eD eR;clear S4 n4 pD ys;walk_at"go";let Pv1:Nat->St->Hp->Prop:=fun i σ' H'=>Same H H'/\(∃us R I,H' p=some (.lst us)/\cB H' us R/\H' pi=some (.dK (c9 (rz.map (·.1)) I))/\Lawn rz ps ds f l i I R)/\∃x y z u v,σ'=[some (.ref h),some (.ref b),some (.ref p),some (.ref pi),x,y,z,u,v];refine nV Pv1 ⟨s05,⟨[],[],_,eP5,.nil,e5,Lawn.start dnr dfit hm⟩,_,_,_,_,_,rfl⟩ ?_ ?_
  ·rintro i _ H' hi hq_;walk_at"g1";obtain⟨sH,⟨us,R,I,ep,hpl,ei,hL⟩,y1,y2,y3,y4,y5,rfl⟩:=hq_;walk_at"g2";have hh':=aK hh sH;have e1':=sH _ _ e1;have hS':=sH.seq hS;have hT:f+(i:Int)<l:=by lia
   have rl:=hL.len;have ul:us.length=R.length:=Paired.length hpl;walk_at"go";refine aEw hh' dh ei hL.bd fun pn H6 hX=> ?_;walk_at"g1";obtain⟨g,nn,S6,en,hg,hok⟩:=hX;walk_at"g2";walk_at"go";refine Q2 en (FW _ _) (by rw[List.length_map];lia) fun pT H7 n7 S7 eT=> ?_;have hLp:=P1 (ds.map (·.1));generalize yT (ds.map (·.1))=L at hLp eT;have ndL:L.Nodup:=hLp.nodup_iff.mpr dnd;have Ll:L.length=ds.length:=by rw[hLp.length_eq,List.length_map]
   have s67:=S6.trans S7;have s07:Same H H7:=sH.trans s67;have en7:=S7 _ _ en;have ep7:=s67 _ _ ep;have ei7:=s67 _ _ ei;have hnp:pn≠p:=fun z=>by rw[z,ep]at nn;cases nn
   have hni:pn≠pi:=fun z=>by rw[z,ei]at nn;cases nn
   have hTp:pT≠p:=fun z=>by rw[z,S6 _ _ ep]at n7;cases n7
   have hTi:pT≠pi:=fun z=>by rw[z,S6 _ _ ei]at n7;cases n7
   have inJ0:inJ ds g I []=I:=funext fun z=>by unfold inJ;simp only[List.map_nil,List.sum_nil];lia
   walk_at"go";let Pv2:Nat->St->Hp->Prop:=fun j σ' G=>Same2 p pi H7 G/\(∃us,G p=some (.lst us)/\cB G us (R++cR (f+(i:Int)) g (L.take j))/\G pi=some (.dK (c9 (rz.map (·.1)) (inJ ds g I (L.take j)))))/\∃x y,σ'=[some (.ref h),some (.ref b),some (.ref p),some (.ref pi),some (.int (f+(i:Int))),some (.int (j7 cs (f+(i:Int) - f))),some (.ref pn),x,y];refine dU (L.map V.str) Pv2 ⟨Same2.refl _ _ _,⟨us,ep7,by rw[show R++cR (f+(i:Int)) g (L.take 0)=R from List.append_nil _];exact dN hpl s67,by rw[List.take_zero,inJ0];exact ei7⟩,_,_,rfl⟩ (fun j σ' G _ q=>SqL.of (q.1 _ _ eT hTp hTi)) ?_ ?_
   ·rintro j x _ G hx hq_;walk_at"g1";obtain⟨s2,⟨vs,epG,hplG,eiG⟩,x1,x2,rfl⟩:=hq_;walk_at"g2";rw[List.getElem?_map]at hx;obtain⟨n,hn,rfl⟩:=Option.map_eq_some_iff.mp hx;have hnm:n∈ds.map (·.1):=hLp.mem_iff.mp (List.mem_of_getElem? hn);walk_at"g1";obtain⟨⟨n',st,e,lt⟩,hd,rfl⟩:=List.mem_map.mp hnm;walk_at"g2";have sG:Same H G:=Same2.out nP nI s07 s2;have hhG:=aK hh sG;have e1G:=sG _ _ e1;have enG:=s2 _ _ en7 hnp hni;obtain⟨hst,hend⟩:=dhin _ hd;have vl:vs.length<=200:=by
     have h1:vs.length=_:=Paired.length hplG;have h2:=FR (f+(i:Int)) g (L.take j);rw[List.length_append]at h1;rw[List.length_take]at h2
     lia
    show (_:TG) (V.str n') _ _ _;walk_at"go";refine mR (d:=(n',st,e,lt)) hhG dnd hd fun v hv=> ?_;walk_at"g1";obtain⟨q2,C2,dx2,fs2,fp2,rfl,hq2,dcC,l1,l2,l3,l4,l5,mcE,hfp,hlt⟩:=DoorAt.ex hv;walk_at"g2";walk_at"go";have hts:=cA hn;generalize L.take j=Lj at hts hplG eiG ⊢;refine bS (.inl eiG) (cE hst) ?_;walk_at"go";refine bS (.inl enG) (cE hnm) ?_;walk_at"go";refine j4 eiG (by rw[rR,List.length_map,sizeLine_eq];lia) fun G1 B1 e1'=> ?_;rw[AI hst]at e1';have hq2':G1 q2=some (.ins C2 dx2 fs2):=B1 _ _ hq2 (fun z=>by rw[z,eiG]at hq2;cases hq2);have en1:=B1 _ _ enG hni;have ep1:=B1 _ _ epG (fun z=>hpi z.symm);have hpl1:=vX hplG eiG (fun _ z=>by cases z) B1;have s21:=s2.snd B1;rcases hend with hend|⟨y,hend,hy⟩
    ·have hee:e= .non:=hend;subst hee;have ei1:=e1';rw[aAj (d:=(n',st,.non,lt)) dnd hd rfl,←hts]at ei1;walk_at"go";refine bS (.inl en1) (cE hnm) ?_;walk_at"go";refine c7 (fun hc=> ?_) (fun hc=> ?_)
     ·walk_at"go";refine bS (.inl en1) (cE hnm) ?_;walk_at"go";rename_i q8 G8 m8 T8 e8;have ep8:=T8 _ _ ep1;refine gY ep8 (by rw[sizeLine_eq];lia) fun G9 B9 e9=> ?_;have hq8:q8≠p:=fun z=>by rw[z,ep8]at e8;cases e8
      have hip:pi≠p:=hpi;walk_at"go";refine⟨(s21.same T8).fst B9,⟨vs++[.ref q8],e9,?_,B9 _ _ (T8 _ _ ei1) hip⟩,_,_,rfl⟩;rw[hts,qN,if_pos (show 0<g n' from hc),←List.append_assoc];exact L2.Paired.snoc (vX (dN hpl1 T8) ep8 (fun _ z=>by cases z) B9) ⟨q8,rfl,B9 _ _ e8 hq8⟩
     ·walk_at"go";refine⟨s21,⟨vs,ep1,?_,ei1⟩,_,_,rfl⟩;rw[hts,qN,if_neg (show ¬0<g n' from hc)];exact hpl1
    ·have hee:e= .str y:=hend;subst hee;walk_at"go";refine bS (.inl e1') (cE hy) ?_;walk_at"go";refine bS (.inl en1) (cE hnm) ?_;walk_at"go";refine j4 e1' (by rw[rR,List.length_map,sizeLine_eq];lia) fun G3 B3 e3'=> ?_;rw[AI hy]at e3';have hq3:G3 q2=some (.ins C2 dx2 fs2):=B3 _ _ hq2' (fun z=>by rw[z,e1']at hq2';cases hq2');have en3:=B3 _ _ en1 hni;have ep3:=B3 _ _ ep1 (fun z=>hpi z.symm);have hpl3:=vX hpl1 e1' (fun _ z=>by cases z) B3;have s23:=s21.snd B3;have ei3:=e3';rw[aDe (d:=(n',st,.str y,lt)) dnd hd rfl,←hts]at ei3;walk_at"go";refine bS (.inl en3) (cE hnm) ?_;walk_at"go";refine c7 (fun hc=> ?_) (fun hc=> ?_)
     ·walk_at"go";refine bS (.inl en3) (cE hnm) ?_;walk_at"go";rename_i q8 G8 m8 T8 e8;have ep8:=T8 _ _ ep3;refine gY ep8 (by rw[sizeLine_eq];lia) fun G9 B9 e9=> ?_;have hq8:q8≠p:=fun z=>by rw[z,ep8]at e8;cases e8
      have hip:pi≠p:=hpi;walk_at"go";refine⟨(s23.same T8).fst B9,⟨vs++[.ref q8],e9,?_,B9 _ _ (T8 _ _ ei3) hip⟩,_,_,rfl⟩;rw[hts,qN,if_pos (show 0<g n' from hc),←List.append_assoc];exact L2.Paired.snoc (vX (dN hpl3 T8) ep8 (fun _ z=>by cases z) B9) ⟨q8,rfl,B9 _ _ e8 hq8⟩
     ·walk_at"go";refine⟨s23,⟨vs,ep3,?_,ei3⟩,_,_,rfl⟩;rw[hts,qN,if_neg (show ¬0<g n' from hc)];exact hpl3
   ·rintro _ G hq_;walk_at"g1";obtain⟨s2,⟨vs,epG,hplG,eiG⟩,x1,x2,rfl⟩:=hq_;walk_at"g2";rw[List.length_map,List.take_length]at hplG eiG;refine⟨Same2.out nP nI s07 s2,⟨vs,_,_,epG,hplG,eiG,hL.step dnd dld hT hg hm hok hLp⟩,_,_,_,_,_,rfl⟩
  ·rintro _ H' hq_;walk_at"g1";obtain⟨sH,⟨us,R,I,ep,hpl,ei,hL⟩,y1,y2,y3,y4,y5,rfl⟩:=hq_;walk_at"g2";walk_at"go";exact k _ _ (.mk us R I nP sH ep hpl hL)
theorem DL (m:M K mg):Fc P w K mg base "_law_lawful" 11 ["_law_house_here","_law_cells"] (tT K m.aH (aQ P w K mg base (some 4))):=⟨_,_,m.HQ,m.lN.kp,m.HK,DH m⟩
theorem uS {α:Type}(f:α->V):∀l:List α,Paired (fun (v:V) (x:α)=>v=f x) (l.map f) l
 | []=> .nil
 | _::l=> .cons rfl (uS f l)
theorem aCb {ds:List aE}{f l:Int}{R:List aN} (h:∀r∈R,0<r.2.2) (k:List Key):0<=goC ds f l R k:=by
 rw[rM];unfold wt;generalize hq:(R.filter fun r=>decide (d8 ds (r.1,r.2.1,0)=some k)&&cnt (ds.map (·.1)) f l (r.1,r.2.1,0))=R';have h':∀r∈R',0<r.2.2:=fun r hr=>by rw[←hq]at hr;exact h r (List.mem_filter.mp hr).1
 clear hq
 induction R' with
 | nil=>exact Int.le_refl _
 | cons a t ih =>
  rw[List.map_cons,List.sum_cons];have:=ih fun r hr=>h' r (List.mem_cons_of_mem _ hr);have:=h' a (.head _)
  lia
theorem Lawn.nn {rz ps:List (Str×Int)}{ds:List aE}{f l:Int}{i:Nat}{I:Str->Int}{R:List aN} (h:Lawn rz ps ds f l i I R) (hp:∀p∈ps,0<=p.2) {z:Str} (hz:z∈rz.map (·.1)):∀j:Nat,j<=i->0<=cY ps (goL ds f l R) (goC ds f l R) z f j
 | 0,_=>N4 hp z
 | j+1,hj=>by
  have h1:=h.lv j (by lia) z hz;have h2:=aCb (ds:=ds) (f:=f) (l:=l) h.ps0 (bB (z,f+(j:Int)));show 0<=cY ps (goL ds f l R) (goC ds f l R) z f j - goL ds f l R (bB (z,f+(j:Int)))+goC ds f l R (bB (z,f+(j:Int)))
  lia
structure PlanOk (rz ps:List (Str×Int))(ds:List aE)(f l:Int)(R:List aN):Prop where
 ex:∃I,Lawn rz ps ds f l (l - f).toNat I R
theorem PlanOk.len {rz ps:List (Str×Int)}{ds:List aE}{f l:Int}{R:List aN} (h:PlanOk rz ps ds f l R) (dh:DrawnH rz ps ds f l):R.length<=64:=by
 obtain⟨I,h⟩:=h.ex;have:=h.len;have:=dh.f2
 lia
theorem PlanOk.nf {rz ps:List (Str×Int)}{ds:List aE}{f l:Int}{R:List aN} (h:PlanOk rz ps ds f l R) (dh:DrawnH rz ps ds f l):IE rz ps ds f l R:=by
 obtain⟨I,h⟩:=h.ex;have:=dh.f1;exact h.nf (by lia)
def v7 (ps:List (Str×Int))(ds:List aE)(f l:Int)(R:List aN)(t:Int)(z:Str):Int:=cY ps (goL ds f l R) (goC ds f l R) z f (t - f).toNat
def psT (rz ps:List (Str×Int))(ds:List aE)(f l:Int)(R:List aN)(t:Int):List (Str×Int):=rz.map fun e=>(e.1,v7 ps ds f l R t e.1)
theorem PlanOk.bd {rz ps:List (Str×Int)}{ds:List aE}{f l t:Int}{R:List aN} (h:PlanOk rz ps ds f l R) (dh:DrawnH rz ps ds f l) (h0:f<=t) (h1:t<=l):∀e∈rz,0<=v7 ps ds f l R t e.1/\v7 ps ds f l R t e.1<=e.2:=fun e he=>by
 obtain⟨I,h⟩:=h.ex;exact⟨h.nn dh.fit.1 (List.mem_map.mpr ⟨e,he,rfl⟩) _ (by lia),h.fu _ (by lia) e he⟩
theorem aAn {rz ps:List (Str×Int)}{ds:List aE}{f l t:Int}{R:List aN} (h:PlanOk rz ps ds f l R) (dh:DrawnH rz ps ds f l) (h0:f<=t) (h1:t<=l):uA rz (psT rz ps ds f l R t):=by
 have:=NS (l:=rz) (fun e:Str×Int=>e.1) (fun e=>e.2) (fun e=>v7 ps ds f l R t e.1) dh.nr (h.bd dh h0 h1)
 rwa [show (rz.map fun e=>(e.1,e.2))=rz from List.map_id' rz]at this
theorem NU {rz ps:List (Str×Int)}{ds:List aE}{f l t:Int}{R:List aN} (nr:(rz.map (·.1)).Nodup) {z:Str} (hz:z∈rz.map (·.1)):cU (psT rz ps ds f l R t) z=v7 ps ds f l R t z:=by
 have key:∀rz:List (Str×Int),(rz.map (·.1)).Nodup->(z∉rz.map (·.1)->cU (psT rz ps ds f l R t) z=0)/\(z∈rz.map (·.1)->cU (psT rz ps ds f l R t) z=v7 ps ds f l R t z):=fun rz=>by
  induction rz with
  | nil=>exact fun _=>⟨fun _=>rfl,fun h=>nomatch h⟩
  | cons a l ih =>
   intro nd;have nd':=List.nodup_cons.mp nd;obtain⟨i1,i2⟩:=ih nd'.2;unfold cU psT at i1 i2 ⊢;refine⟨fun h=> ?_,fun h=> ?_⟩
   ·rw[List.map_cons,List.mem_cons,not_or]at h;rw[List.map_cons,List.filter_cons_of_neg (by simpa using fun y=>h.1 y.symm)];exact i1 h.2
   ·rw[List.map_cons]
    by_cases c:a.1=z
    ·have hn:z∉l.map (·.1):=by rw[←c];exact nd'.1
     rw[List.filter_cons_of_pos (by simpa using c),List.map_cons,List.sum_cons,i1 hn,c];exact Int.add_zero _
    ·rw[List.filter_cons_of_neg (by simpa using c)];exact i2 ((List.mem_cons.mp h).resolve_left fun y=>c y.symm)
 exact(key rz nr).2 hz
inductive vI (K:PySem.W.Frag)(C:Addr)(D:bA)(vs:List V)(H:Hp)(Q:VK)(E:XK):Prop
 | mk (h a:Addr) (f l:Int) (rz ps:List (Str×Int)) (ds:List aE) (us:List V) (R:List aN) (_:vs=[.ref h,.ref a]) (_:aW C D H h f l rz ps ds) (_:DrawnH rz ps ds f l) (_:SqL K H a us) (_:cB H us R) (_:PlanOk rz ps ds f l R) (_:∀H',Same H H'->Q .non H'):vI K C D vs H Q E
theorem Z9 {C:Addr}{D:bA}{H:Hp}{Q:VK}{E:XK}{h a:Addr}{f l:Int}{rz ps:List (Str×Int)}{ds:List aE}{us:List V}{R:List aN} (hh:aW C D H h f l rz ps ds) (dh:DrawnH rz ps ds f l) (hS:SqL K H a us) (hp:cB H us R) (ok:PlanOk rz ps ds f l R) (k:∀H',Same H H'->Q .non H'):vI K C D [.ref h,.ref a] H Q E:=⟨_,_,_,_,_,_,_,_,_,rfl,hh,dh,hS,hp,ok,k⟩
theorem EF (m:M K mg):FnOk P w K mg base CX0 11 m.qM m.qH ["house","plan"] (vI K m.aH (aQ P w K mg base (some 4))):=by
 refine m.lM.ok sc_need_lawful (fun vs H Q E h=> ?_) (fun cdv A outer s H vs Q E hr h=> ?_)
 ·walk_at"g1";obtain⟨h,a,f,l,rz,ps,ds,us,R,rfl,hh,dh,hS,hpl,ok,k⟩:=h;walk_at"g2";rfl
 ·walk_at"g1";obtain⟨h,a,f,l,rz,ps,ds,us,R,rfl,hh,dh,hS,hpl,ok,k⟩:=h;walk_at"g2";have nd:=sc_need_lawful.nd;walk_at"hu";have wI:= @RC P w K mg base m;have w_dc_House:=m.bC;refine⟨_,(aF (cC (aZ mU (bV iT rfl m.oV k7 (aA (bG wI hr (aA (pv 0) (aA (pv 1) aD))) aD)) aG (bD _)) (aF fE) bN)),?_⟩;refine aT (σ:=[some (.ref h),some (.ref a)]) rfl ?_;walk_at"cx";walk_at"g1";obtain⟨dnr,dnd,dhin,dlt,hpr,dfit,dsz,dlr,dlp,dld,df0,df1,df2,df3⟩:=id dh;walk_at"g2";have rl:=ok.len dh;walk_at"go";refine aEy hh dnr dnd dhin df0 df1 (by lia) (by lia) (by lia) (by lia) hS hpl (by lia) (ok.nf dh) fun p H1 n1 S1 e1=> ?_;walk_at"go";exact k _ S1
theorem D7 (m:M K mg):Fc P w K mg base "need_lawful" 11 ["house","plan"] (vI K m.aH (aQ P w K mg base (some 4))):=⟨_,_,m.HL,m.lM.kp,m.HH,EF m⟩
inductive YT (C:Addr)(D:bA)(rz ps:List (Str×Int))(ds:List aE)(f l t:Int)(R:List aN)(H H':Hp)(q:Addr):Prop
 | mk (_:Same H H') (_:aW C D H' q t l rz (psT rz ps ds f l R t) ds)
inductive rG (K:PySem.W.Frag)(C:Addr)(D:bA)(vs:List V)(H:Hp)(Q:VK)(E:XK):Prop
 | mk (h a:Addr) (f l t:Int) (rz ps:List (Str×Int)) (ds:List aE) (us:List V) (R:List aN) (hv:V) (_:vs=[.ref h,.ref a,.int t,hv]) (_:aW C D H h f l rz ps ds) (_:DrawnH rz ps ds f l) (_:SqL K H a us) (_:cB H us R) (_:PlanOk rz ps ds f l R) (_:f<=t) (_:t<=l) (_:(hv= .non∨∃q,hv= .ref q/\H q=some (.lst []))) (_:∀q H',YT C D rz ps ds f l t R H H' q->Q (.ref q) H'):rG K C D vs H Q E
theorem K0 {C:Addr}{D:bA}{H:Hp}{Q:VK}{E:XK}{h a:Addr}{f l t:Int}{rz ps:List (Str×Int)}{ds:List aE}{us:List V}{R:List aN}{hv:V} (hh:aW C D H h f l rz ps ds) (dh:DrawnH rz ps ds f l) (hS:SqL K H a us) (hp:cB H us R) (ok:PlanOk rz ps ds f l R) (h0:f<=t) (h1:t<=l) (hx:hv= .non∨∃q,hv= .ref q/\H q=some (.lst [])) (k:∀q H',YT C D rz ps ds f l t R H H' q->Q (.ref q) H'):rG K C D [.ref h,.ref a,.int t,hv] H Q E:=⟨_,_,_,_,_,_,_,_,_,_,_,rfl,hh,dh,hS,hp,ok,h0,h1,hx,k⟩
theorem M7 (m:M K mg):FnOk P w K mg base CX0 12 m.LJ m.C6 ["house","plan","turn","happenings"] (rG K m.aH (aQ P w K mg base (some 4))):=by
 refine m.vD.ok sc_anew (fun vs H Q E h=> ?_) (fun cdv A outer s H vs Q E hr h=> ?_)
 ·walk_at"g1";obtain⟨h,a,f,l,t,rz,ps,ds,us,R',hv,rfl,hh,dh,hS,hpl,ok,h0,h1,hx,k⟩:=h;walk_at"g2";rfl
 ·walk_at"g1";obtain⟨h,a,f,l,t,rz,ps,ds,us,R',hv,rfl,hh,dh,hS,hpl,ok,h0,h1,hx,k⟩:=h;walk_at"g2";have nd:=sc_anew.nd;walk_at"hu";have lM:= @D7 P w K mg base m;have mH:= @AM P w K mg base m;have K_House_0:= @CO P w K mg base m;have w_dc_House:=m.bC;have w_mc_House_rooms:= @iL P w K mg base m;have w_mc_House_doors:= @fT P w K mg base m;have w_mc_House_door:= @dX P w K mg base m;have w_mc_House_holds:= @iP P w K mg base m;refine⟨_,(aC (bP (bG lM hr (aA (pv 0) (aA (pv 1) aD))))
   (aC (cC (PW.pt (qV (aZ mI (pv 2) (aX (pv 0) rfl) (bD _)) (rU (aZ mU (pv 2) (aX (pv 0) rfl) (bD _))))) (aF fE) bN)
   (aC (aU (i:=4) nd rfl (by walk_at"oi") (vG (aZ SI (pv 3) rJ (bD _)) (fN aD) (pv 3)))
   (aC (iV (i:=5) nd rfl (by walk_at"oi") (N:=["name","house"]) (nl:=1) (ci:=[0]) rfl (blk (s.heap.objs.size+1) rfl rfl rfl (by kernel_rfl)) (bK (cF 1 hr (pv 0))) (fun _ _ _ _=>(aO (i:=0) (show (["name","house"]:List Str).Nodup by decide +kernel) rfl (by walk_at"oi"))) (fun _ _ _ _=>eU) (fun _ _ _ _=>(o0 (P:=P) (w:=w) (K:=K) (mg:=mg) (base:=base) 1 hr (pv 1) (aA (pv 0) aD))))
   (aC (cS PassesOwn.never rfl (bK (pv 4)) (aO (i:=6) nd rfl (by walk_at"oi")) (aF fE))
   (aC (aU (i:=7) nd rfl (by walk_at"oi") (bG mH hr (aA (pv 0) (aA (pv 1) aD))))
   (aC (iV (i:=8) nd rfl (by walk_at"oi") (N:=["room","inside","turn"]) (nl:=1) (ci:=[7,2]) rfl (blk (s.heap.objs.size+1) rfl rfl rfl (by kernel_rfl)) (bK (cF 1 hr (pv 0))) (fun _ _ _ _=>(aO (i:=0) (show (["room","inside","turn"]:List Str).Nodup by decide +kernel) rfl (by walk_at"oi"))) (fun _ _ _ _=>eU) (fun _ _ _ _=>(cD (aA (pv 0) (aA (bR hu1 (pv 1) (cD (aA (pv 0) (aA (pv 2) aD))) (fun _ _=>rfl)) aD)))))
   (aC (aU (i:=8) nd rfl (by walk_at"oi") (aI w9 (pv 8) (cM (N:=["happening"]) (nl:=1) (ci:=[]) rfl (blk (s.heap.objs.size+1) rfl rfl rfl (by kernel_rfl)) (bK (pv 4)) (fun _ _ _ _=>(aO (i:=0) (show (["happening"]:List Str).Nodup by decide +kernel) rfl (by walk_at"oi"))) (fun _ _ _ _=>(jT (aZ jK (eY (rF (K:=K)) (pv 0) aG (fun _ _=>rfl)) gH (bD _)))) (fun _ _ _ _=>(cD (aA (eY (rF (K:=K)) (pv 0) aG (fun _ _=>rfl)) (aA (eY (rF (K:=K)) (pv 0) aG (fun _ _=>rfl)) aD)))))))
   (aF (aY (vR K_House_0 hr (aA (cM (N:=["room","house"]) (nl:=1) (ci:=[0]) rfl (blk (s.heap.objs.size+1) rfl rfl rfl (by kernel_rfl)) (bK (cF 1 hr (pv 0))) (fun _ _ _ _=>(aO (i:=0) (show (["room","house"]:List Str).Nodup by decide +kernel) rfl (by walk_at"oi"))) (fun _ _ _ _=>eU) (fun _ _ _ _=>(cD (aA (pv 0) (aA (o0 (P:=P) (w:=w) (K:=K) (mg:=mg) (base:=base) 3 hr (pv 1) (aA (pv 0) aD)) aD))))) (aA (pv 5) (aA (pv 8) (aA (aX (pv 0) rfl) (aA (pv 2) aD)))))))))))))))),?_⟩
  refine aT (σ:=[some (.ref h),some (.ref a),some (.int t),some (hv),none,none,none,none,none]) rfl ?_;walk_at"cx";walk_at"g1";obtain⟨dnr,dnd,dhin,dlt,hpr,dfit,dsz,dlr,dlp,dld,df0,df1,df2,df3⟩:=id dh;walk_at"g2";walk_at"g1";obtain⟨dx,qs,qp,qd,nk,kvs,e1,_⟩:=id hh.ex;walk_at"g2";have rl:=ok.len dh;walk_at"go";refine Z9 hh dh hS hpl ok fun H1 S1=> ?_;have hh1:=aK hh S1;have e11:=S1 _ _ e1;walk_at"gs";refine DI (fun σ' G=>H1=G/\σ'=[some (.ref h),some (.ref a),some (.int t),some hv,none,none,none,none,none]) ?_ ?_
  rotate_left
  ·intro nx' hnx;walk_at"go";exact hnx _ _ ⟨rfl,rfl⟩
  rintro _ G ⟨hG,rfl⟩;subst hG;refine DI (fun σ' G=>∃qh,Same H1 G/\G qh=some (.lst [])/\σ'=[some (.ref h),some (.ref a),some (.int t),some hv,some (.ref qh),none,none,none,none]) ?_ ?_
  rotate_left
  ·intro nx' hnx;rcases hx with hx|⟨qh,hx,eh⟩
   ·subst hx;walk_at"go";rename_i qh G n2 S2 e2;exact hnx _ _ ⟨qh,S2,e2,rfl⟩
   ·subst hx;walk_at"go";exact hnx _ _ ⟨qh,Same.refl _,S1 _ _ eh,rfl⟩
  rintro _ H2 hq_;walk_at"g1";obtain⟨qh,S2,eh,rfl⟩:=hq_;walk_at"g2";have hh2:=aK hh1 S2;have e12:=S2 _ _ e11;walk_at"go";refine c5 hh2 fun pD H3 n3 S3 eD=> ?_;walk_at"go";refine fQ (α:=aE) (xs:=ds) (vs:=(ds.map (·.1)).map V.str) (fun v d=>v= .str d.1) (fun _=>true) (fun d y H=>(aQ P w K mg base (some 4)).at' H y d) (fun _ _ _ _ h s=>(aQ P w K mg base (some 4)).same h s) (by rw[sizeLine_eq];lia) (rest:=[some (.ref h)]) (by rfl) (SqL.of eD) (by rw[List.map_map];exact uS _ ds) ?_ ?_ ?_
  ·exact fun v x H1 _ _ s1 R hR=>hR _ (Same.refl _)
  ·rintro _ d G rfl hm - s R hR;have e1G:=(S3.trans s) _ _ e12;walk_at"go";refine mR (aK hh2 (S3.trans s)) dnd hm fun v hv=> ?_;exact hR _ _ hv (Same.refl _)
  intro ys H4 s4 hys;rw[dR]at hys;have hdd:Paired ((aQ P w K mg base (some 4)).at' H4) ys ds:=jD hys;walk_at"go";rename_i pE H5 n5 S5 eE;have s25:Same H2 H5:=S3.trans (s4.trans S5);have s05:Same H H5:=S1.trans (S2.trans s25);let Pv1:Nat->St->Hp->Prop:=fun i σ' G=>H5=G/\σ'=[some (.ref h),some (.ref a),some (.int t),some hv,some (.ref qh),some (.ref pE),none,none,none];refine dU [] Pv1 ⟨rfl,rfl⟩ (fun i σ' G _ q=>by rw[←q.1];exact SqL.of (s25 _ _ eh)) (fun i x σ' G hx=>nomatch hx) ?_;rintro _ G ⟨hG,rfl⟩;subst hG;walk_at"go";refine⟨_,_,_,_,_,_,_,_,_,rfl,aK hh s05,dnr,dnd,dhin,df0,df1,(by lia),(by lia),(by lia),s05.seq hS,dN hpl s05,(by lia),fun pI H6 n6 S6 eI=> ?_⟩;have s26:=s25.trans S6;have e16:=s26 _ _ e12;walk_at"go";refine c5 (aK hh2 s26) fun pR H7 n7 S7 eR=> ?_;have eI7:=S7 _ _ eI;walk_at"go";refine fQ (α:=Str×Int) (xs:=rz) (vs:=(rz.map (·.1)).map V.str) (fun v e=>v= .str e.1) (fun _=>true) (fun e y H=>cI H y (e.1,v7 ps ds f l R' t e.1)) (fun _ _ _ _ ⟨q,h1,h2⟩ s=>⟨q,h1,s _ _ h2⟩) (by rw[sizeLine_eq];lia) (rest:=[some (.ref pI),some (.int t)]) (by rfl) (SqL.of eR) (by rw[List.map_map];exact uS _ rz) ?_ ?_ ?_
  ·exact fun v x H1 _ _ s1 R hR=>hR _ (Same.refl _)
  ·rintro _ ⟨z,sz⟩ G rfl hm - s R hR;have hz:z∈rz.map (·.1):=List.mem_map.mpr ⟨_,hm,rfl⟩;have eIG:=s _ _ eI7;have hv:=rW (ps:=ps) (L:=goL ds f l R') (C:=goC ds f l R') (f:=f) (iO dnr f (l+1 - f).toNat) (p:=(z,t)) (pairsN_mem.mpr ⟨hz,(t - f).toNat,by lia,by lia⟩);show (_:TE) [some (.str z),some (.ref pI),some (.int t)] G R;walk_at"go";rename_i qk G1 m1 T1 e1k;refine nR (bB (z,t)) (.inl (T1 _ _ eIG)) e1k hv ?_;walk_at"go";rename_i qr G2 m2 T2 e2r;exact hR _ _ ⟨qr,rfl,e2r⟩ (T1.trans T2)
  intro ws H8 s8 hws;rw[dR]at hws;have hcp:Paired (cI H8) ws (psT rz ps ds f l R' t):=AD (fun e:Str×Int=>(e.1,v7 ps ds f l R' t e.1)) hws;have wl:ws.length=rz.length:=(Paired.length hws).symm;walk_at"go";rename_i pP H9 n9 S9 eP;refine fQ (α:=Str) (xs:=[]) (vs:=[]) (fun v x=>v= .str x) (fun _=>true) (fun _ _ _=>False) (fun _ _ _ _ h _=>h) (Nat.zero_le _) (rest:=[]) (by rfl) (SqL.of ((s26.trans (S7.trans (s8.trans S9))) _ _ eh)) .nil (fun _ _ _ _ h=>nomatch h) (fun _ _ _ _ h=>nomatch h) ?_;intro ys2 HA sA hys2;obtain rfl:ys2=[]:=by cases hys2;rfl
  walk_at"go";rename_i pQ HB nB SB eB pC HC nC SC eC;have s9B:=sA.trans SB;rw[List.append_nil]at eC;have s2C:Same H2 HC:=s26.trans (S7.trans (s8.trans (S9.trans (s9B.trans SC))));have e1C:=s2C _ _ e12;walk_at"go";refine c5 (aK hh2 s2C) fun pR2 HD nD SD eR2=> ?_;walk_at"go";refine fQ (α:=Str×Int) (xs:=rz) (vs:=(rz.map (·.1)).map V.str) (fun v e=>v= .str e.1) (fun _=>true) (fun e y H=>cI H y e) (fun _ _ _ _ ⟨q,h1,h2⟩ s=>⟨q,h1,s _ _ h2⟩) (by rw[sizeLine_eq];lia) (rest:=[some (.ref h)]) (by rfl) (SqL.of eR2) (by rw[List.map_map];exact uS _ rz) ?_ ?_ ?_
  ·exact fun v x H1 _ _ s1 R hR=>hR _ (Same.refl _)
  ·rintro _ ⟨z,sz⟩ G rfl hm - s R hR;have e1G:=(SD.trans s) _ _ e1C;show (_:TE) [some (.str z),some (.ref h)] G R;walk_at"go";refine q0 (i:=sz) (aK hh2 (s2C.trans (SD.trans s))) dnr hm fun G1 T1=> ?_;walk_at"go";rename_i qr G2 m2 T2 e2r;exact hR _ _ ⟨qr,rfl,e2r⟩ (T1.trans T2)
  intro vs2 HE sE hvs2;rw[dR]at hvs2;have hra:RoomsAt HE vs2 rz:=jD hvs2;walk_at"go";rename_i pW HF nF SF eW;have sCF:Same HC HF:=SD.trans (sE.trans SF);have e1F:=sCF _ _ e1C;have s8F:Same H8 HF:=S9.trans (s9B.trans (SC.trans sCF));have s4F:Same H4 HF:=S5.trans (S6.trans (S7.trans (s8.trans s8F)));walk_at"go";refine F2 (rz:=rz) (ds:=ds) (ps:=psT rz ps ds f l R' t) rfl (by assumption) eW (hra.sm SF) (SqL.of ((S6.trans (S7.trans (s8.trans s8F))) _ _ eE)) (lT hdd s4F) (SqL.of (sCF _ _ eC)) (mV hcp s8F) dnr dnd dhin (fun p hp=>by
   obtain⟨e,he,rfl⟩:=List.mem_map.mp hp;exact List.mem_map.mpr ⟨e,he,rfl⟩) (aAn ok dh h0 h1) (by lia) (by lia) (by unfold psT;rw[List.length_map];lia) (by lia) (by lia) fun q HG nG SG hq=> ?_
  exact k _ _ ⟨S1.trans (S2.trans (s2C.trans (sCF.trans SG))),hq⟩
theorem ZN (m:M K mg):Fc P w K mg base "anew" 12 ["house","plan","turn","happenings"] (rG K m.aH (aQ P w K mg base (some 4))):=⟨_,_,m.U5,m.vD.kp,m.aDQ,M7 m⟩
theorem QE (m:M K mg):FcV P w K mg base "anew" 12 [.non] ["house","plan","turn","happenings"] (rG K m.aH (aQ P w K mg base (some 4))):=by
 obtain⟨ds,h1,h2⟩:=m.U2;exact⟨_,_,_,m.U5,m.vD.kp,h1,h2,M7 m⟩
def HfAt (ps:List (Str×Int))(H:Hp)(v:V)(e:Str×Int):Prop:=∃q,v= .ref q/\H q=some (.tup [.int e.2,.int (cU ps e.1)])
def lsF (f l:Int)(d:aE):List V:=(List.range (l+2 - f).toNat).map fun i:Nat=>V.int (fL f l d (f+(i:Int)))
def DtAt (f l:Int)(H:Hp)(v:V)(d:aE):Prop:=∃q pl,v= .ref q/\H q=some (.tup [.str d.1,.str d.2.1,d.2.2.1,.ref pl])/\H pl=some (.lst (lsF f l d))
theorem HfAt.same {ps:List (Str×Int)}{H H':Hp}{v:V}{e:Str×Int} (h:HfAt ps H v e) (s:Same H H'):HfAt ps H' v e:=by
 obtain⟨q,h1,h2⟩:=h;exact⟨q,h1,s _ _ h2⟩
theorem DtAt.same {f l:Int}{H H':Hp}{v:V}{d:aE} (h:DtAt f l H v d) (s:Same H H'):DtAt f l H' v d:=by
 walk_at"g1";obtain⟨q,pl,h1,h2,h3⟩:=h;walk_at"g2";exact⟨q,pl,h1,s _ _ h2,s _ _ h3⟩
inductive ToldL (rz ps:List (Str×Int))(ds:List aE)(f l:Int)(H:Hp)(p:Addr):Prop
 | mk (pr pd pq:Addr) (us vs:List V) (_:H p=some (.lst ([.int f,.int l,.ref pr,.ref pd,.int (jQ rz ps),.ref pq]++vs))) (_:H pr=some (.lst ((rz.map (·.1)).map V.str))) (_:H pd=some (.lst ((ds.map (·.1)).map V.str))) (_:H pq=some (.lst us)) (_:Paired (HfAt ps H) us rz) (_:Paired (DtAt f l H) vs ds)
theorem ToldL.same {rz ps:List (Str×Int)}{ds:List aE}{f l:Int}{H H':Hp}{p:Addr} (h:ToldL rz ps ds f l H p) (s:Same H H'):ToldL rz ps ds f l H' p:=by
 walk_at"g1";obtain⟨pr,pd,pq,us,vs,h1,h2,h3,h4,h5,h6⟩:=h;walk_at"g2";exact⟨pr,pd,pq,us,vs,s _ _ h1,s _ _ h2,s _ _ h3,s _ _ h4,Paired.imp' (fun _ _ h=>h.same s) h5,Paired.imp' (fun _ _ h=>h.same s) h6⟩
theorem xE {α:Type}{F G:V->α->Prop}{R:V->V->Prop}:∀{us ws:List V}{xs:List α},Paired F us xs->Paired G ws xs->(∀u w,∀x∈xs,F u x->G w x->R u w)->Paired R us ws
 | _,_,_,.nil,.nil,_=> .nil
 | _,_,_,.cons a t,.cons b t2,h=> .cons (h _ _ _ (.head _) a b) (xE t t2 fun u w x hx=>h u w x (List.mem_cons_of_mem _ hx))
theorem tU (ss:List Str):(ss.map V.str).all qO=true:=by
 rw[List.all_map,List.all_eq_true];exact fun _ _=>rfl
theorem ToldL.deep {rz ps:List (Str×Int)}{ds:List aE}{f l:Int}{H:Hp}{p p':Addr} (hin:∀d∈ds,dG (rz.map (·.1)) d) (h:ToldL rz ps ds f l H p) (h':ToldL rz ps ds f l H p'):∃xs ys,H p=some (.lst xs)/\H p'=some (.lst ys)/\Paired (DeepEq K H 4) xs ys:=by
 walk_at"g1";obtain⟨pr,pd,pq,us,vs,h1,h2,h3,h4,h5,h6⟩:=h;walk_at"g2";walk_at"g1";obtain⟨pr',pd',pq',us',vs',g1,g2,g3,g4,g5,g6⟩:=h';walk_at"g2";refine⟨_,_,h1,g1,.cons (DeepEq.self rfl) (.cons (DeepEq.self rfl) (.cons (DeepEq.lst (SqL.of h2) (SqL.of g2) (gU (tU _))) (.cons (DeepEq.lst (SqL.of h3) (SqL.of g3) (gU (tU _))) (.cons (DeepEq.self rfl) (.cons (DeepEq.lst (SqL.of h4) (SqL.of g4) ?_) ?_)))))⟩
 ·refine xE h5 g5 fun u w x _ hu hw=> ?_;obtain⟨q,rfl,hq⟩:=hu;obtain⟨q',rfl,hq'⟩:=hw;exact DeepEq.tup hq hq' (gU rfl)
 ·refine xE h6 g6 fun u w x hx hu hw=> ?_;walk_at"g1";obtain⟨q,pl,rfl,hq,hl⟩:=hu;walk_at"g2";walk_at"g1";obtain⟨q',pl',rfl,hq',hl'⟩:=hw;walk_at"g2";have he:qO x.2.2.1=true:=by
   rcases (hin x hx).2 with h|⟨z,h,_⟩
   ·rw[h];rfl
   ·rw[h];rfl
  refine DeepEq.tup hq hq' (.cons (DeepEq.self rfl) (.cons (DeepEq.self rfl) (.cons (DeepEq.self he) (.cons (DeepEq.lst (SqL.of hl) (SqL.of hl') (gU ?_)) .nil))));unfold lsF;rw[List.all_map,List.all_eq_true];exact fun _ _=>rfl
inductive vQ (C:Addr)(D:bA)(vs:List V)(H:Hp)(Q:VK)(E:XK):Prop
 | mk (h:Addr) (f l:Int) (rz ps:List (Str×Int)) (ds:List aE) (_:vs=[.ref h]) (_:aW C D H h f l rz ps ds) (_:DrawnH rz ps ds f l) (_:∀p H',Same H H'->ToldL rz ps ds f l H' p->Q (.ref p) H'):vQ C D vs H Q E
theorem NT {C:Addr}{D:bA}{H:Hp}{Q:VK}{E:XK}{h:Addr}{f l:Int}{rz ps:List (Str×Int)}{ds:List aE} (hh:aW C D H h f l rz ps ds) (dh:DrawnH rz ps ds f l) (k:∀p H',Same H H'->ToldL rz ps ds f l H' p->Q (.ref p) H'):vQ C D [.ref h] H Q E:=⟨_,_,_,_,_,_,rfl,hh,dh,k⟩
theorem J9 (m:M K mg):FnOk P w K mg base CX0 8 m.uD m.uN ["_law_house_here"] (vQ m.aH (aQ P w K mg base (some 4))):=by
 refine m.lB.ok sc__law_told (fun vs H Q E h=> ?_) (fun cdv A outer s H vs Q E hr h=> ?_)
 ·walk_at"g1";obtain⟨h,f,l,rz,ps,ds,rfl,hh,dh,k⟩:=h;walk_at"g2";rfl
 ·walk_at"g1";obtain⟨h,f,l,rz,ps,ds,rfl,hh,dh,k⟩:=h;walk_at"g2";have nd:=sc__law_told.nd;walk_at"hu";have w_dc_House:=m.bC;have w_mc_House_rooms:= @iL P w K mg base m;have w_mc_House_doors:= @fT P w K mg base m;have w_mc_House_total:= @u4 P w K mg base m;have w_mc_House_holds:= @iP P w K mg base m;have w_mc_House_found:= @kA P w K mg base m;have w_mc_House_door:= @dX P w K mg base m;have w_mc_House_lets:= @lE P w K mg base m;refine⟨_,(aC (aU (i:=1) nd rfl (by walk_at"oi") (fN (aA (aX (pv 0) rfl) (aA (aX (pv 0) rfl) (aA (cF 1 hr (pv 0)) (aA (cF 1 hr (pv 0)) (aA (cF 1 hr (pv 0)) aD)))))))
   (aC (bP (tQ PySem.F.plainAttrs_list PySem.F.slot_list_append PySem.F.type_list_append iU (pv 1) (aA (cM (N:=["_law_room","_law_house_here"]) (nl:=1) (ci:=[0]) rfl (blk (s.heap.objs.size+1) rfl rfl rfl (by kernel_rfl)) (bK (cF 1 hr (pv 0))) (fun _ _ _ _=>(aO (i:=0) (show (["_law_room","_law_house_here"]:List Str).Nodup by decide +kernel) rfl (by walk_at"oi"))) (fun _ _ _ _=>eU) (fun _ _ _ _=>(cD (aA (o0 (P:=P) (w:=w) (K:=K) (mg:=mg) (base:=base) 3 hr (pv 1) (aA (pv 0) aD)) (aA (o0 (P:=P) (w:=w) (K:=K) (mg:=mg) (base:=base) 3 hr (pv 1) (aA (pv 0) aD)) aD))))) aD)))
   (aC (cS PassesOwn.never rfl (bK (cF 1 hr (pv 0))) (aO (i:=2) nd rfl (by walk_at"oi")) (aC (aU (i:=3) nd rfl (by walk_at"oi") (dD 1 hr (pv 0) (aA (pv 2) aD)))
   (aC (iV (i:=4) nd rfl (by walk_at"oi") (N:=["_law_turn","_law_name_here","_law_house_here"]) (nl:=1) (ci:=[2,0]) rfl (blk (s.heap.objs.size+1) rfl rfl rfl (by kernel_rfl)) (tS rfl m.jE (aA (aX (pv 0) rfl) (aA (aI bO (aX (pv 0) rfl) aG) aD))) (fun _ _ _ _=>(aO (i:=0) (show (["_law_turn","_law_name_here","_law_house_here"]:List Str).Nodup by decide +kernel) rfl (by walk_at"oi"))) (fun _ _ _ _=>eU) (fun _ _ _ _=>(o0 (P:=P) (w:=w) (K:=K) (mg:=mg) (base:=base) 6 hr (pv 2) (aA (pv 1) (aA (pv 0) aD)))))
   (aF (bP (tQ PySem.F.plainAttrs_list PySem.F.slot_list_append PySem.F.type_list_append iU (pv 1) (aA (cD (aA (aX (pv 3) rfl) (aA (aX (pv 3) rfl) (aA (aX (pv 3) rfl) (aA (pv 4) aD))))) aD)))))))
   (aF (aY (pv 1)))))),?_⟩
  refine aT (σ:=[some (.ref h),none,none,none,none]) rfl ?_;walk_at"cx";walk_at"g1";obtain⟨dnr,dnd,dhin,dlt,hpr,dfit,dsz,dlr,dlp,dld,df0,df1,df2,df3⟩:=id dh;walk_at"g2";walk_at"g1";obtain⟨dx,qs,qp,qd,nk,kvs,e1,_⟩:=id hh.ex;walk_at"g2";walk_at"go";refine c5 hh fun pr H1 n1 S1 eR=> ?_;have e11:=S1 _ _ e1;walk_at"go";refine c5 (aK hh S1) fun pd H2 n2 S2 eD=> ?_;have s02:=S1.trans S2;have e12:=s02 _ _ e1;walk_at"go";refine DG (aK hh s02) dnr fun H3 S3=> ?_;have s03:=s02.trans S3;have e13:=s03 _ _ e1;walk_at"go";rename_i p H4 n4 S4 eP;have s04:=s03.trans S4;have e14:=s04 _ _ e1;have nP:H p=none:=tM s03 n4;refine c5 (aK hh s04) fun pR2 H5 n5 S5 eR2=> ?_;have s05:=s04.trans S5;walk_at"go";refine fQ (α:=Str×Int) (xs:=rz) (vs:=(rz.map (·.1)).map V.str) (fun v e=>v= .str e.1) (fun _=>true) (fun e y H=>HfAt ps H y e) (fun _ _ _ _ h s=>h.same s) (by rw[sizeLine_eq];lia) (rest:=[some (.ref h)]) (by rfl) (SqL.of eR2) (by rw[List.map_map];exact uS _ rz) ?_ ?_ ?_
  ·exact fun v x H1 _ _ s1 R hR=>hR _ (Same.refl _)
  ·rintro _ ⟨z,sz⟩ G rfl hm - s R hR;have e1G:=(s05.trans s) _ _ e1;show (_:TE) [some (.str z),some (.ref h)] G R;walk_at"go";refine q0 (i:=sz) (aK hh (s05.trans s)) dnr hm fun G1 T1=> ?_;have e1G1:=T1 _ _ e1G;walk_at"go";refine zC (aK hh (s05.trans (s.trans T1))) dnr (List.mem_map.mpr ⟨_,hm,rfl⟩) fun G2 T2=> ?_;walk_at"go";rename_i qr G3 m3 T3 e3r;exact hR _ _ ⟨qr,rfl,e3r⟩ (T1.trans (T2.trans T3))
  intro us H6 s6 hus;rw[dR]at hus;have hus:Paired (HfAt ps H6) us rz:=jD hus;walk_at"go";rename_i pq H7 n7 S7 eQ;have s47:Same H4 H7:=S5.trans (s6.trans S7);have eP7:=s47 _ _ eP;refine gY eP7 (by rw[sizeLine_eq];show 5<_;decide) fun H8 B8 e8=> ?_;have s07:Same H H7:=s04.trans s47;have s08:Same H H8:=SameBut.same nP s07 B8;have e18:=s08 _ _ e1;have hPr:pr≠p:=fun z=>by rw[z,tM (S2.trans S3) n4]at eR;cases eR
  have hPd:pd≠p:=fun z=>by rw[z,tM S3 n4]at eD;cases eD
  have hPq:pq≠p:=fun z=>by rw[z,(S5.trans s6) _ _ eP]at n7;cases n7
  have eR8:=B8 _ _ ((S2.trans (S3.trans (S4.trans s47))) _ _ eR) hPr;have eD8:=B8 _ _ ((S3.trans (S4.trans s47)) _ _ eD) hPd;have eQ8:=B8 _ _ eQ hPq;have hus8:Paired (HfAt ps H8) us rz:=Paired.imp' (fun _ _ ⟨q,h1,h2⟩=>⟨q,h1,B8 _ _ (S7 _ _ h2) (fun z=>by rw[z,(S5.trans s6) _ _ eP]at h2;cases h2)⟩) hus;walk_at"go";refine c5 (aK hh s08) fun pD2 H9 n9 S9 eD2=> ?_;walk_at"go";have e89:H9 p=some (.lst ([.int f,.int l,.ref pr,.ref pd,.int (jQ rz ps),.ref pq]++[])):=by rw[S9 _ _ e8];rfl
  have hD2p:pD2≠p:=fun z=>by rw[z,e8]at n9;cases n9
  have s09:=s08.trans S9;let Pv1:Nat->St->Hp->Prop:=fun i σ' G=>SameBut p H9 G/\(∃vs,G p=some (.lst ([.int f,.int l,.ref pr,.ref pd,.int (jQ rz ps),.ref pq]++vs))/\Paired (DtAt f l G) vs (ds.take i))/\∃x y z,σ'=[some (.ref h),some (.ref p),x,y,z];refine dU ((ds.map (·.1)).map V.str) Pv1 ⟨SameBut.refl,⟨[],e89,.nil⟩,_,_,_,rfl⟩ (fun i σ' G _ q=>SqL.of (q.1 _ _ eD2 hD2p)) ?_ ?_
  ·rintro i x _ G hx hq_;walk_at"g1";obtain⟨sb,⟨vs,ev,hvs⟩,y1,y2,y3,rfl⟩:=hq_;walk_at"g2";rw[List.getElem?_map]at hx;obtain⟨n,hn,rfl⟩:=Option.map_eq_some_iff.mp hx;rw[List.getElem?_map]at hn;walk_at"g1";obtain⟨⟨n',st,e,lt⟩,hd,rfl⟩:=Option.map_eq_some_iff.mp hn;walk_at"g2";have hdm:=List.mem_of_getElem? hd;have sG:Same H G:=SameBut.same nP s09 sb;have e1G:=sG _ _ e1;have hhG:=aK hh sG;have vl:vs.length=i:=by rw[Paired.length hvs,List.length_take];have:=(List.getElem?_eq_some_iff.mp hd).1;lia
   have il:=(List.getElem?_eq_some_iff.mp hd).1;show (_:TG) (V.str n') _ _ _;walk_at"go";refine mR (d:=(n',st,e,lt)) hhG dnd hdm fun v hv=> ?_;walk_at"g1";obtain⟨q2,C2,dx2,fs2,fp2,rfl,hq2,dcC,l1,l2,l3,l4,l5,mcE,hfp,hlt⟩:=DoorAt.ex hv;walk_at"g2";walk_at"go";refine JG (fun j=>V.int (fL f l (n',st,e,lt) (f+(j:Int)))) (by rw[sizeLine_eq];lia) (rest:=[some (.str n'),some (.ref h)]) (by rfl) ?_ ?_
   ·intro j G1 hj s1 R hR;have e1G1:=s1 _ _ e1G;walk_at"go";refine uV (d:=(n',st,e,lt)) (aK hhG s1) dnd hdm df0 fun G2 T2=> ?_;exact hR _ T2
   intro G1 s1;have hq21:=s1 _ _ hq2;walk_at"go";rename_i pl G2 m2 T2 el q3 G3 m3 T3 e3;have ev3:=(s1.trans (T2.trans T3)) _ _ ev;refine gY ev3 (by rw[sizeLine_eq,List.length_append];show 6+_<_;lia) fun G4 B4 e4=> ?_;have hpl:pl≠p:=fun z=>by rw[z,s1 _ _ ev]at m2;cases m2
   have hq3:q3≠p:=fun z=>by rw[z,T2 _ _ (s1 _ _ ev)]at m3;cases m3
   walk_at"go";refine⟨(sb.trans (s1.trans (T2.trans T3)).but).trans B4,⟨vs++[.ref q3],by rw[e4,List.append_assoc],?_⟩,_,_,_,rfl⟩;rw[cA hd];refine L2.Paired.snoc (Paired.imp' (fun _ _ ⟨q,pl',h1,h2,h3⟩=>⟨q,pl',h1,B4 _ _ ((s1.trans (T2.trans T3)) _ _ h2) (fun z=>by rw[z,ev]at h2;cases h2),B4 _ _ ((s1.trans (T2.trans T3)) _ _ h3) (fun z=> ?_)⟩) hvs) ⟨q3,pl,rfl,B4 _ _ e3 hq3,B4 _ _ (T3 _ _ el) hpl⟩;rw[z,ev]at h3;injection h3 with h3;injection h3 with h3;have hm:V.ref pr∈lsF f l _:=h3▸List.mem_append_left _ (.tail _ (.tail _ (.head _)));obtain⟨j,_,ej⟩:=List.mem_map.mp hm;cases ej
  ·rintro _ G hq_;walk_at"g1";obtain⟨sb,⟨vs,ev,hvs⟩,y1,y2,y3,rfl⟩:=hq_;walk_at"g2";rw[List.length_map,List.length_map,List.take_length]at hvs;walk_at"go";refine k _ _ (SameBut.same nP s09 sb) ⟨pr,pd,pq,us,vs,ev,sb _ _ (S9 _ _ eR8) hPr,sb _ _ (S9 _ _ eD8) hPd,sb _ _ (S9 _ _ eQ8) hPq,Paired.imp' (fun _ _ ⟨q,h1,h2⟩=>⟨q,h1,sb _ _ (S9 _ _ h2) (fun z=>by rw[z,e8]at h2;cases h2)⟩) hus8,hvs⟩
theorem IW (m:M K mg):Fc P w K mg base "_law_told" 8 ["_law_house_here"] (vQ m.aH (aQ P w K mg base (some 4))):=⟨_,_,m.MW,m.lB.kp,m.MR,J9 m⟩
theorem ZF {rz ps:List (Str×Int)}{ds:List aE}{f l t:Int} (R:List aN) (dh:DrawnH rz ps ds f l) (h0:f<=t) (h1:t<=l):jQ rz (psT rz ps ds f l R t)=jQ rz ps - w6 ds f l R t:=by
 have h:=WD (rz:=rz) (ps:=ps) (ds:=ds) (f:=f) (l:=l) (t:=t) dh.nr dh.hin h1 R;have e:jQ rz (psT rz ps ds f l R t)=(rz.map fun e=>cU ps e.1+fP ds f e.1 t R).sum:=by
  unfold jQ
  congr 1
  refine List.map_congr_left fun e he=> ?_;rw[NU dh.nr (List.mem_map.mpr ⟨e,he,rfl⟩)];have g:=KQ ps ds f l e.1 R (t - f).toNat (by lia);rw[show f+(((t - f).toNat:Nat):Int)=t by lia]at g;exact g
 lia
theorem aD5 {f l t a:Int}(d:aE)(h0:f<=t)(h1:t<=a):fL t l d a=fL f l d a:=by
 unfold fL
 by_cases c:a<l
 ·rw[if_pos ⟨h1,c⟩,if_pos ⟨by lia,c⟩]
 ·rw[if_neg (fun z=>c z.2),if_neg (fun z=>c z.2)]
inductive vM (K:PySem.W.Frag)(C:Addr)(D:bA)(vs:List V)(H:Hp)(Q:VK)(E:XK):Prop
 | mk (h a q:Addr) (f l t:Int) (rz ps:List (Str×Int)) (ds:List aE) (us:List V) (R:List aN) (_:vs=[.ref h,.ref a,.int t,.ref q]) (_:aW C D H h f l rz ps ds) (_:DrawnH rz ps ds f l) (_:SqL K H a us) (_:cB H us R) (_:PlanOk rz ps ds f l R) (_:f<=t) (_:t<=l) (_:aW C D H q t l rz (psT rz ps ds f l R t) ds) (_:∀H',Same H H'->Q (.bl true) H'):vM K C D vs H Q E
theorem aAp {C:Addr}{D:bA}{H:Hp}{Q:VK}{E:XK}{h a q:Addr}{f l t:Int}{rz ps:List (Str×Int)}{ds:List aE}{us:List V}{R:List aN} (hh:aW C D H h f l rz ps ds) (dh:DrawnH rz ps ds f l) (hS:SqL K H a us) (hp:cB H us R) (ok:PlanOk rz ps ds f l R) (h0:f<=t) (h1:t<=l) (hq:aW C D H q t l rz (psT rz ps ds f l R t) ds) (k:∀H',Same H H'->Q (.bl true) H'):vM K C D [.ref h,.ref a,.int t,.ref q] H Q E:=⟨_,_,_,_,_,_,_,_,_,_,_,rfl,hh,dh,hS,hp,ok,h0,h1,hq,k⟩
theorem GJ (m:M K mg):FnOk P w K mg base CX0 8 m.sN m.sS ["_law_house_here","_law_plan","_law_turn","_law_later"] (vM K m.aH (aQ P w K mg base (some 4))):=by
 refine m.mX.ok sc__law_right (fun vs H Q E h=> ?_) (fun cdv A outer s H vs Q E hr h=> ?_)
 ·walk_at"g1";obtain⟨h,a,q,f,l,t,rz,ps,ds,us,R',rfl,hh,dh,hS,hpl,ok,h0,h1,hq,k⟩:=h;walk_at"g2";rfl
 ·walk_at"g1";obtain⟨h,a,q,f,l,t,rz,ps,ds,us,R',rfl,hh,dh,hS,hpl,ok,h0,h1,hq,k⟩:=h;walk_at"g2";have nd:=sc__law_right.nd;walk_at"hu";have wH:= @RX P w K mg base m;have mH:= @AM P w K mg base m;have w_dc_House:=m.bC;have w_mc_House_rooms:= @iL P w K mg base m;have w_mc_House_doors:= @fT P w K mg base m;have w_mc_House_total:= @u4 P w K mg base m;have w_mc_House_holds:= @iP P w K mg base m;have w_mc_House_found:= @kA P w K mg base m;have w_mc_House_door:= @dX P w K mg base m;have w_mc_House_lets:= @lE P w K mg base m;have w_ii_House_House:=m.EV;refine⟨_,(aC (cC (PW.pt (qV (rP (kY (bV vK rfl m.mY lH (aA (pv 3) (aA (aCy rfl m.OJ) aD))))) (qV (aZ CI (aX (pv 3) rfl) (pv 2) (bD _)) (rU (aZ CI (aX (pv 3) rfl) (aX (pv 0) rfl) (bD _)))))) (aF (aY qR)) bN)
   (aC (cC (PW.pt (qV (aZ (xD hu9) (cF 1 hr (pv 3)) (cF 1 hr (pv 0)) (bD _)) (rU (aZ (xD hu9) (cF 1 hr (pv 3)) (cF 1 hr (pv 0)) (bD _))))) (aF (aY qR)) bN)
   (aC (aU (i:=4) nd rfl (by walk_at"oi") (bG mH hr (aA (pv 0) (aA (pv 1) aD))))
   (aC (cS PassesOwn.never rfl (bK (cF 1 hr (pv 0))) (aO (i:=5) nd rfl (by walk_at"oi")) (aF (cC (PW.pt (qV (aZ CI (dD 3 hr (pv 3) (aA (pv 5) aD)) (dD 3 hr (pv 0) (aA (pv 5) aD)) (bD _)) (rU (aZ CI (dD 3 hr (pv 3) (aA (pv 5) aD)) (bR hu1 (pv 4) (cD (aA (pv 5) (aA (pv 2) aD))) (fun _ _=>rfl)) (bD _))))) (aF (aY qR)) bN)))
   (aC (cS PassesOwn.never rfl (bK (cF 1 hr (pv 0))) (aO (i:=6) nd rfl (by walk_at"oi")) (aC (aU (i:=7) nd rfl (by walk_at"oi") (dD 1 hr (pv 0) (aA (pv 6) aD)))
   (aC (aU (i:=8) nd rfl (by walk_at"oi") (dD 1 hr (pv 3) (aA (pv 6) aD)))
   (aC (cC (aZ (xD hu9) (fN (aA (aX (pv 8) rfl) (aA (aX (pv 8) rfl) (aA (aX (pv 8) rfl) aD)))) (fN (aA (aX (pv 7) rfl) (aA (aX (pv 7) rfl) (aA (aX (pv 7) rfl) aD)))) (bD _)) (aF (aY qR)) bN)
   (aF (cS PassesOwn.never rfl (tS rfl m.jE (aA (pv 2) (aA (aI bO (aX (pv 0) rfl) aG) aD))) (aO (i:=9) nd rfl (by walk_at"oi")) (aF (cC (aZ CI (dD 6 hr (pv 3) (aA (pv 6) (aA (pv 9) aD))) (dD 6 hr (pv 0) (aA (pv 6) (aA (pv 9) aD))) (bD _)) (aF (aY qR)) bN))))))))
   (aF (aY (u8 jK (cF 1 hr (pv 3)) (aI i8 (cF 1 hr (pv 0)) (bG wH hr (aA (pv 0) (aA (pv 1) (aA (pv 2) aD))))) (bD _))))))))),?_⟩
  refine aT (σ:=[some (.ref h),some (.ref a),some (.int t),some (.ref q),none,none,none,none,none,none]) rfl ?_;walk_at"cx";walk_at"g1";obtain⟨dnr,dnd,dhin,dlt,hpr,dfit,dsz,dlr,dlp,dld,df0,df1,df2,df3⟩:=id dh;walk_at"g2";walk_at"g1";obtain⟨dx,qs,qp,qd,nk,kvs,e1,_⟩:=id hh.ex;walk_at"g2";walk_at"g1";obtain⟨dx',qs',qp',qd',nk',kvs',e1',_⟩:=id hq.ex;walk_at"g2";have rl:=ok.len dh;walk_at"go";refine c5 hq fun pa1 H1 n1 S1 ea1=> ?_;have e11:=S1 _ _ e1;walk_at"go";refine c5 (aK hh S1) fun pa2 H2 n2 S2 ea2=> ?_;have s02:=S1.trans S2;have e12':=s02 _ _ e1';walk_at"go";refine rK (SqL.of (S2 _ _ ea1)) (SqL.of ea2) (gU (tU _)) ?_;walk_at"go";refine c5 (aK hq s02) fun pb1 H3 n3 S3 eb1=> ?_;have s03:=s02.trans S3;have e13:=s03 _ _ e1;walk_at"go";refine c5 (aK hh s03) fun pb2 H4 n4 S4 eb2=> ?_;have s04:=s03.trans S4;walk_at"go";refine rK (SqL.of (S4 _ _ eb1)) (SqL.of eb2) (gU (tU _)) ?_;walk_at"go";refine⟨_,_,_,_,_,_,_,_,_,rfl,aK hh s04,dnr,dnd,dhin,df0,df1,(by lia),(by lia),(by lia),s04.seq hS,dN hpl s04,(by lia),fun pI H5 n5 S5 eI=> ?_⟩;have s05:=s04.trans S5;have e15:=s05 _ _ e1;clear ea1 ea2 eb1 eb2;walk_at"go";refine c5 (aK hh s05) fun pR H6 n6 S6 eR=> ?_;have s06:=s05.trans S6;have eI6:=S6 _ _ eI;walk_at"go";let Pv1:Nat->St->Hp->Prop:=fun i σ' G=>Same H6 G/\∃x,σ'=[some (.ref h),some (.ref a),some (.int t),some (.ref q),some (.ref pI),x,none,none,none,none];refine dU ((rz.map (·.1)).map V.str) Pv1 ⟨Same.refl _,_,rfl⟩ (fun i σ' G _ q=>SqL.of (q.1 _ _ eR)) ?_ ?_
  ·rintro i x _ G hx ⟨sG,y1,rfl⟩;rw[List.getElem?_map]at hx;obtain⟨z,hz,rfl⟩:=Option.map_eq_some_iff.mp hx;rw[List.getElem?_map]at hz;walk_at"g1";obtain⟨⟨z',sz'⟩,he,rfl⟩:=Option.map_eq_some_iff.mp hz;walk_at"g2";have hem:(z',sz')∈rz:=List.mem_of_getElem? he;have hzm:z'∈rz.map (·.1):=List.mem_map.mpr ⟨_,hem,rfl⟩;have s0G:=s06.trans sG;have e1G:=s0G _ _ e1;have e1G':=s0G _ _ e1';show (_:TG) (V.str z') _ _ _;walk_at"go";refine q0 (i:=sz') (aK hq s0G) dnr hem fun G1 T1=> ?_;have e1G1:=T1 _ _ e1G;walk_at"go";refine q0 (i:=sz') (aK hh (s0G.trans T1)) dnr hem fun G2 T2=> ?_;have e1G2:=(T1.trans T2) _ _ e1G';walk_at"go";refine zC (aK hq (s0G.trans (T1.trans T2))) dnr hzm fun G3 T3=> ?_;rw[NU dnr hzm];have eIG:=(sG.trans (T1.trans (T2.trans T3))) _ _ eI6;have hv:=rW (ps:=ps) (L:=goL ds f l R') (C:=goC ds f l R') (f:=f) (iO dnr f (l+1 - f).toNat) (p:=(z',t)) (pairsN_mem.mpr ⟨hzm,(t - f).toNat,by lia,by lia⟩);walk_at"go";rename_i qk G4 m4 T4 e4k;refine nR (bB (z',t)) (.inl (T4 _ _ eIG)) e4k hv ?_;rw[show cY ps (goL ds f l R') (goC ds f l R') ((z',t):Str×Int).1 f (((z',t):Str×Int).2 - f).toNat=v7 ps ds f l R' t z' from rfl];walk_at"go";exact⟨sG.trans (T1.trans (T2.trans (T3.trans T4))),_,rfl⟩
  ·rintro _ G ⟨sG,y1,rfl⟩;have s0G:=s06.trans sG;have e1G:=s0G _ _ e1;walk_at"go";refine c5 (aK hh s0G) fun pD H7 n7 S7 eD=> ?_;have s07:=s0G.trans S7;walk_at"go";let Pv2:Nat->St->Hp->Prop:=fun i σ' G=>Same H7 G/\∃x y z u,σ'=[some (.ref h),some (.ref a),some (.int t),some (.ref q),some (.ref pI),y1,x,y,z,u];refine dU ((ds.map (·.1)).map V.str) Pv2 ⟨Same.refl _,_,_,_,_,rfl⟩ (fun i σ' G _ q=>SqL.of (q.1 _ _ eD)) ?_ ?_
   ·rintro i x _ G hx hq_;walk_at"g1";obtain⟨sG',x1,x2,x3,x4,rfl⟩:=hq_;walk_at"g2";rw[List.getElem?_map]at hx;obtain⟨n,hn,rfl⟩:=Option.map_eq_some_iff.mp hx;rw[List.getElem?_map]at hn;walk_at"g1";obtain⟨⟨n',st,e,lt⟩,hd,rfl⟩:=Option.map_eq_some_iff.mp hn;walk_at"g2";have hdm:=List.mem_of_getElem? hd;have s8:=s07.trans sG';have e18:=s8 _ _ e1;have e18':=s8 _ _ e1';have hee:qO e=true:=by
     rcases (dhin _ hdm).2 with h|⟨z,h,_⟩
     ·have h:e= .non:=h;rw[h];rfl
     ·have h:e= .str z:=h;rw[h];rfl
    show (_:TG) (V.str n') _ _ _;walk_at"go";refine mR (d:=(n',st,e,lt)) (aK hh s8) dnd hdm fun v hv=> ?_;walk_at"g1";obtain⟨q2,C2,dx2,fs2,fp2,rfl,hq2,dcC,l1,l2,l3,l4,l5,mcE,hfp,hlt⟩:=DoorAt.ex hv;walk_at"g2";walk_at"go";refine mR (d:=(n',st,e,lt)) (aK hq s8) dnd hdm fun v' hv'=> ?_;walk_at"g1";obtain⟨q3,C3,dx3,fs3,fp3,rfl,hq3,dcC3,k1,k2,k3,k4,k5,mcE3,hfp3,hlt3⟩:=DoorAt.ex hv';walk_at"g2";walk_at"go";rename_i pa G1 m1 T1 ea pb G2 m2 T2 eb;refine rK (SqL.of (T2 _ _ ea)) (SqL.of eb) (.cons (DeepEq.self rfl) (.cons (DeepEq.self rfl) (.cons (DeepEq.self hee) .nil))) ?_;have s82:=s8.trans (T1.trans T2);have e182:=s82 _ _ e1;clear ea eb;walk_at"go";let Pv3:Nat->St->Hp->Prop:=fun j σ' G=>Same G2 G/\∃u,σ'=[some (.ref h),some (.ref a),some (.int t),some (.ref q),some (.ref pI),y1,some (.str n'),some (.ref q2),some (.ref q3),u];refine nV Pv3 ⟨Same.refl _,_,rfl⟩ ?_ ?_
    ·rintro j _ G3 hj ⟨sG3,u1,rfl⟩;have s9:=s82.trans sG3;have e19:=s9 _ _ e1;have e19':=s9 _ _ e1';walk_at"go";refine uV (d:=(n',st,e,lt)) (aK hq s9) dnd hdm (by lia) fun G4 T4=> ?_;have e1A:=T4 _ _ e19;walk_at"go";refine uV (d:=(n',st,e,lt)) (aK hh (s9.trans T4)) dnd hdm df0 fun G5 T5=> ?_;rw[aD5 (n',st,e,lt) h0 (show t<=t+(j:Int) by lia)];walk_at"go";exact⟨sG3.trans (T4.trans T5),_,rfl⟩
    ·rintro _ G3 ⟨sG3,u1,rfl⟩;exact⟨sG'.trans (T1.trans (T2.trans sG3)),_,_,_,_,rfl⟩
   ·rintro _ G hq_;walk_at"g1";obtain⟨sG',x1,x2,x3,x4,rfl⟩:=hq_;walk_at"g2";have s8:=s07.trans sG';have e18:=s8 _ _ e1;have e18':=s8 _ _ e1';walk_at"go";refine DG (aK hq s8) dnr fun G1 T1=> ?_;have e191:=T1 _ _ e18;walk_at"go";refine DG (aK hh (s8.trans T1)) dnr fun G2 T2=> ?_;walk_at"go";refine⟨_,_,_,_,_,_,_,_,_,_,rfl,aK hh (s8.trans (T1.trans T2)),dnd,dhin,(s8.trans (T1.trans T2)).seq hS,dN hpl (s8.trans (T1.trans T2)),(by lia),fun G3 T3=> ?_⟩;rw[ZF R' dh h0 h1];walk_at"go";rw[decide_eq_true rfl];exact k _ (s8.trans (T1.trans (T2.trans T3)))
theorem GA (m:M K mg):Fc P w K mg base "_law_right" 8 ["_law_house_here","_law_plan","_law_turn","_law_later"] (vM K m.aH (aQ P w K mg base (some 4))):=⟨_,_,m.LT,m.mX.kp,m.LU,GJ m⟩
theorem R9 {us:List V}{H:Hp}{R:List aN} (h:cB H us R):us.all qO=true:=by
 rw[List.all_eq_true];intro v hv;obtain⟨i,hi,e⟩:=List.getElem_of_mem hv;have hl:us.length=R.length:=Paired.length h;obtain⟨q,e1,_⟩:=Paired.at2 h (List.getElem?_eq_getElem hi) (List.getElem?_eq_getElem (show i<R.length by lia));rw[←e,e1];rfl
inductive xB (K:PySem.W.Frag)(PL:Addr)(vs:List V)(H:Hp)(Q:VK)(E:XK):Prop
 | mk (a:Addr) (ns:List Int) (_:vs=[.ref a]) (_:SqL K H a (ns.map V.int)) (_:ns.length<=63) (_:H PL=some (.tbl #[])) (_:∀H',Q (.bl true) H'):xB K PL vs H Q E
theorem aC4 (m:M K mg){cL PL:Addr}(hcL:m.cN.code= .ref cL)(hCL:PySem.W.CodeHd base cL PL)(hBL:base.BuiltinsAt mg PL):FnOk P w K mg base CX0 20 m.QW m.Q0 ["_law_script"] (xB K PL):=by
 refine m.aEH.ok sc_law (fun vs H Q E h=> ?_) (fun cdv A outer s H vs Q E hr h=> ?_)
 ·walk_at"g1";obtain⟨a,ns,rfl,hS,hlen,hPL,k⟩:=h;walk_at"g2";rfl
 ·walk_at"g1";obtain⟨a,ns,rfl,hS,hlen,hPL,k⟩:=h;walk_at"g2";have nd:=sc_law.nd;walk_at"hu";have FV_anew_1:=QE (P:=P) (w:=w) (base:=base) m;have bZ:= @mQ P w K mg base m;have nJ:=GG (P:=P) (w:=w) (base:=base) m hcL hCL hBL;have lN:= @DL P w K mg base m;have mX:= @GA P w K mg base m;have lB:= @IW P w K mg base m;have vD:= @ZN P w K mg base m;have w_dc_House:=m.bC;refine⟨_,(aC (aU (i:=1) nd rfl (by walk_at"oi") (bG bZ hr (aA (pv 0) (aA aG aD))))
   (aC (aU (i:=2) nd rfl (by walk_at"oi") (eY iG (fN (aA (aI bU (aI dS (pv 1) aG) aG) (aA (aI bU (aI dS (pv 1) aG) (NH 100000000000 (by decide) ⟨by decide,by decide,by decide⟩)) aD))) (mD RY rfl m.ZA TX (aA (u8 jK (aI bU (aI dS (pv 1) aG) aG) aG (bD _)) aD)) (fun _ _=>rfl)))
   (aC (aU (i:=3) nd rfl (by walk_at"oi") (bG nJ hr (aA (pv 0) (aA (pv 2) (aA (aI bO (pv 2) (aI bU (pv 1) aG)) aD)))))
   (aC (aU (i:=4) nd rfl (by walk_at"oi") (bG lN hr (aA (pv 3) (aA (rN aAr (pv 0) (rD aG) (rD aG)) aD))))
   (aC (aU (i:=5) nd rfl (by walk_at"oi") (aI bO (pv 2) (aI bU (aI dS (bG bZ hr (aA (pv 0) (aA aG aD))) aG) (aI bO (aI i8 (aX (pv 3) rfl) (pv 2)) aG))))
   (aC (aU (i:=6) nd rfl (by walk_at"oi") (bG lB hr (aA (pv 3) aD)))
   (aC (aU (i:=7) nd rfl (by walk_at"oi") (mD PH rfl m.K9 D9 (aA (pv 4) aD)))
   (aC (aU (i:=8) nd rfl (by walk_at"oi") (aI bU (bG bZ hr (aA (pv 0) (aA aG aD))) aG))
   (aC (cS PassesOwn.never rfl (mB rfl m.jE (aA aG aD)) (aO (i:=9) nd rfl (by walk_at"oi")) (aC (cC (aZ jK (pv 8) aG (bD _)) (aF (aU (i:=10) nd rfl (by walk_at"oi") (aDT FV_anew_1 hr (aA (pv 3) (aA (pv 7) (aA (pv 5) aD)))))) (aF (cC (aZ jK (pv 8) aG (bD _)) (aF (aU (i:=10) nd rfl (by walk_at"oi") (bG vD hr (aA (pv 3) (aA (pv 7) (aA (pv 5) (aA rJ aD))))))) (aF (aU (i:=10) nd rfl (by walk_at"oi") (bG vD hr (aA (pv 3) (aA (pv 7) (aA (pv 5) (aA (fN aD) aD))))))))))
   (aF (cC (PW.pt (qV (rP (kY (bG mX hr (aA (pv 3) (aA (pv 4) (aA (pv 5) (aA (pv 10) aD))))))) (qV (aZ (xD hu9) (bG lB hr (aA (pv 3) aD)) (pv 6) (bD _)) (rU (aZ (xD hu9) (pv 7) (pv 4) (bD _)))))) (aF (aY qR)) bN))))
   (aF (aY qR))))))))))),?_⟩
  refine aT (σ:=[some (.ref a),none,none,none,none,none,none,none,none,none,none]) rfl ?_;walk_at"cx";walk_at"go";rename_i pF H1 n1 S1 eF f hf;generalize hcc:j7 ns 1=c at hf ⊢;refine XC (S1.seq hS) (by lia) (by lia) (by lia) (by lia) (.inl (S1 _ _ hPL)) fun h H2 rz ps ds T2 hh dh=> ?_;have hS2:SqL K H2 a (ns.map V.int):=T2.seq (S1.seq hS);walk_at"g1";obtain⟨dx,qs,qp,qd,nk,kvs,e1,_⟩:=id hh.ex;walk_at"g2";walk_at"go";rename_i pc H3 n3 S3 ec;have f0:=dh.f0;generalize hl:f+c%9=l at hh dh e1;have f1:=dh.f1;have hS3:=S3.seq hS2;have e13:=S3 _ _ e1;refine XV (aK hh S3) dh (SqL.of ec) fun p H4 hX=> ?_;walk_at"g1";obtain⟨us,R,I,n4,S4,ep,hpl,hL⟩:=hX;walk_at"g2";have ok:PlanOk rz ps ds f l R:=⟨⟨I,hL⟩⟩
  have rl:=ok.len dh;have ul:us.length=R.length:=Paired.length hpl;have s24:=S3.trans S4;have hS4:=S4.seq hS3;have e14:=s24 _ _ e1;clear ec hL;walk_at"go";rename_i ht0 ht1;generalize hc4:j7 ns 4=c4 at ht0 ht1 ⊢;generalize hte:f+c4/3%(l - f+1)=t;have hft:f<=t:=by lia
  have htl:t<=l:=by lia
  clear hte ht0 ht1;refine NT (aK hh s24) dh fun pB H5 S5 hB=> ?_;have s25:=s24.trans S5;have ep5:=S5 _ _ ep;have hS5:=S5.seq hS4;walk_at"go";rename_i pL H6 n6 S6 eL;have s26:=s25.trans S6;have s46:=S5.trans S6;have ep6:=s46 _ _ ep;have hpl6:=dN hpl s46;have hB6:=hB.same S6;generalize j7 ns 4%3=wy;let Pv1:Nat->St->Hp->Prop:=fun i σ' G=>Same H6 G/\∃x y,σ'=[some (.ref a),some (.int c),some (.int f),some (.ref h),some (.ref p),some (.int t),some (.ref pB),some (.ref pL),some (.int wy),x,y];refine nV Pv1 ⟨Same.refl _,_,_,rfl⟩ ?_ ?_
  ·rintro i _ G hi hq_;walk_at"g1";obtain⟨sG,y1,y2,rfl⟩:=hq_;walk_at"g2";have s2G:=s26.trans sG;have hhG:=aK hh s2G;have eLG:=sG _ _ eL;have hplG:=dN hpl6 sG;walk_at"gs";refine DI (fun σ' G'=>∃q,Same G G'/\aW m.aH (aQ P w K mg base (some 4)) G' q t l rz (psT rz ps ds f l R t) ds/\σ'=[some (.ref a),some (.int c),some (.int f),some (.ref h),some (.ref p),some (.int t),some (.ref pB),some (.ref pL),some (.int wy),some (.int (0+(i:Int))),some (.ref q)]) ?_ ?_
   rotate_left
   ·intro nx' hnx;walk_at"go";refine c7 (fun hc=> ?_) (fun hc=> ?_)
    ·walk_at"go";refine J2 ?_;walk_at"go";show rG K m.aH (aQ P w K mg base (some 4)) [.ref h,.ref pL,.int t,.non] _ _ _;refine K0 hhG dh (SqL.of eLG) hplG ok hft htl (.inl rfl) fun q G1 hX=> ?_;obtain⟨T1,hq⟩:=hX;exact hnx _ _ ⟨q,T1,hq,rfl⟩
    ·walk_at"go";refine c7 (fun hc2=> ?_) (fun hc2=> ?_)
     ·walk_at"go";refine K0 hhG dh (SqL.of eLG) hplG ok hft htl (.inl rfl) fun q G1 hX=> ?_;obtain⟨T1,hq⟩:=hX;exact hnx _ _ ⟨q,T1,hq,rfl⟩
     ·walk_at"go";rename_i pE G0 m0 T0 eE;refine K0 (aK hhG T0) dh (SqL.of (T0 _ _ eLG)) (dN hplG T0) ok hft htl (.inr ⟨pE,rfl,eE⟩) fun q G1 hX=> ?_;obtain⟨T1,hq⟩:=hX;exact hnx _ _ ⟨q,T0.trans T1,hq,rfl⟩
   rintro _ G1 hq_;walk_at"g1";obtain⟨q,T1,hq,rfl⟩:=hq_;walk_at"g2";have s21:=s2G.trans T1;walk_at"go";refine aAp (aK hh s21) dh (SqL.of ((sG.trans T1) _ _ ep6)) (dN hplG T1) ok hft htl hq fun G2 T2=> ?_;have s22:=s21.trans T2;walk_at"go";refine NT (aK hh s22) dh fun pB2 G3 T3 hB2=> ?_;have s63:Same H6 G3:=sG.trans (T1.trans (T2.trans T3));walk_at"g1";obtain⟨xs,ys,ex,ey,hxy⟩:=ToldL.deep (K:=K) dh.hin hB2 (hB6.same s63);walk_at"g2";walk_at"go";refine rK (SqL.of ex) (SqL.of ey) hxy ?_;walk_at"go";refine rK (SqL.of (s63 _ _ eL)) (SqL.of (s63 _ _ ep6)) (gU (R9 hpl)) ?_;walk_at"go";exact⟨s63,_,_,rfl⟩
  ·rintro _ G hq_;walk_at"g1";obtain⟨sG,y1,y2,rfl⟩:=hq_;walk_at"g2";walk_at"go";exact k _
end
theorem all_mk {l:PySem.W.OpenLaw}{w:World}{K:PySem.W.Frag}{h:Heap}{mg:Str->Option Value}{fa:Addr} (X:K.In h) (G:h.Ns mainGlobals mg) (hfa:mg "law" =some (.ref fa))
  {zaa zab zac zad zae zaf zag zah zai zaj zak zal zam zan zao zap zaq zar zas zat zau zav zaw zax zay zaz zba zbb zbc zbd zbe zbf zbg zbh zbi zbj zbk zbl zbm zbn zbo zbp zbq zbr zbs zbt zbu zbv zbw zbx zby zbz zca zcb zcc zcd zce zcf zcg zch zci zcj zck zcl zcm zcn zco zcp zcq zcr zcs zct zcu zcv zcw zcx zcy zcz zda zdb zdc zdd zde zdf zdg zdh zdi zdj zdk:Addr}
  {zdl zdm:Option Addr}{zdn:Array (Option Value)}{zdo zdp zdq zdr zds zdt:Value}
  {zdu zdv:Option Addr}{zdw:Array (Option Value)}{zdx zdy zdz zea zeb zec:Value}
  {zed zee:Option Addr}{zef:Array (Option Value)}{zeg zeh zei zej zek zel:Value}
  {zem zen:Option Addr}{zeo:Array (Option Value)}{zep zeq zer zes zet zeu:Value}
  {zev zew:Option Addr}{zex:Array (Option Value)}{zey zez zfa zfb zfc zfd:Value}
  {zfe zff:Option Addr}{zfg:Array (Option Value)}{zfh zfi zfj zfk zfl zfm:Value}
  {zfn zfo:Option Addr}{zfp:Array (Option Value)}{zfq zfr zfs zft zfu zfv:Value}
  {zfw zfx:Option Addr}{zfy:Array (Option Value)}{zfz zga zgb zgc zgd zge:Value}
  {zgf zgg:Option Addr}{zgh:Array (Option Value)}{zgi zgj zgk zgl zgm zgn:Value}
  {zgo zgp:Option Addr}{zgq:Array (Option Value)}{zgr zgs zgt zgu zgv zgw:Value}
  {zgx zgy:Option Addr}{zgz:Array (Option Value)}{zha zhb zhc zhd zhe zhf:Value}
  {zhg zhh:Option Addr}{zhi:Array (Option Value)}{zhj zhk zhl zhm zhn zho:Value}
  {zhp zhq:Option Addr}{zhr:Array (Option Value)}{zhs zht zhu zhv zhw zhx:Value}
  {zhy zhz:Option Addr}{zia:Array (Option Value)}{zib zic zid zie zif zig:Value}
  {zih zii:Option Addr}{zij:Array (Option Value)}{zik zil zim zin zio ziq:Value}
  {zir zis:Option Addr}{zit:Array (Option Value)}{ziu ziv ziw zix ziy ziz:Value}
  {zja zjb:Option Addr}{zjc:Array (Option Value)}{zjd zje zjf zjg zjh zji:Value}
  {zjj zjk:Option Addr}{zjl:Array (Option Value)}{zjm zjn zjo zjp zjq zjr:Value}
  {zjs zjt:Option Addr}{zju:Array (Option Value)}{zjv zjw zjx zjy zjz zka:Value}
  {zkb zkc:Option Addr}{zkd:Array (Option Value)}{zke zkf zkg zkh zki zkj:Value}
  {zkk zkl:Option Addr}{zkm:Array (Option Value)}{zkn zko zkp zkq zkr zks:Value}
  {zkt zku:Option Addr}{zkv:Array (Option Value)}{zkw zkx zky zkz zla zlb:Value}
  {zlc zld:Option Addr}{zle:Array (Option Value)}{zlf zlg zlh zli zlj zlk:Value}
  {zll zlm:Option Addr}{zln:Array (Option Value)}{zlo zlp zlq zlr zls zlt:Value}
  {zlu zlv:Option Addr}{zlw:Array (Option Value)}{zlx zly zlz zma zmb zmc:Value}
  {zmd zme:Option Addr}{zmf:Array (Option Value)}{zmg zmh zmi zmj zmk zml:Value}
  {zmm zmn:Option Addr}{zmo:Array (Option Value)}{zmp zmq zmr zms zmt zmu:Value}
  {zmv:Addr}
  {zmw:Value}{zmx:Option Addr}{zmy:Nat}{zmz:Array (Option Value)}
  {zna znb:Option Addr}{znc:Array (Option Value)}{znd zne znf zng znh zni:Value}
  {znj znk:Option Addr}{znl:Array (Option Value)}{znm znn zno znp znq znr:Value}
  {zns znt:Option Addr}{znu:Array (Option Value)}{znv znw znx zny znz zoa:Value}
  {zob zoc:Option Addr}{zod:Array (Option Value)}{zoe zof zog zoh zoi zoj:Value}
  {zok zol:Option Addr}{zom:Array (Option Value)}{zon zoo zop zoq zor zos:Value}
  {zot zou:Option Addr}{zov:Array (Option Value)}{zow zox zoy zoz zpa zpb:Value}
  {zpc zpd:Option Addr}{zpe:Array (Option Value)}{zpf zpg zph zpi zpj zpk:Value}
  {zpl zpm:Option Addr}{zpn:Array (Option Value)}{zpo zpp zpq zpr zps zpt:Value}
  {zpu zpv:Option Addr}{zpw:Array (Option Value)}{zpx zpy zpz zqa zqb zqc:Value}
  {zqd zqe:Option Addr}{zqf:Array (Option Value)}{zqg zqh zqi zqj zqk zql:Value}
  {zqm zqn:Option Addr}{zqo:Array (Option Value)}{zqp zqq zqr zqs zqt zqu:Value}
  {zqv zqw:Option Addr}{zqx:Array (Option Value)}{zqy zqz zra zrb zrc zrd:Value}
  {zre zrf:Option Addr}{zrg:Array (Option Value)}{zrh zri zrj zrk zrl zrm:Value}
  {zrn:Addr}
  {zro:Tok}
  {zrp:Value}{zrq:Option Addr}{zrr:Nat}{zrs:Array (Option Value)}
  {zrt zru:Option Addr}{zrv:Array (Option Value)}{zrw zrx zry zrz zsa zsb:Value}
  {zsc zsd:Option Addr}{zse:Array (Option Value)}{zsf zsg zsh zsi zsj zsk:Value}
  {zsl zsm:Option Addr}{zsn:Array (Option Value)}{zso zsp zsq zsr zss zst:Value}
  {zsu zsv:Option Addr}{zsw:Array (Option Value)}{zsx zsy zsz zta ztb ztc:Value}
  {ztd zte:Option Addr}{ztf:Array (Option Value)}{ztg zth zti ztj ztk ztl:Value}
  {ztm ztn:Option Addr}{zto:Array (Option Value)}{ztp ztq ztr zts ztt ztu:Value}
  {ztv ztw:Option Addr}{ztx:Array (Option Value)}{zty ztz zua zub zuc zud:Value}
  {zue zuf:Option Addr}{zug:Array (Option Value)}{zuh zui zuj zuk zul zum:Value}
  {zun zuo:Option Addr}{zup:Array (Option Value)}{zuq zur zus zut zuu zuv:Value}
  {zuw zux:Option Addr}{zuy:Array (Option Value)}{zuz zva zvb zvc zvd zve:Value}
  {zvf:Addr}
  {zvg:Tok}
  {zvh:Value}{zvi:Option Addr}{zvj:Nat}{zvk:Array (Option Value)}
  {zvl zvm:Option Addr}{zvn:Array (Option Value)}{zvo zvp zvq zvr zvs zvt:Value}
  {zvu zvv:Option Addr}{zvw:Array (Option Value)}{zvx zvy zvz zwa zwb zwc:Value}
  {zwd zwe:Option Addr}{zwf:Array (Option Value)}{zwg zwh zwi zwj zwk zwl:Value}
  {zwm zwn:Option Addr}{zwo:Array (Option Value)}{zwp zwq zwr zws zwt zwu:Value}
  {zwv zww:Option Addr}{zwx:Array (Option Value)}{zwy zwz zxa zxb zxc zxd:Value}
  {zxe zxf:Option Addr}{zxg:Array (Option Value)}{zxh zxi zxj zxk zxl zxm:Value}
  {zxn zxo:Option Addr}{zxp:Array (Option Value)}{zxq zxr zxs zxt zxu zxv:Value}
  {zxw zxx:Option Addr}{zxy:Array (Option Value)}{zxz zya zyb zyc zyd zye:Value}
  {zyf zyg:Option Addr}{zyh:Array (Option Value)}{zyi zyj zyk zyl zym zyn:Value}
  {zyo zyp:Option Addr}{zyq:Array (Option Value)}{zyr zys zyt zyu zyv zyw:Value}
  {zyx zyy:Option Addr}{zyz:Array (Option Value)}{zza zzb zzc zzd zze zzf:Value}
  {zzg zzh:Option Addr}{zzi:Array (Option Value)}{zzj zzk zzl zzm zzn zzo:Value}
  {zzp:Addr}
  {zzq:Tok}
  {zzr:Value}{zzs:Option Addr}{zzt:Nat}{zzu:Array (Option Value)}
  {zzv zzw:Option Addr}{zzx:Array (Option Value)}{zzy zzz zbaa zbab zbac zbad:Value}
  {zbae zbaf:Option Addr}{zbag:Array (Option Value)}{zbah zbai zbaj zbak zbal zbam:Value}
  {zban zbao:Option Addr}{zbap:Array (Option Value)}{zbaq zbar zbas zbat zbau zbav:Value}
  {zbaw zbax:Option Addr}{zbay:Array (Option Value)}{zbaz zbba zbbb zbbc zbbd zbbe:Value}
  {zbbf zbbg:Option Addr}{zbbh:Array (Option Value)}{zbbi zbbj zbbk zbbl zbbm zbbn:Value}
  {zbbo zbbp:Option Addr}{zbbq:Array (Option Value)}{zbbr zbbs zbbt zbbu zbbv zbbw:Value}
  {zbbx zbby:Option Addr}{zbbz:Array (Option Value)}{zbca zbcb zbcc zbcd zbce zbcf:Value}
  {zbcg zbch:Option Addr}{zbci:Array (Option Value)}{zbcj zbck zbcl zbcm zbcn zbco:Value}
  {zbcp zbcq:Option Addr}{zbcr:Array (Option Value)}{zbcs zbct zbcu zbcv zbcw zbcx:Value}
  {zbcy zbcz:Option Addr}{zbda:Array (Option Value)}{zbdb zbdc zbdd zbde zbdf zbdg:Value}
  {zbdh zbdi:Option Addr}{zbdj:Array (Option Value)}{zbdk zbdl zbdm zbdn zbdo zbdp:Value}
  {zbdq:ClassData}
  {zbdr:Tok}
  (zbds:PySem.W.nsIn K mainGlobals "_wall" =some (some (.ref zaa)))
  (zbdt:PySem.W.nsIn K mainGlobals "is_whole" =some (some (.ref zab)))
  (zbdu:PySem.W.nsIn K mainGlobals "is_name" =some (some (.ref zac)))
  (zbdv:PySem.W.nsIn K mainGlobals "need_name" =some (some (.ref zad)))
  (zbdw:PySem.W.nsIn K mainGlobals "need_whole" =some (some (.ref zae)))
  (zbdx:PySem.W.nsIn K mainGlobals "need_turns" =some (some (.ref zaf)))
  (zbdy:PySem.W.nsIn K mainGlobals "need_each_once" =some (some (.ref zag)))
  (zbdz:PySem.W.nsIn K mainGlobals "rooms_spoken_of" =some (some (.ref zah)))
  (zbea:PySem.W.nsIn K mainGlobals "need_rooms" =some (some (.ref zai)))
  (zbeb:PySem.W.nsIn K mainGlobals "added_people" =some (some (.ref zaj)))
  (zbec:PySem.W.nsIn K mainGlobals "need_space" =some (some (.ref zak)))
  (zbed:PySem.W.nsIn K mainGlobals "added_up" =some (some (.ref zal)))
  (zbee:PySem.W.nsIn K mainGlobals "rows_that_count" =some (some (.ref zam)))
  (zbef:PySem.W.nsIn K mainGlobals "leaving" =some (some (.ref zan)))
  (zbeg:PySem.W.nsIn K mainGlobals "coming" =some (some (.ref zao)))
  (zbeh:PySem.W.nsIn K mainGlobals "there" =some (some (.ref zap)))
  (zbei:PySem.W.nsIn K mainGlobals "most_through" =some (some (.ref zaq)))
  (zbej:PySem.W.nsIn K mainGlobals "door_faults" =some (some (.ref zar)))
  (zbek:PySem.W.nsIn K mainGlobals "leave_faults" =some (some (.ref zas)))
  (zbel:PySem.W.nsIn K mainGlobals "full_faults" =some (some (.ref zat)))
  (zbem:PySem.W.nsIn K mainGlobals "faults" =some (some (.ref zau)))
  (zben:PySem.W.nsIn K mainGlobals "need_lawful" =some (some (.ref zav)))
  (zbeo:PySem.W.nsIn K mainGlobals "out_by" =some (some (.ref zaw)))
  (zbep:PySem.W.nsIn K mainGlobals "place_of" =some (some (.ref zax)))
  (zbeq:PySem.W.nsIn K mainGlobals "changed_door" =some (some (.ref zay)))
  (zber:PySem.W.nsIn K mainGlobals "doors_after" =some (some (.ref zaz)))
  (zbes:PySem.W.nsIn K mainGlobals "anew" =some (some (.ref zba)))
  (zbet:PySem.W.nsIn K mainGlobals "_law_cell_at" =some (some (.ref zbb)))
  (zbeu:PySem.W.nsIn K mainGlobals "_law_drawn" =some (some (.ref zbc)))
  (zbev:PySem.W.nsIn K mainGlobals "_law_name" =some (some (.ref zbd)))
  (zbew:PySem.W.nsIn K mainGlobals "_law_letting" =some (some (.ref zbe)))
  (zbex:PySem.W.nsIn K mainGlobals "_law_door" =some (some (.ref zbf)))
  (zbey:PySem.W.nsIn K mainGlobals "_law_house" =some (some (.ref zbg)))
  (zbez:PySem.W.nsIn K mainGlobals "_law_excess" =some (some (.ref zbh)))
  (zbfa:PySem.W.nsIn K mainGlobals "_law_numbers" =some (some (.ref zbi)))
  (zbfb:PySem.W.nsIn K mainGlobals "_law_lawful" =some (some (.ref zbj)))
  (zbfc:PySem.W.nsIn K mainGlobals "_law_told" =some (some (.ref zbk)))
  (zbfd:PySem.W.nsIn K mainGlobals "_law_right" =some (some (.ref zbl)))
  (zbfe:PySem.W.nsIn K mainGlobals "law" =some (some (.ref zbm)))
  (zbff:PySem.W.nsIn K mainGlobals "Door" =some (some (.ref zbn)))
  (zbfg:PySem.W.nsIn K mainGlobals "Since" =some (some (.ref zbo)))
  (zbfh:PySem.W.nsIn K mainGlobals "Until" =some (some (.ref zbp)))
  (zbfi:PySem.W.nsIn K mainGlobals "Beat" =some (some (.ref zbq)))
  (zbfj:PySem.W.nsIn K mainGlobals "Told" =some (some (.ref zbr)))
  (zbfk:PySem.W.nsIn K mainGlobals "Shut" =some (some (.ref zbs)))
  (zbfl:PySem.W.nsIn K mainGlobals "Wider" =some (some (.ref zbt)))
  (zbfm:PySem.W.nsIn K mainGlobals "House" =some (some (.ref zbu)))
  (zbfn:PySem.W.nsIn K mainGlobals "OutError" =some (some (.ref zbv)))
  (zbfo:PySem.W.nsIn K mainGlobals "NoDoor" =some (some (.ref zbw)))
  (zbfp:PySem.W.nsIn K mainGlobals "NoHouse" =some (some (.ref zbx)))
  (zbfq:PySem.W.nsIn K mainGlobals "NoPlan" =some (some (.ref zby)))
  (zbfr:PySem.W.nsIn K mainGlobals "NoTurn" =some (some (.ref zbz)))
  (zbfs:PySem.W.nsIn K mainGlobals "Twice" =some (some (.ref zca)))
  (zbft:PySem.W.nsIn K mainGlobals "NoRoom" =some (some (.ref zcb)))
  (zbfu:PySem.W.nsIn K mainGlobals "Unknown" =some (some (.ref zcc)))
  (zbfv:PySem.W.findIn K (.ref zbn) "__init__" =some (some (.ref zcd)))
  (zbfw:PySem.W.findIn K (.ref zbn) "lets" =some (some (.ref zce)))
  (zbfx:PySem.W.findIn K (.ref zbn) "is_exit" =some (some (.ref zcf)))
  (zbfy:PySem.W.findIn K (.ref zbn) "words" =some (some (.ref zcg)))
  (zbfz:PySem.W.findIn K (.ref zbo) "__init__" =some (some (.ref zch)))
  (zbga:PySem.W.findIn K (.ref zbo) "lets" =some (some (.ref zci)))
  (zbgb:PySem.W.findIn K (.ref zbo) "words" =some (some (.ref zcj)))
  (zbgc:PySem.W.findIn K (.ref zbp) "__init__" =some (some (.ref zck)))
  (zbgd:PySem.W.findIn K (.ref zbp) "lets" =some (some (.ref zcl)))
  (zbge:PySem.W.findIn K (.ref zbp) "words" =some (some (.ref zcm)))
  (zbgf:PySem.W.findIn K (.ref zbq) "__init__" =some (some (.ref zcn)))
  (zbgg:PySem.W.findIn K (.ref zbq) "lets" =some (some (.ref zco)))
  (zbgh:PySem.W.findIn K (.ref zbq) "words" =some (some (.ref zcp)))
  (zbgi:PySem.W.findIn K (.ref zbr) "__init__" =some (some (.ref zcq)))
  (zbgj:PySem.W.findIn K (.ref zbr) "lets" =some (some (.ref zcr)))
  (zbgk:PySem.W.findIn K (.ref zbr) "words" =some (some (.ref zcs)))
  (zbgl:PySem.W.findIn K (.ref zbs) "__init__" =some (some (.ref zct)))
  (zbgm:PySem.W.findIn K (.ref zbs) "lets" =some (some (.ref zcu)))
  (zbgn:PySem.W.findIn K (.ref zbs) "words" =some (some (.ref zcv)))
  (zbgo:PySem.W.findIn K (.ref zbt) "__init__" =some (some (.ref zcw)))
  (zbgp:PySem.W.findIn K (.ref zbt) "lets" =some (some (.ref zcx)))
  (zbgq:PySem.W.findIn K (.ref zbt) "words" =some (some (.ref zcy)))
  (zbgr:PySem.W.findIn K (.ref zbu) "__init__" =some (some (.ref zcz)))
  (zbgs:PySem.W.findIn K (.ref zbu) "rooms" =some (some (.ref zda)))
  (zbgt:PySem.W.findIn K (.ref zbu) "doors" =some (some (.ref zdb)))
  (zbgu:PySem.W.findIn K (.ref zbu) "need_room" =some (some (.ref zdc)))
  (zbgv:PySem.W.findIn K (.ref zbu) "holds" =some (some (.ref zdd)))
  (zbgw:PySem.W.findIn K (.ref zbu) "found" =some (some (.ref zde)))
  (zbgx:PySem.W.findIn K (.ref zbu) "into" =some (some (.ref zdf)))
  (zbgy:PySem.W.findIn K (.ref zbu) "from_room" =some (some (.ref zdg)))
  (zbgz:PySem.W.findIn K (.ref zbu) "door" =some (some (.ref zdh)))
  (zbha:PySem.W.findIn K (.ref zbu) "lets" =some (some (.ref zdi)))
  (zbhb:PySem.W.findIn K (.ref zbu) "total" =some (some (.ref zdj)))
  (zbhc:PySem.W.findIn K (.ref zbu) "pairs" =some (some (.ref zdk)))
  (zbhd:K.lookup zaa=some ⟨zdo,zdl,.func (PySem.W.fnOf "_wall" "_wall" (aL rB) (aJ rB) (aB rB) .none zdp zdq zdr zdm zds zdt),zdn⟩)
  (zbhe:PySem.W.codeIn K zds "_wall" =true)
  (zbhf:PySem.W.keepIn K (.ref zaa)=true)
  (zbhg:K.lookup zab=some ⟨zdx,zdu,.func (PySem.W.fnOf "is_whole" "is_whole" (aL iX) (aJ iX) (aB iX) .none zdy zdz zea zdv zeb zec),zdw⟩)
  (zbhh:PySem.W.codeIn K zeb "is_whole" =true)
  (zbhi:PySem.W.keepIn K (.ref zab)=true)
  (zbhj:K.lookup zac=some ⟨zeg,zed,.func (PySem.W.fnOf "is_name" "is_name" (aL j5) (aJ j5) (aB j5) .none zeh zei zej zee zek zel),zef⟩)
  (zbhk:PySem.W.codeIn K zek "is_name" =true)
  (zbhl:PySem.W.keepIn K (.ref zac)=true)
  (zbhm:K.lookup zad=some ⟨zep,zem,.func (PySem.W.fnOf "need_name" "need_name" (aL hV) (aJ hV) (aB hV) .none zeq zer zes zen zet zeu),zeo⟩)
  (zbhn:PySem.W.codeIn K zet "need_name" =true)
  (zbho:PySem.W.keepIn K (.ref zad)=true)
  (zbhp:K.lookup zae=some ⟨zey,zev,.func (PySem.W.fnOf "need_whole" "need_whole" (aL f9) (aJ f9) (aB f9) .none zez zfa zfb zew zfc zfd),zex⟩)
  (zbhq:PySem.W.codeIn K zfc "need_whole" =true)
  (zbhr:PySem.W.keepIn K (.ref zae)=true)
  (zbhs:K.lookup zaf=some ⟨zfh,zfe,.func (PySem.W.fnOf "need_turns" "need_turns" (aL fV) (aJ fV) (aB fV) .none zfi zfj zfk zff zfl zfm),zfg⟩)
  (zbht:PySem.W.codeIn K zfl "need_turns" =true)
  (zbhu:PySem.W.keepIn K (.ref zaf)=true)
  (zbhv:K.lookup zag=some ⟨zfq,zfn,.func (PySem.W.fnOf "need_each_once" "need_each_once" (aL dJ) (aJ dJ) (aB dJ) .none zfr zfs zft zfo zfu zfv),zfp⟩)
  (zbhw:PySem.W.codeIn K zfu "need_each_once" =true)
  (zbhx:PySem.W.keepIn K (.ref zag)=true)
  (zbhy:K.lookup zah=some ⟨zfz,zfw,.func (PySem.W.fnOf "rooms_spoken_of" "rooms_spoken_of" (aL c8) (aJ c8) (aB c8) .none zga zgb zgc zfx zgd zge),zfy⟩)
  (zbhz:PySem.W.codeIn K zgd "rooms_spoken_of" =true)
  (zbia:PySem.W.keepIn K (.ref zah)=true)
  (zbib:K.lookup zai=some ⟨zgi,zgf,.func (PySem.W.fnOf "need_rooms" "need_rooms" (aL gA) (aJ gA) (aB gA) .none zgj zgk zgl zgg zgm zgn),zgh⟩)
  (zbic:PySem.W.codeIn K zgm "need_rooms" =true)
  (zbid:PySem.W.keepIn K (.ref zai)=true)
  (zbie:K.lookup zaj=some ⟨zgr,zgo,.func (PySem.W.fnOf "added_people" "added_people" (aL eK) (aJ eK) (aB eK) .none zgs zgt zgu zgp zgv zgw),zgq⟩)
  (zbif:PySem.W.codeIn K zgv "added_people" =true)
  (zbig:PySem.W.keepIn K (.ref zaj)=true)
  (zbih:K.lookup zak=some ⟨zha,zgx,.func (PySem.W.fnOf "need_space" "need_space" (aL gE) (aJ gE) (aB gE) .none zhb zhc zhd zgy zhe zhf),zgz⟩)
  (zbii:PySem.W.codeIn K zhe "need_space" =true)
  (zbij:PySem.W.keepIn K (.ref zak)=true)
  (zbik:K.lookup zal=some ⟨zhj,zhg,.func (PySem.W.fnOf "added_up" "added_up" (aL iW) (aJ iW) (aB iW) .none zhk zhl zhm zhh zhn zho),zhi⟩)
  (zbil:PySem.W.codeIn K zhn "added_up" =true)
  (zbim:PySem.W.keepIn K (.ref zal)=true)
  (zbin:K.lookup zam=some ⟨zhs,zhp,.func (PySem.W.fnOf "rows_that_count" "rows_that_count" (aL dC) (aJ dC) (aB dC) .none zht zhu zhv zhq zhw zhx),zhr⟩)
  (zbio:PySem.W.codeIn K zhw "rows_that_count" =true)
  (zbip:PySem.W.keepIn K (.ref zam)=true)
  (zbiq:K.lookup zan=some ⟨zib,zhy,.func (PySem.W.fnOf "leaving" "leaving" (aL jV) (aJ jV) (aB jV) .none zic zid zie zhz zif zig),zia⟩)
  (zbir:PySem.W.codeIn K zif "leaving" =true)
  (zbis:PySem.W.keepIn K (.ref zan)=true)
  (zbit:K.lookup zao=some ⟨zik,zih,.func (PySem.W.fnOf "coming" "coming" (aL lQ) (aJ lQ) (aB lQ) .none zil zim zin zii zio ziq),zij⟩)
  (zbiu:PySem.W.codeIn K zio "coming" =true)
  (zbiv:PySem.W.keepIn K (.ref zao)=true)
  (zbiw:K.lookup zap=some ⟨ziu,zir,.func (PySem.W.fnOf "there" "there" (aL nS) (aJ nS) (aB nS) .none ziv ziw zix zis ziy ziz),zit⟩)
  (zbix:PySem.W.codeIn K ziy "there" =true)
  (zbiy:PySem.W.keepIn K (.ref zap)=true)
  (zbiz:K.lookup zaq=some ⟨zjd,zja,.func (PySem.W.fnOf "most_through" "most_through" (aL eJ) (aJ eJ) (aB eJ) .none zje zjf zjg zjb zjh zji),zjc⟩)
  (zbja:PySem.W.codeIn K zjh "most_through" =true)
  (zbjb:PySem.W.keepIn K (.ref zaq)=true)
  (zbjc:K.lookup zar=some ⟨zjm,zjj,.func (PySem.W.fnOf "door_faults" "door_faults" (aL fH) (aJ fH) (aB fH) .none zjn zjo zjp zjk zjq zjr),zjl⟩)
  (zbjd:PySem.W.codeIn K zjq "door_faults" =true)
  (zbje:PySem.W.keepIn K (.ref zar)=true)
  (zbjf:K.lookup zas=some ⟨zjv,zjs,.func (PySem.W.fnOf "leave_faults" "leave_faults" (aL d5) (aJ d5) (aB d5) .none zjw zjx zjy zjt zjz zka),zju⟩)
  (zbjg:PySem.W.codeIn K zjz "leave_faults" =true)
  (zbjh:PySem.W.keepIn K (.ref zas)=true)
  (zbji:K.lookup zat=some ⟨zke,zkb,.func (PySem.W.fnOf "full_faults" "full_faults" (aL fK) (aJ fK) (aB fK) .none zkf zkg zkh zkc zki zkj),zkd⟩)
  (zbjj:PySem.W.codeIn K zki "full_faults" =true)
  (zbjk:PySem.W.keepIn K (.ref zat)=true)
  (zbjl:K.lookup zau=some ⟨zkn,zkk,.func (PySem.W.fnOf "faults" "faults" (aL lR) (aJ lR) (aB lR) .none zko zkp zkq zkl zkr zks),zkm⟩)
  (zbjm:PySem.W.codeIn K zkr "faults" =true)
  (zbjn:PySem.W.keepIn K (.ref zau)=true)
  (zbjo:K.lookup zav=some ⟨zkw,zkt,.func (PySem.W.fnOf "need_lawful" "need_lawful" (aL fI) (aJ fI) (aB fI) .none zkx zky zkz zku zla zlb),zkv⟩)
  (zbjp:PySem.W.codeIn K zla "need_lawful" =true)
  (zbjq:PySem.W.keepIn K (.ref zav)=true)
  (zbjr:K.lookup zaw=some ⟨zlf,zlc,.func (PySem.W.fnOf "out_by" "out_by" (aL lW) (aJ lW) (aB lW) .none zlg zlh zli zld zlj zlk),zle⟩)
  (zbjs:PySem.W.codeIn K zlj "out_by" =true)
  (zbjt:PySem.W.keepIn K (.ref zaw)=true)
  (zbju:K.lookup zax=some ⟨zlo,zll,.func (PySem.W.fnOf "place_of" "place_of" (aL j8) (aJ j8) (aB j8) .none zlp zlq zlr zlm zls zlt),zln⟩)
  (zbjv:PySem.W.codeIn K zls "place_of" =true)
  (zbjw:PySem.W.keepIn K (.ref zax)=true)
  (zbjx:K.lookup zay=some ⟨zlx,zlu,.func (PySem.W.fnOf "changed_door" "changed_door" (aL fS) (aJ fS) (aB fS) .none zly zlz zma zlv zmb zmc),zlw⟩)
  (zbjy:PySem.W.codeIn K zmb "changed_door" =true)
  (zbjz:PySem.W.keepIn K (.ref zay)=true)
  (zbka:K.lookup zaz=some ⟨zmg,zmd,.func (PySem.W.fnOf "doors_after" "doors_after" (aL gR) (aJ gR) (aB gR) .none zmh zmi zmj zme zmk zml),zmf⟩)
  (zbkb:PySem.W.codeIn K zmk "doors_after" =true)
  (zbkc:PySem.W.keepIn K (.ref zaz)=true)
  (zbkd:K.lookup zba=some ⟨zmp,zmm,.func (PySem.W.fnOf "anew" "anew" (aL oW) (aJ oW) (aB oW) (.ref zmv) zmq zmr zms zmn zmt zmu),zmo⟩)
  (zbke:PySem.W.codeIn K zmt "anew" =true)
  (zbkf:PySem.W.keepIn K (.ref zba)=true)
  (zbkg:K.lookup zmv=some ⟨zmw,zmx,.seq #[.none] zmy,zmz⟩)
  (zbkh:K.lookup zbb=some ⟨znd,zna,.func (PySem.W.fnOf "_law_cell_at" "_law_cell_at" (aL d7) (aJ d7) (aB d7) .none zne znf zng znb znh zni),znc⟩)
  (zbki:PySem.W.codeIn K znh "_law_cell_at" =true)
  (zbkj:PySem.W.keepIn K (.ref zbb)=true)
  (zbkk:K.lookup zbc=some ⟨znm,znj,.func (PySem.W.fnOf "_law_drawn" "_law_drawn" (aL fZ) (aJ fZ) (aB fZ) .none znn zno znp znk znq znr),znl⟩)
  (zbkl:PySem.W.codeIn K znq "_law_drawn" =true)
  (zbkm:PySem.W.keepIn K (.ref zbc)=true)
  (zbkn:K.lookup zbd=some ⟨znv,zns,.func (PySem.W.fnOf "_law_name" "_law_name" (aL g7) (aJ g7) (aB g7) .none znw znx zny znt znz zoa),znu⟩)
  (zbko:PySem.W.codeIn K znz "_law_name" =true)
  (zbkp:PySem.W.keepIn K (.ref zbd)=true)
  (zbkq:K.lookup zbe=some ⟨zoe,zob,.func (PySem.W.fnOf "_law_letting" "_law_letting" (aL cK) (aJ cK) (aB cK) .none zof zog zoh zoc zoi zoj),zod⟩)
  (zbkr:PySem.W.codeIn K zoi "_law_letting" =true)
  (zbks:PySem.W.keepIn K (.ref zbe)=true)
  (zbkt:K.lookup zbf=some ⟨zon,zok,.func (PySem.W.fnOf "_law_door" "_law_door" (aL hO) (aJ hO) (aB hO) .none zoo zop zoq zol zor zos),zom⟩)
  (zbku:PySem.W.codeIn K zor "_law_door" =true)
  (zbkv:PySem.W.keepIn K (.ref zbf)=true)
  (zbkw:K.lookup zbg=some ⟨zow,zot,.func (PySem.W.fnOf "_law_house" "_law_house" (aL fX) (aJ fX) (aB fX) .none zox zoy zoz zou zpa zpb),zov⟩)
  (zbkx:PySem.W.codeIn K zpa "_law_house" =true)
  (zbky:PySem.W.keepIn K (.ref zbg)=true)
  (zbkz:K.lookup zbh=some ⟨zpf,zpc,.func (PySem.W.fnOf "_law_excess" "_law_excess" (aL fF) (aJ fF) (aB fF) .none zpg zph zpi zpd zpj zpk),zpe⟩)
  (zbla:PySem.W.codeIn K zpj "_law_excess" =true)
  (zblb:PySem.W.keepIn K (.ref zbh)=true)
  (zblc:K.lookup zbi=some ⟨zpo,zpl,.func (PySem.W.fnOf "_law_numbers" "_law_numbers" (aL d6) (aJ d6) (aB d6) .none zpp zpq zpr zpm zps zpt),zpn⟩)
  (zbld:PySem.W.codeIn K zps "_law_numbers" =true)
  (zble:PySem.W.keepIn K (.ref zbi)=true)
  (zblf:K.lookup zbj=some ⟨zpx,zpu,.func (PySem.W.fnOf "_law_lawful" "_law_lawful" (aL fJ) (aJ fJ) (aB fJ) .none zpy zpz zqa zpv zqb zqc),zpw⟩)
  (zblg:PySem.W.codeIn K zqb "_law_lawful" =true)
  (zblh:PySem.W.keepIn K (.ref zbj)=true)
  (zbli:K.lookup zbk=some ⟨zqg,zqd,.func (PySem.W.fnOf "_law_told" "_law_told" (aL hJ) (aJ hJ) (aB hJ) .none zqh zqi zqj zqe zqk zql),zqf⟩)
  (zblj:PySem.W.codeIn K zqk "_law_told" =true)
  (zblk:PySem.W.keepIn K (.ref zbk)=true)
  (zbll:K.lookup zbl=some ⟨zqp,zqm,.func (PySem.W.fnOf "_law_right" "_law_right" (aL gI) (aJ gI) (aB gI) .none zqq zqr zqs zqn zqt zqu),zqo⟩)
  (zblm:PySem.W.codeIn K zqt "_law_right" =true)
  (zbln:PySem.W.keepIn K (.ref zbl)=true)
  (zblo:K.lookup zbm=some ⟨zqy,zqv,.func (PySem.W.fnOf "law" "law" (aL oR) (aJ oR) (aB oR) .none zqz zra zrb zqw zrc zrd),zqx⟩)
  (zblp:PySem.W.codeIn K zrc "law" =true)
  (zblq:PySem.W.keepIn K (.ref zbm)=true)
  (zblr:K.lookup zcd=some ⟨zrh,zre,.func (PySem.W.fnOf "__init__" "Door.__init__" (aL cP) (aJ cP) (aB cP) (.ref zrn) zri zrj zrk zrf zrl zrm),zrg⟩)
  (zbls:PySem.W.codeIn K zrl "Door.__init__" =true)
  (zblt:PySem.W.keepIn K (.ref zcd)=true)
  (zblu:K.lookup zrn=some ⟨zrp,zrq,.seq #[.none,.int 1 zro] zrr,zrs⟩)
  (zblv:K.lookup zce=some ⟨zrw,zrt,.func (PySem.W.fnOf "lets" "Door.lets" (aL hU) (aJ hU) (aB hU) .none zrx zry zrz zru zsa zsb),zrv⟩)
  (zblw:PySem.W.codeIn K zsa "Door.lets" =true)
  (zblx:PySem.W.keepIn K (.ref zce)=true)
  (zbly:K.lookup zcf=some ⟨zsf,zsc,.func (PySem.W.fnOf "is_exit" "Door.is_exit" (aL d4) (aJ d4) (aB d4) .none zsg zsh zsi zsd zsj zsk),zse⟩)
  (zblz:PySem.W.codeIn K zsj "Door.is_exit" =true)
  (zbma:PySem.W.keepIn K (.ref zcf)=true)
  (zbmb:K.lookup zcg=some ⟨zso,zsl,.func (PySem.W.fnOf "words" "Door.words" (aL iF) (aJ iF) (aB iF) .none zsp zsq zsr zsm zss zst),zsn⟩)
  (zbmc:PySem.W.codeIn K zss "Door.words" =true)
  (zbmd:PySem.W.keepIn K (.ref zcg)=true)
  (zbme:K.lookup zch=some ⟨zsx,zsu,.func (PySem.W.fnOf "__init__" "Since.__init__" (aL dM) (aJ dM) (aB dM) .none zsy zsz zta zsv ztb ztc),zsw⟩)
  (zbmf:PySem.W.codeIn K ztb "Since.__init__" =true)
  (zbmg:PySem.W.keepIn K (.ref zch)=true)
  (zbmh:K.lookup zci=some ⟨ztg,ztd,.func (PySem.W.fnOf "lets" "Since.lets" (aL fY) (aJ fY) (aB fY) .none zth zti ztj zte ztk ztl),ztf⟩)
  (zbmi:PySem.W.codeIn K ztk "Since.lets" =true)
  (zbmj:PySem.W.keepIn K (.ref zci)=true)
  (zbmk:K.lookup zcj=some ⟨ztp,ztm,.func (PySem.W.fnOf "words" "Since.words" (aL gQ) (aJ gQ) (aB gQ) .none ztq ztr zts ztn ztt ztu),zto⟩)
  (zbml:PySem.W.codeIn K ztt "Since.words" =true)
  (zbmm:PySem.W.keepIn K (.ref zcj)=true)
  (zbmn:K.lookup zck=some ⟨zty,ztv,.func (PySem.W.fnOf "__init__" "Until.__init__" (aL dL) (aJ dL) (aB dL) .none ztz zua zub ztw zuc zud),ztx⟩)
  (zbmo:PySem.W.codeIn K zuc "Until.__init__" =true)
  (zbmp:PySem.W.keepIn K (.ref zck)=true)
  (zbmq:K.lookup zcl=some ⟨zuh,zue,.func (PySem.W.fnOf "lets" "Until.lets" (aL gB) (aJ gB) (aB gB) .none zui zuj zuk zuf zul zum),zug⟩)
  (zbmr:PySem.W.codeIn K zul "Until.lets" =true)
  (zbms:PySem.W.keepIn K (.ref zcl)=true)
  (zbmt:K.lookup zcm=some ⟨zuq,zun,.func (PySem.W.fnOf "words" "Until.words" (aL gN) (aJ gN) (aB gN) .none zur zus zut zuo zuu zuv),zup⟩)
  (zbmu:PySem.W.codeIn K zuu "Until.words" =true)
  (zbmv:PySem.W.keepIn K (.ref zcm)=true)
  (zbmw:K.lookup zcn=some ⟨zuz,zuw,.func (PySem.W.fnOf "__init__" "Beat.__init__" (aL dE) (aJ dE) (aB dE) (.ref zvf) zva zvb zvc zux zvd zve),zuy⟩)
  (zbmx:PySem.W.codeIn K zvd "Beat.__init__" =true)
  (zbmy:PySem.W.keepIn K (.ref zcn)=true)
  (zbmz:K.lookup zvf=some ⟨zvh,zvi,.seq #[.int 0 zvg] zvj,zvk⟩)
  (zbna:K.lookup zco=some ⟨zvo,zvl,.func (PySem.W.fnOf "lets" "Beat.lets" (aL hZ) (aJ hZ) (aB hZ) .none zvp zvq zvr zvm zvs zvt),zvn⟩)
  (zbnb:PySem.W.codeIn K zvs "Beat.lets" =true)
  (zbnc:PySem.W.keepIn K (.ref zco)=true)
  (zbnd:K.lookup zcp=some ⟨zvx,zvu,.func (PySem.W.fnOf "words" "Beat.words" (aL iJ) (aJ iJ) (aB iJ) .none zvy zvz zwa zvv zwb zwc),zvw⟩)
  (zbne:PySem.W.codeIn K zwb "Beat.words" =true)
  (zbnf:PySem.W.keepIn K (.ref zcp)=true)
  (zbng:K.lookup zcq=some ⟨zwg,zwd,.func (PySem.W.fnOf "__init__" "Told.__init__" (aL dP) (aJ dP) (aB dP) .none zwh zwi zwj zwe zwk zwl),zwf⟩)
  (zbnh:PySem.W.codeIn K zwk "Told.__init__" =true)
  (zbni:PySem.W.keepIn K (.ref zcq)=true)
  (zbnj:K.lookup zcr=some ⟨zwp,zwm,.func (PySem.W.fnOf "lets" "Told.lets" (aL g8) (aJ g8) (aB g8) .none zwq zwr zws zwn zwt zwu),zwo⟩)
  (zbnk:PySem.W.codeIn K zwt "Told.lets" =true)
  (zbnl:PySem.W.keepIn K (.ref zcr)=true)
  (zbnm:K.lookup zcs=some ⟨zwy,zwv,.func (PySem.W.fnOf "words" "Told.words" (aL iM) (aJ iM) (aB iM) .none zwz zxa zxb zww zxc zxd),zwx⟩)
  (zbnn:PySem.W.codeIn K zxc "Told.words" =true)
  (zbno:PySem.W.keepIn K (.ref zcs)=true)
  (zbnp:K.lookup zct=some ⟨zxh,zxe,.func (PySem.W.fnOf "__init__" "Shut.__init__" (aL eX) (aJ eX) (aB eX) .none zxi zxj zxk zxf zxl zxm),zxg⟩)
  (zbnq:PySem.W.codeIn K zxl "Shut.__init__" =true)
  (zbnr:PySem.W.keepIn K (.ref zct)=true)
  (zbns:K.lookup zcu=some ⟨zxq,zxn,.func (PySem.W.fnOf "lets" "Shut.lets" (aL jB) (aJ jB) (aB jB) .none zxr zxs zxt zxo zxu zxv),zxp⟩)
  (zbnt:PySem.W.codeIn K zxu "Shut.lets" =true)
  (zbnu:PySem.W.keepIn K (.ref zcu)=true)
  (zbnv:K.lookup zcv=some ⟨zxz,zxw,.func (PySem.W.fnOf "words" "Shut.words" (aL iK) (aJ iK) (aB iK) .none zya zyb zyc zxx zyd zye),zxy⟩)
  (zbnw:PySem.W.codeIn K zyd "Shut.words" =true)
  (zbnx:PySem.W.keepIn K (.ref zcv)=true)
  (zbny:K.lookup zcw=some ⟨zyi,zyf,.func (PySem.W.fnOf "__init__" "Wider.__init__" (aL eG) (aJ eG) (aB eG) .none zyj zyk zyl zyg zym zyn),zyh⟩)
  (zbnz:PySem.W.codeIn K zym "Wider.__init__" =true)
  (zboa:PySem.W.keepIn K (.ref zcw)=true)
  (zbob:K.lookup zcx=some ⟨zyr,zyo,.func (PySem.W.fnOf "lets" "Wider.lets" (aL iD) (aJ iD) (aB iD) .none zys zyt zyu zyp zyv zyw),zyq⟩)
  (zboc:PySem.W.codeIn K zyv "Wider.lets" =true)
  (zbod:PySem.W.keepIn K (.ref zcx)=true)
  (zboe:K.lookup zcy=some ⟨zza,zyx,.func (PySem.W.fnOf "words" "Wider.words" (aL gO) (aJ gO) (aB gO) .none zzb zzc zzd zyy zze zzf),zyz⟩)
  (zbof:PySem.W.codeIn K zze "Wider.words" =true)
  (zbog:PySem.W.keepIn K (.ref zcy)=true)
  (zboh:K.lookup zcz=some ⟨zzj,zzg,.func (PySem.W.fnOf "__init__" "House.__init__" (aL cV) (aJ cV) (aB cV) (.ref zzp) zzk zzl zzm zzh zzn zzo),zzi⟩)
  (zboi:PySem.W.codeIn K zzn "House.__init__" =true)
  (zboj:PySem.W.keepIn K (.ref zcz)=true)
  (zbok:K.lookup zzp=some ⟨zzr,zzs,.seq #[.int 0 zzq] zzt,zzu⟩)
  (zbol:K.lookup zda=some ⟨zzy,zzv,.func (PySem.W.fnOf "rooms" "House.rooms" (aL fA) (aJ fA) (aB fA) .none zzz zbaa zbab zzw zbac zbad),zzx⟩)
  (zbom:PySem.W.codeIn K zbac "House.rooms" =true)
  (zbon:PySem.W.keepIn K (.ref zda)=true)
  (zboo:K.lookup zdb=some ⟨zbah,zbae,.func (PySem.W.fnOf "doors" "House.doors" (aL fG) (aJ fG) (aB fG) .none zbai zbaj zbak zbaf zbal zbam),zbag⟩)
  (zbop:PySem.W.codeIn K zbal "House.doors" =true)
  (zboq:PySem.W.keepIn K (.ref zdb)=true)
  (zbor:K.lookup zdc=some ⟨zbaq,zban,.func (PySem.W.fnOf "need_room" "House.need_room" (aL dB) (aJ dB) (aB dB) .none zbar zbas zbat zbao zbau zbav),zbap⟩)
  (zbos:PySem.W.codeIn K zbau "House.need_room" =true)
  (zbot:PySem.W.keepIn K (.ref zdc)=true)
  (zbou:K.lookup zdd=some ⟨zbaz,zbaw,.func (PySem.W.fnOf "holds" "House.holds" (aL fM) (aJ fM) (aB fM) .none zbba zbbb zbbc zbax zbbd zbbe),zbay⟩)
  (zbov:PySem.W.codeIn K zbbd "House.holds" =true)
  (zbow:PySem.W.keepIn K (.ref zdd)=true)
  (zbox:K.lookup zde=some ⟨zbbi,zbbf,.func (PySem.W.fnOf "found" "House.found" (aL fC) (aJ fC) (aB fC) .none zbbj zbbk zbbl zbbg zbbm zbbn),zbbh⟩)
  (zboy:PySem.W.codeIn K zbbm "House.found" =true)
  (zboz:PySem.W.keepIn K (.ref zde)=true)
  (zbpa:K.lookup zdf=some ⟨zbbr,zbbo,.func (PySem.W.fnOf "into" "House.into" (aL gG) (aJ gG) (aB gG) .none zbbs zbbt zbbu zbbp zbbv zbbw),zbbq⟩)
  (zbpb:PySem.W.codeIn K zbbv "House.into" =true)
  (zbpc:PySem.W.keepIn K (.ref zdf)=true)
  (zbpd:K.lookup zdg=some ⟨zbca,zbbx,.func (PySem.W.fnOf "from_room" "House.from_room" (aL dA) (aJ dA) (aB dA) .none zbcb zbcc zbcd zbby zbce zbcf),zbbz⟩)
  (zbpe:PySem.W.codeIn K zbce "House.from_room" =true)
  (zbpf:PySem.W.keepIn K (.ref zdg)=true)
  (zbpg:K.lookup zdh=some ⟨zbcj,zbcg,.func (PySem.W.fnOf "door" "House.door" (aL fW) (aJ fW) (aB fW) .none zbck zbcl zbcm zbch zbcn zbco),zbci⟩)
  (zbph:PySem.W.codeIn K zbcn "House.door" =true)
  (zbpi:PySem.W.keepIn K (.ref zdh)=true)
  (zbpj:K.lookup zdi=some ⟨zbcs,zbcp,.func (PySem.W.fnOf "lets" "House.lets" (aL gD) (aJ gD) (aB gD) .none zbct zbcu zbcv zbcq zbcw zbcx),zbcr⟩)
  (zbpk:PySem.W.codeIn K zbcw "House.lets" =true)
  (zbpl:PySem.W.keepIn K (.ref zdi)=true)
  (zbpm:K.lookup zdj=some ⟨zbdb,zbcy,.func (PySem.W.fnOf "total" "House.total" (aL fB) (aJ fB) (aB fB) .none zbdc zbdd zbde zbcz zbdf zbdg),zbda⟩)
  (zbpn:PySem.W.codeIn K zbdf "House.total" =true)
  (zbpo:PySem.W.keepIn K (.ref zdj)=true)
  (zbpp:K.lookup zdk=some ⟨zbdk,zbdh,.func (PySem.W.fnOf "pairs" "House.pairs" (aL fD) (aJ fD) (aB fD) .none zbdl zbdm zbdn zbdi zbdo zbdp),zbdj⟩)
  (zbpq:PySem.W.codeIn K zbdo "House.pairs" =true)
  (zbpr:PySem.W.keepIn K (.ref zdk)=true)
  (zbps:PySem.W.plainGet K zbn Str.empty=true)
  (zbpt:PySem.W.hasDictIn K zbn=true)
  (zbpu:PySem.W.plainOver K zbn=true)
  (zbpv:PySem.W.findIn K (.ref zbn) "__setattr__" =some (some (.builtin "object.__setattr__")))
  (zbpw:PySem.W.makesIn K zbn=true)
  (zbpx:PySem.W.keepIn K (.ref zbn)=true)
  (zbpy:PySem.W.findIn K (.ref zbn) "__class__" =some (some (.builtin "object.__class__")))
  (zbpz:PySem.W.mroIn K zbn (.type "object")=some true)
  (zbqa:PySem.W.findIn K (.ref zbn) "name" =some none)
  (zbqb:PySem.W.findIn K (.ref zbn) "start" =some none)
  (zbqc:PySem.W.findIn K (.ref zbn) "end" =some none)
  (zbqd:PySem.W.findIn K (.ref zbn) "wide" =some none)
  (zbqe:PySem.W.findIn K (.ref zbn) "since" =some none)
  (zbqf:PySem.W.findIn K (.ref zbn) "until" =some none)
  (zbqg:PySem.W.findIn K (.ref zbn) "every" =some none)
  (zbqh:PySem.W.findIn K (.ref zbn) "letting" =some none)
  (zbqi:PySem.W.findIn K (.ref zbn) "inner" =some none)
  (zbqj:PySem.W.findIn K (.ref zbn) "turn" =some none)
  (zbqk:PySem.W.findIn K (.ref zbn) "more" =some none)
  (zbql:PySem.W.findIn K (.ref zbn) "first" =some none)
  (zbqm:PySem.W.findIn K (.ref zbn) "last" =some none)
  (zbqn:PySem.W.findIn K (.ref zbn) "sizes" =some none)
  (zbqo:PySem.W.findIn K (.ref zbn) "people" =some none)
  (zbqp:PySem.W.findIn K (.ref zbn) "named_doors" =some none)
  (zbqq:PySem.W.findIn K (.ref zbn) "__init__" =some (some (.ref zcd)))
  (zbqr:PySem.W.isFn K (.ref zcd)=true)
  (zbqs:PySem.W.findIn K (.ref zbn) "lets" =some (some (.ref zce)))
  (zbqt:PySem.W.isFn K (.ref zce)=true)
  (zbqu:PySem.W.findIn K (.ref zbn) "is_exit" =some (some (.ref zcf)))
  (zbqv:PySem.W.isFn K (.ref zcf)=true)
  (zbqw:PySem.W.findIn K (.ref zbn) "words" =some (some (.ref zcg)))
  (zbqx:PySem.W.isFn K (.ref zcg)=true)
  (zbqy:PySem.W.plainGet K zbo Str.empty=true)
  (zbqz:PySem.W.hasDictIn K zbo=true)
  (zbra:PySem.W.plainOver K zbo=true)
  (zbrb:PySem.W.findIn K (.ref zbo) "__setattr__" =some (some (.builtin "object.__setattr__")))
  (zbrc:PySem.W.makesIn K zbo=true)
  (zbrd:PySem.W.keepIn K (.ref zbo)=true)
  (zbre:PySem.W.findIn K (.ref zbo) "__class__" =some (some (.builtin "object.__class__")))
  (zbrf:PySem.W.mroIn K zbo (.type "object")=some true)
  (zbrg:PySem.W.findIn K (.ref zbo) "name" =some none)
  (zbrh:PySem.W.findIn K (.ref zbo) "start" =some none)
  (zbri:PySem.W.findIn K (.ref zbo) "end" =some none)
  (zbrj:PySem.W.findIn K (.ref zbo) "wide" =some none)
  (zbrk:PySem.W.findIn K (.ref zbo) "since" =some none)
  (zbrl:PySem.W.findIn K (.ref zbo) "until" =some none)
  (zbrm:PySem.W.findIn K (.ref zbo) "every" =some none)
  (zbrn:PySem.W.findIn K (.ref zbo) "letting" =some none)
  (zbro:PySem.W.findIn K (.ref zbo) "inner" =some none)
  (zbrp:PySem.W.findIn K (.ref zbo) "turn" =some none)
  (zbrq:PySem.W.findIn K (.ref zbo) "more" =some none)
  (zbrr:PySem.W.findIn K (.ref zbo) "first" =some none)
  (zbrs:PySem.W.findIn K (.ref zbo) "last" =some none)
  (zbrt:PySem.W.findIn K (.ref zbo) "sizes" =some none)
  (zbru:PySem.W.findIn K (.ref zbo) "people" =some none)
  (zbrv:PySem.W.findIn K (.ref zbo) "named_doors" =some none)
  (zbrw:PySem.W.findIn K (.ref zbo) "__init__" =some (some (.ref zch)))
  (zbrx:PySem.W.isFn K (.ref zch)=true)
  (zbry:PySem.W.findIn K (.ref zbo) "lets" =some (some (.ref zci)))
  (zbrz:PySem.W.isFn K (.ref zci)=true)
  (zbsa:PySem.W.findIn K (.ref zbo) "words" =some (some (.ref zcj)))
  (zbsb:PySem.W.isFn K (.ref zcj)=true)
  (zbsc:PySem.W.findIn K (.ref zbo) "is_exit" =some (some (.ref zcf)))
  (zbsd:PySem.W.isFn K (.ref zcf)=true)
  (zbse:PySem.W.plainGet K zbp Str.empty=true)
  (zbsf:PySem.W.hasDictIn K zbp=true)
  (zbsg:PySem.W.plainOver K zbp=true)
  (zbsh:PySem.W.findIn K (.ref zbp) "__setattr__" =some (some (.builtin "object.__setattr__")))
  (zbsi:PySem.W.makesIn K zbp=true)
  (zbsj:PySem.W.keepIn K (.ref zbp)=true)
  (zbsk:PySem.W.findIn K (.ref zbp) "__class__" =some (some (.builtin "object.__class__")))
  (zbsl:PySem.W.mroIn K zbp (.type "object")=some true)
  (zbsm:PySem.W.findIn K (.ref zbp) "name" =some none)
  (zbsn:PySem.W.findIn K (.ref zbp) "start" =some none)
  (zbso:PySem.W.findIn K (.ref zbp) "end" =some none)
  (zbsp:PySem.W.findIn K (.ref zbp) "wide" =some none)
  (zbsq:PySem.W.findIn K (.ref zbp) "since" =some none)
  (zbsr:PySem.W.findIn K (.ref zbp) "until" =some none)
  (zbss:PySem.W.findIn K (.ref zbp) "every" =some none)
  (zbst:PySem.W.findIn K (.ref zbp) "letting" =some none)
  (zbsu:PySem.W.findIn K (.ref zbp) "inner" =some none)
  (zbsv:PySem.W.findIn K (.ref zbp) "turn" =some none)
  (zbsw:PySem.W.findIn K (.ref zbp) "more" =some none)
  (zbsx:PySem.W.findIn K (.ref zbp) "first" =some none)
  (zbsy:PySem.W.findIn K (.ref zbp) "last" =some none)
  (zbsz:PySem.W.findIn K (.ref zbp) "sizes" =some none)
  (zbta:PySem.W.findIn K (.ref zbp) "people" =some none)
  (zbtb:PySem.W.findIn K (.ref zbp) "named_doors" =some none)
  (zbtc:PySem.W.findIn K (.ref zbp) "__init__" =some (some (.ref zck)))
  (zbtd:PySem.W.isFn K (.ref zck)=true)
  (zbte:PySem.W.findIn K (.ref zbp) "lets" =some (some (.ref zcl)))
  (zbtf:PySem.W.isFn K (.ref zcl)=true)
  (zbtg:PySem.W.findIn K (.ref zbp) "words" =some (some (.ref zcm)))
  (zbth:PySem.W.isFn K (.ref zcm)=true)
  (zbti:PySem.W.findIn K (.ref zbp) "is_exit" =some (some (.ref zcf)))
  (zbtj:PySem.W.isFn K (.ref zcf)=true)
  (zbtk:PySem.W.plainGet K zbq Str.empty=true)
  (zbtl:PySem.W.hasDictIn K zbq=true)
  (zbtm:PySem.W.plainOver K zbq=true)
  (zbtn:PySem.W.findIn K (.ref zbq) "__setattr__" =some (some (.builtin "object.__setattr__")))
  (zbto:PySem.W.makesIn K zbq=true)
  (zbtp:PySem.W.keepIn K (.ref zbq)=true)
  (zbtq:PySem.W.findIn K (.ref zbq) "__class__" =some (some (.builtin "object.__class__")))
  (zbtr:PySem.W.mroIn K zbq (.type "object")=some true)
  (zbts:PySem.W.findIn K (.ref zbq) "name" =some none)
  (zbtt:PySem.W.findIn K (.ref zbq) "start" =some none)
  (zbtu:PySem.W.findIn K (.ref zbq) "end" =some none)
  (zbtv:PySem.W.findIn K (.ref zbq) "wide" =some none)
  (zbtw:PySem.W.findIn K (.ref zbq) "since" =some none)
  (zbtx:PySem.W.findIn K (.ref zbq) "until" =some none)
  (zbty:PySem.W.findIn K (.ref zbq) "every" =some none)
  (zbtz:PySem.W.findIn K (.ref zbq) "letting" =some none)
  (zbua:PySem.W.findIn K (.ref zbq) "inner" =some none)
  (zbub:PySem.W.findIn K (.ref zbq) "turn" =some none)
  (zbuc:PySem.W.findIn K (.ref zbq) "more" =some none)
  (zbud:PySem.W.findIn K (.ref zbq) "first" =some none)
  (zbue:PySem.W.findIn K (.ref zbq) "last" =some none)
  (zbuf:PySem.W.findIn K (.ref zbq) "sizes" =some none)
  (zbug:PySem.W.findIn K (.ref zbq) "people" =some none)
  (zbuh:PySem.W.findIn K (.ref zbq) "named_doors" =some none)
  (zbui:PySem.W.findIn K (.ref zbq) "__init__" =some (some (.ref zcn)))
  (zbuj:PySem.W.isFn K (.ref zcn)=true)
  (zbuk:PySem.W.findIn K (.ref zbq) "lets" =some (some (.ref zco)))
  (zbul:PySem.W.isFn K (.ref zco)=true)
  (zbum:PySem.W.findIn K (.ref zbq) "words" =some (some (.ref zcp)))
  (zbun:PySem.W.isFn K (.ref zcp)=true)
  (zbuo:PySem.W.findIn K (.ref zbq) "is_exit" =some (some (.ref zcf)))
  (zbup:PySem.W.isFn K (.ref zcf)=true)
  (zbuq:PySem.W.plainGet K zbr Str.empty=true)
  (zbur:PySem.W.hasDictIn K zbr=true)
  (zbus:PySem.W.plainOver K zbr=true)
  (zbut:PySem.W.findIn K (.ref zbr) "__setattr__" =some (some (.builtin "object.__setattr__")))
  (zbuu:PySem.W.makesIn K zbr=true)
  (zbuv:PySem.W.keepIn K (.ref zbr)=true)
  (zbuw:PySem.W.findIn K (.ref zbr) "__class__" =some (some (.builtin "object.__class__")))
  (zbux:PySem.W.mroIn K zbr (.type "object")=some true)
  (zbuy:PySem.W.findIn K (.ref zbr) "name" =some none)
  (zbuz:PySem.W.findIn K (.ref zbr) "start" =some none)
  (zbva:PySem.W.findIn K (.ref zbr) "end" =some none)
  (zbvb:PySem.W.findIn K (.ref zbr) "wide" =some none)
  (zbvc:PySem.W.findIn K (.ref zbr) "since" =some none)
  (zbvd:PySem.W.findIn K (.ref zbr) "until" =some none)
  (zbve:PySem.W.findIn K (.ref zbr) "every" =some none)
  (zbvf:PySem.W.findIn K (.ref zbr) "letting" =some none)
  (zbvg:PySem.W.findIn K (.ref zbr) "inner" =some none)
  (zbvh:PySem.W.findIn K (.ref zbr) "turn" =some none)
  (zbvi:PySem.W.findIn K (.ref zbr) "more" =some none)
  (zbvj:PySem.W.findIn K (.ref zbr) "first" =some none)
  (zbvk:PySem.W.findIn K (.ref zbr) "last" =some none)
  (zbvl:PySem.W.findIn K (.ref zbr) "sizes" =some none)
  (zbvm:PySem.W.findIn K (.ref zbr) "people" =some none)
  (zbvn:PySem.W.findIn K (.ref zbr) "named_doors" =some none)
  (zbvo:PySem.W.findIn K (.ref zbr) "__init__" =some (some (.ref zcq)))
  (zbvp:PySem.W.isFn K (.ref zcq)=true)
  (zbvq:PySem.W.findIn K (.ref zbr) "lets" =some (some (.ref zcr)))
  (zbvr:PySem.W.isFn K (.ref zcr)=true)
  (zbvs:PySem.W.findIn K (.ref zbr) "words" =some (some (.ref zcs)))
  (zbvt:PySem.W.isFn K (.ref zcs)=true)
  (zbvu:PySem.W.findIn K (.ref zbr) "is_exit" =some (some (.ref zcf)))
  (zbvv:PySem.W.isFn K (.ref zcf)=true)
  (zbvw:PySem.W.plainGet K zbs Str.empty=true)
  (zbvx:PySem.W.hasDictIn K zbs=true)
  (zbvy:PySem.W.plainOver K zbs=true)
  (zbvz:PySem.W.findIn K (.ref zbs) "__setattr__" =some (some (.builtin "object.__setattr__")))
  (zbwa:PySem.W.makesIn K zbs=true)
  (zbwb:PySem.W.keepIn K (.ref zbs)=true)
  (zbwc:PySem.W.findIn K (.ref zbs) "__class__" =some (some (.builtin "object.__class__")))
  (zbwd:PySem.W.mroIn K zbs (.type "object")=some true)
  (zbwe:PySem.W.findIn K (.ref zbs) "name" =some none)
  (zbwf:PySem.W.findIn K (.ref zbs) "start" =some none)
  (zbwg:PySem.W.findIn K (.ref zbs) "end" =some none)
  (zbwh:PySem.W.findIn K (.ref zbs) "wide" =some none)
  (zbwi:PySem.W.findIn K (.ref zbs) "since" =some none)
  (zbwj:PySem.W.findIn K (.ref zbs) "until" =some none)
  (zbwk:PySem.W.findIn K (.ref zbs) "every" =some none)
  (zbwl:PySem.W.findIn K (.ref zbs) "letting" =some none)
  (zbwm:PySem.W.findIn K (.ref zbs) "inner" =some none)
  (zbwn:PySem.W.findIn K (.ref zbs) "turn" =some none)
  (zbwo:PySem.W.findIn K (.ref zbs) "more" =some none)
  (zbwp:PySem.W.findIn K (.ref zbs) "first" =some none)
  (zbwq:PySem.W.findIn K (.ref zbs) "last" =some none)
  (zbwr:PySem.W.findIn K (.ref zbs) "sizes" =some none)
  (zbws:PySem.W.findIn K (.ref zbs) "people" =some none)
  (zbwt:PySem.W.findIn K (.ref zbs) "named_doors" =some none)
  (zbwu:PySem.W.findIn K (.ref zbs) "__init__" =some (some (.ref zct)))
  (zbwv:PySem.W.isFn K (.ref zct)=true)
  (zbww:PySem.W.findIn K (.ref zbs) "lets" =some (some (.ref zcu)))
  (zbwx:PySem.W.isFn K (.ref zcu)=true)
  (zbwy:PySem.W.findIn K (.ref zbs) "words" =some (some (.ref zcv)))
  (zbwz:PySem.W.isFn K (.ref zcv)=true)
  (zbxa:PySem.W.findIn K (.ref zbs) "is_exit" =some (some (.ref zcf)))
  (zbxb:PySem.W.isFn K (.ref zcf)=true)
  (zbxc:PySem.W.plainGet K zbt Str.empty=true)
  (zbxd:PySem.W.hasDictIn K zbt=true)
  (zbxe:PySem.W.plainOver K zbt=true)
  (zbxf:PySem.W.findIn K (.ref zbt) "__setattr__" =some (some (.builtin "object.__setattr__")))
  (zbxg:PySem.W.makesIn K zbt=true)
  (zbxh:PySem.W.keepIn K (.ref zbt)=true)
  (zbxi:PySem.W.findIn K (.ref zbt) "__class__" =some (some (.builtin "object.__class__")))
  (zbxj:PySem.W.mroIn K zbt (.type "object")=some true)
  (zbxk:PySem.W.findIn K (.ref zbt) "name" =some none)
  (zbxl:PySem.W.findIn K (.ref zbt) "start" =some none)
  (zbxm:PySem.W.findIn K (.ref zbt) "end" =some none)
  (zbxn:PySem.W.findIn K (.ref zbt) "wide" =some none)
  (zbxo:PySem.W.findIn K (.ref zbt) "since" =some none)
  (zbxp:PySem.W.findIn K (.ref zbt) "until" =some none)
  (zbxq:PySem.W.findIn K (.ref zbt) "every" =some none)
  (zbxr:PySem.W.findIn K (.ref zbt) "letting" =some none)
  (zbxs:PySem.W.findIn K (.ref zbt) "inner" =some none)
  (zbxt:PySem.W.findIn K (.ref zbt) "turn" =some none)
  (zbxu:PySem.W.findIn K (.ref zbt) "more" =some none)
  (zbxv:PySem.W.findIn K (.ref zbt) "first" =some none)
  (zbxw:PySem.W.findIn K (.ref zbt) "last" =some none)
  (zbxx:PySem.W.findIn K (.ref zbt) "sizes" =some none)
  (zbxy:PySem.W.findIn K (.ref zbt) "people" =some none)
  (zbxz:PySem.W.findIn K (.ref zbt) "named_doors" =some none)
  (zbya:PySem.W.findIn K (.ref zbt) "__init__" =some (some (.ref zcw)))
  (zbyb:PySem.W.isFn K (.ref zcw)=true)
  (zbyc:PySem.W.findIn K (.ref zbt) "lets" =some (some (.ref zcx)))
  (zbyd:PySem.W.isFn K (.ref zcx)=true)
  (zbye:PySem.W.findIn K (.ref zbt) "words" =some (some (.ref zcy)))
  (zbyf:PySem.W.isFn K (.ref zcy)=true)
  (zbyg:PySem.W.findIn K (.ref zbt) "is_exit" =some (some (.ref zcf)))
  (zbyh:PySem.W.isFn K (.ref zcf)=true)
  (zbyi:PySem.W.plainGet K zbu Str.empty=true)
  (zbyj:PySem.W.hasDictIn K zbu=true)
  (zbyk:PySem.W.plainOver K zbu=true)
  (zbyl:PySem.W.findIn K (.ref zbu) "__setattr__" =some (some (.builtin "object.__setattr__")))
  (zbym:PySem.W.makesIn K zbu=true)
  (zbyn:PySem.W.keepIn K (.ref zbu)=true)
  (zbyo:PySem.W.findIn K (.ref zbu) "__class__" =some (some (.builtin "object.__class__")))
  (zbyp:PySem.W.mroIn K zbu (.type "object")=some true)
  (zbyq:PySem.W.findIn K (.ref zbu) "name" =some none)
  (zbyr:PySem.W.findIn K (.ref zbu) "start" =some none)
  (zbys:PySem.W.findIn K (.ref zbu) "end" =some none)
  (zbyt:PySem.W.findIn K (.ref zbu) "wide" =some none)
  (zbyu:PySem.W.findIn K (.ref zbu) "since" =some none)
  (zbyv:PySem.W.findIn K (.ref zbu) "until" =some none)
  (zbyw:PySem.W.findIn K (.ref zbu) "every" =some none)
  (zbyx:PySem.W.findIn K (.ref zbu) "letting" =some none)
  (zbyy:PySem.W.findIn K (.ref zbu) "inner" =some none)
  (zbyz:PySem.W.findIn K (.ref zbu) "turn" =some none)
  (zbza:PySem.W.findIn K (.ref zbu) "more" =some none)
  (zbzb:PySem.W.findIn K (.ref zbu) "first" =some none)
  (zbzc:PySem.W.findIn K (.ref zbu) "last" =some none)
  (zbzd:PySem.W.findIn K (.ref zbu) "sizes" =some none)
  (zbze:PySem.W.findIn K (.ref zbu) "people" =some none)
  (zbzf:PySem.W.findIn K (.ref zbu) "named_doors" =some none)
  (zbzg:PySem.W.findIn K (.ref zbu) "__init__" =some (some (.ref zcz)))
  (zbzh:PySem.W.isFn K (.ref zcz)=true)
  (zbzi:PySem.W.findIn K (.ref zbu) "rooms" =some (some (.ref zda)))
  (zbzj:PySem.W.isFn K (.ref zda)=true)
  (zbzk:PySem.W.findIn K (.ref zbu) "doors" =some (some (.ref zdb)))
  (zbzl:PySem.W.isFn K (.ref zdb)=true)
  (zbzm:PySem.W.findIn K (.ref zbu) "need_room" =some (some (.ref zdc)))
  (zbzn:PySem.W.isFn K (.ref zdc)=true)
  (zbzo:PySem.W.findIn K (.ref zbu) "holds" =some (some (.ref zdd)))
  (zbzp:PySem.W.isFn K (.ref zdd)=true)
  (zbzq:PySem.W.findIn K (.ref zbu) "found" =some (some (.ref zde)))
  (zbzr:PySem.W.isFn K (.ref zde)=true)
  (zbzs:PySem.W.findIn K (.ref zbu) "into" =some (some (.ref zdf)))
  (zbzt:PySem.W.isFn K (.ref zdf)=true)
  (zbzu:PySem.W.findIn K (.ref zbu) "from_room" =some (some (.ref zdg)))
  (zbzv:PySem.W.isFn K (.ref zdg)=true)
  (zbzw:PySem.W.findIn K (.ref zbu) "door" =some (some (.ref zdh)))
  (zbzx:PySem.W.isFn K (.ref zdh)=true)
  (zbzy:PySem.W.findIn K (.ref zbu) "lets" =some (some (.ref zdi)))
  (zbzz:PySem.W.isFn K (.ref zdi)=true)
  (zcaa:PySem.W.findIn K (.ref zbu) "total" =some (some (.ref zdj)))
  (zcab:PySem.W.isFn K (.ref zdj)=true)
  (zcac:PySem.W.findIn K (.ref zbu) "pairs" =some (some (.ref zdk)))
  (zcad:PySem.W.isFn K (.ref zdk)=true)
  (zcae:PySem.W.specialIn K (.builtin "object.__class__") "__get__" =some (some (.builtin "getset_descriptor.__get__")))
  (zcaf:PySem.W.takesIn K (.builtin "object.__class__")=some true)
  (zcag:PySem.W.specialIn K (.ref zbn) "__getattribute__" =some (some (.builtin "type.__getattribute__")))
  (zcah:PySem.W.readsIn K zbn (.type "type")=true)
  (zcai:PySem.W.findCls K (.ref zbn) (.type "type") "__init__" =some (.val (.ref zcd)))
  (zcaj:PySem.W.clsIn K zbu=some zbdq)
  (zcak:PySem.W.typeIn K (.ref zbu)=some (.type "type"))
  (zcal:PySem.W.nsIn K mainGlobals "ValueError" =some none)
  (zcam:PySem.W.nsIn K mainGlobals "any" =some none)
  (zcan:PySem.W.nsIn K mainGlobals "sorted" =some none)
  (zcao:PySem.W.nsIn K mainGlobals "sum" =some none)
  (zcap:PySem.W.nsIn K mainGlobals "range" =some none)
  (zcaq:PySem.W.nsIn K mainGlobals "dict" =some none)
  (zcar:PySem.W.nsIn K mainGlobals "list" =some none)
  (zcas:PySem.W.nsIn K mainGlobals "isinstance" =some none)
  (zcat:PySem.W.nsIn K mainGlobals "int" =some none)
  (zcau:PySem.W.nsIn K mainGlobals "str" =some none)
  (zcav:PySem.W.nsIn K mainGlobals "all" =some none)
  (zcaw:PySem.W.nsIn K mainGlobals "len" =some none)
  (zcax:PySem.W.nsIn K mainGlobals "max" =some none)
  (zcay:PySem.W.nsIn K mainGlobals "min" =some none)
  (zcaz:PySem.W.nsIn K mainGlobals "bool" =some none)
  (zcba:PySem.W.nsIn K mainGlobals "LONGEST_NAME" =some (some (.int 8 zbdr))) :
  ∃(fd:FuncData) (f2:Addr) (fd2:FuncData),mg "_law_letting" =some (.ref f2)/\(∃oc od osl,K.lookup f2=some ⟨oc,od,.func fd2,osl⟩)/\(∀(s:Shared) (v:Value),BindsTo s fd ⟨[v],[]⟩ [("_law_script",v)])/\∀(zcbb:Heap) (cL PL:Addr),fd2.code= .ref cL->PySem.W.CodeHd zcbb cL PL->zcbb.BuiltinsAt mg PL->FnOk l.prog w K mg zcbb CX0 20 fa fd ["_law_script"] (xB K PL):=by
 have e:=hfa.symm.trans (PySem.W.mg_of X G zbfe);cases e;have zcbc:=aP (st:=rB) zbhd zbhe zbhf;have zcbd:=aR (K:=K) (x:= "_wall") (qual:= "_wall") (st:=rB) (kV:=zdp) (doc:=zdq) (pm:=zdr) (an:=zdm) (cdv:=zds) (ct:=zdt) (ps:=["k"])<|aM 1 _ fun _=>rfl
 have zcbe:=aP (st:=iX) zbhg zbhh zbhi;have zcbf:=aR (K:=K) (x:= "is_whole") (qual:= "is_whole") (st:=iX) (kV:=zdy) (doc:=zdz) (pm:=zea) (an:=zdv) (cdv:=zeb) (ct:=zec) (ps:=["thing"])<|aM 1 _ fun _=>rfl
 have zcbg:=aP (st:=j5) zbhj zbhk zbhl;have zcbh:=aR (K:=K) (x:= "is_name") (qual:= "is_name") (st:=j5) (kV:=zeh) (doc:=zei) (pm:=zej) (an:=zee) (cdv:=zek) (ct:=zel) (ps:=["thing"])<|aM 1 _ fun _=>rfl
 have zcbi:=aP (st:=hV) zbhm zbhn zbho;have zcbj:=aR (K:=K) (x:= "need_name") (qual:= "need_name") (st:=hV) (kV:=zeq) (doc:=zer) (pm:=zes) (an:=zen) (cdv:=zet) (ct:=zeu) (ps:=["part","thing"])<|aM 2 _ fun _ _=>rfl
 have zcbk:=aP (st:=f9) zbhp zbhq zbhr;have zcbl:=aR (K:=K) (x:= "need_whole") (qual:= "need_whole") (st:=f9) (kV:=zez) (doc:=zfa) (pm:=zfb) (an:=zew) (cdv:=zfc) (ct:=zfd) (ps:=["part","thing","least"])<|aM 3 _ fun _ _ _=>rfl
 have zcbm:=aP (st:=fV) zbhs zbht zbhu;have zcbn:=aR (K:=K) (x:= "need_turns") (qual:= "need_turns") (st:=fV) (kV:=zfi) (doc:=zfj) (pm:=zfk) (an:=zff) (cdv:=zfl) (ct:=zfm) (ps:=["first","last"])<|aM 2 _ fun _ _=>rfl
 have zcbo:=aP (st:=dJ) zbhv zbhw zbhx;have zcbp:=aR (K:=K) (x:= "need_each_once") (qual:= "need_each_once") (st:=dJ) (kV:=zfr) (doc:=zfs) (pm:=zft) (an:=zfo) (cdv:=zfu) (ct:=zfv) (ps:=["names"])<|aM 1 _ fun _=>rfl
 have zcbq:=aP (st:=c8) zbhy zbhz zbia;have zcbr:=aR (K:=K) (x:= "rooms_spoken_of") (qual:= "rooms_spoken_of") (st:=c8) (kV:=zga) (doc:=zgb) (pm:=zgc) (an:=zfx) (cdv:=zgd) (ct:=zge) (ps:=["doors","people"])<|aM 2 _ fun _ _=>rfl
 have zcbs:=aP (st:=gA) zbib zbic zbid;have zcbt:=aR (K:=K) (x:= "need_rooms") (qual:= "need_rooms") (st:=gA) (kV:=zgj) (doc:=zgk) (pm:=zgl) (an:=zgg) (cdv:=zgm) (ct:=zgn) (ps:=["names","sizes"])<|aM 2 _ fun _ _=>rfl
 have zcbu:=aP (st:=eK) zbie zbif zbig;have zcbv:=aR (K:=K) (x:= "added_people") (qual:= "added_people") (st:=eK) (kV:=zgs) (doc:=zgt) (pm:=zgu) (an:=zgp) (cdv:=zgv) (ct:=zgw) (ps:=["sizes","people"])<|aM 2 _ fun _ _=>rfl
 have zcbw:=aP (st:=gE) zbih zbii zbij;have zcbx:=aR (K:=K) (x:= "need_space") (qual:= "need_space") (st:=gE) (kV:=zhb) (doc:=zhc) (pm:=zhd) (an:=zgy) (cdv:=zhe) (ct:=zhf) (ps:=["sizes","people"])<|aM 2 _ fun _ _=>rfl
 have zcby:=aP (st:=iW) zbik zbil zbim;have zcbz:=aR (K:=K) (x:= "added_up") (qual:= "added_up") (st:=iW) (kV:=zhk) (doc:=zhl) (pm:=zhm) (an:=zhh) (cdv:=zhn) (ct:=zho) (ps:=["plan"])<|aM 1 _ fun _=>rfl
 have zcca:=aP (st:=dC) zbin zbio zbip;have zccb:=aR (K:=K) (x:= "rows_that_count") (qual:= "rows_that_count") (st:=dC) (kV:=zht) (doc:=zhu) (pm:=zhv) (an:=zhq) (cdv:=zhw) (ct:=zhx) (ps:=["house","plan"])<|aM 2 _ fun _ _=>rfl
 have zccc:=aP (st:=jV) zbiq zbir zbis;have zccd:=aR (K:=K) (x:= "leaving") (qual:= "leaving") (st:=jV) (kV:=zic) (doc:=zid) (pm:=zie) (an:=zhz) (cdv:=zif) (ct:=zig) (ps:=["house","plan"])<|aM 2 _ fun _ _=>rfl
 have zcce:=aP (st:=lQ) zbit zbiu zbiv;have zccf:=aR (K:=K) (x:= "coming") (qual:= "coming") (st:=lQ) (kV:=zil) (doc:=zim) (pm:=zin) (an:=zii) (cdv:=zio) (ct:=ziq) (ps:=["house","plan"])<|aM 2 _ fun _ _=>rfl
 have zccg:=aP (st:=nS) zbiw zbix zbiy;have zcch:=aR (K:=K) (x:= "there") (qual:= "there") (st:=nS) (kV:=ziv) (doc:=ziw) (pm:=zix) (an:=zis) (cdv:=ziy) (ct:=ziz) (ps:=["house","plan"])<|aM 2 _ fun _ _=>rfl
 have zcci:=aP (st:=eJ) zbiz zbja zbjb;have zccj:=aR (K:=K) (x:= "most_through") (qual:= "most_through") (st:=eJ) (kV:=zje) (doc:=zjf) (pm:=zjg) (an:=zjb) (cdv:=zjh) (ct:=zji) (ps:=["house","turn","name"])<|aM 3 _ fun _ _ _=>rfl
 have zcck:=aP (st:=fH) zbjc zbjd zbje;have zccl:=aR (K:=K) (x:= "door_faults") (qual:= "door_faults") (st:=fH) (kV:=zjn) (doc:=zjo) (pm:=zjp) (an:=zjk) (cdv:=zjq) (ct:=zjr) (ps:=["house","plan"])<|aM 2 _ fun _ _=>rfl
 have zccm:=aP (st:=d5) zbjf zbjg zbjh;have zccn:=aR (K:=K) (x:= "leave_faults") (qual:= "leave_faults") (st:=d5) (kV:=zjw) (doc:=zjx) (pm:=zjy) (an:=zjt) (cdv:=zjz) (ct:=zka) (ps:=["house","plan","inside"])<|aM 3 _ fun _ _ _=>rfl
 have zcco:=aP (st:=fK) zbji zbjj zbjk;have zccp:=aR (K:=K) (x:= "full_faults") (qual:= "full_faults") (st:=fK) (kV:=zkf) (doc:=zkg) (pm:=zkh) (an:=zkc) (cdv:=zki) (ct:=zkj) (ps:=["house","inside"])<|aM 2 _ fun _ _=>rfl
 have zccq:=aP (st:=lR) zbjl zbjm zbjn;have zccr:=aR (K:=K) (x:= "faults") (qual:= "faults") (st:=lR) (kV:=zko) (doc:=zkp) (pm:=zkq) (an:=zkl) (cdv:=zkr) (ct:=zks) (ps:=["house","plan"])<|aM 2 _ fun _ _=>rfl
 have zccs:=aP (st:=fI) zbjo zbjp zbjq;have zcct:=aR (K:=K) (x:= "need_lawful") (qual:= "need_lawful") (st:=fI) (kV:=zkx) (doc:=zky) (pm:=zkz) (an:=zku) (cdv:=zla) (ct:=zlb) (ps:=["house","plan"])<|aM 2 _ fun _ _=>rfl
 have zccu:=aP (st:=lW) zbjr zbjs zbjt;have zccv:=aR (K:=K) (x:= "out_by") (qual:= "out_by") (st:=lW) (kV:=zlg) (doc:=zlh) (pm:=zli) (an:=zld) (cdv:=zlj) (ct:=zlk) (ps:=["house","plan","turn"])<|aM 3 _ fun _ _ _=>rfl
 have zccw:=aP (st:=j8) zbju zbjv zbjw;have zccx:=aR (K:=K) (x:= "place_of") (qual:= "place_of") (st:=j8) (kV:=zlp) (doc:=zlq) (pm:=zlr) (an:=zlm) (cdv:=zls) (ct:=zlt) (ps:=["doors","name"])<|aM 2 _ fun _ _=>rfl
 have zccy:=aP (st:=fS) zbjx zbjy zbjz;have zccz:=aR (K:=K) (x:= "changed_door") (qual:= "changed_door") (st:=fS) (kV:=zly) (doc:=zlz) (pm:=zma) (an:=zlv) (cdv:=zmb) (ct:=zmc) (ps:=["door","happening"])<|aM 2 _ fun _ _=>rfl
 have zcda:=aP (st:=gR) zbka zbkb zbkc;have zcdb:=aR (K:=K) (x:= "doors_after") (qual:= "doors_after") (st:=gR) (kV:=zmh) (doc:=zmi) (pm:=zmj) (an:=zme) (cdv:=zmk) (ct:=zml) (ps:=["doors","happening"])<|aM 2 _ fun _ _=>rfl
 have zcdc:=aP (st:=oW) zbkd zbke zbkf;have zcdd:=kB 4 (K:=K) (x:= "anew") (qual:= "anew") (st:=oW) (kV:=zmq) (doc:=zmr) (pm:=zms) (an:=zmn) (cdv:=zmt) (ct:=zmu) (ps:=["house","plan","turn","happenings"]) (ds:=[]) zbkg<|aM 4 _ fun _ _ _ _=>⟨_,rfl,rfl⟩
 have zcde:=kB 3 (K:=K) (x:= "anew") (qual:= "anew") (st:=oW) (kV:=zmq) (doc:=zmr) (pm:=zms) (an:=zmn) (cdv:=zmt) (ct:=zmu) (ps:=["house","plan","turn","happenings"]) (ds:=[.none]) zbkg<|aM 3 _ fun _ _ _=>⟨_,rfl,rfl⟩
 have zcdf:=aP (st:=d7) zbkh zbki zbkj;have zcdg:=aR (K:=K) (x:= "_law_cell_at") (qual:= "_law_cell_at") (st:=d7) (kV:=zne) (doc:=znf) (pm:=zng) (an:=znb) (cdv:=znh) (ct:=zni) (ps:=["_law_script","_law_k"])<|aM 2 _ fun _ _=>rfl
 have zcdh:=aP (st:=fZ) zbkk zbkl zbkm;have zcdi:=aR (K:=K) (x:= "_law_drawn") (qual:= "_law_drawn") (st:=fZ) (kV:=znn) (doc:=zno) (pm:=znp) (an:=znk) (cdv:=znq) (ct:=znr) (ps:=["_law_cell","_law_k"])<|aM 2 _ fun _ _=>rfl
 have zcdj:=aP (st:=g7) zbkn zbko zbkp;have zcdk:=aR (K:=K) (x:= "_law_name") (qual:= "_law_name") (st:=g7) (kV:=znw) (doc:=znx) (pm:=zny) (an:=znt) (cdv:=znz) (ct:=zoa) (ps:=["_law_cell","_law_k"])<|aM 2 _ fun _ _=>rfl
 have zcdl:=aP (st:=cK) zbkq zbkr zbks;have zcdm:=aR (K:=K) (x:= "_law_letting") (qual:= "_law_letting") (st:=cK) (kV:=zof) (doc:=zog) (pm:=zoh) (an:=zoc) (cdv:=zoi) (ct:=zoj) (ps:=["_law_number","_law_first","_law_scale"])<|aM 3 _ fun _ _ _=>rfl
 have zcdn:=aP (st:=hO) zbkt zbku zbkv;have zcdo:=aR (K:=K) (x:= "_law_door") (qual:= "_law_door") (st:=hO) (kV:=zoo) (doc:=zop) (pm:=zoq) (an:=zol) (cdv:=zor) (ct:=zos) (ps:=["_law_number","_law_name_here","_law_start","_law_end","_law_first","_law_scale"])<|aM 6 _ fun _ _ _ _ _ _=>rfl
 have zcdp:=aP (st:=fX) zbkw zbkx zbky;have zcdq:=aR (K:=K) (x:= "_law_house") (qual:= "_law_house") (st:=fX) (kV:=zox) (doc:=zoy) (pm:=zoz) (an:=zou) (cdv:=zpa) (ct:=zpb) (ps:=["_law_script","_law_first","_law_last"])<|aM 3 _ fun _ _ _=>rfl
 have zcdr:=aP (st:=fF) zbkz zbla zblb;have zcds:=aR (K:=K) (x:= "_law_excess") (qual:= "_law_excess") (st:=fF) (kV:=zpg) (doc:=zph) (pm:=zpi) (an:=zpd) (cdv:=zpj) (ct:=zpk) (ps:=["_law_house_here","_law_numbers_here","_law_inside"])<|aM 3 _ fun _ _ _=>rfl
 have zcdt:=aP (st:=d6) zblc zbld zble;have zcdu:=aR (K:=K) (x:= "_law_numbers") (qual:= "_law_numbers") (st:=d6) (kV:=zpp) (doc:=zpq) (pm:=zpr) (an:=zpm) (cdv:=zps) (ct:=zpt) (ps:=["_law_house_here","_law_cell","_law_turn","_law_inside"])<|aM 4 _ fun _ _ _ _=>rfl
 have zcdv:=aP (st:=fJ) zblf zblg zblh;have zcdw:=aR (K:=K) (x:= "_law_lawful") (qual:= "_law_lawful") (st:=fJ) (kV:=zpy) (doc:=zpz) (pm:=zqa) (an:=zpv) (cdv:=zqb) (ct:=zqc) (ps:=["_law_house_here","_law_cells"])<|aM 2 _ fun _ _=>rfl
 have zcdx:=aP (st:=hJ) zbli zblj zblk;have zcdy:=aR (K:=K) (x:= "_law_told") (qual:= "_law_told") (st:=hJ) (kV:=zqh) (doc:=zqi) (pm:=zqj) (an:=zqe) (cdv:=zqk) (ct:=zql) (ps:=["_law_house_here"])<|aM 1 _ fun _=>rfl
 have zcdz:=aP (st:=gI) zbll zblm zbln;have zcea:=aR (K:=K) (x:= "_law_right") (qual:= "_law_right") (st:=gI) (kV:=zqq) (doc:=zqr) (pm:=zqs) (an:=zqn) (cdv:=zqt) (ct:=zqu) (ps:=["_law_house_here","_law_plan","_law_turn","_law_later"])<|aM 4 _ fun _ _ _ _=>rfl
 have zceb:=aP (st:=oR) zblo zblp zblq;have zcec:=aR (K:=K) (x:= "law") (qual:= "law") (st:=oR) (kV:=zqz) (doc:=zra) (pm:=zrb) (an:=zqw) (cdv:=zrc) (ct:=zrd) (ps:=["_law_script"])<|aM 1 _ fun _=>rfl
 have zced:=aP (st:=cP) zblr zbls zblt;have zcee:=kB 5 (K:=K) (x:= "__init__") (qual:= "Door.__init__") (st:=cP) (kV:=zri) (doc:=zrj) (pm:=zrk) (an:=zrf) (cdv:=zrl) (ct:=zrm) (ps:=["self","name","start","end","wide"]) (ds:=[]) zblu<|aM 5 _ fun _ _ _ _ _=>⟨_,rfl,rfl⟩
 have zcef:=kB 4 (K:=K) (x:= "__init__") (qual:= "Door.__init__") (st:=cP) (kV:=zri) (doc:=zrj) (pm:=zrk) (an:=zrf) (cdv:=zrl) (ct:=zrm) (ps:=["self","name","start","end","wide"]) (ds:=[.int 1 zro]) zblu<|aM 4 _ fun _ _ _ _=>⟨_,rfl,rfl⟩
 have zceg:=kB 3 (K:=K) (x:= "__init__") (qual:= "Door.__init__") (st:=cP) (kV:=zri) (doc:=zrj) (pm:=zrk) (an:=zrf) (cdv:=zrl) (ct:=zrm) (ps:=["self","name","start","end","wide"]) (ds:=[.none,.int 1 zro]) zblu<|aM 3 _ fun _ _ _=>⟨_,rfl,rfl⟩
 have zceh:=aP (st:=hU) zblv zblw zblx;have zcei:=aR (K:=K) (x:= "lets") (qual:= "Door.lets") (st:=hU) (kV:=zrx) (doc:=zry) (pm:=zrz) (an:=zru) (cdv:=zsa) (ct:=zsb) (ps:=["self","turn"])<|aM 2 _ fun _ _=>rfl
 have zcej:=aP (st:=d4) zbly zblz zbma;have zcek:=aR (K:=K) (x:= "is_exit") (qual:= "Door.is_exit") (st:=d4) (kV:=zsg) (doc:=zsh) (pm:=zsi) (an:=zsd) (cdv:=zsj) (ct:=zsk) (ps:=["self"])<|aM 1 _ fun _=>rfl
 have zcel:=aP (st:=iF) zbmb zbmc zbmd;have zcem:=aR (K:=K) (x:= "words") (qual:= "Door.words") (st:=iF) (kV:=zsp) (doc:=zsq) (pm:=zsr) (an:=zsm) (cdv:=zss) (ct:=zst) (ps:=["self"])<|aM 1 _ fun _=>rfl
 have zcen:=aP (st:=dM) zbme zbmf zbmg;have zceo:=aR (K:=K) (x:= "__init__") (qual:= "Since.__init__") (st:=dM) (kV:=zsy) (doc:=zsz) (pm:=zta) (an:=zsv) (cdv:=ztb) (ct:=ztc) (ps:=["self","name","start","end","wide","since"])<|aM 6 _ fun _ _ _ _ _ _=>rfl
 have zcep:=aP (st:=fY) zbmh zbmi zbmj;have zceq:=aR (K:=K) (x:= "lets") (qual:= "Since.lets") (st:=fY) (kV:=zth) (doc:=zti) (pm:=ztj) (an:=zte) (cdv:=ztk) (ct:=ztl) (ps:=["self","turn"])<|aM 2 _ fun _ _=>rfl
 have zcer:=aP (st:=gQ) zbmk zbml zbmm;have zces:=aR (K:=K) (x:= "words") (qual:= "Since.words") (st:=gQ) (kV:=ztq) (doc:=ztr) (pm:=zts) (an:=ztn) (cdv:=ztt) (ct:=ztu) (ps:=["self"])<|aM 1 _ fun _=>rfl
 have zcet:=aP (st:=dL) zbmn zbmo zbmp;have zceu:=aR (K:=K) (x:= "__init__") (qual:= "Until.__init__") (st:=dL) (kV:=ztz) (doc:=zua) (pm:=zub) (an:=ztw) (cdv:=zuc) (ct:=zud) (ps:=["self","name","start","end","wide","until"])<|aM 6 _ fun _ _ _ _ _ _=>rfl
 have zcev:=aP (st:=gB) zbmq zbmr zbms;have zcew:=aR (K:=K) (x:= "lets") (qual:= "Until.lets") (st:=gB) (kV:=zui) (doc:=zuj) (pm:=zuk) (an:=zuf) (cdv:=zul) (ct:=zum) (ps:=["self","turn"])<|aM 2 _ fun _ _=>rfl
 have zcex:=aP (st:=gN) zbmt zbmu zbmv;have zcey:=aR (K:=K) (x:= "words") (qual:= "Until.words") (st:=gN) (kV:=zur) (doc:=zus) (pm:=zut) (an:=zuo) (cdv:=zuu) (ct:=zuv) (ps:=["self"])<|aM 1 _ fun _=>rfl
 have zcez:=aP (st:=dE) zbmw zbmx zbmy;have zcfa:=kB 7 (K:=K) (x:= "__init__") (qual:= "Beat.__init__") (st:=dE) (kV:=zva) (doc:=zvb) (pm:=zvc) (an:=zux) (cdv:=zvd) (ct:=zve) (ps:=["self","name","start","end","wide","every","since"]) (ds:=[]) zbmz<|aM 7 _ fun _ _ _ _ _ _ _=>⟨_,rfl,rfl⟩
 have zcfb:=kB 6 (K:=K) (x:= "__init__") (qual:= "Beat.__init__") (st:=dE) (kV:=zva) (doc:=zvb) (pm:=zvc) (an:=zux) (cdv:=zvd) (ct:=zve) (ps:=["self","name","start","end","wide","every","since"]) (ds:=[.int 0 zvg]) zbmz<|aM 6 _ fun _ _ _ _ _ _=>⟨_,rfl,rfl⟩
 have zcfc:=aP (st:=hZ) zbna zbnb zbnc;have zcfd:=aR (K:=K) (x:= "lets") (qual:= "Beat.lets") (st:=hZ) (kV:=zvp) (doc:=zvq) (pm:=zvr) (an:=zvm) (cdv:=zvs) (ct:=zvt) (ps:=["self","turn"])<|aM 2 _ fun _ _=>rfl
 have zcfe:=aP (st:=iJ) zbnd zbne zbnf;have zcff:=aR (K:=K) (x:= "words") (qual:= "Beat.words") (st:=iJ) (kV:=zvy) (doc:=zvz) (pm:=zwa) (an:=zvv) (cdv:=zwb) (ct:=zwc) (ps:=["self"])<|aM 1 _ fun _=>rfl
 have zcfg:=aP (st:=dP) zbng zbnh zbni;have zcfh:=aR (K:=K) (x:= "__init__") (qual:= "Told.__init__") (st:=dP) (kV:=zwh) (doc:=zwi) (pm:=zwj) (an:=zwe) (cdv:=zwk) (ct:=zwl) (ps:=["self","name","start","end","letting"])<|aM 5 _ fun _ _ _ _ _=>rfl
 have zcfi:=aP (st:=g8) zbnj zbnk zbnl;have zcfj:=aR (K:=K) (x:= "lets") (qual:= "Told.lets") (st:=g8) (kV:=zwq) (doc:=zwr) (pm:=zws) (an:=zwn) (cdv:=zwt) (ct:=zwu) (ps:=["self","turn"])<|aM 2 _ fun _ _=>rfl
 have zcfk:=aP (st:=iM) zbnm zbnn zbno;have zcfl:=aR (K:=K) (x:= "words") (qual:= "Told.words") (st:=iM) (kV:=zwz) (doc:=zxa) (pm:=zxb) (an:=zww) (cdv:=zxc) (ct:=zxd) (ps:=["self"])<|aM 1 _ fun _=>rfl
 have zcfm:=aP (st:=eX) zbnp zbnq zbnr;have zcfn:=aR (K:=K) (x:= "__init__") (qual:= "Shut.__init__") (st:=eX) (kV:=zxi) (doc:=zxj) (pm:=zxk) (an:=zxf) (cdv:=zxl) (ct:=zxm) (ps:=["self","door","turn"])<|aM 3 _ fun _ _ _=>rfl
 have zcfo:=aP (st:=jB) zbns zbnt zbnu;have zcfp:=aR (K:=K) (x:= "lets") (qual:= "Shut.lets") (st:=jB) (kV:=zxr) (doc:=zxs) (pm:=zxt) (an:=zxo) (cdv:=zxu) (ct:=zxv) (ps:=["self","turn"])<|aM 2 _ fun _ _=>rfl
 have zcfq:=aP (st:=iK) zbnv zbnw zbnx;have zcfr:=aR (K:=K) (x:= "words") (qual:= "Shut.words") (st:=iK) (kV:=zya) (doc:=zyb) (pm:=zyc) (an:=zxx) (cdv:=zyd) (ct:=zye) (ps:=["self"])<|aM 1 _ fun _=>rfl
 have zcfs:=aP (st:=eG) zbny zbnz zboa;have zcft:=aR (K:=K) (x:= "__init__") (qual:= "Wider.__init__") (st:=eG) (kV:=zyj) (doc:=zyk) (pm:=zyl) (an:=zyg) (cdv:=zym) (ct:=zyn) (ps:=["self","door","turn","more"])<|aM 4 _ fun _ _ _ _=>rfl
 have zcfu:=aP (st:=iD) zbob zboc zbod;have zcfv:=aR (K:=K) (x:= "lets") (qual:= "Wider.lets") (st:=iD) (kV:=zys) (doc:=zyt) (pm:=zyu) (an:=zyp) (cdv:=zyv) (ct:=zyw) (ps:=["self","turn"])<|aM 2 _ fun _ _=>rfl
 have zcfw:=aP (st:=gO) zboe zbof zbog;have zcfx:=aR (K:=K) (x:= "words") (qual:= "Wider.words") (st:=gO) (kV:=zzb) (doc:=zzc) (pm:=zzd) (an:=zyy) (cdv:=zze) (ct:=zzf) (ps:=["self"])<|aM 1 _ fun _=>rfl
 have zcfy:=aP (st:=cV) zboh zboi zboj;have zcfz:=kB 6 (K:=K) (x:= "__init__") (qual:= "House.__init__") (st:=cV) (kV:=zzk) (doc:=zzl) (pm:=zzm) (an:=zzh) (cdv:=zzn) (ct:=zzo) (ps:=["self","rooms","doors","people","last","first"]) (ds:=[]) zbok<|aM 6 _ fun _ _ _ _ _ _=>⟨_,rfl,rfl⟩
 have zcga:=kB 5 (K:=K) (x:= "__init__") (qual:= "House.__init__") (st:=cV) (kV:=zzk) (doc:=zzl) (pm:=zzm) (an:=zzh) (cdv:=zzn) (ct:=zzo) (ps:=["self","rooms","doors","people","last","first"]) (ds:=[.int 0 zzq]) zbok<|aM 5 _ fun _ _ _ _ _=>⟨_,rfl,rfl⟩
 have zcgb:=aP (st:=fA) zbol zbom zbon;have zcgc:=aR (K:=K) (x:= "rooms") (qual:= "House.rooms") (st:=fA) (kV:=zzz) (doc:=zbaa) (pm:=zbab) (an:=zzw) (cdv:=zbac) (ct:=zbad) (ps:=["self"])<|aM 1 _ fun _=>rfl
 have zcgd:=aP (st:=fG) zboo zbop zboq;have zcge:=aR (K:=K) (x:= "doors") (qual:= "House.doors") (st:=fG) (kV:=zbai) (doc:=zbaj) (pm:=zbak) (an:=zbaf) (cdv:=zbal) (ct:=zbam) (ps:=["self"])<|aM 1 _ fun _=>rfl
 have zcgf:=aP (st:=dB) zbor zbos zbot;have zcgg:=aR (K:=K) (x:= "need_room") (qual:= "House.need_room") (st:=dB) (kV:=zbar) (doc:=zbas) (pm:=zbat) (an:=zbao) (cdv:=zbau) (ct:=zbav) (ps:=["self","room"])<|aM 2 _ fun _ _=>rfl
 have zcgh:=aP (st:=fM) zbou zbov zbow;have zcgi:=aR (K:=K) (x:= "holds") (qual:= "House.holds") (st:=fM) (kV:=zbba) (doc:=zbbb) (pm:=zbbc) (an:=zbax) (cdv:=zbbd) (ct:=zbbe) (ps:=["self","room"])<|aM 2 _ fun _ _=>rfl
 have zcgj:=aP (st:=fC) zbox zboy zboz;have zcgk:=aR (K:=K) (x:= "found") (qual:= "House.found") (st:=fC) (kV:=zbbj) (doc:=zbbk) (pm:=zbbl) (an:=zbbg) (cdv:=zbbm) (ct:=zbbn) (ps:=["self","room"])<|aM 2 _ fun _ _=>rfl
 have zcgl:=aP (st:=gG) zbpa zbpb zbpc;have zcgm:=aR (K:=K) (x:= "into") (qual:= "House.into") (st:=gG) (kV:=zbbs) (doc:=zbbt) (pm:=zbbu) (an:=zbbp) (cdv:=zbbv) (ct:=zbbw) (ps:=["self","room"])<|aM 2 _ fun _ _=>rfl
 have zcgn:=aP (st:=dA) zbpd zbpe zbpf;have zcgo:=aR (K:=K) (x:= "from_room") (qual:= "House.from_room") (st:=dA) (kV:=zbcb) (doc:=zbcc) (pm:=zbcd) (an:=zbby) (cdv:=zbce) (ct:=zbcf) (ps:=["self","room"])<|aM 2 _ fun _ _=>rfl
 have zcgp:=aP (st:=fW) zbpg zbph zbpi;have zcgq:=aR (K:=K) (x:= "door") (qual:= "House.door") (st:=fW) (kV:=zbck) (doc:=zbcl) (pm:=zbcm) (an:=zbch) (cdv:=zbcn) (ct:=zbco) (ps:=["self","name"])<|aM 2 _ fun _ _=>rfl
 have zcgr:=aP (st:=gD) zbpj zbpk zbpl;have zcgs:=aR (K:=K) (x:= "lets") (qual:= "House.lets") (st:=gD) (kV:=zbct) (doc:=zbcu) (pm:=zbcv) (an:=zbcq) (cdv:=zbcw) (ct:=zbcx) (ps:=["self","name","turn"])<|aM 3 _ fun _ _ _=>rfl
 have zcgt:=aP (st:=fB) zbpm zbpn zbpo;have zcgu:=aR (K:=K) (x:= "total") (qual:= "House.total") (st:=fB) (kV:=zbdc) (doc:=zbdd) (pm:=zbde) (an:=zbcz) (cdv:=zbdf) (ct:=zbdg) (ps:=["self"])<|aM 1 _ fun _=>rfl
 have zcgv:=aP (st:=fD) zbpp zbpq zbpr;have zcgw:=aR (K:=K) (x:= "pairs") (qual:= "House.pairs") (st:=fD) (kV:=zbdl) (doc:=zbdm) (pm:=zbdn) (an:=zbdi) (cdv:=zbdo) (ct:=zbdp) (ps:=["self"])<|aM 1 _ fun _=>rfl
 have zcgx:ICls K zbn:=⟨⟨zbps,zbpt,zbpu,zbpv⟩,zbpy,zcae,zcaf,zbpz⟩
 have zcgy:ICls K zbo:=⟨⟨zbqy,zbqz,zbra,zbrb⟩,zbre,zcae,zcaf,zbrf⟩
 have zcgz:ICls K zbp:=⟨⟨zbse,zbsf,zbsg,zbsh⟩,zbsk,zcae,zcaf,zbsl⟩
 have zcha:ICls K zbq:=⟨⟨zbtk,zbtl,zbtm,zbtn⟩,zbtq,zcae,zcaf,zbtr⟩
 have zchb:ICls K zbr:=⟨⟨zbuq,zbur,zbus,zbut⟩,zbuw,zcae,zcaf,zbux⟩
 have zchc:ICls K zbs:=⟨⟨zbvw,zbvx,zbvy,zbvz⟩,zbwc,zcae,zcaf,zbwd⟩
 have zchd:ICls K zbt:=⟨⟨zbxc,zbxd,zbxe,zbxf⟩,zbxi,zcae,zcaf,zbxj⟩
 have zche:ICls K zbu:=⟨⟨zbyi,zbyj,zbyk,zbyl⟩,zbyo,zcae,zcaf,zbyp⟩
 exact⟨PySem.W.fnOf "law" "law" (aL oR) (aJ oR) (aB oR) .none zqz zra zrb zqw zrc zrd,zbe,PySem.W.fnOf "_law_letting" "_law_letting" (aL cK) (aJ cK) (aB cK) .none zof zog zoh zoc zoi zoj,PySem.W.mg_of X G zbew,⟨_,_,_,zbkq⟩,fun s v=> .of_eq rfl,fun zcbb cL PL h1 h2 h3=>aC4 ⟨zaa,_,zcbc,zcbd,
  zab,_,zcbe,zcbf,
  zac,_,zcbg,zcbh,
  zad,_,zcbi,zcbj,
  zae,_,zcbk,zcbl,
  zaf,_,zcbm,zcbn,
  zag,_,zcbo,zcbp,
  zah,_,zcbq,zcbr,
  zai,_,zcbs,zcbt,
  zaj,_,zcbu,zcbv,
  zak,_,zcbw,zcbx,
  zal,_,zcby,zcbz,
  zam,_,zcca,zccb,
  zan,_,zccc,zccd,
  zao,_,zcce,zccf,
  zap,_,zccg,zcch,
  zaq,_,zcci,zccj,
  zar,_,zcck,zccl,
  zas,_,zccm,zccn,
  zat,_,zcco,zccp,
  zau,_,zccq,zccr,
  zav,_,zccs,zcct,
  zaw,_,zccu,zccv,
  zax,_,zccw,zccx,
  zay,_,zccy,zccz,
  zaz,_,zcda,zcdb,
  zba,_,zcdc,zcdd,
  zbb,_,zcdf,zcdg,
  zbc,_,zcdh,zcdi,
  zbd,_,zcdj,zcdk,
  zbe,_,zcdl,zcdm,
  zbf,_,zcdn,zcdo,
  zbg,_,zcdp,zcdq,
  zbh,_,zcdr,zcds,
  zbi,_,zcdt,zcdu,
  zbj,_,zcdv,zcdw,
  zbk,_,zcdx,zcdy,
  zbl,_,zcdz,zcea,
  fa,_,zceb,zcec,
  zcd,_,zced,zcee,
  zce,_,zceh,zcei,
  zcf,_,zcej,zcek,
  zcg,_,zcel,zcem,
  zch,_,zcen,zceo,
  zci,_,zcep,zceq,
  zcj,_,zcer,zces,
  zck,_,zcet,zceu,
  zcl,_,zcev,zcew,
  zcm,_,zcex,zcey,
  zcn,_,zcez,zcfa,
  zco,_,zcfc,zcfd,
  zcp,_,zcfe,zcff,
  zcq,_,zcfg,zcfh,
  zcr,_,zcfi,zcfj,
  zcs,_,zcfk,zcfl,
  zct,_,zcfm,zcfn,
  zcu,_,zcfo,zcfp,
  zcv,_,zcfq,zcfr,
  zcw,_,zcfs,zcft,
  zcx,_,zcfu,zcfv,
  zcy,_,zcfw,zcfx,
  zcz,_,zcfy,zcfz,
  zda,_,zcgb,zcgc,
  zdb,_,zcgd,zcge,
  zdc,_,zcgf,zcgg,
  zdd,_,zcgh,zcgi,
  zde,_,zcgj,zcgk,
  zdf,_,zcgl,zcgm,
  zdg,_,zcgn,zcgo,
  zdh,_,zcgp,zcgq,
  zdi,_,zcgr,zcgs,
  zdj,_,zcgt,zcgu,
  zdk,_,zcgv,zcgw,
  PySem.W.mg_of X G zbds,
  PySem.W.mg_of X G zbdt,
  PySem.W.mg_of X G zbdu,
  PySem.W.mg_of X G zbdv,
  PySem.W.mg_of X G zbdw,
  PySem.W.mg_of X G zbdx,
  PySem.W.mg_of X G zbdy,
  PySem.W.mg_of X G zbdz,
  PySem.W.mg_of X G zbea,
  PySem.W.mg_of X G zbeb,
  PySem.W.mg_of X G zbec,
  PySem.W.mg_of X G zbed,
  PySem.W.mg_of X G zbee,
  PySem.W.mg_of X G zbef,
  PySem.W.mg_of X G zbeg,
  PySem.W.mg_of X G zbeh,
  PySem.W.mg_of X G zbei,
  PySem.W.mg_of X G zbej,
  PySem.W.mg_of X G zbek,
  PySem.W.mg_of X G zbel,
  PySem.W.mg_of X G zbem,
  PySem.W.mg_of X G zben,
  PySem.W.mg_of X G zbeo,
  PySem.W.mg_of X G zbep,
  PySem.W.mg_of X G zbeq,
  PySem.W.mg_of X G zber,
  PySem.W.mg_of X G zbes,
  PySem.W.mg_of X G zbet,
  PySem.W.mg_of X G zbeu,
  PySem.W.mg_of X G zbev,
  PySem.W.mg_of X G zbew,
  PySem.W.mg_of X G zbex,
  PySem.W.mg_of X G zbey,
  PySem.W.mg_of X G zbez,
  PySem.W.mg_of X G zbfa,
  PySem.W.mg_of X G zbfb,
  PySem.W.mg_of X G zbfc,
  PySem.W.mg_of X G zbfd,
  PySem.W.mg_of X G zbfe,
  ⟨_,.cons rfl (.nil),zcde⟩,
  ⟨_,.cons ⟨_,rfl⟩ (.nil),zcef⟩,
  ⟨_,.cons rfl (.cons ⟨_,rfl⟩ (.nil)),zceg⟩,
  ⟨_,.cons ⟨_,rfl⟩ (.nil),zcfb⟩,
  ⟨_,.cons ⟨_,rfl⟩ (.nil),zcga⟩,
  zbn,PySem.W.mg_of X G zbff,
  zbo,PySem.W.mg_of X G zbfg,
  zbp,PySem.W.mg_of X G zbfh,
  zbq,PySem.W.mg_of X G zbfi,
  zbr,PySem.W.mg_of X G zbfj,
  zbs,PySem.W.mg_of X G zbfk,
  zbt,PySem.W.mg_of X G zbfl,
  zbu,PySem.W.mg_of X G zbfm,
  zbv,PySem.W.mg_of X G zbfn,
  zbw,PySem.W.mg_of X G zbfo,
  zbx,PySem.W.mg_of X G zbfp,
  zby,PySem.W.mg_of X G zbfq,
  zbz,PySem.W.mg_of X G zbfr,
  zca,PySem.W.mg_of X G zbfs,
  zcb,PySem.W.mg_of X G zbft,
  zcc,PySem.W.mg_of X G zbfu,
  ⟨zcgx,zbqa,zbqb,zbqc,zbqd,zbqe,zbqf,zbqg,zbqh,zbqi,zbqj,zbqk,zbql,zbqm,zbqn,zbqo,zbqp⟩,
  ⟨zbpw,zbqq,zbqr,zbpx⟩,
  ⟨zbqs,zbqt,zblx⟩,
  ⟨zbqu,zbqv,zbma⟩,
  ⟨zbqw,zbqx,zbmd⟩,
  ⟨zcgy,zbrg,zbrh,zbri,zbrj,zbrk,zbrl,zbrm,zbrn,zbro,zbrp,zbrq,zbrr,zbrs,zbrt,zbru,zbrv⟩,
  ⟨zbrc,zbrw,zbrx,zbrd⟩,
  ⟨zbry,zbrz,zbmj⟩,
  ⟨zbsa,zbsb,zbmm⟩,
  ⟨zbsc,zbsd,zbma⟩,
  ⟨zcgz,zbsm,zbsn,zbso,zbsp,zbsq,zbsr,zbss,zbst,zbsu,zbsv,zbsw,zbsx,zbsy,zbsz,zbta,zbtb⟩,
  ⟨zbsi,zbtc,zbtd,zbsj⟩,
  ⟨zbte,zbtf,zbms⟩,
  ⟨zbtg,zbth,zbmv⟩,
  ⟨zbti,zbtj,zbma⟩,
  ⟨zcha,zbts,zbtt,zbtu,zbtv,zbtw,zbtx,zbty,zbtz,zbua,zbub,zbuc,zbud,zbue,zbuf,zbug,zbuh⟩,
  ⟨zbto,zbui,zbuj,zbtp⟩,
  ⟨zbuk,zbul,zbnc⟩,
  ⟨zbum,zbun,zbnf⟩,
  ⟨zbuo,zbup,zbma⟩,
  ⟨zchb,zbuy,zbuz,zbva,zbvb,zbvc,zbvd,zbve,zbvf,zbvg,zbvh,zbvi,zbvj,zbvk,zbvl,zbvm,zbvn⟩,
  ⟨zbuu,zbvo,zbvp,zbuv⟩,
  ⟨zbvq,zbvr,zbnl⟩,
  ⟨zbvs,zbvt,zbno⟩,
  ⟨zbvu,zbvv,zbma⟩,
  ⟨zchc,zbwe,zbwf,zbwg,zbwh,zbwi,zbwj,zbwk,zbwl,zbwm,zbwn,zbwo,zbwp,zbwq,zbwr,zbws,zbwt⟩,
  ⟨zbwa,zbwu,zbwv,zbwb⟩,
  ⟨zbww,zbwx,zbnu⟩,
  ⟨zbwy,zbwz,zbnx⟩,
  ⟨zbxa,zbxb,zbma⟩,
  ⟨zchd,zbxk,zbxl,zbxm,zbxn,zbxo,zbxp,zbxq,zbxr,zbxs,zbxt,zbxu,zbxv,zbxw,zbxx,zbxy,zbxz⟩,
  ⟨zbxg,zbya,zbyb,zbxh⟩,
  ⟨zbyc,zbyd,zbod⟩,
  ⟨zbye,zbyf,zbog⟩,
  ⟨zbyg,zbyh,zbma⟩,
  ⟨zche,zbyq,zbyr,zbys,zbyt,zbyu,zbyv,zbyw,zbyx,zbyy,zbyz,zbza,zbzb,zbzc,zbzd,zbze,zbzf⟩,
  ⟨zbym,zbzg,zbzh,zbyn⟩,
  ⟨zbzi,zbzj,zbon⟩,
  ⟨zbzk,zbzl,zboq⟩,
  ⟨zbzm,zbzn,zbot⟩,
  ⟨zbzo,zbzp,zbow⟩,
  ⟨zbzq,zbzr,zboz⟩,
  ⟨zbzs,zbzt,zbpc⟩,
  ⟨zbzu,zbzv,zbpf⟩,
  ⟨zbzw,zbzx,zbpi⟩,
  ⟨zbzy,zbzz,zbpl⟩,
  ⟨zcaa,zcab,zbpo⟩,
  ⟨zcac,zcad,zbpr⟩,
  ⟨zcag,zcah,zcai⟩,
  VL,
  PySem.W.mg_none_of X G zcal,
  PySem.W.mg_none_of X G zcam,
  PySem.W.mg_none_of X G zcan,
  PySem.W.mg_none_of X G zcao,
  PySem.W.mg_none_of X G zcap,
  PySem.W.mg_none_of X G zcaq,
  PySem.W.mg_none_of X G zcar,
  PySem.W.mg_none_of X G zcas,
  PySem.W.mg_none_of X G zcat,
  PySem.W.mg_none_of X G zcau,
  PySem.W.mg_none_of X G zcav,
  PySem.W.mg_none_of X G zcaw,
  PySem.W.mg_none_of X G zcax,
  PySem.W.mg_none_of X G zcay,
  PySem.W.mg_none_of X G zcaz,
  ⟨zbdr,PySem.W.mg_of X G zcba⟩⟩ h1 h2 h3⟩
theorem walk {l:PySem.W.OpenLaw}{q:Program}{loose:List Str}{XP:(Str->Option Value)->Heap->Prop}{YP:World->Heap->Prop}{d d2:DefRec}{K:Params->PySem.W.Frag} (hn:l.most=some 63) (hdf:d.params.defaults=[]) (hrec:d2∈PyProof.Rows.recsOf q) (hd2:d2.name= "_law_letting") (hnt:∀w:World,PySem.W.noTabs (K w.params)=true)
  (hY:∀(w:World) (h:Heap),YP w h->(K w.params).In h)
  (F:∀(w:World) (mg:Str->Option Value) (fa:Addr) (h:Heap),(K w.params).In h->h.Ns mainGlobals mg->mg d.name=some (.ref fa) →
   ∃(fd:FuncData) (f2:Addr) (fd2:FuncData),mg "_law_letting" =some (.ref f2)/\(∃oc od osl,(K w.params).lookup f2=some ⟨oc,od,.func fd2,osl⟩)/\(∀(s:Shared) (u:Value),BindsTo s fd ⟨[u],[]⟩ [("_law_script",u)])/\∀(zcbb:Heap) (cL PL:Addr),fd2.code= .ref cL->PySem.W.CodeHd zcbb cL PL->zcbb.BuiltinsAt mg PL->FnOk l.prog w (K w.params) mg zcbb CX0 20 fa fd ["_law_script"] (xB (K w.params) PL)) :
  PySem.W.WalkO q loose XP YP l.row.toRowW d [] (fun f vs=>PySem.call f vs) :=
 L2.walk_ofT2 (d2:=d2) (n:=63) (k:=20) (x:= "_law_script") (CX:=fun _=>CX0) (sp:=fun w PL=>xB (K w.params) PL) hn (by decide) hdf ⟨rfl,by decide,by decide⟩ hrec hnt hY (fun w mg fa h a b c=>by rw[hd2];exact F w mg fa h a b c) (fun _ _ _ a ns hl hS hP=>⟨a,ns,rfl,hS,hl,hP,fun _=>rfl⟩) fun _ _ _ _ _ z=>z
end Prf
open PySem PySem.W PyProof.Rows
set_option maxRecDepth 100000 in
set_option maxHeartbeats 0 in
theorem PySem.Challenge.cw_firstout_k61_the_house_at_a_turn_holds : PySem.Challenge.rw_firstout_k61_the_house_at_a_turn.Holds := by
 w_on;o_law;k_head;(case hw=>w_witness2)
 k_fill
 refine Prf.walk (l:=PySem.Challenge.rw_firstout_k61_the_house_at_a_turn) rfl rfl (List.mem_of_find?_eq_some (p:=fun e=>e.name==("_law_letting" :Str)) rfl) rfl (fun w=>by kernel_rfl) (fun w h Y=>PySem.W.km_in_of Y) ?F
 case F =>
  intro w mg fa h KX G hmg;refine' Prf.all_mk KX G hmg ?zbds ?zbdt ?zbdu ?zbdv ?zbdw ?zbdx ?zbdy ?zbdz ?zbea ?zbeb ?zbec ?zbed ?zbee ?zbef ?zbeg ?zbeh ?zbei ?zbej ?zbek ?zbel ?zbem ?zben ?zbeo ?zbep ?zbeq ?zber ?zbes ?zbet ?zbeu ?zbev ?zbew ?zbex ?zbey ?zbez ?zbfa ?zbfb ?zbfc ?zbfd ?zbfe ?zbff ?zbfg ?zbfh ?zbfi ?zbfj ?zbfk ?zbfl ?zbfm ?zbfn ?zbfo ?zbfp ?zbfq ?zbfr ?zbfs ?zbft ?zbfu ?zbfv ?zbfw ?zbfx ?zbfy ?zbfz ?zbga ?zbgb ?zbgc ?zbgd ?zbge ?zbgf ?zbgg ?zbgh ?zbgi ?zbgj ?zbgk ?zbgl ?zbgm ?zbgn ?zbgo ?zbgp ?zbgq ?zbgr ?zbgs ?zbgt ?zbgu ?zbgv ?zbgw ?zbgx ?zbgy ?zbgz ?zbha ?zbhb ?zbhc ?zbhd ?zbhe ?zbhf ?zbhg ?zbhh ?zbhi ?zbhj ?zbhk ?zbhl ?zbhm ?zbhn ?zbho ?zbhp ?zbhq ?zbhr ?zbhs ?zbht ?zbhu ?zbhv ?zbhw ?zbhx ?zbhy ?zbhz ?zbia ?zbib ?zbic ?zbid ?zbie ?zbif ?zbig ?zbih ?zbii ?zbij ?zbik ?zbil ?zbim ?zbin ?zbio ?zbip ?zbiq ?zbir ?zbis ?zbit ?zbiu ?zbiv ?zbiw ?zbix ?zbiy ?zbiz ?zbja ?zbjb ?zbjc ?zbjd ?zbje ?zbjf ?zbjg ?zbjh ?zbji ?zbjj ?zbjk ?zbjl ?zbjm ?zbjn ?zbjo ?zbjp ?zbjq ?zbjr ?zbjs ?zbjt ?zbju ?zbjv ?zbjw ?zbjx ?zbjy ?zbjz ?zbka ?zbkb ?zbkc ?zbkd ?zbke ?zbkf ?zbkg ?zbkh ?zbki ?zbkj ?zbkk ?zbkl ?zbkm ?zbkn ?zbko ?zbkp ?zbkq ?zbkr ?zbks ?zbkt ?zbku ?zbkv ?zbkw ?zbkx ?zbky ?zbkz ?zbla ?zblb ?zblc ?zbld ?zble ?zblf ?zblg ?zblh ?zbli ?zblj ?zblk ?zbll ?zblm ?zbln ?zblo ?zblp ?zblq ?zblr ?zbls ?zblt ?zblu ?zblv ?zblw ?zblx ?zbly ?zblz ?zbma ?zbmb ?zbmc ?zbmd ?zbme ?zbmf ?zbmg ?zbmh ?zbmi ?zbmj ?zbmk ?zbml ?zbmm ?zbmn ?zbmo ?zbmp ?zbmq ?zbmr ?zbms ?zbmt ?zbmu ?zbmv ?zbmw ?zbmx ?zbmy ?zbmz ?zbna ?zbnb ?zbnc ?zbnd ?zbne ?zbnf ?zbng ?zbnh ?zbni ?zbnj ?zbnk ?zbnl ?zbnm ?zbnn ?zbno ?zbnp ?zbnq ?zbnr ?zbns ?zbnt ?zbnu ?zbnv ?zbnw ?zbnx ?zbny ?zbnz ?zboa ?zbob ?zboc ?zbod ?zboe ?zbof ?zbog ?zboh ?zboi ?zboj ?zbok ?zbol ?zbom ?zbon ?zboo ?zbop ?zboq ?zbor ?zbos ?zbot ?zbou ?zbov ?zbow ?zbox ?zboy ?zboz ?zbpa ?zbpb ?zbpc ?zbpd ?zbpe ?zbpf ?zbpg ?zbph ?zbpi ?zbpj ?zbpk ?zbpl ?zbpm ?zbpn ?zbpo ?zbpp ?zbpq ?zbpr ?zbps ?zbpt ?zbpu ?zbpv ?zbpw ?zbpx ?zbpy ?zbpz ?zbqa ?zbqb ?zbqc ?zbqd ?zbqe ?zbqf ?zbqg ?zbqh ?zbqi ?zbqj ?zbqk ?zbql ?zbqm ?zbqn ?zbqo ?zbqp ?zbqq ?zbqr ?zbqs ?zbqt ?zbqu ?zbqv ?zbqw ?zbqx ?zbqy ?zbqz ?zbra ?zbrb ?zbrc ?zbrd ?zbre ?zbrf ?zbrg ?zbrh ?zbri ?zbrj ?zbrk ?zbrl ?zbrm ?zbrn ?zbro ?zbrp ?zbrq ?zbrr ?zbrs ?zbrt ?zbru ?zbrv ?zbrw ?zbrx ?zbry ?zbrz ?zbsa ?zbsb ?zbsc ?zbsd ?zbse ?zbsf ?zbsg ?zbsh ?zbsi ?zbsj ?zbsk ?zbsl ?zbsm ?zbsn ?zbso ?zbsp ?zbsq ?zbsr ?zbss ?zbst ?zbsu ?zbsv ?zbsw ?zbsx ?zbsy ?zbsz ?zbta ?zbtb ?zbtc ?zbtd ?zbte ?zbtf ?zbtg ?zbth ?zbti ?zbtj ?zbtk ?zbtl ?zbtm ?zbtn ?zbto ?zbtp ?zbtq ?zbtr ?zbts ?zbtt ?zbtu ?zbtv ?zbtw ?zbtx ?zbty ?zbtz ?zbua ?zbub ?zbuc ?zbud ?zbue ?zbuf ?zbug ?zbuh ?zbui ?zbuj ?zbuk ?zbul ?zbum ?zbun ?zbuo ?zbup ?zbuq ?zbur ?zbus ?zbut ?zbuu ?zbuv ?zbuw ?zbux ?zbuy ?zbuz ?zbva ?zbvb ?zbvc ?zbvd ?zbve ?zbvf ?zbvg ?zbvh ?zbvi ?zbvj ?zbvk ?zbvl ?zbvm ?zbvn ?zbvo ?zbvp ?zbvq ?zbvr ?zbvs ?zbvt ?zbvu ?zbvv ?zbvw ?zbvx ?zbvy ?zbvz ?zbwa ?zbwb ?zbwc ?zbwd ?zbwe ?zbwf ?zbwg ?zbwh ?zbwi ?zbwj ?zbwk ?zbwl ?zbwm ?zbwn ?zbwo ?zbwp ?zbwq ?zbwr ?zbws ?zbwt ?zbwu ?zbwv ?zbww ?zbwx ?zbwy ?zbwz ?zbxa ?zbxb ?zbxc ?zbxd ?zbxe ?zbxf ?zbxg ?zbxh ?zbxi ?zbxj ?zbxk ?zbxl ?zbxm ?zbxn ?zbxo ?zbxp ?zbxq ?zbxr ?zbxs ?zbxt ?zbxu ?zbxv ?zbxw ?zbxx ?zbxy ?zbxz ?zbya ?zbyb ?zbyc ?zbyd ?zbye ?zbyf ?zbyg ?zbyh ?zbyi ?zbyj ?zbyk ?zbyl ?zbym ?zbyn ?zbyo ?zbyp ?zbyq ?zbyr ?zbys ?zbyt ?zbyu ?zbyv ?zbyw ?zbyx ?zbyy ?zbyz ?zbza ?zbzb ?zbzc ?zbzd ?zbze ?zbzf ?zbzg ?zbzh ?zbzi ?zbzj ?zbzk ?zbzl ?zbzm ?zbzn ?zbzo ?zbzp ?zbzq ?zbzr ?zbzs ?zbzt ?zbzu ?zbzv ?zbzw ?zbzx ?zbzy ?zbzz ?zcaa ?zcab ?zcac ?zcad ?zcae ?zcaf ?zcag ?zcah ?zcai ?zcaj ?zcak ?zcal ?zcam ?zcan ?zcao ?zcap ?zcaq ?zcar ?zcas ?zcat ?zcau ?zcav ?zcaw ?zcax ?zcay ?zcaz ?zcba
  (case zbds|zbdt|zbdu|zbdv|zbdw|zbdx|zbdy|zbdz|zbea|zbeb|zbec|zbed|zbee|zbef|zbeg|zbeh|zbei|zbej|zbek|zbel|zbem|zben|zbeo|zbep|zbeq|zber|zbes|zbet|zbeu|zbev|zbew|zbex|zbey|zbez|zbfa|zbfb|zbfc|zbfd|zbfe|zbff|zbfg|zbfh|zbfi|zbfj|zbfk|zbfl|zbfm|zbfn|zbfo|zbfp|zbfq|zbfr|zbfs|zbft|zbfu|zbfv|zbfw|zbfx|zbfy|zbfz|zbga|zbgb|zbgc|zbgd|zbge|zbgf|zbgg|zbgh|zbgi|zbgj|zbgk|zbgl|zbgm|zbgn|zbgo|zbgp|zbgq|zbgr|zbgs|zbgt|zbgu|zbgv|zbgw|zbgx|zbgy|zbgz|zbha|zbhb|zbhc|zbhd|zbhe|zbhf|zbhg|zbhh|zbhi|zbhj|zbhk|zbhl|zbhm|zbhn|zbho|zbhp|zbhq|zbhr|zbhs|zbht|zbhu|zbhv|zbhw|zbhx|zbhy|zbhz|zbia|zbib|zbic|zbid|zbie|zbif|zbig|zbih|zbii|zbij|zbik|zbil|zbim|zbin|zbio|zbip|zbiq|zbir|zbis|zbit|zbiu|zbiv|zbiw|zbix|zbiy|zbiz|zbja|zbjb|zbjc|zbjd|zbje|zbjf|zbjg|zbjh|zbji|zbjj|zbjk|zbjl|zbjm|zbjn|zbjo|zbjp|zbjq|zbjr|zbjs|zbjt|zbju|zbjv|zbjw|zbjx|zbjy|zbjz|zbka|zbkb|zbkc|zbkd|zbke|zbkf|zbkg|zbkh|zbki|zbkj|zbkk|zbkl|zbkm|zbkn|zbko|zbkp|zbkq|zbkr|zbks|zbkt|zbku|zbkv|zbkw|zbkx|zbky|zbkz|zbla|zblb|zblc|zbld|zble|zblf|zblg|zblh|zbli|zblj|zblk|zbll|zblm|zbln|zblo|zblp|zblq|zblr|zbls|zblt|zblu|zblv|zblw|zblx|zbly|zblz|zbma|zbmb|zbmc|zbmd|zbme|zbmf|zbmg|zbmh|zbmi|zbmj|zbmk|zbml|zbmm|zbmn|zbmo|zbmp|zbmq|zbmr|zbms|zbmt|zbmu|zbmv|zbmw|zbmx|zbmy|zbmz|zbna|zbnb|zbnc|zbnd|zbne|zbnf|zbng|zbnh|zbni|zbnj|zbnk|zbnl|zbnm|zbnn|zbno|zbnp|zbnq|zbnr|zbns|zbnt|zbnu|zbnv|zbnw|zbnx|zbny|zbnz|zboa|zbob|zboc|zbod|zboe|zbof|zbog|zboh|zboi|zboj|zbok|zbol|zbom|zbon|zboo|zbop|zboq|zbor|zbos|zbot|zbou|zbov|zbow|zbox|zboy|zboz|zbpa|zbpb|zbpc|zbpd|zbpe|zbpf|zbpg|zbph|zbpi|zbpj|zbpk|zbpl|zbpm|zbpn|zbpo|zbpp|zbpq|zbpr|zbps|zbpt|zbpu|zbpv|zbpw|zbpx|zbpy|zbpz|zbqa|zbqb|zbqc|zbqd|zbqe|zbqf|zbqg|zbqh|zbqi|zbqj|zbqk|zbql|zbqm|zbqn|zbqo|zbqp|zbqq|zbqr|zbqs|zbqt|zbqu|zbqv|zbqw|zbqx|zbqy|zbqz|zbra|zbrb|zbrc|zbrd|zbre|zbrf|zbrg|zbrh|zbri|zbrj|zbrk|zbrl|zbrm|zbrn|zbro|zbrp|zbrq|zbrr|zbrs|zbrt|zbru|zbrv|zbrw|zbrx|zbry|zbrz|zbsa|zbsb|zbsc|zbsd|zbse|zbsf|zbsg|zbsh|zbsi|zbsj|zbsk|zbsl|zbsm|zbsn|zbso|zbsp|zbsq|zbsr|zbss|zbst|zbsu|zbsv|zbsw|zbsx|zbsy|zbsz|zbta|zbtb|zbtc|zbtd|zbte|zbtf|zbtg|zbth|zbti|zbtj|zbtk|zbtl|zbtm|zbtn|zbto|zbtp|zbtq|zbtr|zbts|zbtt|zbtu|zbtv|zbtw|zbtx|zbty|zbtz|zbua|zbub|zbuc|zbud|zbue|zbuf|zbug|zbuh|zbui|zbuj|zbuk|zbul|zbum|zbun|zbuo|zbup|zbuq|zbur|zbus|zbut|zbuu|zbuv|zbuw|zbux|zbuy|zbuz|zbva|zbvb|zbvc|zbvd|zbve|zbvf|zbvg|zbvh|zbvi|zbvj|zbvk|zbvl|zbvm|zbvn|zbvo|zbvp|zbvq|zbvr|zbvs|zbvt|zbvu|zbvv|zbvw|zbvx|zbvy|zbvz|zbwa|zbwb|zbwc|zbwd|zbwe|zbwf|zbwg|zbwh|zbwi|zbwj|zbwk|zbwl|zbwm|zbwn|zbwo|zbwp|zbwq|zbwr|zbws|zbwt|zbwu|zbwv|zbww|zbwx|zbwy|zbwz|zbxa|zbxb|zbxc|zbxd|zbxe|zbxf|zbxg|zbxh|zbxi|zbxj|zbxk|zbxl|zbxm|zbxn|zbxo|zbxp|zbxq|zbxr|zbxs|zbxt|zbxu|zbxv|zbxw|zbxx|zbxy|zbxz|zbya|zbyb|zbyc|zbyd|zbye|zbyf|zbyg|zbyh|zbyi|zbyj|zbyk|zbyl|zbym|zbyn|zbyo|zbyp|zbyq|zbyr|zbys|zbyt|zbyu|zbyv|zbyw|zbyx|zbyy|zbyz|zbza|zbzb|zbzc|zbzd|zbze|zbzf|zbzg|zbzh|zbzi|zbzj|zbzk|zbzl|zbzm|zbzn|zbzo|zbzp|zbzq|zbzr|zbzs|zbzt|zbzu|zbzv|zbzw|zbzx|zbzy|zbzz|zcaa|zcab|zcac|zcad|zcae|zcaf|zcag|zcah|zcai|zcaj|zcak|zcal|zcam|zcan|zcao|zcap|zcaq|zcar|zcas|zcat|zcau|zcav|zcaw|zcax|zcay|zcaz|zcba=>k_is)
