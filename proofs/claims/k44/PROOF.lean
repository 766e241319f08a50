import PyProof.Rows.All
import Wide.All
import OpenK.AllK
import Wide.FinOn
import Lean
import PyProof.EqAt
import PyProof.EqKinds
import PyProof.TupleCall
import KE.KSortTup
import PyProof.Rows.DictUnroll
import PyProof.DictItems
import KE.LcSums
import PyProof.IsiH_list
import KE.KDictOf
import PyProof.DictWalks
import PyProof.ListRange
import PyProof.EnumStmt
import PyProof.EnumMake
import KE.KDictSum
import PyProof.StrOps2
import PySem.Challenge.RW_firstout_k44_how_many_and_when
namespace PySem.W.Fast
def tw16753331508172949952:=()
def tw5936409896916655873:=()
def tw11215610241589089445:=()
def tw5124078396259293670:=()
def tw12145961783064986150:=()
def tw16699303941309959750:=()
def tw12728041515668673063:=()
def tw12631472276356131783:=()
def tw11971758230439760968:=()
def tw7046836809557309772:=()
def tw15980944848406715308:=()
def tw10257848699687086637:=()
def tw2135489751574698542:=()
def tw17917716677241044719:=()
def tw11824479159092764912:=()
def tw2527940192476484690:=()
def tw8233722911063980727:=()
def tw13031742170304537626:=()
def tw11376190868642770746:=()
def tw520952530307144123:=()
def tw3770730965433835324:=()
def tw12580335978319314749:=()
def tw12850805221780999838:=()
def tw790092121882218206:=()
def tw11087737599094742525:=()
def tw11266368541515439652:=()
def tw1175521842724867900:=()
def tw12607987735095948562:=()
def tw13278568342813933878:=()
def tw13479447755964662786:=()
def tw13742733103283866577:=()
def tw14377093141827889748:=()
def tw14388879614278299799:=()
def tw15154847985679502571:=()
def tw16022522866143729575:=()
def tw17034268628587498453:=()
def tw18306180478818893266:=()
def tw2464110624851231168:=()
def tw3248777235132599725:=()
def tw478662227106888645:=()
def tw4795396418029102011:=()
def tw4969036829013140481:=()
def tw572101282977255490:=()
def tw5818921877630552562:=()
def tw714799359688662049:=()
def tw7360248725092559755:=()
def tw7401003068625507324:=()
def tw7951615705413154949:=()
def tw8580642066803760535:=()
def tw896742266539600882:=()
def tw9429108199142717936:=()
def tw9539295466084557469:=()
def tw632745785837981211:=()
def tw14828621110661608166:=()
def tw15020703370686045671:=()
def tw2870638910552619379:=()
def tw4057003851818926427:=()
def tw8268819053513969447:=()
def tw16177068500346499966:=()
def tw8872638919060831077:=()
def tw553977224676259777:=()
def tw18066622325980678180:=()
def tw17642296151223201002:=()
def tw6256839257960666874:=()
def tw17523166591248796016:=()
def tw3058078115350811667:=()
def tw6327165360531208164:=()
def tw880512259596896771:=()
def tw8828455976546512821:=()
def tw12580159544557400160:=()
def tw12772320708117811816:=()
def tw82444905492557562:=()
def tw10077203301580624734:=()
def tw18407557029493523428:=()
def tw13586503997734530269:=()
def tw6857268559179340344:=()
def tw15353524362310524449:=()
def tw13163582854331417182:=()
def tw1603000326854997970:=()
def tw8277256151930996773:=()
def tw7341374286070711280:=()
def tw441672004076052559:=()
def tw2795353531370834603:=()
def tw17839458951066717829:=()
def tw15546252836048371912:=()
def tw8318027485763780034:=()
def tw16733342872128741596:=()
def tw12459049164733031082:=()
def tw7774361268250481048:=()
def tw12983851479322574377:=()
def tw2138639649551534720:=()
def tw14187079435409526916:=()
def tw12997623310658080118:=()
def tw4276602732472742009:=()
def tw7374022358454078606:=()
def tw12148774557987851995:=()
def tw7921328588155055634:=()
def tw4200315771128029914:=()
def tw14229281472141176912:=()
def tw6823570292769368678:=()
def tw3937698003541509929:=()
def tw559234803603741639:=()
def tw1667443010327787924:=()
def tw11355176657364787619:=()
def tw1315053040524431815:=()
def tw2409453405266736379:=()
def tw11226125419717955660:=()
def tw5920076144913067198:=()
def tw2597615119589503840:=()
def tw6308610608428949412:=()
def tw10501296973211724158:=()
def tw18435471213883536693:=()
def tw9098928073340196394:=()
def tw15008781565570436724:=()
def tw6856850646439446663:=()
def tw16103787283317204047:=()
def tw17731095311870255135:=()
def tw8953857520222597469:=()
def tw482120814953071199:=()
def tw18397543364772884650:=()
def tw5022017505504105447:=()
def tw17952450383466807503:=()
def tw15435330492969677732:=()
def tw15000415509299869265:=()
def tw7657708998342455238:=()
def tw15111489314499716654:=()
def tw730298798353742019:=()
def tw5596196614470416629:=()
def tw15428995846684324635:=()
def tw13303253377621485202:=()
def tw13462561672596162630:=()
def tw10180891937775435156:=()
def tw15999372519526504742:=()
def tw3208609626554603657:=()
def tw7258575554634078437:=()
def tw16926723812472947419:=()
def tw5255073239220676628:=()
def tw11714345981430294965:=()
def tw7199922877012853588:=()
def tw9313588422871597065:=()
def tw9702771936363822986:=()
def tw17193955557905071505:=()
def tw13567519098990072932:=()
def tw17052740521725075205:=()
def tw5514451794289535178:=()
def tw3095013038649558553:=()
def tw6280044881038515378:=()
def tw1158149572591803334:=()
def tw13677334845123591229:=()
def tw13567886085109567071:=()
def tw440254999022419741:=()
def tw14732631985967920924:=()
def tw4935348127985596680:=()
def tw5117181728940458453:=()
def tw14466388926761027002:=()
def tw2229361644011295796:=()
def tw3747070481491912113:=()
def tw16837562319069182147:=()
def tw13208893178125368396:=()
def tw13690956662468500523:=()
def tw5329241124420504497:=()
def tw18166415209384638033:=()
def tw14316819583452016769:=()
def tw15458894896969347547:=()
def tw10677896948603493180:=()
def tw2008435715926062979:=()
def tw2491090634558819891:=()
def tw5055065491116237019:=()
def tw16709433813632506796:=()
def tw9511467400628823850:=()
def tw2805909974874111597:=()
def tw18269077018423270101:=()
def tw7926899160773976044:=()
def tw3693347196436043149:=()
def tw14603952276697768217:=()
def tw10113110707194934717:=()
def tw3305767931561543819:=()
def tw4054954451439937830:=()
def tw1275541991701664929:=()
def tw61568952607293049:=()
def tw16321254252408011501:=()
def tw8007100044744928344:=()
def tw1596730746731099390:=()
def tw18228608457094662384:=()
def tw4871064740183639995:=()
def tw9305341773982476025:=()
def tw21233330867140739:=()
def tw1058933516656641337:=()
def tw8810589379756635869:=()
def tw3326090100980978177:=()
def tw11601758867173224705:=()
def tw4442295476488309251:=()
def tw16792800794013718795:=()
def tw7789124497158718587:=()
def tw9083951296815112019:=()
def tw12708094682644806781:=()
def tw16528340623942388571:=()
def tw12552258718506282342:=()
def tw15248117017006780468:=()
def tw13001540034878263601:=()
def tw9548251900693173324:=()
def tw1433669626822579911:=()
def tw13558526222365302689:=()
def tw53548079488371536:=()
def tw1656759424383430631:=()
def tw13245517313566272118:=()
def tw836109573978060364:=()
def tw8233906498196809389:=()
def tw12741936624503582023:=()
def tw11505749119483657648:=()
def tw11312576978013215983:=()
def tw879494900829084268:=()
def tw17493004250253758457:=()
def tw9097842800129454200:=()
def tw231576407063648272:=()
def tw7072368307304334109:=()
def tw3446004520357018011:=()
def tw8732634775695040744:=()
def tw7253376226637000591:=()
def tw17783643585432719378:=()
def tw8513650286760720287:=()
def tw6695278270238210276:=()
def tw7095189308998119442:=()
def tw17422531600892944977:=()
def tw12040672146929895033:=()
def tw10710170682954809903:=()
def tw12437916186688271998:=()
def tw13522025030208696395:=()
def tw17335397563266187145:=()
def tw16363963675652359925:=()
def tw16672031639494975577:=()
end PySem.W.Fast
set_option compiler.extract_closed false
local macro_rules| `(tactic| walk_at"oi")=> `(tactic| first|exact Or.inl rfl|exact Or.inr rfl)
set_option Elab.async false
set_option linter.all false
set_option maxRecDepth 100000
namespace L2
open PySem PySem.Spec PyProof.Rows
abbrev Key:=Sum Int Str
def zS:Key->Value->Bool
 | .inl k,v=>Value.isInt k v
 | .inr x,v=>Value.isStrOf x v
def aD4 (w:World):Key->Int
 | .inl k=>hashInt k
 | .inr x=>hashStr w x
theorem cX:∀{k:Key}{v:Value},zS k v=true->(∃i t,k=Sum.inl i/\v=Value.int i t)∨(∃x t,k=Sum.inr x/\v=Value.str x t)
 | .inl i,v,h=>by
  obtain⟨t,e⟩:=Value.isInt_shape (k:=i) (v:=v) h;exact .inl ⟨i,t,rfl,e⟩
 | .inr x,v,h=>by
  obtain⟨t,e⟩:=Value.isStrOf_shape (x:=x) (v:=v) h;exact .inr ⟨x,t,rfl,e⟩
theorem SY (i:Int)(t:Tok):zS (.inl i) (.int i t)=true:=by simp[zS,Value.isInt]
theorem QP (x:Str)(t:Tok):zS (.inr x) (.str x t)=true:=by simp[zS,Value.isStrOf]
theorem aCf (a b:Int):decide ((Sum.inl a:Key)=Sum.inl b)=(a==b):=by
 by_cases e:a=b
 ·subst e;simp
 ·have h:¬(Sum.inl a:Key)=Sum.inl b:=fun q=>e (Sum.inl.inj q);rw[decide_eq_false h];exact(beq_eq_false_iff_ne.mpr e).symm
theorem aBT (a b:Str):decide ((Sum.inr a:Key)=Sum.inr b)=decide (a=b):=by
 by_cases e:a=b
 ·subst e;simp
 ·have h:¬(Sum.inr a:Key)=Sum.inr b:=fun q=>e (Sum.inr.inj q);rw[decide_eq_false h,decide_eq_false e]
theorem aBz (a:Int)(b:Str):decide ((Sum.inl a:Key)=Sum.inr b)=false:=decide_eq_false (fun q=>nomatch q)
theorem aBt (a:Str)(b:Int):decide ((Sum.inr a:Key)=Sum.inl b)=false:=decide_eq_false (fun q=>nomatch q)
def bY (prog:Program)(w:World):PySem.KeyKind prog w Key where
 is:=zS
 hash:=aD4 w
 inj:=fun v a b ha hb=>by
  rcases cX ha with⟨i,t,rfl,rfl⟩|⟨x,t,rfl,rfl⟩
  ·rcases cX hb with⟨j,u,rfl,e⟩|⟨y,u,rfl,e⟩
   ·injection e with e1 _;rw[e1]
   ·exact nomatch e
  ·rcases cX hb with⟨j,u,rfl,e⟩|⟨y,u,rfl,e⟩
   ·exact nomatch e
   ·injection e with e1 _;rw[e1]
 byValue:=fun k v h=>by
  rcases cX h with⟨i,t,rfl,rfl⟩|⟨x,t,rfl,rfl⟩<;>rfl
 pyHash:=fun hv h=>by
  rcases cX hv with⟨i,t,rfl,rfl⟩|⟨x,t,rfl,rfl⟩
  ·exact wpAny_pyHash_int h
  ·exact wpAny_pyHash_str h
 eqBool:=fun hu hv h=>by
  rcases cX hu with⟨i,t,rfl,rfl⟩|⟨x,t,rfl,rfl⟩
  ·rcases cX hv with⟨j,u,rfl,rfl⟩|⟨y,u,rfl,rfl⟩
   ·rw[aCf]at h;exact wpAny_eqBool_int h
   ·rw[aBz]at h;exact SeqAt.EqAt.int_str i t y u _ _ _ _ h
  ·rcases cX hv with⟨j,u,rfl,rfl⟩|⟨y,u,rfl,rfl⟩
   ·rw[aBt]at h;exact SeqAt.EqAt.str_int x t j u _ _ _ _ h
   ·rw[aBT]at h;exact wpAny_eqBool_str h
 «strs»:=fun k x t v h=>by
  rcases cX h with⟨i,u,rfl,e⟩|⟨y,u,rfl,e⟩
  ·exact nomatch e
  ·injection e with e1 _;subst e1;cases v<;>rfl
theorem L1 (prog:Program)(w:World)(i:Int)(t:Tok):(bY prog w).is (.inl i) (.int i t)=true:=SY i t
theorem L4 (prog:Program)(w:World)(x:Str)(t:Tok):(bY prog w).is (.inr x) (.str x t)=true:=QP x t
inductive V where
 | non|bl (b:Bool)|int (i:Int)|str (x:Str)|byt (b:Array UInt8)|flt (b:UInt64)|ref (a:Addr)|ty (n:String)
 deriving DecidableEq
def RelV:V->Value->Prop
 | .non,u=>u=Value.none
 | .bl b,u=>u=Value.bool b
 | .int i,u=>∃t,u=Value.int i t
 | .str x,u=>∃t,u=Value.str x t
 | .byt b,u=>∃t,u=Value.bytes b t
 | .flt b,u=>∃t,u=Value.float b t
 | .ref a,u=>u=Value.ref a
 | .ty n,u=>u=Value.type n
abbrev Vals:List V->List Value->Prop:=Paired RelV
theorem Vals.length {xs:List V}{us:List Value} (r:Vals xs us):xs.length=us.length:=Paired.length r
theorem Vals.get:∀{xs:List V}{us:List Value}{i:Nat}{x:V},Vals xs us->xs[i]? =some x->∃u,us[i]? =some u/\RelV x u
 | _,_,_,_,.nil,e=>by simp at e
 | _,_,0,_,.cons r _,e=>by simp at e;subst e;exact⟨_,rfl,r⟩
 | _,_,i+1,x,.cons _ t,e=>by
  obtain⟨u,h1,h2⟩:=Vals.get (i:=i) (x:=x) t (by simpa using e);exact⟨u,by simpa using h1,h2⟩
theorem Vals.set {x:V}{u:Value} (r:RelV x u):∀{xs:List V}{us:List Value} (i:Nat),Vals xs us->Vals (xs.set i x) (us.set i u)
 | _,_,_,.nil=> .nil
 | _,_,0,.cons _ t=> .cons r t
 | _,_,i+1,.cons q t=> .cons q (Vals.set r i t)
theorem Vals.append:∀{xs ys:List V}{us ws:List Value},Vals xs us->Vals ys ws->Vals (xs++ys) (us++ws)
 | _,_,_,_,.nil,s=>s
 | _,_,_,_,.cons r t,s=> .cons r (Vals.append t s)
theorem Vals.take:∀{xs:List V}{us:List Value} (n:Nat),Vals xs us->Vals (xs.take n) (us.take n)
 | _,_,0,_=> .nil
 | _,_,_+1,.nil=> .nil
 | _,_,n+1,.cons r t=> .cons r (Vals.take n t)
theorem Vals.drop:∀{xs:List V}{us:List Value} (n:Nat),Vals xs us->Vals (xs.drop n) (us.drop n)
 | _,_,0,r=>r
 | _,_,_+1,.nil=> .nil
 | _,_,n+1,.cons _ t=>Vals.drop n t
def RelO:Option V->Option Value->Prop
 | some v,some u=>RelV v u
 | none,none=>True
 | _,_=>False
def KV {κ:Type}:List (κ×V)->List (κ×Value)->Prop:=Paired fun (p:κ×V) (q:κ×Value)=>p.1=q.1/\RelV p.2 q.2
def kV:Key->V
 | .inl i=> .int i
 | .inr x=> .str x
inductive HO where
  | lst (xs:List V)
  | tup (xs:List V)
  | dK (kvs:List (Key×V))|dT (kvs:List (List Key×V))
  | set (S:Int->Bool) (n:Nat)
  | ins (C dx:Addr) (fs:List (Str×V))
  | own (x:Addr)
  | xd (fs:List (Str×V))
  | met (f x:Addr)
  | rng (lo hi:Int)
  | frz (o:Obj) (u:HO)
  | tbl (ps:Array Value)
  | ext (φ:Heap->Prop)
abbrev Hp:=Addr->Option HO
def upd (H:Hp)(a:Addr)(o:HO):Hp:=fun b=>if b=a then some o else H b
theorem aQ {H:Hp}{a:Addr}{o:HO}:upd H a o a=some o:=by unfold upd;rw[if_pos rfl]
theorem aH {H:Hp}{a b:Addr}{o:HO} (h:b≠a):upd H a o b=H b:=by unfold upd;rw[if_neg h]
theorem ZZ {H:Hp}{a:Addr}{o u:HO}:upd (upd H a o) a u=upd H a u:=by
 funext b;unfold upd;split<;>rfl
theorem aDm {H:Hp}{a b:Addr}{o u:HO} (h:H a=some o) (h':H b=some u) (d:o≠u):a≠b:=by
 intro e;subst e;rw[h]at h';exact d (Option.some.inj h')
theorem bA {H:Hp}{a b:Addr}{o:HO} (h:H a=some o) (h':H b=none):a≠b:=by
 intro e;subst e;rw[h]at h';cases h'
section
variable (P:Program)(w:World)
def ObjOk (H:Hp)(h:Heap)(a:Addr):HO->Prop
 | .lst xs=>xs.length<=sizeLine/\∃(its:List Value) (n:Nat),Vals xs its/\h.get? a=some { cls:= .type "list",data:= .seq its.toArray n }
 | .tup xs=>xs.length<=sizeLine/\∃its:List Value,Vals xs its/\IsTup h a its.toArray
 | .dK kvs=>kvs.length<=sizeLine/\(a==sysModules)=false/\∃vs,KV kvs vs/\h.DictOf (bY P w) a vs
 | .dT kvs=>kvs.length<=sizeLine/\(a==sysModules)=false/\∃xs:List (List Key×Addr×Value),
   Paired (fun (p:List Key×V) (q:List Key×Addr×Value)=>p.1=q.1/\H q.2.1=some (.tup (p.1.map kV))/\RelV p.2 q.2.2) kvs xs ∧
   ∃o es ep,h.get? a=some o/\o.ExactDict/\o.data= .dict es ep/\es.toList=xs.map (entryOfKey (tupleKind (bY P w)))/\(xs.map (·.1)).Nodup
 | .set S n=>h.SetOf (intKind P w) a S n
 | .ins C dx fs=>H dx=some (.own a)/\fs.length<=1000/\dx≠a/\h.get? a=some (W.instObj C dx) ∧
   ∃mA,h.Ns1 dx mA/\(∀f,RelO (fs.lookup f) (mA f))/\PySem.Within mA (fs.map (·.1))
 | .own _=>∃o,h.get? a=some o
 | .xd fs=>∃mA,h.Ns1 a mA/\∀f,RelO (fs.lookup f) (mA f)
 | .rng lo hi=>∃t u v,h.get? a=some { cls:= .type "range",data:= .fields #[.int lo t,.int hi u,.int 1 v] }
 | .frz o u=>h.get? a=some o/\ObjOk H h a u
 | .tbl ps=>h.get? a=some { cls:= .none,data:= .fields ps }
 | .met f x=>h.get? a=some (W.methodObj (.ref f) (.ref x))
 | .ext φ=>φ h/\(∃o,h.get? a=some o)/\∀h1 h2:Heap,φ h1->(∀o,h1.get? a=some o->h2.get? a=some o)->φ h2
def HOk (H:Hp)(h:Heap):Prop:=∀a o,H a=some o->ObjOk P w H h a o
end
section
variable {P:Program}{w:World}{H H':Hp}{h h':Heap}{a:Addr}{o:HO}
theorem ObjOk.lt (x:ObjOk P w H h a o):a<h.objs.size:=by
 cases o with
 | lst xs=>obtain⟨_,_,_,_,e⟩:=x;exact Heap.lt_size e
 | tup xs=>obtain⟨_,_,_,p⟩:=x;exact p.lt
 | dK kvs=>obtain⟨_,_,_,_,o,_,_,e,_⟩:=x;exact Heap.lt_size e
 | dT kvs=>obtain⟨_,_,_,_,o,_,_,e,_⟩:=x;exact Heap.lt_size e
 | set S n=>obtain⟨o,_,_,_,e,_⟩:=x;exact Heap.lt_size e
 | ins C dx fs=>obtain⟨_,_,_,e,_⟩:=x;exact Heap.lt_size e
 | own y=>obtain⟨_,e⟩:=x;exact Heap.lt_size e
 | xd fs=>obtain⟨_,⟨_,_,_,e,_⟩,_⟩:=x;exact Heap.lt_size e
 | rng lo hi=>obtain⟨_,_,_,e⟩:=x;exact Heap.lt_size e
 | frz ob u=>obtain⟨e,_⟩:=x;exact Heap.lt_size e
 | tbl ps=>exact Heap.lt_size (show h.get? a=some _ from x)
 | met f y=>exact Heap.lt_size (show h.get? a=some _ from x)
 | ext φ=>obtain⟨_,⟨_,e⟩,_⟩:=x;exact Heap.lt_size e
theorem Paired.mapP {α β:Type}{F G:α->β->Prop}:∀{l₁:List α}{l₂:List β},Paired F l₁ l₂->(∀a b,F a b->G a b)->Paired G l₁ l₂
 | _,_,.nil,_=> .nil
 | _,_,.cons r t,f=> .cons (f _ _ r) (Paired.mapP t f)
theorem Paired.imp' {α β:Type}{F G:α->β->Prop} (f:∀a b,F a b->G a b) {l₁:List α}{l₂:List β} (r:Paired F l₁ l₂):Paired G l₁ l₂:=Paired.mapP r f
theorem ObjOk.stay (x:ObjOk P w H h a o)(k:∀b u,(b=a∨H b=some (.own a))->h.get? b=some u->h'.get? b=some u)
  (ho:∀b,H b=some (.own a)->H' b=some (.own a))(ht:∀b xs,H b=some (.tup xs)->H' b=some (.tup xs)):ObjOk P w H' h' a o:=by
 induction o with
 | lst xs=>obtain⟨z,its,n,r,e⟩:=x;exact⟨z,its,n,r,k _ _ (.inl rfl) e⟩
 | tup xs=>obtain⟨z,its,r,ob,e,c⟩:=x;exact⟨z,its,r,ob,k _ _ (.inl rfl) e,c⟩
 | dK kvs=>obtain⟨z,y,vs,r,ob,es,ep,e,c⟩:=x;exact⟨z,y,vs,r,ob,es,ep,k _ _ (.inl rfl) e,c⟩
 | dT kvs =>
  obtain⟨z,y,xs,r,ob,es,ep,e,c⟩:=x;exact⟨z,y,xs,Paired.mapP r fun p q z=>⟨z.1,ht _ _ z.2.1,z.2.2⟩,ob,es,ep,k _ _ (.inl rfl) e,c⟩
 | set S n=>obtain⟨ob,es,ep,t,e,c⟩:=x;exact⟨ob,es,ep,t,k _ _ (.inl rfl) e,c⟩
 | ins C dx fs =>
  obtain⟨d,z,ne,e,mA,⟨od,es,ep,e2,c⟩,r⟩:=x;exact⟨ho _ d,z,ne,k _ _ (.inl rfl) e,mA,⟨od,es,ep,k _ _ (.inr d) e2,c⟩,r⟩
 | own y=>obtain⟨ob,e⟩:=x;exact⟨ob,k _ _ (.inl rfl) e⟩
 | xd fs=>obtain⟨mA,⟨od,es,ep,e,c⟩,r⟩:=x;exact⟨mA,⟨od,es,ep,k _ _ (.inl rfl) e,c⟩,r⟩
 | rng lo hi=>obtain⟨t,u,v,e⟩:=x;exact⟨t,u,v,k _ _ (.inl rfl) e⟩
 | frz ob u ih=>obtain⟨e,q⟩:=x;exact⟨k _ _ (.inl rfl) e,ih q⟩
 | tbl ps =>
  have e:h.get? a=some { cls:= .none,data:= .fields ps }:=x;show h'.get? a=some { cls:= .none,data:= .fields ps };exact k a _ (.inl rfl) e
 | met f y =>
  have e:h.get? a=some (W.methodObj (.ref f) (.ref y)):=x;show h'.get? a=some (W.methodObj (.ref f) (.ref y));exact k a _ (.inl rfl) e
 | ext φ=>obtain⟨p,⟨o,e⟩,st⟩:=x;exact⟨st _ _ p fun o q=>k _ _ (.inl rfl) q,⟨o,k _ _ (.inl rfl) e⟩,st⟩
theorem HOk.lt (x:HOk P w H h)(e:H a=some o):a<h.objs.size:=(x a o e).lt
theorem HOk.fresh (x:HOk P w H h)(e:h.objs.size<=a):H a=none:=by
 cases q:H a with
 | none=>rfl
 | some u=>exact absurd (Nat.lt_of_lt_of_le (x.lt q) e) (Nat.lt_irrefl _)
theorem HOk.kept (x:HOk P w H h)(k:∀b u,h.get? b=some u->h'.get? b=some u):HOk P w H h':=fun a o e =>
 (x a o e).stay (fun b u _ q=>k b u q) (fun _ q=>q) fun _ _ q=>q
theorem HOk.laid (x:HOk P w H h)(k:∀b u,h.get? b=some u->h'.get? b=some u)(hp:h.objs.size<=a)(new:ObjOk P w (upd H a o) h' a o):HOk P w (upd H a o) h':=fun b u e=>by
 have hn:=x.fresh hp
 by_cases hb:b=a
 ·subst hb;rw[aQ]at e;cases e;exact new
 ·rw[aH hb]at e;exact(x b u e).stay (fun c v _ q=>k c v q) (fun c q=>by rw[aH (bA q hn)];exact q) fun c xs q=>by rw[aH (bA q hn)];exact q
end
def Rd (H:Hp)(a:Addr)(u:HO):Prop:=H a=some u∨∃o,H a=some (.frz o u)
theorem Rd.ok {P:Program}{w:World}{H:Hp}{h:Heap}{a:Addr}{u:HO} (r:Rd H a u) (x:HOk P w H h):ObjOk P w H h a u:=by
 rcases r with r|⟨o,r⟩
 ·exact x a u r
 ·obtain⟨_,q⟩:=x a _ r;exact q
def Mut:Option HO->Prop
 | some (.lst _)=>True
 | some (.dK _)=>True
 | some (.dT _)=>True
 | some (.set _ _)=>True
 | some (.ins _ _ _)=>True
 | some (.ext _)=>True
 | _=>False
section
variable {P:Program}{w:World}{H:Hp}{h h':Heap}{x e:Addr}{o':HO}
theorem HOk.write (ok:HOk P w H h)(mu:Mut (H x))(he:e=x∨H e=some (.own x))(k:∀b u,b≠e->h.get? b=some u->h'.get? b=some u)(heo:∃u,h'.get? e=some u)
  (new:ObjOk P w (upd H x o') h' x o'):HOk P w (upd H x o') h':=fun b u q=>by
 have nown:∀c y,H c=some (.own y)->c≠x:=fun c y r z=>by subst z;rw[r]at mu;exact mu
 have ntup:∀c xs,H c=some (.tup xs)->c≠x:=fun c xs r z=>by subst z;rw[r]at mu;exact mu
 by_cases hb:b=x
 ·subst hb;rw[aQ]at q;cases q;exact new
 ·rw[aH hb]at q
  by_cases hbe:b=e
  ·have q':H b=some (.own x):=by
    rcases he with z|z
    ·exact absurd (hbe.trans z) hb
    ·rw[hbe];exact z
   rw[q]at q';cases q';obtain⟨v,hv⟩:=heo;exact⟨v,by rw[hbe];exact hv⟩
  ·refine(ok b u q).stay (fun c v hc r=>k c v ?_ r) (fun c r=>by rw[aH (nown c b r)];exact r) fun c xs r=>by rw[aH (ntup c xs r)];exact r
   rcases hc with rfl|hc
   ·exact hbe
   ·rintro rfl;rcases he with z|z
    ·exact nown c b hc z
    ·rw[hc]at z;cases z;exact hb rfl
end
structure Un (fs ex:List Addr)(H H':Hp)(h h':Heap):Prop where
 keep:∀b o,h.get? b=some o->H b=none->b∉fs->b∉ex->h'.get? b=some o
 slot:∀b o,h.get? b=some o->H b=none->b∈fs->b∉ex->∃sl,h'.get? b=some { o with slots:=sl }
 free:∀b o,h.get? b=some o->H b=none->b∉ex->H' b=none
 there:∀b o,h.get? b=some o->b∉ex->∃o',h'.get? b=some o'
 tups:∀b xs,H b=some (.tup xs)->H' b=some (.tup xs)
 frzs:∀b o u,H b=some (.frz o u)->H' b=some (.frz o u)
 tbls:∀b ps,H b=some (.tbl ps)->∃more,H' b=some (.tbl (ps++more))
section
variable {fs fs' ex ex':List Addr}{H H1 H2:Hp}{h h1 h2 h':Heap}{a x e:Addr}{o:HO}
theorem Un.any (u:Un fs ex H H1 h h1){b:Addr}{ob:Obj} (q:h.get? b=some ob) (n:H b=none) (hx:b∉ex):∃sl,h1.get? b=some { ob with slots:=sl }:=by
 by_cases hb:b∈fs
 ·exact u.slot b ob q n hb hx
 ·exact⟨ob.slots,u.keep b ob q n hb hx⟩
theorem Un.kept (k:∀b u,h.get? b=some u->h'.get? b=some u):Un fs ex H H h h' :=
 ⟨fun b ob q _ _ _=>k b ob q,fun b ob q _ _ _=>⟨ob.slots,k b ob q⟩,fun _ _ _ n _=>n,fun b ob q _=>⟨ob,k b ob q⟩,fun _ _ q=>q,fun _ _ _ q=>q,fun _ ps q=>⟨#[],by rw[q];simp⟩⟩
theorem Un.refl:Un fs ex H H h h:=Un.kept fun _ _ q=>q
theorem Un.laid (k:∀b u,h.get? b=some u->h'.get? b=some u)(hp:h.objs.size<=a)(hn:H a=none):Un fs ex H (upd H a o) h h' where
 keep:=fun b u q _ _ _=>k b u q
 slot:=fun b u q _ _ _=>⟨u.slots,k b u q⟩
 free:=fun b u q n _=>by rw[aH (Nat.ne_of_lt (Nat.lt_of_lt_of_le (Heap.lt_size q) hp))];exact n
 there:=fun b u q _=>⟨u,k b u q⟩
 tups:=fun b xs q=>by rw[aH (bA q hn)];exact q
 frzs:=fun b u xs q=>by rw[aH (bA q hn)];exact q
 tbls:=fun b ps q=>⟨#[],by rw[aH (bA q hn),q];simp⟩
theorem Un.write (mu:Mut (H x))(he:e=x∨H e=some (.own x))(k:∀b u,b≠e->h.get? b=some u->h'.get? b=some u)(heo:∃u,h'.get? e=some u):Un fs ex H (upd H x o) h h':=by
 have hx:∀b,H b=none->b≠x:=fun b n z=>by subst z;rw[n]at mu;exact mu
 have hb:∀b,H b=none->b≠e:=fun b n z=>by
  subst z;rcases he with r|r
  ·exact hx b n r
  ·rw[n]at r;cases r
 have hm:∀b u,H b=some u->¬Mut (some u)->b≠x:=fun b u q nm z=>by subst z;rw[q]at mu;exact nm mu
 refine⟨fun b u q n _ _=>k b u (hb b n) q,fun b u q n _ _=>⟨u.slots,k b u (hb b n) q⟩,fun b u q n _=>by rw[aH (hx b n)];exact n,fun b u q _=> ?_,
  fun b xs q=>by rw[aH (hm b _ q fun z=>z)];exact q,fun b u xs q=>by rw[aH (hm b _ q fun z=>z)];exact q,fun b ps q=>⟨#[],by rw[aH (hm b _ q fun z=>z),q];simp⟩⟩
 by_cases hbe:b=e
 ·subst hbe;exact heo
 ·exact⟨u,k b u hbe q⟩
end
def trk (h:Heap)(H:Hp):List Addr:=(List.range h.objs.size).filter fun a=>(H a).isSome
def pY (h:Heap)(H:Hp):Heap:=W.hideAll h (trk h H)
theorem T4 (h:Heap)(H:Hp):(pY h H).objs.size=h.objs.size:=W.hideAll_size _ _
theorem VC {h:Heap}{H:Hp}{b:Addr}{o:Obj} (e:h.get? b=some o) (n:H b=none):(pY h H).get? b=some o :=
 W.hideAll_get _ e fun hm=>by
  have q:(H b).isSome=true:=(List.mem_filter.mp hm).2;rw[n]at q;simp at q
theorem Z3 {h:Heap}{H:Hp}{b:Addr}{o:Obj} (e:(pY h H).get? b=some o):h.get? b=some o/\H b=none:=by
 have e':h.get? b=some o:=W.of_hideAll (trk h H) e;refine⟨e',?_⟩;cases q:H b with
 | none=>rfl
 | some x =>
  have hm:b∈trk h H:=List.mem_filter.mpr ⟨List.mem_range.mpr (Heap.lt_size e'),by simp[q]⟩;have z:(pY h H).get? b=none:=W.hideAll_none (trk h H) hm;rw[z]at e;cases e
structure Mod (K:W.Frag)(mg:Str->Option Value)(base:Heap):Prop where
 kin:K.In base
 glob:base.Ns mainGlobals mg
 blt:∃mb,base.Ns builtinsNs mb/\∀x:Str,x≠ "__name__" ->mb x=bootBuiltins x
 nolimit:base.NoLimit
structure Cx where
 prog:Program
 w:World
 K:W.Frag
 mg:Str->Option Value
 base:Heap
 A:Around
 N:List Str
 s₀:Shared
 H₀:Hp
 env:Env
 outer:List Env
 stack:List Env
 ex:List Addr
 fn:Str->Bool
 calm:Bool
 pn:List (Addr×Obj)
 xe:Value->Shared->Prop
def frs (l:List Env):List Addr:=l.filterMap (·.frame)
abbrev Cx.fs (X:Cx):List Addr:=frs X.outer
def Vis (sc:Scope)(x:Str):Prop:=sc.names.lookup x=some .local∨sc.names.lookup x=some .cell∨sc.names.lookup x=some .free
def Loc (sc:Scope)(x:Str):Prop:=sc.names.lookup x=some .local∨sc.names.lookup x=some .cell
def aEb (env:Env)(h:Heap)(m:Str->Option Value)(x:Str)(u:Value):Prop :=
 (env.kindOf x=some .local/\m x=some u)∨((env.kindOf x=some .cell∨env.kindOf x=some .free)/\∃c,env.cells.lookup x=some c/\h.IsCell c (some u))
structure Cx.Ok (X:Cx):Prop where
 mod:Mod X.K X.mg X.base
 kind:X.env.scope.kind= .function
 glob:X.env.globals=mainGlobals
 blt:X.env.builtins=builtinsNs
 above:X.s₀.heap.objs.size<=X.env.locals
 inj:∀x y c,X.env.cells.lookup x=some c->X.env.cells.lookup y=some c->x=y
 has:∀x,(X.env.kindOf x=some .cell∨X.env.kindOf x=some .free)->∃c,X.env.cells.lookup x=some c
 cab:∀x c,X.fn x=true->X.env.cells.lookup x=some c->X.s₀.heap.objs.size<=c
 hd:X.calm=true->X.A.handled=none
 frames:X.A.frames=some X.stack
 stk:X.stack=X.outer∨(X.stack=X.env::X.outer/\X.env.frame=some X.env.locals)
 exf:∀b∈X.ex,b≠X.env.locals/\∀x c,X.env.cells.lookup x=some c->c≠b
 bs:∀b o,X.base.get? b=some o->X.s₀.heap.get? b=some o/\X.H₀ b=none
 bsz:X.base.objs.size<=X.s₀.heap.objs.size
 noex:∀b o,X.base.get? b=some o->b∉X.ex
 exfs:∀b∈X.ex,b∉X.fs
 funs:X.s₀.heap.FunFrames X.base X.outer
 frf:∀b∈X.fs,X.H₀ b=none
structure Inv (X:Cx)(pins:List (Addr×Obj))(σ:List (Option V))(H:Hp)(s:Shared):Prop where
 ok:X.Ok
 os:s.os=X.s₀.os
 bare:AllBare s.gens
 base:Un X.fs X.ex X.H₀ H X.s₀.heap s.heap
 loc:∃m,s.heap.Ns X.env.locals m/\∀(i:Nat) (x:Str) (v:V),X.N[i]? =some x->σ[i]? =some (some v)->Vis X.env.scope x->∃u,RelV v u/\aEb X.env s.heap m x u
 cell:∀x c,X.env.cells.lookup x=some c->∃v,s.heap.IsCell c v
 free:H X.env.locals=none
 freeC:∀x c,X.env.cells.lookup x=some c->H c=none
 pin:∀p∈X.pn++pins,s.heap.get? p.1=some p.2/\H p.1=none/\p.1≠X.env.locals/\p.1∉X.fs/\∀v,p.2.data≠ .cell v
 hok:HOk X.prog X.w H s.heap
 len:σ.length=X.N.length
section
variable {X:Cx}{pins:List (Addr×Obj)}{σ:List (Option V)}{H H':Hp}{s:Shared}{h':Heap}
theorem Cx.Ok.nofr (ok:X.Ok){b:Addr}{o:Obj} (e:X.base.get? b=some o):b∉X.fs:=fun hb=>by
 have:=(ok.funs.mem hb).1;rw[e]at this;cases this
theorem Inv.bs (I:Inv X pins σ H s):∀b o,X.base.get? b=some o->s.heap.get? b=some o/\H b=none:=fun b o e =>
 ⟨I.base.keep b o (I.ok.bs b o e).1 (I.ok.bs b o e).2 (I.ok.nofr e) (I.ok.noex b o e),I.base.free b o (I.ok.bs b o e).1 (I.ok.bs b o e).2 (I.ok.noex b o e)⟩
theorem Inv.bk (I:Inv X pins σ H s):∀b o,X.base.get? b=some o->s.heap.get? b=some o:=fun b o e=>(I.bs b o e).1
theorem Inv.mod (I:Inv X pins σ H s):Mod X.K X.mg X.base:=I.ok.mod
theorem Inv.kIn (I:Inv X pins σ H s):X.K.In s.heap:=I.ok.mod.kin.keeps I.bk
theorem Inv.lt (I:Inv X pins σ H s):X.env.locals<s.heap.objs.size:=let ⟨_,hn,_⟩:=I.loc;hn.lt
theorem Inv.sz (I:Inv X pins σ H s):X.s₀.heap.objs.size<=s.heap.objs.size:=Nat.le_trans I.ok.above (Nat.le_of_lt I.lt)
theorem Inv.nofs (I:Inv X pins σ H s){a:Addr}(h:s.heap.objs.size<=a):a∉X.fs:=fun hb=>by
 obtain⟨_,o,ho,_⟩:=I.ok.funs.mem hb;exact absurd (Nat.lt_of_lt_of_le (Heap.lt_size ho) (Nat.le_trans I.sz h)) (Nat.lt_irrefl _)
theorem Inv.cne (I:Inv X pins σ H s):∀x c,X.env.cells.lookup x=some c->c≠X.env.locals:=fun x c e z=>by
 obtain⟨v,o,ho,hd⟩:=I.cell x c e;obtain⟨m,⟨o',es,ep,ho',hd',_⟩,_⟩:=I.loc;rw[z,ho']at ho;cases ho;rw[hd']at hd;cases hd
theorem Inv.funs (I:Inv X pins σ H s):s.heap.FunFrames X.base X.outer:=by
 have all:∀(l:List Env),(∀b∈frs l,b∈X.fs)->X.s₀.heap.FunFrames X.base l->s.heap.FunFrames X.base l:=by
  intro l
  induction l with
  | nil=>intro _ _;trivial
  | cons env r ih =>
   intro hs hl;obtain⟨hk,⟨L,o,hf,hn,ho,hd⟩,hr⟩:=hl;have hL:L∈X.fs:=hs L (by unfold frs;rw[List.filterMap_cons,hf];exact List.mem_cons_self);obtain⟨sl,e⟩:=I.base.slot L o ho (I.ok.frf L hL) hL fun z=>I.ok.exfs L z hL;exact⟨hk,⟨L,_,hf,hn,e,hd⟩,ih (fun b hb=>hs b (by unfold frs;rw[List.filterMap_cons,hf];exact List.mem_cons_of_mem _ hb)) hr⟩
 exact all X.outer (fun _ hb=>hb) I.ok.funs
theorem Inv.stack (I:Inv X pins σ H s):s.heap.FunFrames X.base X.stack:=by
 rcases I.ok.stk with e|⟨e,hf⟩
 ·rw[e];exact I.funs
 ·rw[e];obtain⟨m,hn,_⟩:=I.loc;refine .cons (by rw[I.ok.kind];decide) hf hn ?_ I.funs;exact Heap.get?_none_of_le (Nat.le_trans I.ok.bsz I.ok.above)
theorem Inv.stkSub (I:Inv X pins σ H s):∀b∈frs X.stack,b∈X.env.locals::X.fs:=fun b hb=>by
 rcases I.ok.stk with e|⟨e,hf⟩
 ·rw[e]at hb;exact List.mem_cons_of_mem _ hb
 ·rw[e]at hb;unfold frs at hb;rw[List.filterMap_cons,hf]at hb;exact hb
theorem Inv.stkFree (I:Inv X pins σ H s):∀b∈frs X.stack,H b=none:=fun b hb=>by
 rcases List.mem_cons.mp (I.stkSub b hb) with e|hb
 ·rw[e];exact I.free
 ·obtain⟨_,o,ho,_⟩:=I.ok.funs.mem hb;exact I.base.free b o ho (I.ok.frf b hb) fun z=>I.ok.exfs b z hb
theorem Inv.step {g':Array GenState}{t':Nat}{d':Drawn}{ch:List Addr} (I:Inv X pins σ H s)
  (hch:∀b∈ch,(b∈X.ex∨X.s₀.heap.objs.size<=b)/\b≠X.env.locals/\(∀x c,X.env.cells.lookup x=some c->c≠b)/\∀p∈X.pn++pins,p.1≠b)
  (keep:∀b o,b≠X.env.locals->b∉X.fs->b∉ch->s.heap.get? b=some o->H b=none->h'.get? b=some o)
  (slot:∀b o,b≠X.env.locals->b∈X.fs->b∉ch->s.heap.get? b=some o->H b=none->∃sl,h'.get? b=some { o with slots:=sl })(free:∀b o,b∉ch->s.heap.get? b=some o->H b=none->H' b=none)
  (there:∀b o,b∉ch->s.heap.get? b=some o->∃o',h'.get? b=some o')
  (tups:∀b xs,H b=some (.tup xs)->H' b=some (.tup xs))(frzs:∀b o u,H b=some (.frz o u)->H' b=some (.frz o u))(tbls:∀b ps,H b=some (.tbl ps)->∃more,H' b=some (.tbl (ps++more)))
  (ns:∀m,s.heap.Ns X.env.locals m->h'.Ns X.env.locals m)(hok:HOk X.prog X.w H' h')(hg:AllBare g') :
  Inv X pins σ H' { s with heap:=h',gens:=g',drawn:=d',toks:=t' }:=by
 have neL:∀b o,X.s₀.heap.get? b=some o->b≠X.env.locals:=fun b o e=>Nat.ne_of_lt (Nat.lt_of_lt_of_le (Heap.lt_size e) I.ok.above);have neC:∀b o,X.s₀.heap.get? b=some o->b∉X.ex->b∉ch:=fun b o e hx hb=>by
  rcases (hch b hb).1 with z|z
  ·exact hx z
  ·exact absurd (Nat.lt_of_lt_of_le (Heap.lt_size e) z) (Nat.lt_irrefl _)
 have cellK:∀x c,X.env.cells.lookup x=some c->∀v,s.heap.IsCell c v->h'.IsCell c v:=fun x c e v ⟨o,ho,hd⟩=>by
  have nch:c∉ch:=fun z=>(hch c z).2.2.1 x c e rfl
  by_cases hc:c∈X.fs
  ·obtain⟨sl,q⟩:=slot c o (I.cne x c e) hc nch ho (I.freeC x c e);exact⟨_,q,hd⟩
  ·exact⟨o,keep c o (I.cne x c e) hc nch ho (I.freeC x c e),hd⟩
 refine⟨I.ok,I.os,hg,⟨fun b o e n hb hx=> ?_,fun b o e n hb hx=> ?_,fun b o e n hx=> ?_,fun b o e hx=> ?_,fun b xs e=>tups b xs (I.base.tups b xs e),fun b o xs e=>frzs b o xs (I.base.frzs b o xs e),fun b ps e=> ?_⟩,?_,fun x c e=> ?_,?_,fun x c e=> ?_,fun p hp=> ?_,hok,I.len⟩
 ·exact keep b o (neL b o e) hb (neC b o e hx) (I.base.keep b o e n hb hx) (I.base.free b o e n hx)
 ·obtain⟨sl,e1⟩:=I.base.slot b o e n hb hx;obtain⟨sl',e2⟩:=slot b _ (neL b o e) hb (neC b o e hx) e1 (I.base.free b o e n hx);exact⟨sl',e2⟩
 ·obtain⟨o',e1⟩:=I.base.there b o e hx;exact free b o' (neC b o e hx) e1 (I.base.free b o e n hx)
 ·obtain⟨o',e1⟩:=I.base.there b o e hx;exact there b o' (neC b o e hx) e1
 ·obtain⟨m1,e1⟩:=I.base.tbls b ps e;obtain⟨m2,e2⟩:=tbls b _ e1;exact⟨m1++m2,by rw[e2,Array.append_assoc]⟩
 ·obtain⟨m,hn,hl⟩:=I.loc;refine⟨m,ns m hn,fun i x v e1 e2 e3=> ?_⟩;obtain⟨u,r,l⟩:=hl i x v e1 e2 e3;refine⟨u,r,?_⟩;rcases l with l|⟨k,c,e,z⟩
  ·exact .inl l
  ·exact .inr ⟨k,c,e,cellK x c e _ z⟩
 ·obtain⟨v,z⟩:=I.cell x c e;exact⟨v,cellK x c e v z⟩
 ·obtain⟨m,⟨o,_,_,ho,_⟩,_⟩:=I.loc;exact free _ o (fun z=>(hch _ z).2.1 rfl) ho I.free
 ·obtain⟨v,o,ho,hd⟩:=I.cell x c e;exact free c o (fun z=>(hch c z).2.2.1 x c e rfl) ho (I.freeC x c e)
 ·obtain⟨e,n,ne,nf,d⟩:=I.pin p hp;have nch:p.1∉ch:=fun z=>(hch p.1 z).2.2.2 p hp rfl;exact⟨keep p.1 p.2 ne nf nch e n,free p.1 p.2 nch e n,ne,nf,d⟩
theorem Inv.un {t':Nat}(I:Inv X pins σ H s)(u:Un X.fs [] H H' s.heap h')(hok:HOk X.prog X.w H' h'):Inv X pins σ H' { s with heap:=h',toks:=t' }:=by
 obtain⟨m,⟨o,es,ep,ho,r⟩,_⟩:=id I.loc;obtain⟨sl,hL⟩:=u.any ho I.free (by simp);exact I.step (g':=s.gens) (d':=s.drawn) (ch:=[]) (fun _ z=>nomatch z) (fun b o _ hb _ e n=>u.keep b o e n hb (by simp)) (fun b o _ hb _ e n=>u.slot b o e n hb (by simp)) (fun b o _ e n=>u.free b o e n (by simp)) (fun b o _ e=>u.there b o e (by simp)) u.tups u.frzs u.tbls (fun m' hm=>by
  obtain⟨o',es',ep',ho',r'⟩:=hm;rw[ho]at ho';cases ho';exact⟨_,es',ep',hL,r'⟩) hok I.bare
theorem Inv.call {g':Array GenState}{t':Nat}{d':Drawn}{ch:List Addr} (I:Inv X pins σ H s) (u:Un (frs X.stack) ch H H' s.heap h') (hok:HOk X.prog X.w H' h') (hg:AllBare g')
  (hch:∀b∈ch,(b∈X.ex∨X.s₀.heap.objs.size<=b)/\b≠X.env.locals/\(∀x c,X.env.cells.lookup x=some c->c≠b)/\∀p∈X.pn++pins,p.1≠b) :
  Inv X pins σ H' { s with heap:=h',gens:=g',drawn:=d',toks:=t' }:=by
 obtain⟨m,⟨o,es,ep,ho,r⟩,_⟩:=id I.loc;obtain⟨sl,hL⟩:=u.any ho I.free fun z=>(hch _ z).2.1 rfl;exact I.step (ch:=ch) hch (fun b o hL hb hc e n=>u.keep b o e n (fun z=>(List.mem_cons.mp (I.stkSub b z)).elim hL hb) hc) (fun b o _ _ hc e n=>u.any e n hc) (fun b o hc e n=>u.free b o e n hc) (fun b o hc e=>u.there b o e hc) u.tups u.frzs u.tbls (fun m' hm=>by
  obtain⟨o',es',ep',ho',r'⟩:=hm;rw[ho]at ho';cases ho';exact⟨_,es',ep',hL,r'⟩) hok hg
theorem Inv.turned {t':Nat}{it:Addr} (I:Inv X pins σ H s) (k:∀b o,b≠it->s.heap.get? b=some o->h'.get? b=some o) (hn:H it=none) (hL:it≠X.env.locals)
  (h1:it∈X.ex∨X.s₀.heap.objs.size<=it)(h2:∀x c,X.env.cells.lookup x=some c->c≠it)(h3:∀p∈X.pn++pins,p.1≠it):Inv X pins σ H { s with heap:=h',toks:=t' }:=by
 have nit:∀b u,H b=some u->b≠it:=fun b u e z=>by rw[z,hn]at e;cases e
 refine I.step (g':=s.gens) (d':=s.drawn) (ch:=[it]) (fun b hb=> ?_) (fun b o _ _ hc e _=>k b o (fun z=>hc (by simp[z])) e) (fun b o _ _ hc e _=>⟨o.slots,k b o (fun z=>hc (by simp[z])) e⟩) (fun _ _ _ _ n=>n)
  (fun b o hc e=>⟨o,k b o (fun z=>hc (by simp[z])) e⟩) (fun _ _ e=>e) (fun _ _ _ e=>e) (fun b ps e=>⟨#[],by rw[e];simp⟩) (fun m hm=> ?_) (fun b u e=> ?_) I.bare
 ·have e:b=it:=by simpa using hb
  subst e;exact⟨h1,hL,h2,h3⟩
 ·obtain⟨o,es,ep,ho,r⟩:=hm;exact⟨o,es,ep,k _ o (Ne.symm hL) ho,r⟩
 ·refine(I.hok b u e).stay (fun c v hc q=>k c v ?_ q) (fun _ q=>q) fun _ _ q=>q;rcases hc with z|z
  ·rw[z];exact nit b u e
  ·exact nit c _ z
theorem Inv.tok (I:Inv X pins σ H s)(t:Nat):Inv X pins σ H { s with toks:=t }:=I.un (h':=s.heap) (t':=t) Un.refl I.hok
theorem Inv.kept {t':Nat}(I:Inv X pins σ H s)(k:∀b u,s.heap.get? b=some u->h'.get? b=some u):Inv X pins σ H { s with heap:=h',toks:=t' }:=I.un (Un.kept k) (I.hok.kept k)
theorem Inv.laid {a:Addr}{o:HO}{t':Nat} (I:Inv X pins σ H s) (k:∀b u,s.heap.get? b=some u->h'.get? b=some u) (hp:s.heap.objs.size<=a) (new:ObjOk X.prog X.w (upd H a o) h' a o) :
  Inv X pins σ (upd H a o) { s with heap:=h',toks:=t' }:=I.un (Un.laid k hp (I.hok.fresh hp)) (I.hok.laid k hp new)
theorem Inv.write {x e:Addr}{o:HO}{t':Nat} (I:Inv X pins σ H s) (mu:Mut (H x)) (he:e=x∨H e=some (.own x)) (k:∀b u,b≠e->s.heap.get? b=some u->h'.get? b=some u) (heo:∃u,h'.get? e=some u)
  (new:ObjOk X.prog X.w (upd H x o) h' x o):Inv X pins σ (upd H x o) { s with heap:=h',toks:=t' }:=I.un (Un.write mu he k heo) (I.hok.write mu he k heo new)
theorem Inv.weak {σ':List (Option V)}(I:Inv X pins σ H s)(hl:σ'.length=σ.length)(w:∀(i:Nat) v,σ'[i]? =some (some v)->σ[i]? =some (some v)):Inv X pins σ' H s :=
 ⟨I.ok,I.os,I.bare,I.base,let ⟨m,hn,hl'⟩:=I.loc;⟨m,hn,fun i x v e1 e2 e3=>hl' i x v e1 (w i v e2) e3⟩,I.cell,I.free,I.freeC,I.pin,I.hok,hl.trans I.len⟩
theorem Inv.pins_of {pins':List (Addr×Obj)}(I:Inv X pins σ H s)(h:∀p∈pins',s.heap.get? p.1=some p.2/\H p.1=none/\p.1≠X.env.locals/\p.1∉X.fs/\∀v,p.2.data≠ .cell v):Inv X pins' σ H s :=
 ⟨I.ok,I.os,I.bare,I.base,I.loc,I.cell,I.free,I.freeC,fun p hp=>(List.mem_append.mp hp).elim (fun z=>I.pin p (List.mem_append_left _ z)) (h p),I.hok,I.len⟩
theorem JT {N:List Str}(hN:N.Nodup){i j:Nat}{x:Str} (a:N[i]? =some x) (b:N[j]? =some x):i=j:=by
 obtain⟨h1,e1⟩:=List.getElem?_eq_some_iff.mp a;obtain⟨h2,e2⟩:=List.getElem?_eq_some_iff.mp b;exact(List.getElem_inj hN).mp (e1.trans e2.symm)
theorem TL {M:Model}{A:Around}{E:Value->Shared->Prop}{i:Nat}{x:Str}{v:V}{u:Value}{Q:Unit->Shared->Prop} (I:Inv X pins σ H s) (hN:X.N.Nodup) (hi:X.N[i]? =some x) (hx:Loc X.env.scope x) (r:RelV v u)
  (h:∀s',Inv X pins (σ.set i (some v)) H s'->(∃a,Heap.SameBut a s.heap s'.heap/\(a=X.env.locals∨X.env.cells.lookup x=some a))->Q () s')(hf:X.fn x=true∨X.env.scope.names.lookup x=some .local:=by first|exact .inl rfl|exact .inr rfl|assumption):wpAny M A (storeName X.env x u) Q E s:=by
 obtain⟨m,hn,hl⟩:=id I.loc;have hcls:(X.env.scope.kind== .class||(X.env.scope.kind== .module&&X.env.locals !=X.env.globals))=false:=by rw[I.ok.kind];rfl
 have hiσ:i<σ.length:=by rw[I.len];exact(List.getElem?_eq_some_iff.mp hi).1
 have cne:=I.cne;have tracked:∀{a:Addr}{h':Heap},(∃o,s.heap.get? a=some o/\H a=none)->Heap.SameBut a s.heap h'->HOk X.prog X.w H h':=fun {a h'} ha hs b ob e=>by
  obtain⟨_,_,hfree⟩:=ha;refine(I.hok b ob e).stay (fun c w' hc q=>(hs.2 c ?_).trans q) (fun _ q=>q) fun _ _ q=>q;rintro rfl;rcases hc with rfl|hc
  ·rw[hfree]at e;cases e
  ·rw[hfree]at hc;cases hc
 rcases hx with hk|hk
 ·refine wpAny_storeName_local hk hn (fun h' hn' hs=> ?_) hcls;obtain⟨oL,_,_,hoL,_⟩:=id hn;refine h _ ⟨I.ok,I.os,I.bare,⟨fun b o e n hb hx=> ?_,fun b o e n hb hx=> ?_,I.base.free,fun b o e hx=> ?_,I.base.tups,I.base.frzs,I.base.tbls⟩,⟨_,hn',fun j y v' e1 e2 e3=> ?_⟩,fun y c e=> ?_,I.free,I.freeC,fun p hp=> ?_,tracked ⟨oL,hoL,I.free⟩ hs,by simpa using I.len⟩ ⟨_,hs,.inl rfl⟩
  ·exact(hs.2 b (Nat.ne_of_lt (Nat.lt_of_lt_of_le (Heap.lt_size e) I.ok.above))).trans (I.base.keep b o e n hb hx)
  ·obtain⟨sl,e1⟩:=I.base.slot b o e n hb hx;exact⟨sl,(hs.2 b (Nat.ne_of_lt (Nat.lt_of_lt_of_le (Heap.lt_size e) I.ok.above))).trans e1⟩
  ·obtain⟨o',e1⟩:=I.base.there b o e hx;exact⟨o',(hs.2 b (Nat.ne_of_lt (Nat.lt_of_lt_of_le (Heap.lt_size e) I.ok.above))).trans e1⟩
  ·by_cases hj:j=i
   ·subst hj;rw[hi]at e1;cases e1;rw[List.getElem?_set_self hiσ]at e2;cases e2;exact⟨u,r,.inl ⟨hk,by simp⟩⟩
   ·rw[List.getElem?_set_ne (Ne.symm hj)]at e2;obtain⟨u',r',q⟩:=hl j y v' e1 e2 e3;refine⟨u',r',?_⟩;rcases q with⟨k,e⟩|⟨k,c,e,z⟩
    ·refine .inl ⟨k,?_⟩;have:y≠x:=fun e=>hj (JT hN e1 (e▸hi));simp[this,e]
    ·exact .inr ⟨k,c,e,z.sameBut hs (cne y c e)⟩
  ·obtain⟨w',z⟩:=I.cell y c e;exact⟨w',z.sameBut hs (cne y c e)⟩
  ·obtain⟨e,n,ne,nf,d⟩:=I.pin p hp;exact⟨(hs.2 p.1 ne).trans e,n,ne,nf,d⟩
 ·have hfn:X.fn x=true:=by
   rcases hf with z|z
   ·exact z
   ·rw[z]at hk;cases hk
  obtain⟨c,hc⟩:=I.ok.has x (.inl hk);obtain⟨w',z⟩:=I.cell x c hc;refine wpAny_storeName_cell I.ok.kind hk hc z (fun h' hc' hs=> ?_);obtain⟨oc,hoc,hocd⟩:=id z;refine h { s with heap:=h' } ⟨I.ok,I.os,I.bare,⟨fun b o e n hb hx=> ?_,fun b o e n hb hx=> ?_,I.base.free,fun b o e hx=> ?_,I.base.tups,I.base.frzs,I.base.tbls⟩,⟨m,hn.sameBut hs (Ne.symm (cne x c hc)),fun j y v' e1 e2 e3=> ?_⟩,fun y c' e=> ?_,I.free,I.freeC,fun p hp=> ?_,tracked ⟨oc,hoc,I.freeC x c hc⟩ hs,by simpa using I.len⟩ ⟨c,hs,.inr hc⟩
  ·exact(hs.2 b (Nat.ne_of_lt (Nat.lt_of_lt_of_le (Heap.lt_size e) (I.ok.cab x c hfn hc)))).trans (I.base.keep b o e n hb hx)
  ·obtain⟨sl,e1⟩:=I.base.slot b o e n hb hx;exact⟨sl,(hs.2 b (Nat.ne_of_lt (Nat.lt_of_lt_of_le (Heap.lt_size e) (I.ok.cab x c hfn hc)))).trans e1⟩
  ·obtain⟨o',e1⟩:=I.base.there b o e hx;exact⟨o',(hs.2 b (Nat.ne_of_lt (Nat.lt_of_lt_of_le (Heap.lt_size e) (I.ok.cab x c hfn hc)))).trans e1⟩
  ·by_cases hj:j=i
   ·subst hj;rw[hi]at e1;cases e1;rw[List.getElem?_set_self hiσ]at e2;cases e2;exact⟨u,r,.inr ⟨.inl hk,c,hc,hc'⟩⟩
   ·rw[List.getElem?_set_ne (Ne.symm hj)]at e2;obtain⟨u',r',q⟩:=hl j y v' e1 e2 e3;refine⟨u',r',?_⟩;rcases q with q|⟨k,c',e,z'⟩
    ·exact .inl q
    ·refine .inr ⟨k,c',e,z'.sameBut hs ?_⟩;rintro rfl;exact hj (JT hN e1 (I.ok.inj _ _ _ e hc▸hi))
  ·by_cases hcc:c'=c
   ·subst hcc;exact⟨_,hc'⟩
   ·obtain⟨w2,z2⟩:=I.cell y c' e;exact⟨w2,z2.sameBut hs hcc⟩
  ·obtain⟨e,n,ne,nf,d⟩:=I.pin p hp;refine⟨(hs.2 p.1 ?_).trans e,n,ne,nf,d⟩;intro q;rw[q,hoc]at e;have q':oc=p.2:=Option.some.inj e;exact d w' (by rw[←q'];exact hocd)
theorem BJ {M:Model}{A:Around}{E:Value->Shared->Prop}{i:Nat}{x:Str}{v:V}{u:Value}{Q:Unit->Shared->Prop} (I:Inv X pins σ H s) (hN:X.N.Nodup) (hi:X.N[i]? =some x) (hx:Loc X.env.scope x) (r:RelV v u)
  (h:∀s',Inv X pins (σ.set i (some v)) H s'->Q () s')(hf:X.fn x=true∨X.env.scope.names.lookup x=some .local:=by first|exact .inl rfl|exact .inr rfl|assumption):wpAny M A (storeName X.env x u) Q E s :=
 TL I hN hi hx r (fun s' I' _=>h s' I') hf
theorem Inv.call' {s':Shared}{ch:List Addr} (I:Inv X pins σ H s) (ho:s'.os=s.os) (u:Un (frs X.stack) ch H H' s.heap s'.heap) (hok:HOk X.prog X.w H' s'.heap) (hg:AllBare s'.gens)
  (hch:∀b∈ch,(b∈X.ex∨X.s₀.heap.objs.size<=b)/\b≠X.env.locals/\(∀x c,X.env.cells.lookup x=some c->c≠b)/\∀p∈X.pn++pins,p.1≠b):Inv X pins σ H' s':=by
 obtain⟨h',g',d',t',o'⟩:=s';have e:o'=s.os:=ho;subst e;exact I.call (g':=g') (t':=t') (d':=d') u hok hg hch
end
abbrev XK:=Value->Option Addr->Hp->Prop
abbrev St:=List (Option V)
abbrev VK:=V->Hp->Prop
abbrev TE:=St->Hp->VK->Prop
abbrev TT:=St->Hp->(Bool->Hp->Prop)->Prop
abbrev TA:=St->Hp->(List V->Hp->Prop)->Prop
structure fU where
 nx:St->Hp->Prop
 rt:VK
 bk:St->Hp->Prop:=fun _ _=>False
 ct:St->Hp->Prop:=fun _ _=>False
abbrev TS:=fU->St->Hp->Prop
def EP (X:Cx)(pins:List (Addr×Obj))(σ:St)(Q:VK)(u:Value)(s':Shared):Prop:=∃v H',Inv X pins σ H' s'/\RelV v u/\Q v H'
def TP (X:Cx)(pins:List (Addr×Obj))(σ:St)(Q:Bool->Hp->Prop)(b:Bool)(s':Shared):Prop:=∃H',Inv X pins σ H' s'/\Q b H'
def AP (X:Cx)(pins:List (Addr×Obj))(σ:St)(Q:List V->Hp->Prop)(us:List Value)(s':Shared):Prop:=∃vs H',Inv X pins σ H' s'/\Vals vs us/\Q vs H'
def SP (X:Cx)(pins:List (Addr×Obj))(D:fU)(f:Flow)(s':Shared):Prop :=
 match f with
 | .next=>∃σ' H',Inv X pins σ' H' s'/\D.nx σ' H'
 | .brk=>∃σ' H',Inv X pins σ' H' s'/\D.bk σ' H'
 | .cont=>∃σ' H',Inv X pins σ' H' s'/\D.ct σ' H'
 | .ret u=>∃v σ' H',Inv X pins σ' H' s'/\RelV v u/\D.rt v H'
def PE (X:Cx)(e:Expr)(t:TE):Prop :=
 ∀(pins:List (Addr×Obj)) (s:Shared) (σ:St) (H:Hp) (Q:VK),Inv X pins σ H s->t σ H Q->wpAny (model X.prog X.w) X.A (eval e X.env) (EP X pins σ Q) X.xe s
def PT (X:Cx)(e:Expr)(t:TT):Prop :=
 ∀(pins:List (Addr×Obj)) (s:Shared) (σ:St) (H:Hp) (Q:Bool->Hp->Prop),Inv X pins σ H s->t σ H Q->wpAny (model X.prog X.w) X.A (isTrue e X.env (eval e X.env)) (TP X pins σ Q) X.xe s
def PW (X:Cx)(e:Expr)(t:TT):Prop :=
 ∀(whole:Sem Value) (pins:List (Addr×Obj)) (s:Shared) (σ:St) (H:Hp) (Q:Bool->Hp->Prop),Inv X pins σ H s->t σ H Q->wpAny (model X.prog X.w) X.A (isTrue e X.env whole) (TP X pins σ Q) X.xe s
theorem PW.pt {X:Cx}{e:Expr}{t:TT} (h:PW X e t):PT X e t:=h _
def PA (X:Cx)(es:List Expr)(t:TA):Prop :=
 ∀(pos:Pos) (pins:List (Addr×Obj)) (s:Shared) (σ:St) (H:Hp) (Q:List V->Hp->Prop),Inv X pins σ H s->t σ H Q->wpAny (model X.prog X.w) X.A (spliced (backTo pos (starEach es X.env))) (AP X pins σ Q) X.xe s
def PS (X:Cx)(st:Stmt)(t:TS):Prop :=
 ∀(pins:List (Addr×Obj)) (s:Shared) (σ:St) (H:Hp) (D:fU),Inv X pins σ H s->t D σ H->wpAny (model X.prog X.w) X.A (exec st X.env) (SP X pins D) X.xe s
def PSs (X:Cx)(st:List Stmt)(t:TS):Prop :=
 ∀(pins:List (Addr×Obj)) (s:Shared) (σ:St) (H:Hp) (D:fU),Inv X pins σ H s->t D σ H->wpAny (model X.prog X.w) X.A (execs st X.env) (SP X pins D) X.xe s
theorem thn {α:Type}{t:Sem α}{Q Q':α->Shared->Prop}{M:Model}{A:Around}{E:Value->Shared->Prop}{s:Shared} (h:wpAny M A t Q E s) (hQ:∀a s,Q a s->Q' a s):wpAny M A t Q' E s:=wpAny_mono h hQ fun _ _ x=>x
section
variable {X:Cx}
def gT (i:Nat):TE:=fun σ H Q=>∃v,σ[i]? =some (some v)/\Q v H
def tC (v:V):TE:=fun _ H Q=>Q v H
theorem RA {i:Nat}{x:Str}{pos:Pos} (hN:X.N[i]? =some x) (hv:Vis X.env.scope x) (hd:(x==("__debug__" :Str))=false:=by decide) (hcd:(x==("__classdict__" :Str))=false:=by decide):PE X (.Name x pos) (gT i):=by
 intro pins s σ H Q I h;obtain⟨v,e,h⟩:=h;obtain⟨m,hn,hl⟩:=I.loc;obtain⟨u,r,l⟩:=hl i x v hN e hv;have fin:EP X pins σ Q u s:=⟨v,H,I,r,h⟩
 rcases l with⟨hk,hm⟩|⟨hk,c,hc,hcell⟩
 ·exact wpAny_Name (wpAny_loadName_local I.ok.kind hk hn hm fin) hd
 ·rcases hk with hk|hk
  ·exact wpAny_Name (wpAny_loadName_cell I.ok.kind hk hc hcell fin) hd
  ·exact wpAny_Name (wpAny_loadName_free I.ok.kind hk hc hcell fin hcd) hd
theorem aD {i j pos}:PE X (.Constant (.int i) j pos) (tC (.int i)):=fun _ _ _ H _ I h=>wpAny_Constant_int ⟨.int i,H,I.tok _,⟨_,rfl⟩,h⟩
theorem CK {b j pos}:PE X (.Constant (.bool b) j pos) (tC (.bl b)):=fun _ _ _ H _ I h=>Constant_bool ⟨.bl b,H,I,rfl,h⟩
theorem gE {j pos}:PE X (.Constant .none j pos) (tC .non):=fun _ _ _ H _ I h=>Constant_none ⟨.non,H,I,rfl,h⟩
theorem eM {x j pos}:PE X (.Constant (.str x) j pos) (tC (.str x)):=fun _ _ _ H _ I h=>Calls.Constant_str ⟨.str x,H,I.tok _,⟨_,rfl⟩,h⟩
def Gl (X:Cx)(x:Str):Prop:=X.env.kindOf x=some .globalImplicit
theorem pW {E:Value->Shared->Prop}{pins:List (Addr×Obj)}{s:Shared}{σ:St}{H:Hp}{x:Str}{u:Value}{pos:Pos}{Q:Value->Shared->Prop} (I:Inv X pins σ H s) (hg:Gl X x) (hm:X.mg x=some u) (h:Q u s)
  (hd:(x==("__debug__" :Str))=false:=by decide):wpAny (model X.prog X.w) X.A (eval (.Name x pos) X.env) Q E s :=
 Calls.Name_function_global I.ok.kind hg (Calls.loadGlobal_global (by rw[I.ok.glob];exact I.mod.glob.keeps I.bk) hm h) hd
theorem yF {E:Value->Shared->Prop}{pins:List (Addr×Obj)}{s:Shared}{σ:St}{H:Hp}{x:Str}{u:Value}{pos:Pos}{Q:Value->Shared->Prop} (I:Inv X pins σ H s) (hg:Gl X x) (hm:X.mg x=none) (hv:bootBuiltins x=some u) (h:Q u s)
  (hn:x≠ "__name__" :=by decide)(hd:(x==("__debug__" :Str))=false:=by decide):wpAny (model X.prog X.w) X.A (eval (.Name x pos) X.env) Q E s:=by
 obtain⟨mb,h1,h2⟩:=I.mod.blt;exact Calls.Name_function_global I.ok.kind hg (Calls.loadGlobal_builtin (by rw[I.ok.glob];exact I.mod.glob.keeps I.bk) hm (by rw[I.ok.blt];exact h1.keeps I.bk) ((h2 x hn).trans hv) h) hd
theorem aA8 {x:Str}{v:V}{u:Value}{pos:Pos} (hg:Gl X x) (hm:X.mg x=some u) (r:RelV v u) (hd:(x==("__debug__" :Str))=false:=by decide):PE X (.Name x pos) (tC v) :=
 fun _ _ _ H _ I h=>pW I hg hm ⟨v,H,I,r,h⟩ hd
theorem Z2 {x:Str}{v:V}{u:Value}{pos:Pos} (hg:Gl X x) (hm:X.mg x=none) (hv:bootBuiltins x=some u) (r:RelV v u) (hn:x≠ "__name__" :=by decide) (hd:(x==("__debug__" :Str))=false:=by decide):PE X (.Name x pos) (tC v) :=
 fun _ _ _ H _ I h=>yF I hg hm hv ⟨v,H,I,r,h⟩ hn hd
variable {a b:Expr}{ta tb:TE}{pos:Pos}
def PC (X:Cx)(op:CmpOp)(a b:Expr)(t:TE):Prop :=
 ∀(pins:List (Addr×Obj)) (s:Shared) (σ:St) (H:Hp) (Q:VK),Inv X pins σ H s->t σ H Q →
  wpAny (model X.prog X.w) X.A (eval a X.env) (fun v s₁=>wpAny (model X.prog X.w) X.A (eval b X.env) (fun u s₂=>wpAny (model X.prog X.w) X.A (compareOp op v u) (EP X pins σ Q) X.xe s₂) X.xe s₁) X.xe s
def tB (t:TE):TT:=fun σ H Q=>t σ H fun x H1=>∃c,x= .bl c/\Q c H1
theorem uO {op:CmpOp}{t:TE} (h:PC X op a b t) (h1:behindInMarks op b=false:=by first|exact nobehind _ (by decide) (by decide)|rfl):PT X (.Compare a [op] [b] pos) (tB t):=by
 intro pins s σ H Q I hw;refine wpAny_isTrue_Compare1 (thn (h pins s σ H _ I hw) fun v s1 h1=>thn h1 fun u s2 h2=>thn h2 fun c s3 ⟨x,H1,I1,r1,q1⟩=> ?_) h1;obtain⟨d,rfl,q⟩:=q1;cases r1;exact wpAny_truthy_bool ⟨H1,I1,q⟩
theorem jM {e:Expr}{t:TE} (h:PE X e t) (he:∀whole,isTrue e X.env whole=(do let v ←whole;standAt e.pos;holding [v] (truthy v)):=by intro _;rfl):PT X e (tB t):=by
 intro pins s σ H Q I hw;refine isTrue_plain (thn (h pins s σ H _ I hw) fun v s1 ⟨x,H1,I1,r1,q1⟩=> ?_) (he _);obtain⟨d,rfl,q⟩:=q1;cases r1;exact wpAny_truthy_bool ⟨H1,I1,q⟩
variable {tA tB':TT}{rest:List Expr}
def aB9 (t u:TT):TT:=fun σ H Q=>t σ H fun c H1=>if c=true then u σ H1 Q else Q false H1
def tOr (t u:TT):TT:=fun σ H Q=>t σ H fun c H1=>if c=true then Q true H1 else u σ H1 Q
def aC0 (t:TT):TT:=fun σ H Q=>t σ H fun c H1=>Q (!c) H1
theorem pR (ha:PT X a tA):PW X (.BoolOp .And [a] pos) tA:=by
 intro wh pins s σ H Q I h;refine isTrue_and (thn (ha pins s σ H Q I h) fun c s1 e=> ?_);cases c with
 | true=>exact isTrue_and_nil e
 | false=>exact e
theorem uF (ha:PT X a tA):PW X (.BoolOp .Or [a] pos) tA:=by
 intro wh pins s σ H Q I h;refine isTrue_or (thn (ha pins s σ H Q I h) fun c s1 e=> ?_);cases c with
 | false=>exact isTrue_or_nil e
 | true=>exact e
theorem uT (ha:PT X a tA)(hb:PW X (.BoolOp .And (b::rest) pos) tB'):PW X (.BoolOp .And (a::b::rest) pos) (aB9 tA tB'):=by
 intro wh pins s σ H Q I h;refine isTrue_and (thn (ha pins s σ H _ I h) fun c s1 ⟨H1,I1,q1⟩=> ?_);cases c with
 | true=>exact hb wh pins s1 σ H1 Q I1 q1
 | false=>exact⟨H1,I1,q1⟩
theorem v9 (ha:PT X a tA)(hb:PW X (.BoolOp .Or (b::rest) pos) tB'):PW X (.BoolOp .Or (a::b::rest) pos) (tOr tA tB'):=by
 intro wh pins s σ H Q I h;refine isTrue_or (thn (ha pins s σ H _ I h) fun c s1 ⟨H1,I1,q1⟩=> ?_);cases c with
 | true=>exact⟨H1,I1,q1⟩
 | false=>exact hb wh pins s1 σ H1 Q I1 q1
theorem uA (ha:PT X a tA):PT X (.UnaryOp .Not a pos) (aC0 tA):=by
 intro pins s σ H Q I h;exact isTrue_not (ha pins s σ H (fun c H1=>Q (!c) H1) I h)
def YI (ta tb:TE):TE:=fun σ H Q=>ta σ H fun x H1=>∃c,x= .bl c/\if c=true then tb σ H1 Q else Q (.bl false) H1
def X8 (ta:TE):TE:=fun σ H Q=>ta σ H fun x H1=>∃c,x= .bl c/\Q (.bl (!c)) H1
theorem C1 {op}{t:TE} (h:PE X a t):PE X (.BoolOp op [a] pos) t:=fun pins s σ H Q I hw=>BoolOp_one (h pins s σ H Q I hw)
theorem DK (ha:PE X a ta)(hb:PE X (.BoolOp .And (b::rest) pos) tb):PE X (.BoolOp .And (a::b::rest) pos) (YI ta tb):=by
 intro pins s σ H Q I h;refine BoolOp_and (thn (ha pins s σ H _ I h) fun v s1 ⟨x,H1,I1,r1,q1⟩=> ?_);obtain⟨c,rfl,q1⟩:=q1;cases r1;refine wpAny_truthy_bool ?_;cases c with
 | true=>exact hb pins s1 σ H1 Q I1 q1
 | false=>exact⟨.bl false,H1,I1,rfl,q1⟩
theorem QZ (ha:PE X a ta):PE X (.UnaryOp .Not a pos) (X8 ta):=by
 intro pins s σ H Q I h;refine UnaryOp_ (thn (ha pins s σ H _ I h) fun v s1 ⟨x,H1,I1,r1,q1⟩=> ?_);obtain⟨c,rfl,q1⟩:=q1;cases r1;exact not_of (wpAny_truthy_bool ⟨.bl (!c),H1,I1,rfl,q1⟩)
def tIf (t:TT)(ta tb:TE):TE:=fun σ H Q=>t σ H fun c H1=>if c=true then ta σ H1 Q else tb σ H1 Q
theorem wF {c:Expr}(hc:PT X c tA)(ha:PE X a ta)(hb:PE X b tb):PE X (.IfExp c a b pos) (tIf tA ta tb):=by
 intro pins s σ H Q I h;refine wpAny_IfExp (thn (hc pins s σ H _ I h) fun d s1 ⟨H1,I1,q1⟩=> ?_);cases d with
 | true=>exact ha pins s1 σ H1 Q I1 q1
 | false=>exact hb pins s1 σ H1 Q I1 q1
end
def SqL (K:W.Frag)(H:Hp)(a:Addr)(xs:List V):Prop :=
 Rd H a (.lst xs) ∨
  ∃(o:Obj) (its:Array Value) (n:Nat),K.lookup a=some o/\o.cls= .type "list" /\o.dict=none/\o.data= .seq its n/\its.size<=sizeLine/\Vals xs its.toList
def SqT (K:W.Frag)(H:Hp)(a:Addr)(xs:List V):Prop :=
 Rd H a (.tup xs) ∨
  ∃(o:Obj) (its:Array Value) (n:Nat),K.lookup a=some o/\o.cls= .type "tuple" /\o.data= .seq its n/\its.size<=sizeLine/\Vals xs its.toList
def aEf:Value->Option V
 | .none=>some .non
 | .bool b=>some (.bl b)
 | .int i _=>some (.int i)
 | .str x _=>some (.str x)
 | .bytes b _=>some (.byt b)
 | .float b _=>some (.flt b)
 | .ref a=>some (.ref a)
 | .type n=>some (.ty n)
 | _=>none
theorem RelV.abs {x:V}{u:Value} (r:RelV x u):aEf u=some x:=by
 cases x with
 | non=>cases r;rfl
 | bl _=>cases r;rfl
 | int _=>obtain⟨t,rfl⟩:=r;rfl
 | str _=>obtain⟨t,rfl⟩:=r;rfl
 | byt _=>obtain⟨t,rfl⟩:=r;rfl
 | flt _=>obtain⟨t,rfl⟩:=r;rfl
 | ref _=>cases r;rfl
 | ty _=>cases r;rfl
theorem RelV.inj {x y:V}{u:Value} (r:RelV x u) (q:RelV y u):x=y:=Option.some.inj (r.abs.symm.trans q.abs)
theorem Vals.inj:∀{xs ys:List V}{us:List Value},Vals xs us->Vals ys us->xs=ys
 | _,_,_,.nil,.nil=>rfl
 | _,_,_,.cons r t,.cons r' t'=>by rw[r.inj r',Vals.inj t t']
section
variable {X:Cx}{pins:List (Addr×Obj)}{σ:St}{H:Hp}{s:Shared}{a:Addr}{xs ys:List V}
theorem SqL.of {K:W.Frag}(h:H a=some (.lst xs)):SqL K H a xs:= .inl (.inl h)
theorem SqT.of {K:W.Frag}(h:H a=some (.tup xs)):SqT K H a xs:= .inl (.inl h)
theorem Inv.list (I:Inv X pins σ H s)(h:SqL X.K H a xs):∃its:List Value,Vals xs its/\PlainL s.heap a its.toArray/\xs.length<=sizeLine:=by
 rcases h with h|⟨o,its,n,hk,hc,hd,hs,hz,r⟩
 ·obtain⟨z,its,n,r,e⟩:=h.ok I.hok;exact⟨its,r,⟨_,n,e,rfl,rfl,rfl⟩,z⟩
 ·refine⟨its.toList,r,⟨o,n,I.kIn a o hk,hc,hd,by simpa using hs⟩,?_⟩;have e:=r.length;simp only[Array.length_toList]at e
  lia
theorem Inv.tuple (I:Inv X pins σ H s)(h:SqT X.K H a xs):∃its:List Value,Vals xs its/\IsTup s.heap a its.toArray/\xs.length<=sizeLine:=by
 rcases h with h|⟨o,its,n,hk,hc,hs,hz,r⟩
 ·obtain⟨z,its,r,p⟩:=h.ok I.hok;exact⟨its,r,p,z⟩
 ·refine⟨its.toList,r,⟨o,I.kIn a o hk,hc,n,by simpa using hs⟩,?_⟩;have e:=r.length;simp only[Array.length_toList]at e
  lia
theorem Inv.list_inj (I:Inv X pins σ H s)(h:SqL X.K H a xs)(h':SqL X.K H a ys):xs=ys:=by
 obtain⟨its,r,⟨o,n,e,_,_,d⟩,_⟩:=I.list h;obtain⟨its',r',⟨o',n',e',_,_,d'⟩,_⟩:=I.list h';rw[e]at e';cases e';rw[d]at d';injection d' with d1 _;have:its=its':=by simpa using congrArg Array.toList d1
 subst this;exact r.inj r'
end
abbrev Cx.wish (X:Cx)(E:Value->Shared->Prop):Cx:={ X with xe:=E }
abbrev Cx.nox (X:Cx):Cx:=X.wish fun _ _=>False
theorem Cx.Ok.wish {X:Cx}(ok:X.Ok)(E:Value->Shared->Prop):(X.wish E).Ok :=
 ⟨ok.mod,ok.kind,ok.glob,ok.blt,ok.above,ok.inj,ok.has,ok.cab,ok.hd,ok.frames,ok.stk,ok.exf,ok.bs,ok.bsz,ok.noex,ok.exfs,ok.funs,ok.frf⟩
theorem Cx.Ok.unwish {X:Cx}{E:Value->Shared->Prop} (ok:(X.wish E).Ok):X.Ok :=
 ⟨ok.mod,ok.kind,ok.glob,ok.blt,ok.above,ok.inj,ok.has,ok.cab,ok.hd,ok.frames,ok.stk,ok.exf,ok.bs,ok.bsz,ok.noex,ok.exfs,ok.funs,ok.frf⟩
section
variable {X:Cx}{pins:List (Addr×Obj)}{σ:St}{H:Hp}{s:Shared}{E:Value->Shared->Prop}
theorem Inv.wish (I:Inv X pins σ H s)(E:Value->Shared->Prop):Inv (X.wish E) pins σ H s:=⟨I.ok.wish E,I.os,I.bare,I.base,I.loc,I.cell,I.free,I.freeC,I.pin,I.hok,I.len⟩
theorem Inv.unwish (I:Inv (X.wish E) pins σ H s):Inv X pins σ H s:=⟨I.ok.unwish,I.os,I.bare,I.base,I.loc,I.cell,I.free,I.freeC,I.pin,I.hok,I.len⟩
theorem SP.unwish {D:fU}{f:Flow}{s':Shared} (h:SP (X.wish E) pins D f s'):SP X pins D f s':=by
 cases f with
 | next=>obtain⟨σ',H',I,q⟩:=h;exact⟨σ',H',I.unwish,q⟩
 | brk=>obtain⟨σ',H',I,q⟩:=h;exact⟨σ',H',I.unwish,q⟩
 | cont=>obtain⟨σ',H',I,q⟩:=h;exact⟨σ',H',I.unwish,q⟩
 | ret u=>obtain⟨v,σ',H',I,r,q⟩:=h;exact⟨v,σ',H',I.unwish,r,q⟩
theorem PE.nox {e:Expr}{t:TE} (h:PE X.nox e t):PE X e t:=fun pins s σ H Q I hw =>
 wpAny_mono (h pins s σ H Q (I.wish _) hw) (fun _ _ ⟨v,H',I',r,q⟩=>⟨v,H',I'.unwish,r,q⟩) fun _ _ z=>False.elim z
theorem PSs.nox {st:List Stmt}{t:TS} (h:PSs X.nox st t):PSs X st t:=fun pins s σ H D I hw =>
 wpAny_mono (h pins s σ H D (I.wish _) hw) (fun _ _ q=>q.unwish) fun _ _ z=>False.elim z
end
section
variable {X:Cx}{st:Stmt}{rest:List Stmt}{t u:TS}{e:Expr}{te:TE}{pos:Pos}
def XJ:TS:=fun D σ H=>D.nx σ H
def JH (t u:TS):TS:=fun D σ H=>t { D with nx:=u D } σ H
theorem bE:PSs X [] XJ:=fun _ _ σ H _ I h=>wpAny_execs_nil ⟨σ,H,I,h⟩
theorem aB (h1:PS X st t)(h2:PSs X rest u):PSs X (st::rest) (JH t u):=by
 intro pins s σ H D I h;refine wpAny_execs_cons (thn (h1 pins s σ H { D with nx:=u D } I h) fun f s1 q=> ?_);cases f with
 | next =>
  obtain⟨σ',H',I',q⟩:=q;exact h2 pins s1 σ' H' D I' q
 | ret v=>exact q
 | brk=>exact q
 | cont=>exact q
theorem aE (h1:PS X st t):PSs X [st] t:=by
 intro pins s σ H D I h;refine wpAny_execs_cons (thn (h1 pins s σ H D I h) fun f s1 q=> ?_);cases f with
 | next=>exact wpAny_execs_nil q
 | ret v=>exact q
 | brk=>exact q
 | cont=>exact q
theorem Inv.quiet {pins:List (Addr×Obj)}{σ:St}{H:Hp}{s:Shared} (I:Inv X pins σ H s):interactive X.env=false:=by simp[interactive,I.ok.kind]
def YA (te:TE):TS:=fun D σ H=>te σ H fun _ H1=>D.nx σ H1
theorem aZ (he:PE X e te)(hs:swapsWith e none pos.line X.env=pure false:=by rfl):PS X (.Expr e pos) (YA te):=by
 intro pins s σ H D I h;exact wpAny_Expr_any (thn (he pins s σ H _ I h) fun v s1 ⟨x,H1,I1,r1,q1⟩=>⟨σ,H1,I1,q1⟩) I.quiet hs
def aC7 (te:TE):TS:=fun D σ H=>te σ H D.rt
theorem aR (he:PE X e te):PS X (.Return (some e) pos) (aC7 te):=by
 intro pins s σ H D I h;exact wpAny_Return_some (thn (he pins s σ H _ I h) fun v s1 ⟨x,H1,I1,r1,q1⟩=>⟨x,σ,H1,I1,r1,q1⟩)
def QE (c:TT)(t u:TS):TS:=fun D σ H=>c σ H fun b H1=>if b=true then t D σ H1 else u D σ H1
theorem bV {c:Expr}{a b:List Stmt}{tc:TT} (hc:PT X c tc) (ha:PSs X a t) (hb:PSs X b u):PS X (.If c a b pos) (QE tc t u):=by
 intro pins s σ H D I h;refine wpAny_If (thn (hc pins s σ H _ I h) fun d s1 ⟨H1,I1,q1⟩=> ?_);cases d with
 | true=>exact ha pins s1 σ H1 D I1 q1
 | false=>exact hb pins s1 σ H1 D I1 q1
def aCg:TS:=fun _ _ _=>False
theorem fW:PS X st aCg:=fun _ _ _ _ _ _ h=>h.elim
end
abbrev TG:=V->St->Hp->(St->Hp->Prop)->Prop
abbrev TGs:=List V->St->Hp->(St->Hp->Prop)->Prop
def PG (X:Cx)(target:Expr)(t:TG):Prop :=
 ∀(pins:List (Addr×Obj)) (s:Shared) (σ:St) (H:Hp) (v:V) (u:Value) (Q:St->Hp->Prop),Inv X pins σ H s->RelV v u->t v σ H Q →
  wpAny (model X.prog X.w) X.A (assign target X.env u) (fun _ s'=>∃σ' H',Inv X pins σ' H' s'/\Q σ' H') X.xe s
def PGs (X:Cx)(ts:List Expr)(t:TGs):Prop :=
 ∀(pins:List (Addr×Obj)) (s:Shared) (σ:St) (H:Hp) (vs:List V) (us:List Value) (Q:St->Hp->Prop),Inv X pins σ H s->Vals vs us->t vs σ H Q →
  wpAny (model X.prog X.w) X.A (assignInOrder ((assignEach ts X.env).map (·.2)) us) (fun _ s'=>∃σ' H',Inv X pins σ' H' s'/\Q σ' H') X.xe s
abbrev PV:=V->V->V->Hp->(Hp->Prop)->Prop
def aBM (X:Cx)(t:PV):Prop :=
 ∀(pins:List (Addr×Obj)) (s:Shared) (σ:St) (H:Hp) (o i v:V) (ov iv u:Value) (Q:Hp->Prop),Inv X pins σ H s->RelV o ov->RelV i iv->RelV v u->t o i v H Q →
  wpAny (model X.prog X.w) X.A (setItem ov iv u) (fun _ s'=>∃H',Inv X pins σ H' s'/\Q H') X.xe s
abbrev TIp:=V->V->Hp->VK->Prop
def PIp (X:Cx)(op:Operator)(t:TIp):Prop :=
 ∀(pins:List (Addr×Obj)) (s:Shared) (σ:St) (H:Hp) (x y:V) (v u:Value) (Q:VK),Inv X pins σ H s->RelV x v->RelV y u->t x y H Q →
  wpAny (model X.prog X.w) X.A (inplaceOp op v u) (EP X pins σ Q) X.xe s
section
variable {X:Cx}{pos:Pos}
def bZ (i:Nat):TG:=fun v σ H Q=>Q (σ.set i (some v)) H
theorem aN {i:Nat}{x:Str} (hN:X.N.Nodup) (hi:X.N[i]? =some x) (hx:Loc X.env.scope x) (hf:X.fn x=true∨X.env.scope.names.lookup x=some .local:=by first|exact .inl rfl|exact .inr rfl|assumption):PG X (.Name x pos) (bZ i):=by
 intro pins s σ H v u Q I r h;exact wpAny_assign_Name (BJ I hN hi hx r (fun s' I'=>⟨_,H,I',h⟩) hf)
def JC:TGs:=fun vs σ H Q=>vs=[]/\Q σ H
def pE (t:TG)(u:TGs):TGs:=fun vs σ H Q=>∃v r,vs=v::r/\t v σ H fun σ' H'=>u r σ' H' Q
theorem dR:PGs X [] JC:=by
 intro pins s σ H vs us Q I r h;obtain⟨e,h⟩:=h;subst e;cases r;exact assignInOrder_nil ⟨σ,H,I,h⟩
theorem aX {e:Expr}{es:List Expr}{t:TG}{u:TGs} (h1:PG X e t) (h2:PGs X es u)
  (hs:(assignEach (e::es) X.env).map (·.2)=assign e X.env::(assignEach es X.env).map (·.2):=by rfl):PGs X (e::es) (pE t u):=by
 intro pins s σ H vs us Q I r h;obtain⟨v,vr,e1,h⟩:=h;subst e1;cases r with
 | cons r rr =>
  rw[hs];refine assignInOrder_cons (thn (h1 pins s σ H _ _ _ I r h) fun _ s1 ⟨σ1,H1,I1,q1⟩=> ?_);exact h2 pins s1 σ1 H1 _ _ Q I1 rr q1
def EY (K:W.Frag)(n:Nat)(t:TGs):TG:=fun v σ H Q=>∃a xs,v= .ref a/\SqT K H a xs/\xs.length=n/\t xs σ H Q
theorem yG {es:List Expr}{k:Nat}{t:TGs}{n:Nat} (hc:X.calm=true) (h:PGs X es t)
  (hn:(assignEach es X.env).length=n:=by rfl)(hst:(assignEach es X.env).findIdx? (·.1)=none:=by rfl):PG X (.Tuple es k pos) (EY X.K n t):=by
 intro pins s σ H v u Q I r hw;obtain⟨a,xs,e1,hq,hl,hw⟩:=hw;subst e1;cases r;obtain⟨its,rv,ht,hz⟩:=I.tuple hq;refine assign_Tuple_tuple (I.ok.hd hc) ht (by simp[hn,←hl,rv.length]) hst fun h' hx=> ?_;have I1:Inv X pins σ H { s with heap:=h' }:=I.kept (t':=s.toks) fun b o e=>hx b o (Nat.ne_of_lt (Heap.lt_size e)) e;exact h pins _ σ H xs _ Q I1 (by simpa using rv) hw
def OO (te:TE)(g:TG):TS:=fun D σ H=>te σ H fun x H1=>g x σ H1 D.nx
theorem DT {tg e:Expr}{te:TE}{g:TG} (he:PE X e te) (hg:PG X tg g) (hs:swapsWithSole [tg] e pos.line X.env=pure false:=by rfl) (hw:swappedStores [tg] e X.env=pure none:=by rfl)
  (h1:(assignEach [tg] X.env).map (·.2)=[assign tg X.env]:=by rfl):PS X (.Assign [tg] e pos) (OO te g):=by
 intro pins s σ H D I h;refine wpAny_Assign_stores (thn (he pins s σ H _ I h) fun v s1 ⟨x,H1,I1,r1,q1⟩=> ?_) hs hw;rw[h1];exact thn (hg pins s1 σ H1 x v _ I1 r1 q1) fun _ s2 q=>q
theorem aO {i:Nat}{x:Str}{e:Expr}{te:TE}{pos':Pos} (hN:X.N.Nodup) (hi:X.N[i]? =some x) (hx:Loc X.env.scope x) (he:PE X e te) (hs:swapsWith e (some (.Name x pos')) pos.line X.env=pure false:=by rfl) (hf:X.fn x=true∨X.env.scope.names.lookup x=some .local:=by first|exact .inl rfl|exact .inr rfl|assumption) :
  PS X (.Assign [.Name x pos'] e pos) (OO te (bZ i)):=by
 intro pins s σ H D I h;refine wpAny_Assign_Name (thn (he pins s σ H _ I h) fun v s1 ⟨y,H1,I1,r1,q1⟩=> ?_) hs;exact BJ I1 hN hi hx r1 (fun s2 I2=>⟨_,H1,I2,q1⟩) hf
def aCm (i:Nat)(te:TE)(ti:TIp):TS:=fun D σ H=>∃x,σ[i]? =some (some x)/\te σ H fun y H1=>ti x y H1 fun z H2=>D.nx (σ.set i (some z)) H2
theorem RJ {i:Nat}{x:Str}{e:Expr}{te:TE}{op:Operator}{ti:TIp}{pos':Pos} (hN:X.N.Nodup) (hi:X.N[i]? =some x) (hx:Loc X.env.scope x) (he:PE X e te) (ho:PIp X op ti) (hf:X.fn x=true∨X.env.scope.names.lookup x=some .local:=by first|exact .inl rfl|exact .inr rfl|assumption) :
  PS X (.AugAssign (.Name x pos') op e pos) (aCm i te ti):=by
 intro pins s σ H D I h;obtain⟨v,e1,h⟩:=h;obtain⟨m,hn,hl⟩:=I.loc;have vis:Vis X.env.scope x:=by rcases hx with k|k;exact .inl k;exact .inr (.inl k)
 obtain⟨u,r,l⟩:=hl i x v hi e1 vis;refine wpAny_AugAssign_Name ?_;have go:wpAny (model X.prog X.w) X.A (eval e X.env) (fun w s₂=>wpAny (model X.prog X.w) X.A (inplaceOp op u w) (fun r s₃=>wpAny (model X.prog X.w) X.A (storeName X.env x r) (fun _=>SP X pins D .next) X.xe s₃) X.xe s₂) X.xe s:=by
  refine thn (he pins s σ H _ I h) fun w s1 ⟨y,H1,I1,r1,q1⟩=> ?_;refine thn (ho pins s1 σ H1 v y u w _ I1 r r1 q1) fun z s2 ⟨zv,H2,I2,r2,q2⟩=> ?_;exact BJ I2 hN hi hx r2 (fun s3 I3=>⟨_,H2,I3,q2⟩) hf
 rcases l with⟨hk,hm⟩|⟨hk,c,hc,hcell⟩
 ·exact wpAny_loadName_local I.ok.kind hk hn hm go
 ·rcases hk with hk|hk
  ·exact wpAny_loadName_cell I.ok.kind hk hc hcell go
  ·rcases hx with k|k
   ·have:X.env.scope.names.lookup x=some .free:=hk;rw[k]at this;cases this
   ·have:X.env.scope.names.lookup x=some .free:=hk;rw[k]at this;cases this
def X3 (to ti te:TE)(tget:V->V->Hp->VK->Prop)(tip:TIp)(tset:PV):TS:=fun D σ H=>to σ H fun o H1=>ti σ H1 fun i H2=>tget o i H2 fun x H3=>te σ H3 fun y H4=>tip x y H4 fun z H5=>tset o i z H5 fun H6=>D.nx σ H6
def aBq (X:Cx)(t:V->V->Hp->VK->Prop):Prop :=
 ∀(pins:List (Addr×Obj)) (s:Shared) (σ:St) (H:Hp) (o i:V) (ov iv:Value) (Q:VK),Inv X pins σ H s->RelV o ov->RelV i iv->t o i H Q →
  wpAny (model X.prog X.w) X.A (getItem ov iv) (EP X pins σ Q) X.xe s
theorem NQ {o i e:Expr}{to ti te:TE}{tget:V->V->Hp->VK->Prop}{tip:TIp}{tset:PV}{op:Operator}{tpos:Pos} (ho:PE X o to) (hi:PE X i ti) (hg:aBq X tget) (he:PE X e te) (hp:PIp X op tip) (hs:aBM X tset)
  (ha:∀ov iv new,augStore i ov iv new=(do holding [new,ov,iv] (setItem ov iv new);release [new,ov,iv] [];pure .next):=by intros;rfl):PS X (.AugAssign (.Subscript o i tpos) op e pos) (X3 to ti te tget tip tset):=by
 intro pins s σ H D I h;refine wpAny_AugAssign_SubscriptAny (thn (ho pins s σ H _ I h) fun ov s1 ⟨x1,H1,I1,r1,q1⟩=> ?_) ha;refine thn (hi pins s1 σ H1 _ I1 q1) fun iv s2 ⟨x2,H2,I2,r2,q2⟩=> ?_;refine thn (hg pins s2 σ H2 x1 x2 ov iv _ I2 r1 r2 q2) fun old s3 ⟨x3,H3,I3,r3,q3⟩=> ?_;refine thn (he pins s3 σ H3 _ I3 q3) fun v s4 ⟨x4,H4,I4,r4,q4⟩=> ?_;refine thn (hp pins s4 σ H4 x3 x4 old v _ I4 r3 r4 q4) fun new s5 ⟨x5,H5,I5,r5,q5⟩=> ?_;exact thn (hs pins s5 σ H5 x1 x2 x5 ov iv new _ I5 r1 r2 r5 q5) fun _ s6 ⟨H6,I6,q6⟩=>⟨σ,H6,I6,q6⟩
def ipI (f:Int->Int->Int):TIp:=fun x y H Q=>∃i j,x= .int i/\y= .int j/\Q (.int (f i j)) H
theorem J5:PIp X .Add (ipI fun i j=>i+j):=by
 intro pins s σ H x y v u Q I r1 r2 h;obtain⟨i,j,e1,e2,q⟩:=h;subst e1;subst e2;obtain⟨t,rfl⟩:=r1;obtain⟨t',rfl⟩:=r2;exact iadd_int ⟨.int _,H,I.tok _,⟨_,rfl⟩,q⟩
theorem aCv:PIp X .Sub (ipI fun i j=>i - j):=by
 intro pins s σ H x y v u Q I r1 r2 h;obtain⟨i,j,e1,e2,q⟩:=h;subst e1;subst e2;obtain⟨t,rfl⟩:=r1;obtain⟨t',rfl⟩:=r2;exact isub_int ⟨.int _,H,I.tok _,⟨_,rfl⟩,q⟩
end
section
variable {X:Cx}{pos:Pos}
def RP (c:TT)(tb:TS):TS:=fun D σ H=>∃W:Nat->St->Hp->Prop,(∃m,W m σ H)/\∀m σ H,W m σ H →
 c σ H fun b H1=>if b=true then ∃N:St->Hp->Prop,(∀σ' H',N σ' H'->∃m',m'<m/\W m' σ' H')/\tb { D with nx:=N,ct:=N,bk:=D.nx } σ H1 else D.nx σ H1
theorem qX {c:Expr}{body:List Stmt}{tc:TT}{tb:TS} (hp:PassesOwn (model X.prog X.w) X.A X.env X.xe) (hc:PT X c tc) (hb:PSs X body tb):PS X (.While c body [] pos) (RP tc tb):=by
 intro pins s σ H D I h;obtain⟨W,⟨m0,w0⟩,turn⟩:=h;refine wpAny_While (codeAny_whileLoop (fun n s'=>∃σ' H',Inv X pins σ' H' s'/\W n σ' H') ?_ m0 ⟨σ,H,I,w0⟩);rintro n s1 ⟨σ1,H1,I1,w1⟩;refine wpAny_passesOwn hp (thn (hc pins s1 σ1 H1 _ I1 (turn n σ1 H1 w1)) fun b s2 ⟨H2,I2,q2⟩=> ?_);cases b with
 | true =>
  obtain⟨N,hN,q2⟩:=q2;rw[if_pos rfl];refine wpAny_passesOwn hp (thn (hb pins s2 σ1 H2 _ I2 q2) fun f s3 q3=> ?_);cases f with
  | next =>
   obtain⟨σ3,H3,I3,n3⟩:=q3;obtain⟨m',hm,w3⟩:=hN σ3 H3 n3;exact⟨m',hm,σ3,H3,I3,w3⟩
  | cont =>
   obtain⟨σ3,H3,I3,n3⟩:=q3;obtain⟨m',hm,w3⟩:=hN σ3 H3 n3;exact⟨m',hm,σ3,H3,I3,w3⟩
  | brk=>exact q3
  | ret v=>exact q3
 | false =>
  rw[if_neg Bool.false_ne_true];exact wpAny_execs_nil ⟨σ1,H2,I2,q2⟩
end
structure It where
 go:Nat->Hp->Prop
 yld:Nat->Hp->V->Hp->Prop
 stop:Nat->Hp->Prop
def q0 (X:Cx)(pins:List (Addr×Obj))(H:Hp)(b:Addr):Prop :=
 H b=none/\b≠X.env.locals/\b∉X.fs/\(b∈X.ex∨X.s₀.heap.objs.size<=b)/\(∀x c,X.env.cells.lookup x=some c->c≠b)/\∀p∈X.pn++pins,p.1≠b
theorem Inv.fpOk {X:Cx}{pins:List (Addr×Obj)}{σ:St}{H H':Hp}{s:Shared}{b:Addr} (I:Inv X pins σ H s) (hb:s.heap.objs.size<=b) (hn:H' b=none):q0 X pins H' b:=by
 refine⟨hn,Nat.ne_of_gt (Nat.lt_of_lt_of_le I.lt hb),I.nofs hb,.inr (Nat.le_trans I.sz hb),fun x c e z=> ?_,fun p hp z=> ?_⟩
 ·obtain⟨v,q⟩:=I.cell x c e;exact absurd (Nat.lt_of_lt_of_le q.lt (by rw[z];exact hb)) (Nat.lt_irrefl _)
 ·exact absurd (Nat.lt_of_lt_of_le (Heap.lt_size (I.pin p hp).1) (by rw[z];exact hb)) (Nat.lt_irrefl _)
structure A3 (P:Program)(w:World)(K:W.Frag)(tg:Expr)(J:It)(fp:List Addr)(it:Addr)(tn:Nat->Heap->Prop):Prop where
 mem:it∈fp
 obj:∀i h,tn i h->∀b∈fp,∃o,h.get? b=some o/\∀v,o.data≠ .cell v
 keep:∀i h h',tn i h->(∀b∈fp,∀o,h.get? b=some o->h'.get? b=some o)->tn i h'
 item:∀(X:Cx),X.prog=P->X.w=w->X.K=K->X.calm=true->∀(i:Nat) (pins:List (Addr×Obj)) (s:Shared) (σ:St) (H:Hp) (E:Value->Shared->Prop),Inv X pins σ H s->(∀b∈fp,q0 X pins H b)->tn i s.heap->J.go i H →
  wpAny (model P w) X.A (pyNext (.ref it)) (fun r s1=>∃u,r=some u ∧
   wpAny (model P w) X.A (letOwnedTupleGo tg (.ref it) u) (fun _ s2=>∃x H',Inv X pins σ H' s2/\RelV x u/\J.yld i H x H'/\tn (i+1) s2.heap/\∀b∈fp,H' b=none) E s1) E s
 done:∀(X:Cx),X.prog=P->X.w=w->X.K=K->X.calm=true->∀(i:Nat) (pins:List (Addr×Obj)) (s:Shared) (σ:St) (H:Hp) (E:Value->Shared->Prop),Inv X pins σ H s->(∀b∈fp,q0 X pins H b)->tn i s.heap->J.stop i H →
  wpAny (model P w) X.A (pyNext (.ref it)) (fun r s1=>r=none/\Inv X pins σ H s1) E s
 self:∀(A:Around) (i:Nat) (s:Shared) (Q:Value->Shared->Prop) (E:Value->Shared->Prop),tn i s.heap->Q (.ref it) s->wpAny (model P w) A (pyIter (.ref it)) Q E s
abbrev TI:=St->Hp->(It->Hp->Prop)->Prop
def PIE (X:Cx)(pins:List (Addr×Obj))(σ:St)(tg:Expr)(R:It->Hp->Prop)(itv:Value)(s2:Shared):Prop :=
 ∃(it:Addr) (fp:List Addr) (tn:Nat->Heap->Prop) (J:It) (H':Hp),itv= .ref it/\Inv X pins σ H' s2/\A3 X.prog X.w X.K tg J fp it tn/\tn 0 s2.heap/\(∀b∈fp,q0 X pins H' b)/\R J H'
def PI (X:Cx)(tg iter:Expr)(wi:TI):Prop :=
 ∀(pins:List (Addr×Obj)) (s:Shared) (σ:St) (H:Hp) (R:It->Hp->Prop),Inv X pins σ H s->wi σ H R →
  wpAny (model X.prog X.w) X.A (eval iter X.env) (fun v s1=>wpAny (model X.prog X.w) X.A (pyIter v) (PIE X pins σ tg R) X.xe s1) X.xe s
theorem OU {M:Model}{A:Around}{E:Value->Shared->Prop}{s:Shared}{tg:Expr}{it:Addr}{u:Value}{o:Obj}{n:String}{vs:Array Value}{Q:Unit->Shared->Prop} (ho:s.heap.get? it=some o) (hc:o.cls= .type n) (hd:o.data= .fields vs)
  (hn:["enumerate","zip","dict_itemiterator","dict_reverseitemiterator","odict_iterator","itertools.zip_longest","itertools.pairwise"].contains n=false)(hQ:Q () s):wpAny M A (letOwnedTupleGo tg (.ref it) u) Q E s:=by
 unfold letOwnedTupleGo;cases tg<;>first
  | exact wpAny_pure hQ
  | (cases u<;>first
    | exact wpAny_pure hQ
    | (refine wpAny_bind (wpAny_load ho ?_);rw[hc,hd];show wpAny M A (if (["enumerate","zip","dict_itemiterator","dict_reverseitemiterator","odict_iterator","itertools.zip_longest","itertools.pairwise"].contains n&&vs[0]? ==some (rawInt _))=true then _ else _) Q E s;rw[if_neg (by intro h;rw[hn,Bool.false_and]at h;cases h)];exact wpAny_pure hQ))
def Itl (K:W.Frag)(a:Addr):It :=
 ⟨fun i H=>∃xs x,SqL K H a xs/\xs[i]? =some x,fun i H x H'=>H'=H/\∀xs,SqL K H a xs->xs[i]? =some x,fun i H=>∃xs,SqL K H a xs/\xs.length<=i⟩
def Itr (lo:Int)(n:Nat):It:=⟨fun i _=>i<n,fun i H x H'=>H'=H/\x= .int (lo+i),fun i _=>n<=i⟩
theorem TV {P:Program}{w:World}{K:W.Frag}{tg:Expr} (a it:Addr):A3 P w K tg (Itl K a) [it] it (fun i h=>h.IsListIter it a i) where
 mem:=by simp
 obj:=fun i h st b hb=>by
  have e:b=it:=by simpa using hb
  subst e;obtain⟨o,e,c,d⟩:=st;exact⟨o,e,fun v z=>by rw[d]at z;cases z⟩
 keep:=fun i h h' st k=>st.at fun o e=>k it (by simp) o e
 item:=by
  intro X hP hw hK hc i pins s σ H E I hf st hg;subst hP hw hK;obtain⟨xs,x,hq,hx⟩:=hg;obtain⟨its,rv,p,hz⟩:=I.list hq;obtain⟨u,hu,ru⟩:=rv.get hx;obtain⟨f0,f1,f2,f3,f4,f5⟩:=hf it (by simp);refine wpAny_pyNext_list_item st p.isList (x:=u) (by simpa using hu) fun h' st' sb=> ?_;have I1:Inv X pins σ H { s with heap:=h' }:=I.turned (t':=s.toks) (fun b o hb e=>(sb.2 b hb).trans e) f0 f1 f3 f4 f5;obtain⟨o,e,c,d⟩:=id st';exact⟨u,rfl,OU (s:={ s with heap:=h' }) e c d (by decide) ⟨x,H,I1,ru,⟨rfl,fun ys hy=>by rw[I.list_inj hy hq];exact hx⟩,st',fun b hb=>(hf b hb).1⟩⟩
 done:=by
  intro X hP hw hK hc i pins s σ H E I hf st hg;subst hP hw hK;obtain⟨xs,hq,hx⟩:=hg;obtain⟨its,rv,p,hz⟩:=I.list hq;obtain⟨f0,f1,f2,f3,f4,f5⟩:=hf it (by simp);have hl:=rv.length;exact wpAny_pyNext_list_end (I.ok.hd hc) st p.isList (by simp;lia) fun h' eb=>⟨rfl,I.turned (t':=s.toks) (fun b o hb e=>eb b o hb e) f0 f1 f3 f4 f5⟩
 self:=fun _ _ _ _ _ st h=>wpAny_pyIter_listiter st h
theorem OV {P:Program}{w:World}{K:W.Frag}{tg:Expr} (it:Addr) (lo:Int) (n:Nat):A3 P w K tg (Itr lo n) [it] it (fun i h=>IsRangeIter h it (lo+(i:Nat) * 1) ((n:Int) - (i:Nat)) 1) where
 mem:=by simp
 obj:=fun i h st b hb=>by
  have e:b=it:=by simpa using hb
  subst e;exact⟨_,st,fun v z=>by
   have z':Data.fields _=Data.cell v:=z;cases z'⟩
 keep:=fun i h h' st k=>k it (by simp) _ st
 item:=by
  intro X hP hw hK hc i pins s σ H E I hf st hg;subst hP hw hK;obtain⟨f0,f1,f2,f3,f4,f5⟩:=hf it (by simp);have W:=Walks.range (prog:=X.prog) (w:=X.w) (I.ok.hd hc) it lo 1 n;refine W.item i s _ _ hg st fun v h' tk hv st' kk=> ?_;obtain⟨t,rfl⟩:=hv;have I1:Inv X pins σ H { s with heap:=h',toks:=tk }:=I.turned (fun b o hb e=>kk b o (by simpa using hb) e) f0 f1 f3 f4 f5;refine⟨_,rfl,OU (s:={ s with heap:=h',toks:=tk }) (n:= "range_iterator") st' rfl rfl (by decide) ⟨.int (lo+i),H,I1,⟨t,?_⟩,⟨rfl,rfl⟩,st',fun b hb=>(hf b hb).1⟩⟩;rw[Int.mul_one]
 done:=by
  intro X hP hw hK hc i pins s σ H E I hf st hg;subst hP hw hK;obtain⟨f0,f1,f2,f3,f4,f5⟩:=hf it (by simp);exact wpAny_pyNext_range_end (I.ok.hd hc) st (by have:n<=i:=hg;lia) fun h' eb=>⟨rfl,I.turned (t':=s.toks) (fun b o hb e=>eb b o hb e) f0 f1 f3 f4 f5⟩
 self:=fun _ _ _ _ _ st h=>wpAny_pyIter_rangeiter st h
section
variable {X:Cx}{tg:Expr}
def X0 (K:W.Frag)(tl:TE):TI:=fun σ H R=>tl σ H fun x H1=>∃a,x= .ref a/\(∃xs,SqL K H1 a xs)/\R (Itl K a) H1
theorem bR {l:Expr}{tl:TE} (hl:PE X l tl):PI X tg l (X0 X.K tl):=by
 intro pins s σ H R I h;refine thn (hl pins s σ H _ I h) fun v s1 ⟨x,H1,I1,r1,q1⟩=> ?_;obtain⟨a,e,⟨xs,hq⟩,q⟩:=q1;subst e;cases r1;obtain⟨its,rv,p,hz⟩:=I1.list hq;refine wpAny_pyIter_list p.isList ?_;refine⟨s1.heap.objs.size,[s1.heap.objs.size],_,_,H1,rfl,I1.kept (t':=s1.toks) fun b o e=>Heap.get?_push_of_some _ e,TV a _,⟨_,Heap.get?_push_size _ rfl,rfl,rfl⟩,fun b hb=> ?_,q⟩;have e:b=s1.heap.objs.size:=by simpa using hb
 subst e;exact I1.fpOk (Nat.le_refl _) (I1.hok.fresh (Nat.le_refl _))
theorem JD {pins:List (Addr×Obj)}{σ:St}{H:Hp}{s:Shared}{R:It->Hp->Prop}{E:Value->Shared->Prop}{lo hi:Int}{t u v:Tok}{tk:Nat} (I:Inv X pins σ H s) (h1: -(2^62)<=lo) (h2:lo<2^62) (h3: -(2^62)<=hi) (h4:hi<2^62)
  (q:R (Itr lo (hi - lo).toNat) H):wpAny (model X.prog X.w) X.A (pyIter (.ref s.heap.objs.size)) (PIE X pins σ tg R) E { s with heap:=s.heap.push { cls:= .type "range",data:= .fields #[.int lo t,.int hi u,.int 1 v] },toks:=tk }:=by
 refine wpAny_pyIter_range (IsRange.new ..) (small_one h1 h2 h3 h4) ?_;have I1:Inv X pins σ H { s with heap:=s.heap.push { cls:= .type "range",data:= .fields #[.int lo t,.int hi u,.int 1 v] },toks:=tk }:=I.kept fun b o e=>Heap.get?_push_of_some _ e;refine⟨(s.heap.push { cls:= .type "range",data:= .fields #[.int lo t,.int hi u,.int 1 v] }).objs.size,[(s.heap.push { cls:= .type "range",data:= .fields #[.int lo t,.int hi u,.int 1 v] }).objs.size],_,_,H,rfl,
  I1.kept (t':=tk) fun b o e=>Heap.get?_push_of_some _ e,OV _ lo (hi - lo).toNat,?_,fun b hb=> ?_,q⟩
 ·have e1:lo+((0:Nat):Int) * 1=lo:=by simp
  have e2:(((hi - lo).toNat:Nat):Int) - ((0:Nat):Int)=Builtin.Range.rangeSize lo hi 1:=by rw[rangeSize_one];split<;>lia
  show IsRangeIter _ _ (lo+((0:Nat):Int) * 1) ((((hi - lo).toNat:Nat):Int) - ((0:Nat):Int)) 1;rw[e1,e2];exact Heap.get?_push_size _ rfl
 ·have e:b=(s.heap.push { cls:= .type "range",data:= .fields #[.int lo t,.int hi u,.int 1 v] }).objs.size:=by simpa using hb
  subst e;exact I1.fpOk (Nat.le_refl _) (I1.hok.fresh (Nat.le_refl _))
def YB (ta:TA):TI:=fun σ H R=>ta σ H fun vs H1=>∃j:Int,vs=[.int j]/\ -(2^62)<=j/\j<2^62/\R (Itr 0 j.toNat) H1
def XD (ta:TA):TI:=fun σ H R=>ta σ H fun vs H1=>∃i j:Int,vs=[.int i,.int j]/\(-(2^62)<=i/\i<2^62/\ -(2^62)<=j/\j<2^62)/\R (Itr i (j - i).toNat) H1
theorem kN {a:Expr}{ta:TA}{p pos:Pos} (hg:Gl X "range") (hm:X.mg "range" =none) (ha:PA X [a] ta) (hs:starEach [a] X.env=[(false,eval a X.env)]:=by rfl):PI X tg (.Call (.Name "range" p) [a] [] pos) (YB ta):=by
 intro pins s σ H R I h;refine Call_ (yF I hg hm boot_range (PyProof.Rows.callWith_type1 (thn (ha pos pins s σ H _ I h) fun us s1 ⟨vs,H1,I1,r1,q1⟩=> ?_) hs rfl));obtain⟨j,e,q1,q2,q⟩:=q1;subst e;cases r1 with
 | cons r rr =>
  cases rr;obtain⟨t,rfl⟩:=r;exact call_range_1 (JD I1 (by lia) (by lia) q1 q2 (by simpa using q))
theorem FV {a b:Expr}{ta:TA}{p pos:Pos} (hg:Gl X "range") (hm:X.mg "range" =none) (ha:PA X [a,b] ta) (hs:starEach [a,b] X.env=[(false,eval a X.env),(false,eval b X.env)]:=by rfl) (hs2:starEach [b] X.env=[(false,eval b X.env)]:=by rfl) :
  PI X tg (.Call (.Name "range" p) [a,b] [] pos) (XD ta):=by
 intro pins s σ H R I h;refine Call_ (yF I hg hm boot_range (PyProof.Rows.callWith_type1 (thn (ha pos pins s σ H _ I h) fun us s1 ⟨vs,H1,I1,r1,q1⟩=> ?_) (by rw[hs,hs2]) (by rw[hs2];rfl)));obtain⟨i,j,e,⟨q1,q2,q3,q4⟩,q⟩:=q1;subst e;cases r1 with
 | cons r rr =>
  cases rr with
  | cons r' rr =>
   cases rr;obtain⟨t,rfl⟩:=r;obtain⟨t',rfl⟩:=r';exact call_range_2 (JD I1 q1 q2 q3 q4 q)
def aBN (wi:TI)(g:TG)(tb:TS):TS:=fun D σ H=>wi σ H fun J H1=>∃W:Nat->Nat->St->Hp->Prop,(∃m,W 0 m σ H1)/\∀i m σ H,W i m σ H →
 (J.stop i H/\D.nx σ H)∨(J.go i H/\∃N:St->Hp->Prop,(∀σ' H',N σ' H'->∃m',m'<m/\W (i+1) m' σ' H')/\∀x H',J.yld i H x H'->g x σ H' fun σ2 H2=>tb { D with nx:=N,ct:=N,bk:=D.nx } σ2 H2)
def nT (fp:List Addr)(h:Heap):List (Addr×Obj):=fp.filterMap fun b=>(h.get? b).map fun o=>(b,o)
theorem lG {fp:List Addr}{h:Heap}{b:Addr}{o:Obj} (hb:b∈fp) (e:h.get? b=some o):(b,o)∈nT fp h:=List.mem_filterMap.mpr ⟨b,hb,by rw[e];rfl⟩
theorem FP {fp:List Addr}{h:Heap}{p:Addr×Obj} (hp:p∈nT fp h):p.1∈fp/\h.get? p.1=some p.2:=by
 obtain⟨b,hb,e⟩:=List.mem_filterMap.mp hp;cases q:h.get? b with
 | none=>rw[q]at e;cases e
 | some o =>
  rw[q]at e;have e':(b,o)=p:=Option.some.inj e;subst e';exact⟨hb,q⟩
theorem Inv.pinned {pins:List (Addr×Obj)}{σ:St}{H:Hp}{s:Shared}{fp:List Addr} (I:Inv X pins σ H s) (hf:∀b∈fp,q0 X pins H b) (ho:∀b∈fp,∃o,s.heap.get? b=some o/\∀v,o.data≠ .cell v):Inv X (pins++nT fp s.heap) σ H s :=
 I.pins_of fun p hp=>(List.mem_append.mp hp).elim (fun z=>I.pin p (List.mem_append_right _ z)) fun z=>by
  obtain⟨hb,e⟩:=FP z;obtain⟨f0,f1,f2,_⟩:=hf p.1 hb;obtain⟨o,e',d⟩:=ho p.1 hb;rw[e]at e';cases e';exact⟨e,f0,f1,f2,d⟩
theorem Inv.unpinned {pins pl:List (Addr×Obj)}{σ:St}{H:Hp}{s:Shared} (I:Inv X (pins++pl) σ H s):Inv X pins σ H s:=I.pins_of fun p hp=>I.pin p (List.mem_append_right _ (List.mem_append_left _ hp))
theorem cT {iter:Expr}{body:List Stmt}{wi:TI}{g:TG}{tb:TS}{pos:Pos} (hp:PassesOwn (model X.prog X.w) X.A X.env X.xe) (hc:X.calm=true) (hi:PI X tg iter wi) (hg:PG X tg g) (hb:PSs X body tb)
  (hs:∀x,foldedSetIterable iter X.env x=pure x:=by intro _;rfl):PS X (.For tg iter body [] pos) (aBN wi g tb):=by
 intro pins s σ H D I h;refine wpAny_For (thn (hi pins s σ H _ I h) fun v s1 h1=>thn h1 fun itv s2 h2=> ?_) hs;obtain⟨it,fp,tn,J,H2,e,I2,T,st2,f2,W,⟨m0,w0⟩,turn⟩:=h2;subst e;have stat:∀{H':Hp},(∀b∈fp,H' b=none)->∀b∈fp,q0 X pins H' b:=fun hn b hb=>⟨hn b hb,(f2 b hb).2⟩
 refine codeAny_forLoop_any (fun n s'=>∃i σ' H',Inv X pins σ' H' s'/\tn i s'.heap/\(∀b∈fp,H' b=none)/\W i n σ' H') ?_ m0 ⟨0,σ,H2,I2,st2,fun b hb=>(f2 b hb).1,w0⟩;rintro n s3 ⟨i,σ3,H3,I3,st3,fr3,w3⟩;rcases turn i n σ3 H3 w3 with⟨stop,qn⟩|⟨go,N,hN,step⟩
 ·refine wpAny_passesOwn hp (thn (T.done X rfl rfl rfl hc i pins s3 σ3 H3 X.xe I3 (stat fr3) st3 stop) fun r s4 ⟨hr,I4⟩=> ?_);subst hr;exact wpAny_execs_nil ⟨σ3,H3,I4,qn⟩
 ·refine wpAny_passesOwn hp (thn (T.item X rfl rfl rfl hc i pins s3 σ3 H3 X.xe I3 (stat fr3) st3 go) fun r s4 ⟨u,hr,h4⟩=> ?_);subst hr;refine wpAny_passesOwn hp (thn h4 fun _ s5 ⟨x,H5,I5,r5,y5,st5,fr5⟩=> ?_);have I5':=I5.pinned (stat fr5) (T.obj _ _ st5);refine wpAny_passesOwn hp (thn (hg _ s5 σ3 H5 x u _ I5' r5 (step x H5 y5)) fun _ s6 ⟨σ6,H6,I6,q6⟩=> ?_);refine wpAny_passesOwn hp (thn (hb _ s6 σ6 H6 _ I6 q6) fun f s7 q7=> ?_);have again:∀{σ7:St}{H7:Hp},Inv X (pins++nT fp s5.heap) σ7 H7 s7->N σ7 H7->∃m,m<n/\∃i σ' H',Inv X pins σ' H' s7/\tn i s7.heap/\(∀b∈fp,H' b=none)/\W i m σ' H':=fun {σ7 H7} I7 n7=>by
   obtain⟨m',hm,w7⟩:=hN σ7 H7 n7;refine⟨m',hm,i+1,σ7,H7,I7.unpinned,T.keep _ _ _ st5 fun b hb o e=>(I7.pin (b,o) (List.mem_append_right _ (List.mem_append_right _ (lG hb e)))).1,fun b hb=> ?_,w7⟩;obtain⟨o,e,d⟩:=T.obj _ _ st5 b hb;exact(I7.pin (b,o) (List.mem_append_right _ (List.mem_append_right _ (lG hb e)))).2.1
  cases f with
  | next=>obtain⟨σ7,H7,I7,n7⟩:=q7;exact again I7 n7
  | cont=>obtain⟨σ7,H7,I7,n7⟩:=q7;exact again I7 n7
  | brk=>obtain⟨σ7,H7,I7,q7⟩:=q7;exact⟨σ7,H7,I7.unpinned,q7⟩
  | ret v=>obtain⟨x7,σ7,H7,I7,r7,q7⟩:=q7;exact⟨x7,σ7,H7,I7.unpinned,r7,q7⟩
end
theorem V5 {K:W.Frag}{a:Addr}{xs:List V}{g:TG}{tb:TS}{D:fU}{σ:St}{H:Hp} (Pv:Nat->St->Hp->Prop) (h0:Pv 0 σ H) (hl:∀i σ H,i<=xs.length->Pv i σ H->SqL K H a xs)
  (hs:∀i x σ H,xs[i]? =some x->Pv i σ H->g x σ H fun σ2 H2=>tb { D with nx:=Pv (i+1),ct:=Pv (i+1),bk:=D.nx } σ2 H2)(hd:∀σ H,Pv xs.length σ H->D.nx σ H) :
  ∃W:Nat->Nat->St->Hp->Prop,(∃m,W 0 m σ H)/\∀i m σ H,W i m σ H →
   ((Itl K a).stop i H/\D.nx σ H)∨((Itl K a).go i H/\∃N:St->Hp->Prop,(∀σ' H',N σ' H'->∃m',m'<m/\W (i+1) m' σ' H')/\∀x H',(Itl K a).yld i H x H'->g x σ H' fun σ2 H2=>tb { D with nx:=N,ct:=N,bk:=D.nx } σ2 H2):=by
 refine⟨fun i m σ H=>m=xs.length - i/\i<=xs.length/\Pv i σ H,⟨xs.length,by simp,Nat.zero_le _,h0⟩,?_⟩;rintro i m σ H ⟨rfl,hi,p⟩;have q:=hl i σ H hi p
 by_cases hlt:i<xs.length
 ·refine .inr ⟨⟨xs,xs[i],q,by simp[hlt]⟩,Pv (i+1),fun σ' H' p'=>⟨xs.length - (i+1),by lia,rfl,hlt,p'⟩,fun x H' y=> ?_⟩;obtain⟨e,y⟩:=y;subst e;exact hs i x σ _ (y xs q) p
 ·have e:i=xs.length:=by lia
  subst e;exact .inl ⟨⟨xs,q,Nat.le_refl _⟩,hd σ H p⟩
theorem TR {lo:Int}{n:Nat}{g:TG}{tb:TS}{D:fU}{σ:St}{H:Hp} (Pv:Nat->St->Hp->Prop) (h0:Pv 0 σ H)
  (hs:∀i σ H,i<n->Pv i σ H->g (.int (lo+i)) σ H fun σ2 H2=>tb { D with nx:=Pv (i+1),ct:=Pv (i+1),bk:=D.nx } σ2 H2)(hd:∀σ H,Pv n σ H->D.nx σ H) :
  ∃W:Nat->Nat->St->Hp->Prop,(∃m,W 0 m σ H)/\∀i m σ H,W i m σ H →
   ((Itr lo n).stop i H/\D.nx σ H)∨((Itr lo n).go i H/\∃N:St->Hp->Prop,(∀σ' H',N σ' H'->∃m',m'<m/\W (i+1) m' σ' H')/\∀x H',(Itr lo n).yld i H x H'->g x σ H' fun σ2 H2=>tb { D with nx:=N,ct:=N,bk:=D.nx } σ2 H2):=by
 refine⟨fun i m σ H=>m=n - i/\i<=n/\Pv i σ H,⟨n,by simp,Nat.zero_le _,h0⟩,?_⟩;rintro i m σ H ⟨rfl,hi,p⟩
 by_cases hlt:i<n
 ·refine .inr ⟨hlt,Pv (i+1),fun σ' H' p'=>⟨n - (i+1),by lia,rfl,hlt,p'⟩,fun x H' y=> ?_⟩;obtain⟨e,y⟩:=y;subst e y;exact hs i σ _ hlt p
 ·have e:i=n:=by lia
  subst e;exact .inl ⟨Nat.le_refl _,hd σ H p⟩
abbrev R2:=V->V->Hp->VK->Prop
def OpR (X:Cx)(f:Value->Value->Sem Value)(r:R2):Prop :=
 ∀(pins:List (Addr×Obj)) (s:Shared) (σ:St) (H:Hp) (x y:V) (v u:Value) (Q:VK),Inv X pins σ H s->RelV x v->RelV y u->r x y H Q →
  wpAny (model X.prog X.w) X.A (f v u) (EP X pins σ Q) X.xe s
def dS (X:Cx)(f:Value)(r:List V->Hp->VK->Prop):Prop :=
 ∀(pins:List (Addr×Obj)) (s:Shared) (σ:St) (H:Hp) (xs:List V) (us:List Value) (Q:VK),Inv X pins σ H s->Vals xs us->r xs H Q →
  wpAny (model X.prog X.w) X.A (call f us) (EP X pins σ Q) X.xe s
def tOp (r:R2)(ta tb:TE):TE:=fun σ H Q=>ta σ H fun x H1=>tb σ H1 fun y H2=>r x y H2 Q
def rI (C:Int->Int->Prop)(g:Int->Int->V):R2:=fun x y H Q=>∃i j,x= .int i/\y= .int j/\C i j/\Q (g i j) H
def rI0 (g:Int->Int->V):R2:=fun x y H Q=>∃i j,x= .int i/\y= .int j/\Q (g i j) H
section
variable {X:Cx}{a b c:Expr}{ta tb tc:TE}{pos:Pos}
theorem VL (ha:PE X a ta)(hb:PE X b tb){pins:List (Addr×Obj)}{s:Shared}{σ:St}{H:Hp}{R:V->V->Hp->Prop} (I:Inv X pins σ H s)
  (h:ta σ H fun x H1=>tb σ H1 fun y H2=>R x y H2){Q:Value->Shared->Prop}{f:Value->Value->Sem Value}
  (hf:∀v u s2 x y H2,Inv X pins σ H2 s2->RelV x v->RelV y u->R x y H2->wpAny (model X.prog X.w) X.A (f v u) Q X.xe s2) :
  wpAny (model X.prog X.w) X.A (eval a X.env) (fun v s₁=>wpAny (model X.prog X.w) X.A (eval b X.env) (fun u s₂=>wpAny (model X.prog X.w) X.A (f v u) Q X.xe s₂) X.xe s₁) X.xe s:=by
 refine thn (ha pins s σ H _ I h) fun v s1 ⟨x,H1,I1,r1,q1⟩=> ?_;refine thn (hb pins s1 σ H1 _ I1 q1) fun u s2 ⟨y,H2,I2,r2,q2⟩=> ?_;exact hf v u s2 x y H2 I2 r1 r2 q2
theorem aK {op:Operator}{r:R2} (ho:OpR X (binaryOp op) r) (ha:PE X a ta) (hb:PE X b tb):PE X (.BinOp a op b pos) (tOp r ta tb):=by
 intro pins s σ H Q I h;exact wpAny_BinOp (VL ha hb I h fun v u s2 x y H2 I2 rx ry q=>ho pins s2 σ H2 x y v u Q I2 rx ry q)
theorem opI {f:Value->Value->Sem Value}{C:Int->Int->Prop}{g:Int->Int->Int}
  (rule:∀(i j:Int) (t u:Tok) (s:Shared) (Q:Value->Shared->Prop) (E:Value->Shared->Prop),C i j->Q (.int (g i j) s.toks) { s with toks:=s.toks+1 }->wpAny (model X.prog X.w) X.A (f (.int i t) (.int j u)) Q E s) :
  OpR X f (rI C fun i j=> .int (g i j)):=by
 intro pins s σ H x y v u Q I rx ry h;obtain⟨i,j,rfl,rfl,hc,q⟩:=h;obtain⟨t,rfl⟩:=rx;obtain⟨t',rfl⟩:=ry;exact rule i j t t' s _ _ hc ⟨.int (g i j),H,I.tok _,⟨_,rfl⟩,q⟩
theorem WY {f:Value->Value->Sem Value}{g:Int->Int->Int}
  (rule:∀(i j:Int) (t u:Tok) (s:Shared) (Q:Value->Shared->Prop) (E:Value->Shared->Prop),Q (.int (g i j) s.toks) { s with toks:=s.toks+1 }->wpAny (model X.prog X.w) X.A (f (.int i t) (.int j u)) Q E s) :
  OpR X f (rI0 fun i j=> .int (g i j)):=by
 intro pins s σ H x y v u Q I rx ry h;obtain⟨i,j,rfl,rfl,q⟩:=h;obtain⟨t,rfl⟩:=rx;obtain⟨t',rfl⟩:=ry;exact rule i j t t' s _ _ ⟨.int (g i j),H,I.tok _,⟨_,rfl⟩,q⟩
theorem PJ {f:Value->Value->Sem Value}{g:Int->Int->Bool}
  (rule:∀(i j:Int) (t u:Tok) (s:Shared) (Q:Value->Shared->Prop) (E:Value->Shared->Prop),Q (.bool (g i j)) s->wpAny (model X.prog X.w) X.A (f (.int i t) (.int j u)) Q E s) :
  OpR X f (rI0 fun i j=> .bl (g i j)):=by
 intro pins s σ H x y v u Q I rx ry h;obtain⟨i,j,rfl,rfl,q⟩:=h;obtain⟨t,rfl⟩:=rx;obtain⟨t',rfl⟩:=ry;exact rule i j t t' s _ _ ⟨.bl (g i j),H,I,rfl,q⟩
def aCx (i j:Int):Prop:=0<j/\j<1073741824
def aCa (i j:Int):Prop:=0<=j/\j<=1000000/\i.natAbs<2^64
def CMul (i j:Int):Prop:=(-(2^64)<i/\i<2^64)∨(-(2^64)<j/\j<2^64)
theorem CMul.ok {i j:Int}(h:CMul i j):IntMulOk i j:=by
 rcases h with⟨h1,h2⟩|⟨h1,h2⟩
 ·exact .of_left (intBits_le_64 h1 h2)
 ·exact .of_right (intBits_le_64 h1 h2)
theorem QG (k:Nat):(0:Int)<=2^k:=by
 rw[two_pow_cast];exact Int.natCast_nonneg _
theorem bW:OpR X (binaryOp .Add) (rI0 fun i j=> .int (i+j)):=WY fun _ _ _ _ _ _ _ q=>add_int q
theorem uI:OpR X (binaryOp .Sub) (rI0 fun i j=> .int (i - j)):=WY fun _ _ _ _ _ _ _ q=>sub_int q
theorem jK:OpR X (binaryOp .Mult) (rI CMul fun i j=> .int (i * j)):=opI fun _ _ _ _ _ _ _ hc q=>mul_int q hc.ok
theorem cM:OpR X (binaryOp .FloorDiv) (rI aCx fun i j=> .int (i/j)):=opI fun i j _ _ _ _ _ hc q=>by
 have h1:(0:Int)<j:=hc.1;have h2:j<1073741824:=hc.2;exact floordiv_int (by lia) (by rw[Int.fdiv_eq_ediv_of_nonneg i (by lia)];exact q) (.inl (PyProof.noPylong_small (by lia)))
theorem bP:OpR X (binaryOp .Mod) (rI (fun _ j=>0<j) fun i j=> .int (i%j)):=opI fun i j _ _ _ _ _ hc q=>by
 have h1:(0:Int)<j:=hc;exact mod_int' (by lia) (by rw[Int.fmod_eq_emod_of_nonneg i (by lia)];exact q)
theorem aCX:OpR X (binaryOp .Pow) (rI aCa fun i j=> .int (i^j.toNat)):=opI fun _ _ _ _ _ _ _ hc q=>pow_int_small hc.1 hc.2.1 hc.2.2 q
theorem aCP:OpR X (binaryOp .RShift) (rI (fun _ j=>0<=j) fun i j=> .int (i/2^j.toNat)):=opI fun i j _ _ _ _ _ hc q =>
 rshift_int hc (by rw[Int.fdiv_eq_ediv_of_nonneg i (QG _)];exact q)
theorem SR:OpR X (binaryOp .BitXor) (rI0 fun i j=> .int (Builtin.bitXor i j)):=WY fun _ _ _ _ _ _ _ q=>xor_int q
end
def aBp:V->V->Bool
 | .non,.non=>true| .non,.int _=>true| .int _,.non=>true| .non,.bl _=>true| .bl _,.non=>true| .non,.str _=>true| .str _,.non=>true
 | .int _,.int _=>true| .bl _,.bl _=>true| .str _,.str _=>true| .byt _,.byt _=>true
 | .int _,.str _=>true| .str _,.int _=>true| .bl _,.str _=>true| .str _,.bl _=>true
 | _,_=>false
def rEq:R2:=fun x y H Q=>aBp x y=true/\Q (.bl (decide (x=y))) H
def rNe:R2:=fun x y H Q=>aBp x y=true/\Q (.bl (!decide (x=y))) H
theorem NV {i j:Int}:decide (V.int i=V.int j)=(i==j):=by
 rw[Bool.eq_iff_iff];simp
theorem R1 {i j:Bool}:decide (V.bl i=V.bl j)=(i==j):=by
 rw[Bool.eq_iff_iff];simp
theorem OG {i j:Str}:decide (V.str i=V.str j)=(i==j):=by
 rw[Bool.eq_iff_iff];simp
theorem N2 {i j:Array UInt8}:decide (V.byt i=V.byt j)=(i.toList==j.toList):=by
 rw[Bool.eq_iff_iff];cases i;cases j;simp
section
variable {X:Cx}{a b c:Expr}{ta tb tc:TE}{pos:Pos}
theorem bU {pins:List (Addr×Obj)}{σ:St}{H:Hp}{s:Shared}{Q:VK}{k k':Bool} (I:Inv X pins σ H s) (q:Q (.bl k) H) (e:k=k'):EP X pins σ Q (.bool k') s:=by
 subst e;exact⟨.bl k,H,I,rfl,q⟩
theorem eV:OpR X (compareOp .Eq) rEq:=by
 intro pins s σ H x y v u Q I rx ry h;obtain⟨hs,q⟩:=h;cases x with
 | non =>
  cases rx;cases y with
  | non=>cases ry;exact PySem.EqNone.eq_none_none (bU I q (by simp))
  | bl j=>cases ry;exact PySem.EqNone.eq_none_bool (bU I q (by simp))
  | int j=>obtain⟨t',rfl⟩:=ry;exact PySem.EqNone.eq_none_int (bU I q (by simp))
  | str j=>obtain⟨t',rfl⟩:=ry;exact PySem.EqNone.eq_none_str (bU I q (by simp))
  | _=>exact absurd (show false=true from hs) Bool.false_ne_true
 | bl i =>
  cases rx;cases y with
  | non=>cases ry;exact PySem.EqNone.eq_bool_none (bU I q (by simp))
  | bl j=>cases ry;exact eq_bool (bU I q R1)
  | str j=>obtain⟨t',rfl⟩:=ry;exact PySem.EqMixed.eq_bool_str (bU I q (by simp))
  | _=>exact absurd (show false=true from hs) Bool.false_ne_true
 | int i =>
  obtain⟨t,rfl⟩:=rx;cases y with
  | non=>cases ry;exact PySem.EqNone.eq_int_none (bU I q (by simp))
  | int j=>obtain⟨t',rfl⟩:=ry;exact eq_int (bU I q NV)
  | str j=>obtain⟨t',rfl⟩:=ry;exact PySem.EqMixed.eq_int_str (bU I q (by simp))
  | _=>exact absurd (show false=true from hs) Bool.false_ne_true
 | str i =>
  obtain⟨t,rfl⟩:=rx;cases y with
  | non=>cases ry;exact PySem.EqNone.eq_str_none (bU I q (by simp))
  | bl j=>cases ry;exact PySem.EqMixed.eq_str_bool (bU I q (by simp))
  | int j=>obtain⟨t',rfl⟩:=ry;exact PySem.EqMixed.eq_str_int (bU I q (by simp))
  | str j=>obtain⟨t',rfl⟩:=ry;exact eq_str (bU I q OG)
  | _=>exact absurd (show false=true from hs) Bool.false_ne_true
 | byt i =>
  obtain⟨t,rfl⟩:=rx;cases y with
  | byt j=>obtain⟨t',rfl⟩:=ry;exact W.eq_bytes (bU I q N2)
  | _=>exact absurd (show false=true from hs) Bool.false_ne_true
 | _=>cases y<;>exact absurd (show false=true from hs) Bool.false_ne_true
theorem HI:OpR X (compareOp .NotEq) rNe:=by
 intro pins s σ H x y v u Q I rx ry h;obtain⟨hs,q⟩:=h;cases x with
 | non =>
  cases rx;cases y with
  | non=>cases ry;exact PySem.EqNone.ne_none_none (bU I q (by simp))
  | bl j=>cases ry;exact PySem.EqNone.ne_none_bool (bU I q (by simp))
  | int j=>obtain⟨t',rfl⟩:=ry;exact PySem.EqNone.ne_none_int (bU I q (by simp))
  | str j=>obtain⟨t',rfl⟩:=ry;exact PySem.EqNone.ne_none_str (bU I q (by simp))
  | _=>exact absurd (show false=true from hs) Bool.false_ne_true
 | bl i =>
  cases rx;cases y with
  | non=>cases ry;exact PySem.EqNone.ne_bool_none (bU I q (by simp))
  | bl j=>cases ry;exact ne_bool (bU I q (congrArg not R1))
  | str j=>obtain⟨t',rfl⟩:=ry;exact PySem.EqMixed.ne_bool_str (bU I q (by simp))
  | _=>exact absurd (show false=true from hs) Bool.false_ne_true
 | int i =>
  obtain⟨t,rfl⟩:=rx;cases y with
  | non=>cases ry;exact PySem.EqNone.ne_int_none (bU I q (by simp))
  | int j=>obtain⟨t',rfl⟩:=ry;exact ne_int (bU I q (congrArg not NV))
  | str j=>obtain⟨t',rfl⟩:=ry;exact PySem.EqMixed.ne_int_str (bU I q (by simp))
  | _=>exact absurd (show false=true from hs) Bool.false_ne_true
 | str i =>
  obtain⟨t,rfl⟩:=rx;cases y with
  | non=>cases ry;exact PySem.EqNone.ne_str_none (bU I q (by simp))
  | bl j=>cases ry;exact PySem.EqMixed.ne_str_bool (bU I q (by simp))
  | int j=>obtain⟨t',rfl⟩:=ry;exact PySem.EqMixed.ne_str_int (bU I q (by simp))
  | str j=>obtain⟨t',rfl⟩:=ry;exact ne_str (bU I q (congrArg not OG))
  | _=>exact absurd (show false=true from hs) Bool.false_ne_true
 | byt i =>
  obtain⟨t,rfl⟩:=rx;cases y with
  | byt j=>obtain⟨t',rfl⟩:=ry;exact W.ne_bytes (bU I q (congrArg not N2))
  | _=>exact absurd (show false=true from hs) Bool.false_ne_true
 | _=>cases y<;>exact absurd (show false=true from hs) Bool.false_ne_true
theorem g7:OpR X (compareOp .Lt) (rI0 fun i j=> .bl (decide (i<j))):=PJ fun _ _ _ _ _ _ _ q=>lt_int q
theorem O7:OpR X (compareOp .LtE) (rI0 fun i j=> .bl (decide (i<=j))):=PJ fun _ _ _ _ _ _ _ q=>le_int q
theorem zG:OpR X (compareOp .Gt) (rI0 fun i j=> .bl (decide (j<i))):=PJ fun _ _ _ _ _ _ _ q=>gt_int q
theorem HU:OpR X (compareOp .GtE) (rI0 fun i j=> .bl (decide (j<=i))):=PJ fun _ _ _ _ _ _ _ q=>ge_int q
theorem aB8:OpR X (compareOp .Is) (fun x y H Q=>y= .non/\Q (.bl (decide (x= .non))) H):=by
 intro pins s σ H x y v u Q I rx ry h;obtain⟨rfl,q⟩:=h;cases ry;refine is_none_gen (bU I q ?_);cases x<;>first
  | (cases rx;rfl)
  | (obtain⟨t,rfl⟩:=rx;rfl)
theorem Y4:OpR X (compareOp .IsNot) (fun x y H Q=>y= .non/\Q (.bl (!decide (x= .non))) H):=by
 intro pins s σ H x y v u Q I rx ry h;obtain⟨rfl,q⟩:=h;cases ry;refine isnot_none_gen (bU I q ?_);cases x<;>first
  | (cases rx;rfl)
  | (obtain⟨t,rfl⟩:=rx;rfl)
theorem bB (b:Expr){op:CmpOp}(h:op≠ .In:=by decide)(h2:op≠ .NotIn:=by decide):behindInMarks op b=false:=by
 have e1:(op==CmpOp.In)=false:=by cases op<;>first|rfl|exact absurd rfl h
 have e2:(op==CmpOp.NotIn)=false:=by cases op<;>first|rfl|exact absurd rfl h2
 cases b<;>simp[behindInMarks,e1,e2]
theorem uJ {op:CmpOp}{r:R2} (ho:OpR X (compareOp op) r) (ha:PE X a ta) (hb:PE X b tb) (hm:behindInMarks op b=false):PE X (.Compare a [op] [b] pos) (tOp r ta tb):=by
 intro pins s σ H Q I h;exact wpAny_Compare1 (VL ha hb I h fun v u s2 x y H2 I2 rx ry q=>ho pins s2 σ H2 x y v u Q I2 rx ry q) hm
def O0 (t:TE):TT:=fun σ H Q=>t σ H fun x H'=>∃k,x= .bl k/\Q k H'
theorem aU {op:CmpOp}{r:R2} (ho:OpR X (compareOp op) r) (ha:PE X a ta) (hb:PE X b tb) (hm:behindInMarks op b=false):PT X (.Compare a [op] [b] pos) (O0 (tOp r ta tb)):=by
 intro pins s σ H Q I h;refine wpAny_isTrue_Compare1 (thn (ha pins s σ H _ I h) fun v s1 ⟨x,H1,I1,r1,q1⟩=>thn (hb pins s1 σ H1 _ I1 q1) fun u s2 ⟨y,H2,I2,r2,q2⟩ =>
  thn (ho pins s2 σ H2 x y v u _ I2 r1 r2 q2) fun c s3 ⟨z,H3,I3,r3,k,e,q3⟩=> ?_) hm
 subst e;cases r3;exact wpAny_truthy_bool ⟨H3,I3,q3⟩
def KP (r r':R2)(ta tb tc:TE):TE:=fun σ H Q=>ta σ H fun x H1=>tb σ H1 fun y H2=>r x y H2 fun z H3=>∃k,z= .bl k ∧
 (if k=true then tc σ H3 fun w' H4=>r' y w' H4 Q else Q (.bl false) H3)
theorem JS {op op':CmpOp}{r r':R2} (ho:OpR X (compareOp op) r) (ho':OpR X (compareOp op') r') (ha:PE X a ta) (hb:PE X b tb) (hc:PE X c tc)
  (hm:lastMarks [op,op'] [b,c]=false:=by with_unfolding_all rfl):PE X (.Compare a [op,op'] [b,c] pos) (KP r r' ta tb tc):=by
 intro pins s σ H Q I h;refine Compare_chain (thn (ha pins s σ H _ I h) fun v s1 ⟨x,H1,I1,r1,q1⟩=>chain_link (thn (hb pins s1 σ H1 _ I1 q1) fun u s2 ⟨y,H2,I2,r2,q2⟩ =>
  thn (ho pins s2 σ H2 x y v u _ I2 r1 r2 q2) fun d s3 ⟨z,H3,I3,r3,k,e,q3⟩=> ?_)) hm
 subst e;cases r3;refine wpAny_truthy_bool ?_;cases k with
 | false=>exact ite_ff ⟨.bl false,H3,I3,rfl,q3⟩
 | true=>exact ite_tt (chain_last (thn (hc pins s3 σ H3 _ I3 q3) fun w' s4 ⟨z',H4,I4,r4,q4⟩=>ho' pins s4 σ H4 y z' u w' Q I4 r2 r4 q4))
theorem VF {op op':CmpOp}{r r':R2} (ho:OpR X (compareOp op) r) (ho':OpR X (compareOp op') r') (ha:PE X a ta) (hb:PE X b tb) (hc:PE X c tc)
  (hm:lastMarks [op,op'] [b,c]=false:=by with_unfolding_all rfl):PT X (.Compare a [op,op'] [b,c] pos) (O0 (KP r r' ta tb tc)):=by
 intro pins s σ H Q I h;refine isTrue_chain (thn (ha pins s σ H _ I h) fun v s1 ⟨x,H1,I1,r1,q1⟩=>test_link (thn (hb pins s1 σ H1 _ I1 q1) fun u s2 ⟨y,H2,I2,r2,q2⟩ =>
  thn (ho pins s2 σ H2 x y v u _ I2 r1 r2 q2) fun d s3 ⟨z,H3,I3,r3,k,e,q3⟩=> ?_)) hm
 subst e;cases r3;refine wpAny_truthy_bool ?_;cases k with
 | false =>
  obtain⟨k',e',q'⟩:=q3;cases e';exact ite_ff ⟨H3,I3,q'⟩
 | true =>
  refine ite_tt (test_last (thn (hc pins s3 σ H3 _ I3 q3) fun w' s4 ⟨z',H4,I4,r4,q4⟩=>thn (ho' pins s4 σ H4 y z' u w' _ I4 r2 r4 q4) fun d' s5 ⟨z2,H5,I5,r5,k2,e2,q5⟩=> ?_));subst e2;cases r5;exact wpAny_truthy_bool ⟨H5,I5,q5⟩
theorem qD:(sizeLine:Nat)<2^63:=by rw[sizeLine_eq];decide
theorem P9:OpR X (binaryOp .Add) (fun x y H Q=>∃i j,x= .str i/\y= .str j/\i.length+j.length<=sizeLine/\Q (.str (i++j)) H):=by
 intro pins s σ H x y v u Q I rx ry h;obtain⟨i,j,rfl,rfl,hz,q⟩:=h;obtain⟨t,rfl⟩:=rx;obtain⟨t',rfl⟩:=ry;exact add_str (fun t' tk=>⟨.str (i++j),H,I.tok _,⟨_,rfl⟩,q⟩) hz
theorem nG {x:V}{us:List Value} (r:Vals [x] us):∃u,us=[u]/\RelV x u:=by
 cases r with
 | cons r1 r2=>cases r2;exact⟨_,rfl,r1⟩
theorem X9 {x y:V}{us:List Value} (r:Vals [x,y] us):∃u w',us=[u,w']/\RelV x u/\RelV y w':=by
 cases r with
 | cons r1 r2 =>
  cases r2 with
  | cons r3 r4=>cases r4;exact⟨_,_,rfl,r1,r3⟩
theorem SI (hc:X.calm=true):dS X (.builtin "min") (fun xs H Q=>∃i j,xs=[.int i,.int j]/\Q (.int (if j<i then j else i)) H):=by
 intro pins s σ H xs us Q I r h;obtain⟨i,j,rfl,q⟩:=h;obtain⟨u,w',rfl,⟨t,rfl⟩,⟨t',rfl⟩⟩:=X9 r;refine min_two_ints (I.ok.hd hc) fun h' tk k=>⟨_,H,I.kept k,?_,q⟩
 by_cases hj:j<i
 ·rw[if_pos hj,if_pos hj];exact⟨_,rfl⟩
 ·rw[if_neg hj,if_neg hj];exact⟨_,rfl⟩
end
structure ObjM (h:Heap)(x dx C:Addr)(mA:Str->Option Value):Prop where
 obj:h.get? x=some (W.instObj C dx)
 ns:h.Ns1 dx mA
 ne:dx≠x
theorem RC {h:Heap}{dx:Addr}{mA:Str->Option Value} (n:h.Ns1 dx mA):∃od,h.get? dx=some od/\∀name,W.lookIn name od=some (mA name):=by
 obtain⟨o,es,ep,ho,hd,hk,_,hm⟩:=n;refine⟨o,ho,fun name=> ?_⟩;have e:=hm name;unfold nsFind findBy at e;rw[←Array.find?_toList]at e;unfold W.lookIn;rw[hd]
 dsimp only
 split
 ·rename_i y q;rw[q]at e;exact congrArg some e
 ·rename_i q;rw[q]at e;have a:es.toList.any (·.refKey)=false:=by
   rw[List.any_eq_false];intro y hy;obtain⟨z,t,hkey⟩:=hk y (Array.mem_toList_iff.mp hy);simp[DictEntry.refKey,hkey]
  have a':¬es.toList.any (·.refKey)=true:=by rw[a];exact Bool.false_ne_true
  rw[if_neg a'];exact congrArg some e
theorem ObjM.look {h:Heap}{x dx C:Addr}{mA:Str->Option Value} (I:ObjM h x dx C mA):∃od,W.InstAt h x (W.instObj C dx) C (some od)/\∀name,W.lookIn name od=some (mA name) :=
 let ⟨od,ho,hl⟩:=RC I.ns
 ⟨od,⟨I.obj,rfl,rfl,ho⟩,hl⟩
section
variable {prog:Program}{w:World}{A:Around}{E:Value->Shared->Prop}{s:Shared}{K:W.Frag}{x dx C f:Addr}{mA:Str->Option Value}{name:Str}{v:Value}
theorem ZB {expr:Bool}{Q:Value->Shared->Prop} (X:K.In s.heap) (I:ObjM s.heap x dx C mA) (hg:W.plainGet K C name=true) (hh:W.hasDictIn K C=true)
  (ha:W.findIn K (.ref C) name=some none)(hv:mA name=some v)(hv':W.handedIn v=true)(h:Q v { s with toks:=s.toks+1 }) :
  wpAny (model prog w) A (getAttr (.ref x) name expr) Q E s:=by
 obtain⟨od,J,hl⟩:=I.look;exact W.get_value X J (W.plainGet_of hg).1 (W.findObj_own hh ha rfl (by rw[hl,hv])) hv' h
theorem VV {pl:Sem Bool}{Q:Value×List Value->Shared->Prop} (X:K.In s.heap) (I:ObjM s.heap x dx C mA) (hg:W.plainGet K C name=true)
  (hf:W.findIn K (.ref C) name=some (some (.ref f)))(ht:W.isFn K (.ref f)=true)(hv:mA name=none)(h:Q (.ref f,[.ref x]) s) :
  wpAny (model prog w) A (getMethod (.ref x) name pl) Q E s:=by
 obtain⟨od,J,hl⟩:=I.look;exact W.method_fn X J (W.plainGet_of hg).1 (W.plainGet_of hg).2 hf (beq_iff_eq.mp ht) (by show (W.lookIn name od).map (·.isSome)=some false;rw[hl,hv];rfl) h
theorem aAF {ns:List Str}{Q:Unit->Shared->Prop} (X:K.In s.heap) (I:ObjM s.heap x dx C mA)
  (hs:W.findIn K (.ref C) "__setattr__" =some (some (.builtin "object.__setattr__")))(hp:W.plainOver K C=true)(ht:W.takerIn K C name=some none)(hh:W.hasDictIn K C=true)
  (hw:PySem.Within mA ns)(hsz:ns.length<=sizeLine)
  (h:∀h',ObjM h' x dx C (fun y=>if y=name then some v else mA y)->Heap.SameBut dx s.heap h'->Q () { s with heap:=h',toks:=s.toks+2 }) :
  wpAny (model prog w) A (setAttr (.ref x) name v) Q E s:=by
 obtain⟨od,J,hl⟩:=I.look;refine W.set_plain X J hs (W.osa_open (s:={ s with toks:=s.toks+1 }) (r:=none) X J hp ht fun b=> ?_);obtain⟨cd,hc,hd'⟩:=W.any_some hh;have hx:s.heap.get? x=some ⟨.ref C,some dx,.plain,#[]⟩:=I.obj;refine wpAny_bind (wpAny_pure (wpAny_bind (wpAny_bind (wpAny_loadPart hx (wpAny_bind (W.Looks.here (s:={ s with toks:=s.toks+1 }) (W.looks_clsIn X hc) ?_))))));rw[hd'];refine wpAny_pure (a:=some dx) (wpAny_bind (wpAny_pure (wpAny_bind ?_)));refine wpAny_nsSet1 (s:={ s with toks:=s.toks+1 }) I.ns fun h' hn2 hs2=> ?_;obtain⟨oD,esD,epD,hoD,hdD,hcD⟩:=hn2.count (PySem.Within.cons name v hw);refine wpAny_bind (wpAny_lookBehind hoD (by rw[hdD];exact pastItsLine_dict (Nat.le_trans hcD (by rw[List.length_cons];lia))) ?_);exact wpAny_pure (h _ ⟨(hs2.2 _ (Ne.symm I.ne)).trans I.obj,hn2,I.ne⟩ hs2)
theorem WE {R:Result->Shared->Prop}{vs:List Value}{kw:List (Str×Value)} (X:K.In s.heap) (hm:W.makesIn K C=true)
  (hi:W.findIn K (.ref C) "__init__" =some (some (.ref f)))(hf:W.typeIn K (.ref f)=some (.type "function"))
  (h:codeAny (model prog w) (A.under (.builtin "type.__call__" ⟨.ref C::vs,kw⟩)) (.call (.ref f) ⟨.ref (s.heap.objs.size+1)::vs,kw⟩) (W.InitBack (s.heap.objs.size+1) R)
   { s with heap:=(s.heap.push W.emptyDict).push (W.instObj C s.heap.objs.size) }) :
  codeAny (model prog w) A (.call (.ref C) ⟨vs,kw⟩) R s:=by
 obtain⟨hh,g,d,t,os⟩:=s;exact W.make_core (W.makes_of X hm) (W.looks_findIn X hi) (fun self=>W.bind_fn X self hf) (.inl rfl) h
end
def bQ (f:Str)(v:V):List (Str×V)->List (Str×V)
 | []=>[(f,v)]
 | (g,x)::r=>if g=f then (g,v)::r else (g,x)::bQ f v r
theorem nH (f g:Str)(v:V):∀fs:List (Str×V),(bQ f v fs).lookup g=if g=f then some v else fs.lookup g
 | []=>by
  show List.lookup g [(f,v)]=_
  by_cases h:g=f
  ·have hb:(g==f)=true:=beq_iff_eq.mpr h;simp only[List.lookup,hb,if_pos h]
  ·have hb:(g==f)=false:=beq_eq_false_iff_ne.mpr h;simp only[List.lookup,hb,if_neg h]
 | (k,x)::r=>by
  have ih:=nH f g v r;rw[show bQ f v ((k,x)::r)=(if k=f then (k,v)::r else (k,x)::bQ f v r) from rfl]
  by_cases hk:k=f
  ·rw[if_pos hk]
   by_cases h:g=k
   ·have hb:(g==k)=true:=beq_iff_eq.mpr h;simp only[List.lookup,hb,if_pos (h.trans hk)]
   ·have hb:(g==k)=false:=beq_eq_false_iff_ne.mpr h;simp only[List.lookup,hb,if_neg (fun e:g=f=>h (e.trans hk.symm))]
  ·rw[if_neg hk]
   by_cases h:g=k
   ·have hb:(g==k)=true:=beq_iff_eq.mpr h;simp only[List.lookup,hb,if_neg (fun e:g=f=>hk (h.symm.trans e))]
   ·have hb:(g==k)=false:=beq_eq_false_iff_ne.mpr h;simp only[List.lookup,hb];exact ih
theorem yB (f:Str)(v:V):∀fs:List (Str×V),f∈(bQ f v fs).map (·.1)/\∀g,g∈fs.map (·.1)->g∈(bQ f v fs).map (·.1)
 | []=>⟨by simp[bQ],fun g h=>by simp at h⟩
 | (k,x)::r=>by
  obtain⟨i1,i2⟩:=yB f v r;rw[show bQ f v ((k,x)::r)=(if k=f then (k,v)::r else (k,x)::bQ f v r) from rfl]
  by_cases hk:k=f
  ·rw[if_pos hk];subst hk;exact⟨by simp,fun g h=>by simpa using h⟩
  ·rw[if_neg hk];refine⟨?_,fun g h=> ?_⟩
   ·rw[List.map_cons];exact List.mem_cons_of_mem _ i1
   ·rw[List.map_cons]at h ⊢;rcases List.mem_cons.mp h with e|e
    ·exact List.mem_cons.mpr (.inl e)
    ·exact List.mem_cons_of_mem _ (i2 g e)
theorem AU (f:Str)(v:V):∀fs:List (Str×V),(bQ f v fs).length<=fs.length+1
 | []=>by simp[bQ]
 | (k,x)::r=>by
  have ih:=AU f v r;rw[show bQ f v ((k,x)::r)=(if k=f then (k,v)::r else (k,x)::bQ f v r) from rfl]
  by_cases hk:k=f
  ·rw[if_pos hk,List.length_cons,List.length_cons];lia
  ·rw[if_neg hk,List.length_cons,List.length_cons];lia
theorem RelO.some_of {v:V}{o:Option Value} (r:RelO (some v) o):∃u,o=some u/\RelV v u:=by
 cases o with
 | none=>exact(show False from r).elim
 | some u=>exact⟨u,rfl,r⟩
theorem RelO.none_of {o:Option Value}(r:RelO none o):o=none:=by
 cases o with
 | none=>rfl
 | some u=>exact(show False from r).elim
theorem xF {v:V}{u:Value} (r:RelV v u):W.handedIn u=true:=by
 cases v with
 | non=>cases (show u=Value.none from r);rfl
 | bl b=>cases (show u=Value.bool b from r);rfl
 | int i=>obtain⟨t,e⟩:=(show ∃t,u=Value.int i t from r);cases e;rfl
 | str x=>obtain⟨t,e⟩:=(show ∃t,u=Value.str x t from r);cases e;rfl
 | byt b=>obtain⟨t,e⟩:=(show ∃t,u=Value.bytes b t from r);cases e;rfl
 | flt b=>obtain⟨t,e⟩:=(show ∃t,u=Value.float b t from r);cases e;rfl
 | ref a=>cases (show u=Value.ref a from r);rfl
 | ty n=>cases (show u=Value.type n from r);rfl
section
variable {P:Program}{w:World}{H H':Hp}{h h':Heap}{a C dx:Addr}{fs fs':List (Str×V)}
theorem zK (hok:HOk P w H h)(e:H a=some (.ins C dx fs)):∃mA,ObjM h a dx C mA/\(∀f,RelO (fs.lookup f) (mA f))/\PySem.Within mA (fs.map (·.1))/\fs.length<=1000/\H dx=some (.own a):=by
 obtain⟨d,z,ne,ob,mA,n,r,q⟩:=(show ObjOk P w H h a (.ins C dx fs) from hok a _ e)
 exact⟨mA,⟨ob,n,ne⟩,r,q,z,d⟩
end
structure Cls (K:W.Frag)(C:Addr):Prop where
 pg:W.plainGet K C Str.empty=true
 hd:W.hasDictIn K C=true
 po:W.plainOver K C=true
 sa:W.findIn K (.ref C) "__setattr__" =some (some (.builtin "object.__setattr__"))
theorem Cls.get {K:W.Frag}{C:Addr} (c:Cls K C) (f:Str):W.plainGet K C f=true:=c.pg
def NoAttr (K:W.Frag)(C:Addr)(f:Str):Prop:=W.findIn K (.ref C) f=some none
theorem NoAttr.taker {K:W.Frag}{C:Addr}{f:Str} (n:NoAttr K C f):W.takerIn K C f=some none:=by
 unfold W.takerIn;rw[show W.findIn K (.ref C) f=some none from n];rfl
structure Meth (K:W.Frag)(C:Addr)(m:Str)(f:Addr):Prop where
 at_:W.findIn K (.ref C) m=some (some (.ref f))
 fn:W.isFn K (.ref f)=true
 kp:W.keepIn K (.ref f)=true
section
variable {X:Cx}{pins:List (Addr×Obj)}{σ:St}{H:Hp}{s:Shared}{a C dx:Addr}{fs:List (Str×V)}{f:Str}{v:V}{A:Around}{E:Value->Shared->Prop}
theorem CT {b:Bool}{Q:Value->Shared->Prop} (I:Inv X pins σ H s) (e:H a=some (.ins C dx fs)) (c:Cls X.K C) (n:NoAttr X.K C f) (l:fs.lookup f=some v)
  (h:∀u s',Inv X pins σ H s'->RelV v u->Q u s'):wpAny (model X.prog X.w) A (getAttr (.ref a) f b) Q E s:=by
 obtain⟨mA,O,r,_,_,_⟩:=zK I.hok e;obtain⟨u,hu,ru⟩:=RelO.some_of (v:=v) (o:=mA f) (by rw[←l];exact r f);exact ZB I.kIn O (c.get f) c.hd n hu (xF ru) (h u _ (I.tok _) ru)
theorem DM {m:Str}{g:Addr}{pl:Sem Bool}{Q:Value×List Value->Shared->Prop} (I:Inv X pins σ H s) (e:H a=some (.ins C dx fs)) (c:Cls X.K C) (k:Meth X.K C m g) (l:fs.lookup m=none)
  (h:Q (.ref g,[.ref a]) s):wpAny (model X.prog X.w) A (getMethod (.ref a) m pl) Q E s:=by
 obtain⟨mA,O,r,_,_,_⟩:=zK I.hok e;have hn:mA m=none:=RelO.none_of (by rw[←l];exact r m);exact VV I.kIn O (c.get m) k.at_ k.fn hn h
theorem CU {y:V}{u:Value}{Q:Unit->Shared->Prop} (I:Inv X pins σ H s) (e:H a=some (.ins C dx fs)) (c:Cls X.K C) (n:NoAttr X.K C f) (hl:fs.length<1000) (ry:RelV y u)
  (h:∀s',Inv X pins σ (upd H a (.ins C dx (bQ f y fs))) s'->Q () s'):wpAny (model X.prog X.w) A (setAttr (.ref a) f u) Q E s:=by
 obtain⟨mA,O,r,wi,_,ho⟩:=zK I.hok e;have hz:(fs.map (·.1)).length<=sizeLine:=by rw[List.length_map,sizeLine_eq];lia
 refine aAF I.kIn O c.sa c.po n.taker c.hd wi hz fun h' O' sb=>h _ ?_;have hd:∃o,h'.get? dx=some o:=let ⟨o,_,_,e',_⟩:=O'.ns;⟨o,e'⟩;refine I.write (x:=a) (e:=dx) (by rw[e];exact True.intro) (.inr ho) (fun b q hb z=>(sb.2 b hb).trans z) hd ?_;refine⟨by rw[aH O.ne];exact ho,?_,O.ne,O'.obj,_,O'.ns,fun g=> ?_,fun g hg=> ?_⟩
 ·have:=AU f y fs;lia
 ·show RelO ((bQ f y fs).lookup g) (if g=f then some u else mA g);rw[nH]
  by_cases q:g=f
  ·rw[if_pos q,if_pos q];exact ry
  ·rw[if_neg q,if_neg q];exact r g
 ·by_cases q:g=f
  ·rw[q];exact(yB f y fs).1
  ·refine(yB f y fs).2 g (wi g fun z=>hg ?_);show (if g=f then some u else mA g)=none;rw[if_neg q];exact z
theorem Inv.made (I:Inv X pins σ H s):Inv X pins σ (upd (upd H s.heap.objs.size (.own (s.heap.objs.size+1))) (s.heap.objs.size+1) (.ins C s.heap.objs.size []))
  { s with heap:=(s.heap.push W.emptyDict).push (W.instObj C s.heap.objs.size) }:=by
 have e1:(s.heap.push W.emptyDict).get? s.heap.objs.size=some W.emptyDict:=Heap.get?_push_size s.heap rfl;have e2:((s.heap.push W.emptyDict).push (W.instObj C s.heap.objs.size)).get? (s.heap.objs.size+1)=some (W.instObj C s.heap.objs.size):=by
  have:=Heap.get?_push_size (s.heap.push W.emptyDict) (o:=W.instObj C s.heap.objs.size) rfl
  rwa [Heap.size_push]at this
 have e3:(s.heap.push W.emptyDict).Ns s.heap.objs.size (fun _=>none):=⟨W.emptyDict,#[],_,e1,rfl,(fun e he=>absurd he (by simp)),fun _=>rfl⟩
 have I1:=I.laid (a:=s.heap.objs.size) (o:= .own (s.heap.objs.size+1)) (h':=s.heap.push W.emptyDict) (t':=s.toks) (fun b u q=>Heap.get?_push_of_some _ q) (Nat.le_refl _) ⟨_,e1⟩;refine I1.laid (a:=s.heap.objs.size+1) (o:= .ins C s.heap.objs.size []) (t':=s.toks) (fun b u q=>Heap.get?_push_of_some _ q) (Nat.le_of_eq (Heap.size_push _ _)) ?_;have ne:s.heap.objs.size≠s.heap.objs.size+1:=Nat.ne_of_lt (Nat.lt_succ_self _);refine⟨by rw[aH ne,aQ],Nat.zero_le _,ne,e2,fun _=>none,(Heap.Ns1.of_empty e3).at fun o q=>Heap.get?_push_of_some _ q,fun _=>True.intro,fun y hy=>absurd rfl hy⟩
theorem aA2 {prog:Program}{w:World}{env:Env}{e:Expr}{f:Str}{pos:Pos}{s:Shared}{Q:Value->Shared->Prop} (hb:attributeBase e f env (eval e env)=eval e env)
  (h:wpAny (model prog w) A (eval e env) (fun o s₁=>wpAny (model prog w) A (getAttr o f true) Q E s₁) E s):wpAny (model prog w) A (eval (.Attribute e f pos) env) Q E s :=
 Attribute_any_ h (by rw[arm_eval_Attribute,hb])
end
def WG (K:W.Frag)(ta:TE)(f:Str):TE:=fun σ H Q=>ta σ H fun x H1=>∃a C dx fs v,x= .ref a/\H1 a=some (.ins C dx fs)/\Cls K C/\NoAttr K C f/\fs.lookup f=some v/\Q v H1
def aBV (K:W.Frag)(ta tv:TE)(f:Str):TS:=fun D σ H=>tv σ H fun y H1=>ta σ H1 fun x H2=>∃a C dx fs,x= .ref a/\H2 a=some (.ins C dx fs)/\Cls K C/\NoAttr K C f/\fs.length<1000 ∧
 D.nx σ (upd H2 a (.ins C dx (bQ f y fs)))
def UN (X:Cx)(op:Operator)(rd:V->V->Hp->VK->Prop):Prop :=
 ∀(pins:List (Addr×Obj)) (s:Shared) (σ:St) (H:Hp) (x y:V) (u v:Value) (Q:VK),Inv X pins σ H s->RelV x u->RelV y v->rd x y H Q->wpAny (model X.prog X.w) X.A (inplaceOp op u v) (EP X pins σ Q) X.xe s
def NZ (K:W.Frag)(ta tv:TE)(rd:V->V->Hp->VK->Prop)(f:Str):TS:=fun D σ H=>ta σ H fun x H1=>∃a C dx fs v,x= .ref a/\H1 a=some (.ins C dx fs)/\Cls K C/\NoAttr K C f/\fs.lookup f=some v ∧
 tv σ H1 fun y H2=>rd v y H2 fun z H3=>∃dx' fs',H3 a=some (.ins C dx' fs')/\fs'.length<1000/\D.nx σ (upd H3 a (.ins C dx' (bQ f z fs')))
section
variable {X:Cx}{o e value:Expr}{f:Str}{pos pos' tpos:Pos}{ta tv:TE}
theorem aI (he:PE X e ta)(hb:attributeBase e f X.env (eval e X.env)=eval e X.env):PE X (.Attribute e f pos) (WG X.K ta f):=by
 intro pins s σ H Q I h;refine aA2 hb (thn (he pins s σ H _ I h) fun u s1 ⟨x,H1,I1,rx,a,C,dx,fs,v,ex,ea,c,n,l,q⟩=> ?_);subst ex;obtain rfl:u=Value.ref a:=rx;exact CT I1 ea c n l fun u' s2 I2 ru=>⟨v,H1,I2,ru,q⟩
theorem b8 (ha:PE X o ta)(hv:PE X value tv)(hs:swapsWith value (some (.Attribute o f pos')) pos.line X.env=pure false):PS X (.Assign [.Attribute o f pos'] value pos) (aBV X.K ta tv f):=by
 intro pins s σ H D I h;refine plainObj_wpAny_Assign_Attribute (thn (hv pins s σ H _ I h) fun u s1 ⟨y,H1,I1,ry,q⟩=>thn (ha pins s1 σ H1 _ I1 q) fun ov s2 ⟨x,H2,I2,rx,a,C,dx,fs,ex,ea,c,n,l,q2⟩=> ?_) hs;subst ex;obtain rfl:ov=Value.ref a:=rx;exact CU I2 ea c n l ry fun s3 I3=>⟨σ,_,I3,q2⟩
theorem QQ {op:Operator}{rd:V->V->Hp->VK->Prop} (ha:PE X o ta) (hv:PE X value tv) (hop:UN X op rd):PS X (.AugAssign (.Attribute o f tpos) op value pos) (NZ X.K ta tv rd f):=by
 intro pins s σ H D I h;refine wpAny_AugAssign_AttributeAny (thn (ha pins s σ H _ I h) fun ov s1 ⟨x,H1,I1,rx,a,C,dx,fs,v,ex,ea,c,n,l,q⟩=> ?_);subst ex;obtain rfl:ov=Value.ref a:=rx;refine CT I1 ea c n l fun u s2 I2 ru=>thn (hv pins s2 σ H1 _ I2 q) fun w3 s3 ⟨y,H2,I3,ry,q3⟩=>thn (hop pins s3 σ H2 v y u w3 _ I3 ru ry q3) fun w4 s4 ⟨z,H3,I4,rz,dx',fs',ea',l',q4⟩=> ?_;exact CU I4 ea' c n l' rz fun s5 I5=>⟨σ,_,I5,q4⟩
def aCt:V->V->Hp->VK->Prop:=fun x y H Q=>∃i j,x= .int i/\y= .int j/\Q (.int (i+j)) H
theorem SZ:UN X .Add aCt:=by
 rintro pins s σ H x y u v Q I rx ry ⟨i,j,rfl,rfl,q⟩;obtain⟨t,rfl⟩:=(show ∃t,u=Value.int i t from rx)
 obtain⟨t',rfl⟩:=(show ∃t',v=Value.int j t' from ry)
 exact PyProof.Rows.iadd_int ⟨.int (i+j),H,I.tok _,⟨_,rfl⟩,q⟩
end
section
variable {X:Cx}{pins:List (Addr×Obj)}{σ:St}{H:Hp}{s:Shared}{A:Around}{E:Value->Shared->Prop}{Q:Value->Shared->Prop}{c:Value}{b:Bool}
inductive jU (K:W.Frag)(H:Hp):V->Value->Prop where
 | non:jU K H .non (.type "NoneType")
 | bl (x:Bool):jU K H (.bl x) (.type "bool")
 | int (i:Int):jU K H (.int i) (.type "int")
 | str (x:Str):jU K H (.str x) (.type "str")
 | flt (x:UInt64):jU K H (.flt x) (.type "float")
 | lst {a:Addr}{xs:List V} (e:H a=some (.lst xs)):jU K H (.ref a) (.type "list")
 | frz {a:Addr}{o:Obj}{xs:List V} (e:H a=some (.frz o (.lst xs))):jU K H (.ref a) (.type "list")
 | tup {a:Addr}{xs:List V} (e:H a=some (.tup xs)):jU K H (.ref a) (.type "tuple")
 | dK {a:Addr}{kvs:List (Key×V)} (e:H a=some (.dK kvs)):jU K H (.ref a) (.type "dict")
 | dT {a:Addr}{kvs:List (List Key×V)} (e:H a=some (.dT kvs)):jU K H (.ref a) (.type "dict")
 | ins {a C dx:Addr}{fs:List (Str×V)} (e:H a=some (.ins C dx fs)) (cl:Cls K C) (ha:W.findIn K (.ref C) "__class__" =some (some (.builtin "object.__class__")))
   (hn:W.specialIn K (.builtin "object.__class__") "__get__" =some (some (.builtin "getset_descriptor.__get__")))(htk:W.takesIn K (.builtin "object.__class__")=some true)
   (hm:W.mroIn K C (.type "object")=some true):jU K H (.ref a) (.ref C)
theorem T9 {x:V}{u t:Value} (I:Inv X pins σ H s) (rx:RelV x u) (ty:jU X.K H x t) (e:W.kitOne X.K t c=some b) (h:∀tk,Q (.bool b) { s with toks:=tk }) :
  wpAny (model X.prog X.w) A (call (.builtin "isinstance") [u,c]) Q E s:=by
 cases ty with
 | non=>cases (show u=Value.none from rx);exact W.kia_one W.kitx_none I.kIn True.intro e (fun z=>nomatch z) h
 | bl y=>cases (show u=Value.bool y from rx);exact W.kia_one W.kitx_bool I.kIn True.intro e (fun z=>nomatch z) h
 | int i=>obtain⟨t,q⟩:=(show ∃t,u=Value.int i t from rx);cases q;exact W.kia_one W.kitx_int I.kIn True.intro e (fun z=>nomatch z) h
 | str y=>obtain⟨t,q⟩:=(show ∃t,u=Value.str y t from rx);cases q;exact W.kia_one W.kitx_str I.kIn True.intro e (fun z=>nomatch z) h
 | flt y=>obtain⟨t,q⟩:=(show ∃t,u=Value.float y t from rx);cases q;exact W.kia_one W.kitx_float I.kIn True.intro e (fun z=>nomatch z) h
 | @lst a xs ea =>
  cases (show u=Value.ref a from rx);obtain⟨_,_,n,_,h1⟩:=(show ObjOk X.prog X.w H s.heap a (.lst xs) from I.hok a _ ea)
  exact W.kia_one W.kitx_list I.kIn ⟨_,h1,rfl⟩ e (fun z=>nomatch z) h
 | @frz a ob xs ea =>
  cases (show u=Value.ref a from rx);obtain⟨_,_,_,n,_,h1⟩:=(show ObjOk X.prog X.w H s.heap a (.frz ob (.lst xs)) from I.hok a _ ea)
  exact W.kia_one W.kitx_list I.kIn ⟨_,h1,rfl⟩ e (fun z=>nomatch z) h
 | @tup a xs ea =>
  cases (show u=Value.ref a from rx);obtain⟨_,_,_,p⟩:=(show ObjOk X.prog X.w H s.heap a (.tup xs) from I.hok a _ ea)
  obtain⟨o,h1,h2,_⟩:=p;exact W.kia_one W.kitx_tuple I.kIn ⟨o,h1,h2⟩ e (fun z=>nomatch z) h
 | @dK a kvs ea =>
  cases (show u=Value.ref a from rx);obtain⟨_,_,vs,_,p⟩:=(show ObjOk X.prog X.w H s.heap a (.dK kvs) from I.hok a _ ea)
  obtain⟨o,es,ep,h1,h2,_⟩:=p;exact W.kia_one W.kitx_dict I.kIn ⟨o,h1,h2.1⟩ e (fun z=>nomatch z) h
 | @dT a kvs ea =>
  cases (show u=Value.ref a from rx);obtain⟨_,_,xs,_,o,es,ep,h1,h2,_⟩:=(show ObjOk X.prog X.w H s.heap a (.dT kvs) from I.hok a _ ea)
  exact W.kia_one W.kitx_dict I.kIn ⟨o,h1,h2.1⟩ e (fun z=>nomatch z) h
 | @ins a C dx fs ea cl ha hn htk hm =>
  cases (show u=Value.ref a from rx);obtain⟨mA,O,_⟩:=zK I.hok ea;obtain⟨od,J,_⟩:=O.look;exact W.kia_one (W.kitx_own (cl.get _) cl.hd ha hn htk hm) I.kIn J e (fun z=>nomatch z) h
end
structure Room (k:Nat)(A:Around):Prop where
 hd:A.handled=none
 dp:A.depth+3 * k+5<recursionLimit
 un:A.units+16 * k+200<cLine
theorem Room.mono {j k:Nat}{A:Around} (r:Room k A) (h:j<=k):Room j A:=⟨r.hd,by have:=r.dp;lia,by have:=r.un;lia⟩
theorem Room.deeper {k:Nat}{A:Around} (r:Room (k+1) A) (env:Env):Room k (A.deeper env) :=
 ⟨r.hd,by have:=r.dp;show A.depth+1+3 * k+5<_;lia,by have:=r.un;show A.units+3+16 * k+200<_;lia⟩
theorem PP {A:Around}{C:Addr}{us:List Value}{kw:List (Str×Value)}:(A.under (.builtin "type.__call__" ⟨.ref C::us,kw⟩)).depth=A.depth+1:=by
 first|rfl|simp[Around.under,Code.weight,Code.isCreation,Code.isGuard,Code.isCaller,Code.frames,Code.isFrame,guardIds]
theorem OL {A:Around}{C:Addr}{us:List Value}{kw:List (Str×Value)}:(A.under (.builtin "type.__call__" ⟨.ref C::us,kw⟩)).units=A.units+1:=by
 first|rfl|simp[Around.under,Code.cUnits,Code.frames,Code.isFrame]
theorem Room.make {k:Nat}{A:Around} (r:Room (k+1) A) (C:Addr) (us:List Value) (kw:List (Str×Value)):Room k (A.under (.builtin "type.__call__" ⟨.ref C::us,kw⟩)) :=
 ⟨r.hd,by have:=r.dp;rw[PP];lia,by have:=r.un;rw[OL];lia⟩
theorem Room.depth {k:Nat}{A:Around} (r:Room k A):A.depth<recursionLimit:=by have:=r.dp;lia
theorem Room.units0 {k:Nat}{A:Around} (r:Room k A):A.units<cLine:=by have:=r.un;lia
def EU:TA:=fun _ H Q=>Q [] H
def YC (ta:TE)(tr:TA):TA:=fun σ H Q=>ta σ H fun x H1=>tr σ H1 fun xs H2=>Q (x::xs) H2
section
variable {X:Cx}{e:Expr}{es:List Expr}{te:TE}{t:TA}{pos:Pos}
theorem aC:PA X [] EU:=fun _ _ _ _ H Q I h=>Calls.spliced_nil ⟨[],H,I,.nil,h⟩
theorem aA (ha:PE X e te)(hr:PA X es t)(hs:starEach (e::es) X.env=(false,eval e X.env)::starEach es X.env:=by rfl):PA X (e::es) (YC te t):=by
 intro pos pins s σ H Q I h;rw[hs];show wpAny _ _ (spliced ((false,eval e X.env)::backTo pos (starEach es X.env))) _ _ s;refine Calls.spliced_cons (thn (ha pins s σ H _ I h) fun u s1 ⟨x,H1,I1,r1,q1⟩=> ?_);exact thn (hr pos pins s1 σ H1 _ I1 q1) fun us s2 ⟨xs,H2,I2,r2,q2⟩=>⟨x::xs,H2,I2,.cons r1 r2,q2⟩
def aBH (t:TA):TE:=fun σ H Q=>t σ H fun xs H1=>xs.length<=sizeLine/\∀p,H1 p=none->Q (.ref p) (upd H1 p (.tup xs))
def aCJ (t:TA):TE:=fun σ H Q=>t σ H fun xs H1=>xs.length<=sizeLine/\∀p,H1 p=none->Q (.ref p) (upd H1 p (.lst xs))
theorem c9 {x1}(h:PA X es t):PE X (.Tuple es x1 pos) (aBH t):=by
 intro pins s σ H Q I hq;refine wpAny_Tuple_spliced (thn (h pos pins s σ H _ I hq) fun us s1 ⟨xs,H1,I1,r,z,q⟩=>⟨by rw[←r.length];exact z,?_⟩);have hf:H1 s1.heap.objs.size=none:=I1.hok.fresh (Nat.le_refl _);refine⟨.ref s1.heap.objs.size,upd H1 s1.heap.objs.size (.tup xs),I1.laid (t':=s1.toks) (fun b u e=>Heap.get?_push_of_some _ e) (Nat.le_refl _) ?_,rfl,q _ hf⟩;exact⟨z,us,r,⟨_,Heap.get?_push_size _ rfl,rfl,_,rfl⟩⟩
theorem b7 (h:PA X es t):PE X (.List es pos) (aCJ t):=by
 intro pins s σ H Q I hq;refine wpAny_List_spliced (thn (h pos pins s σ H _ I hq) fun us s1 ⟨xs,H1,I1,r,z,q⟩=>⟨by rw[←r.length];exact z,?_⟩);have hf:H1 s1.heap.objs.size=none:=I1.hok.fresh (Nat.le_refl _);refine⟨.ref s1.heap.objs.size,upd H1 s1.heap.objs.size (.lst xs),I1.laid (t':=s1.toks) (fun b u e=>Heap.get?_push_of_some _ e) (Nat.le_refl _) ?_,rfl,q _ hf⟩;exact⟨z,us,0,r,Heap.get?_push_size _ rfl⟩
end
abbrev Sp:=List V->Hp->VK->XK->Prop
abbrev CXT:=List Env->Hp->Shared->XK->Value->Shared->Prop
structure Env0 (P:Program)(w:World)(K:W.Frag)(mg:Str->Option Value)(base:Heap)(A:Around)(outer:List Env)(s:Shared)(H:Hp):Prop where
 frames:A.frames=some outer
 mod:Mod K mg base
 bs:∀b o,base.get? b=some o->s.heap.get? b=some o/\H b=none
 bsz:base.objs.size<=s.heap.objs.size
 funs:s.heap.FunFrames base outer
 frf:∀b∈frs outer,H b=none
 hok:HOk P w H s.heap
 bare:AllBare s.gens
def CE (outer:List Env)(P:Program)(w:World)(H:Hp)(s:Shared)(Q:VK)(u:Value)(s':Shared):Prop :=
 ∃v H',s'.os=s.os/\AllBare s'.gens/\Un (frs outer) [] H H' s.heap s'.heap/\HOk P w H' s'.heap/\RelV v u/\Q v H'
def CR (CX:CXT)(outer:List Env)(P:Program)(w:World)(H:Hp)(s:Shared)(Q:VK)(E:XK)(r:Result)(s':Shared):Prop :=
 match r with
 | .ok (.ret u)=>CE outer P w H s Q u s'
 | .ok _=>False
 | .error e=>CX outer H s E e s'
structure FnOk (P:Program)(w:World)(K:W.Frag)(mg:Str->Option Value)(base:Heap)(CX:CXT)(k:Nat)(f:Addr)(fd:FuncData)(ps:List Str)(sp:Sp):Prop where
 len:∀vs H Q E,sp vs H Q E->vs.length=ps.length
 run:∀(A:Around) (outer:List Env) (s:Shared) (H:Hp) (args:Args) (us:List Value) (vs:List V) (Q:VK) (E:XK),Room k A->Env0 P w K mg base A outer s H->BindsTo s fd args (ps.zip us)->Vals vs us->sp vs H Q E →
  codeAny (model P w) A (.call (.ref f) args) (CR CX outer P w H s Q E) s
theorem FnOk.mono {P:Program}{w:World}{K:W.Frag}{mg:Str->Option Value}{base:Heap}{CX:CXT}{j k:Nat}{f:Addr}{fd:FuncData}{ps:List Str}{sp:Sp} (F:FnOk P w K mg base CX j f fd ps sp) (h:j<=k) :
  FnOk P w K mg base CX k f fd ps sp:=⟨F.len,fun A outer s H args us vs Q E hr=>F.run A outer s H args us vs Q E (hr.mono h)⟩
theorem Env0.make {P:Program}{w:World}{K:W.Frag}{mg:Str->Option Value}{base:Heap}{A:Around}{outer:List Env}{s:Shared}{H:Hp} (e:Env0 P w K mg base A outer s H) (C:Addr) (us:List Value) (kw:List (Str×Value)) :
  Env0 P w K mg base (A.under (.builtin "type.__call__" ⟨.ref C::us,kw⟩)) outer s H:=⟨by first|exact e.frames|(simpa [Around.under,Code.envs,Code.isFrame,pushEnvs] using e.frames),e.mod,e.bs,e.bsz,e.funs,e.frf,e.hok,e.bare⟩
section
variable {X:Cx}{pins:List (Addr×Obj)}{σ:St}{H:Hp}{s s':Shared}
theorem Inv.env0 (I:Inv X pins σ H s):Env0 X.prog X.w X.K X.mg X.base X.A X.stack s H :=
 ⟨I.ok.frames,I.ok.mod,I.bs,Nat.le_trans I.ok.bsz I.sz,I.stack,I.stkFree,I.hok,I.bare⟩
theorem Inv.after {Q:VK}{u:Value} (I:Inv X pins σ H s) (h:CE X.stack X.prog X.w H s Q u s'):EP X pins σ Q u s':=by
 obtain⟨v,H',os,bare,un,hok,r,q⟩:=h;obtain⟨hh,g,d,t,os'⟩:=s';obtain rfl:os'=s.os:=os;exact⟨v,H',I.call (h':=hh) (g':=g) (d':=d) (t':=t) (ch:=[]) un hok bare (fun b z=>absurd z (by simp)),r,q⟩
end
def v7 (sp:Sp)(dvs:List V)(E:XK)(t:TA):TE:=fun σ H Q=>t σ H fun vs H1=>sp (vs++dvs) H1 Q E
def CO (C:Addr)(sp:Sp)(dvs:List V)(E:XK)(t:TA):TE:=fun σ H Q=>t σ H fun vs H1=>∀x dx,H1 x=none->H1 dx=none->dx≠x →
 sp (.ref x::(vs++dvs)) (upd (upd H1 dx (.own x)) x (.ins C dx [])) (fun v H2=>v= .non/\Q (.ref x) H2) E
def Binds (K:W.Frag)(fd:FuncData)(ps:List Str)(ds:List Value):Prop :=
 ∀(s:Shared) (us:List Value),K.In s.heap->(us++ds).length=ps.length->BindsTo s fd ⟨us,[]⟩ (ps.zip (us++ds))
theorem Binds.all {K:W.Frag}{fd:FuncData}{ps:List Str} (h:∀us:List Value,us.length=ps.length->bindArgs fd ⟨us,[]⟩=pure (ps.zip us)):Binds K fd ps []:=fun s us _ hl=>by
 rw[List.append_nil]at hl ⊢;exact .of_eq (h us hl)
def t9 (CX:CXT)(X:Cx)(E:XK):Prop:=∀(pins:List (Addr×Obj)) (σ:St) (H:Hp) (s:Shared) (e:Value) (s':Shared),Inv X pins σ H s->CX X.stack H s E e s'->X.xe e s'
section
variable {X:Cx}{CX:CXT}{k:Nat}{f C:Addr}{fd:FuncData}{ps:List Str}{sp:Sp}{dvs:List V}{ds:List Value}{E:XK}{x m:Str}{p pos apos:Pos}{e o:Expr}{es:List Expr}{ta:TE}{t:TA}
theorem uP {pins:List (Addr×Obj)}{σ:St}{H:Hp}{s:Shared}{Q:VK}{us:List Value}{vs:List V} (F:FnOk X.prog X.w X.K X.mg X.base CX k f fd ps sp) (hr:Room k X.A) (hb:Binds X.K fd ps ds) (hd:Vals dvs ds) (hx:t9 CX X E)
  (I:Inv X pins σ H s)(r:Vals vs us)(h:sp (vs++dvs) H Q E):wpAny (model X.prog X.w) X.A (call (.ref f) us) (EP X pins σ Q) X.xe s:=by
 have r2:Vals (vs++dvs) (us++ds):=r.append hd;have hl:(us++ds).length=ps.length:=by rw[←r2.length];exact F.len _ _ _ _ h
 refine wpAny_call (codeAny_mono (F.run X.A X.stack s H ⟨us,[]⟩ (us++ds) (vs++dvs) Q E hr I.env0 (hb s us I.kIn hl) r2 h) fun r s' hq=> ?_);cases r with
 | error e=>exact hx pins σ H s e s' I hq
 | ok fl =>
  cases fl with
  | ret u=>exact I.after hq
  | next=>exact False.elim hq
  | brk=>exact False.elim hq
  | cont=>exact False.elim hq
theorem Z5 (F:FnOk X.prog X.w X.K X.mg X.base CX k f fd ps sp)(hr:Room k X.A)(hg:Gl X x)(hm:X.mg x=some (.ref f))(hk:W.keepIn X.K (.ref f)=true)(hb:Binds X.K fd ps ds)(hd:Vals dvs ds)(hx:t9 CX X E)
  (ha:PA X (e::es) t)(hdb:(x==("__debug__" :Str))=false:=by decide)(he:starEach (e::es) X.env=(false,eval e X.env)::starEach es X.env:=by rfl)(hpl:(backTo pos (starEach es X.env)).any (·.1)=false:=by rfl) :
  PE X (.Call (.Name x p) (e::es) [] pos) (v7 sp dvs E t):=by
 intro pins s σ H Q I h;refine wpAny_Call_Name_kw (pW I hg hm ?_ hdb);refine W.callWith_K (h₀:=X.base) I.ok.mod.kin hk (thn (ha pos pins s σ H _ I h) fun us s1 ⟨vs,H1,I1,r,q⟩=>⟨I1.kIn,?_⟩) he hpl;exact uP F hr hb hd hx I1 r q
structure Mk (K:W.Frag)(C f:Addr):Prop where
 makes:W.makesIn K C=true
 init:W.findIn K (.ref C) "__init__" =some (some (.ref f))
 fn:W.isFn K (.ref f)=true
 kp:W.keepIn K (.ref C)=true
theorem JF {pins:List (Addr×Obj)}{σ:St}{H:Hp}{s:Shared}{Q:VK}{us:List Value}{vs:List V} (M:Mk X.K C f) (F:FnOk X.prog X.w X.K X.mg X.base CX k f fd ps sp) (hr:Room (k+1) X.A) (hb:Binds X.K fd ps ds) (hd:Vals dvs ds)
  (hx:t9 CX X E)(I:Inv X pins σ H s)(r:Vals vs us)
  (h:∀x dx,H x=none->H dx=none->dx≠x->sp (.ref x::(vs++dvs)) (upd (upd H dx (.own x)) x (.ins C dx [])) (fun v H2=>v= .non/\Q (.ref x) H2) E) :
  wpAny (model X.prog X.w) X.A (call (.ref C) us) (EP X pins σ Q) X.xe s:=by
 have hq:=h (s.heap.objs.size+1) s.heap.objs.size (I.hok.fresh (Nat.le_succ _)) (I.hok.fresh (Nat.le_refl _)) (Nat.ne_of_lt (Nat.lt_succ_self _));have I2:=Inv.made (C:=C) I;have r2:Vals (V.ref (s.heap.objs.size+1)::(vs++dvs)) (Value.ref (s.heap.objs.size+1)::(us++ds)):= .cons rfl (r.append hd);have hl:(Value.ref (s.heap.objs.size+1)::us++ds).length=ps.length:=by
  have e:=r2.length;rw[F.len _ _ _ _ hq]at e;exact e.symm
 refine wpAny_call (WE (f:=f) I.kIn M.makes M.init (beq_iff_eq.mp M.fn) (codeAny_mono (F.run _ X.stack _ _ ⟨Value.ref (s.heap.objs.size+1)::us,[]⟩ (Value.ref (s.heap.objs.size+1)::(us++ds)) _ _ E (hr.make C us [])
  (I2.env0.make C us []) (hb _ (Value.ref (s.heap.objs.size+1)::us) I2.kIn hl) r2 hq) fun r s' hq'=> ?_))
 cases r with
 | error e=>exact hx pins σ _ _ e s' I2 hq'
 | ok fl =>
  cases fl with
  | ret u =>
   obtain⟨v,H',I3,rv,ev,q3⟩:=I2.after hq';subst ev;exact⟨rv,⟨V.ref (s.heap.objs.size+1),H',I3,rfl,q3⟩⟩
  | next=>exact False.elim hq'
  | brk=>exact False.elim hq'
  | cont=>exact False.elim hq'
theorem aAr (M:Mk X.K C f)(F:FnOk X.prog X.w X.K X.mg X.base CX k f fd ps sp)(hr:Room (k+1) X.A)(hg:Gl X x)(hm:X.mg x=some (.ref C))(hb:Binds X.K fd ps ds)(hd:Vals dvs ds)(hx:t9 CX X E)
  (ha:PA X (e::es) t)(hdb:(x==("__debug__" :Str))=false:=by decide)(he:starEach (e::es) X.env=(false,eval e X.env)::starEach es X.env:=by rfl)(hpl:(backTo pos (starEach es X.env)).any (·.1)=false:=by rfl) :
  PE X (.Call (.Name x p) (e::es) [] pos) (CO C sp dvs E t):=by
 intro pins s σ H Q I h;refine wpAny_Call_Name_kw (pW I hg hm ?_ hdb);refine W.callWith_K (h₀:=X.base) I.ok.mod.kin M.kp (thn (ha pos pins s σ H _ I h) fun us s1 ⟨vs,H1,I1,r,q⟩=>⟨I1.kIn,?_⟩) he hpl;exact JF M F hr hb hd hx I1 r q
theorem WS (M:Mk X.K C f)(F:FnOk X.prog X.w X.K X.mg X.base CX k f fd ps sp)(hr:Room (k+1) X.A)(hg:Gl X x)(hm:X.mg x=some (.ref C))(hb:Binds X.K fd ps ds)(hd:Vals dvs ds)(hx:t9 CX X E)
  (hdb:(x==("__debug__" :Str))=false:=by decide):PE X (.Call (.Name x p) [] [] pos) (CO C sp dvs E EU):=by
 intro pins s σ H Q I h;refine wpAny_Call_Name_kw (pW I hg hm ?_ hdb);exact W.callWith_K0 I.kIn M.kp (JF (us:=[]) M F hr hb hd hx I .nil h)
end
section
variable {X:Cx}{CX:CXT}{k:Nat}{f C:Addr}{fd:FuncData}{ps ks:List Str}{sp:Sp}{E:XK}{x m:Str}{p pos apos kpos:Pos}{e o:Expr}{es:List Expr}{kws:List Keyword}{te ta:TE}{t tk:TA}{nm:Option Str}
variable {g:List Value->List Value->List Value}{gV:List V->List V->List V}
end
structure aL (N P:List Str)(sc:Scope):Prop where
 kind:sc.kind= .function
 co:sc.isCoroutine=false
 gen:sc.isGenerator=false
 nd:N.Nodup
 pre:N.take P.length=P
 par:∀x∈P,sc.names.lookup x=some .local∨sc.names.lookup x=some .cell
 nofree:∀y∈sc.names,y.2≠ .free
theorem GF {kindOf:Str->Option NameKind}{x:Str}:∀{binds:List (Str×Value)}{m:Str->Option Value},(∀v,(x,v)∉binds)->bindL kindOf binds m x=m x
 | [],_,_=>rfl
 | (n,v)::r,m,h=>by
  unfold bindL;rw[GF fun w hw=>h w (List.mem_cons_of_mem _ hw)]
  split
  ·have:x≠n:=by rintro rfl;exact h v List.mem_cons_self
   simp[this]
  ·rfl
theorem F4 {kindOf:Str->Option NameKind}{x:Str}:∀{binds:List (Str×Value)}{m:Str->Option Value},(∀v,(x,v)∉binds)->bindC kindOf binds m x=m x
 | [],_,_=>rfl
 | (n,v)::r,m,h=>by
  unfold bindC;rw[F4 fun w hw=>h w (List.mem_cons_of_mem _ hw)]
  split
  ·rfl
  ·have:x≠n:=by rintro rfl;exact h v List.mem_cons_self
   simp[this]
theorem FR {kindOf:Str->Option NameKind}{x:Str}{v:Value}:∀{P:List Str}{vs:List Value}{i:Nat}{m:Str->Option Value},P.Nodup->P[i]? =some x->vs[i]? =some v->kindOf x=some .local →
  bindL kindOf (P.zip vs) m x=some v
 | [],_,_,_,_,h,_,_=>by simp at h
 | _::_,[],_,_,_,_,h,_=>by simp at h
 | p::P,w::vs,0,m,nd,h1,h2,hk=>by
  simp at h1 h2;subst h1;subst h2;show bindL kindOf ((p,w)::P.zip vs) m p=_;unfold bindL;rw[GF fun v hv=>(List.nodup_cons.mp nd).1 (List.of_mem_zip hv).1,if_pos hk];simp
 | p::P,w::vs,i+1,m,nd,h1,h2,hk=>by
  show bindL kindOf ((p,w)::P.zip vs) m x=_;unfold bindL;exact FR (i:=i) (List.nodup_cons.mp nd).2 (by simpa using h1) (by simpa using h2) hk
theorem F0 {kindOf:Str->Option NameKind}{x:Str}{v:Value}:∀{P:List Str}{vs:List Value}{i:Nat}{m:Str->Option Value},P.Nodup->P[i]? =some x->vs[i]? =some v->kindOf x≠some .local →
  bindC kindOf (P.zip vs) m x=some v
 | [],_,_,_,_,h,_,_=>by simp at h
 | _::_,[],_,_,_,_,h,_=>by simp at h
 | p::P,w::vs,0,m,nd,h1,h2,hk=>by
  simp at h1 h2;subst h1;subst h2;show bindC kindOf ((p,w)::P.zip vs) m p=_;unfold bindC;rw[F4 fun v hv=>(List.nodup_cons.mp nd).1 (List.of_mem_zip hv).1,if_neg hk];simp
 | p::P,w::vs,i+1,m,nd,h1,h2,hk=>by
  show bindC kindOf ((p,w)::P.zip vs) m x=_;unfold bindC;exact F0 (i:=i) (List.nodup_cons.mp nd).2 (by simpa using h1) (by simpa using h2) hk
def fR (N:List Str)(vs:List V):St:=vs.map some++List.replicate (N.length - vs.length) none
def vW (CX:CXT)(P:Program)(w:World)(K:W.Frag)(mg:Str->Option Value)(base:Heap)(N:List Str)(qual:Str)(scope:Scope)(f:Addr)(cd:Value)(A:Around)(outer:List Env)(s:Shared)(H:Hp)(E:XK):Cx where
 prog:=P
 w:=w
 K:=K
 mg:=mg
 base:=base
 A:=A.deeper (envOfC qual scope s.heap.objs.size f cd)
 N:=N
 s₀:=s
 H₀:=H
 env:=envOfC qual scope s.heap.objs.size f cd
 outer:=outer
 stack:=envOfC qual scope s.heap.objs.size f cd::outer
 ex:=[]
 calm:=true
 fn:=fun _=>true
 pn:=[]
 xe:=fun e s'=>wpAny (model P w) (A.deeper (envOfC qual scope s.heap.objs.size f cd)) (leaving (envOfC qual scope s.heap.objs.size f cd) e) (fun _ s''=>CX outer H s E e s'') (fun e' s''=>CX outer H s E e' s'') s'
theorem u0 {sc:Scope}{n:Nat}{x:Str} (h:sc.names.lookup x=some .cell):∃c,(cellsFrom n sc.names []).lookup x=some c:=by
 have q:=W.cellsFrom_some sc.names n [] (.inl h);exact Option.isSome_iff_exists.mp q
theorem GC {CX:CXT}{P:Program}{w:World}{K:W.Frag}{mg:Str->Option Value}{base:Heap}{N ps:List Str}{qual:Str}{scope:Scope}{f:Addr}{cd:Value}{A:Around}{outer:List Env}{s s1:Shared}{H:Hp}{E:XK}{us:List Value}{vs:List V}
  (S:aL N ps scope)(hd:A.handled=none)(e0:Env0 P w K mg base A outer s H)(hl:vs.length=ps.length)(r:Vals vs us)
  (x:InCallC s s.heap.objs.size (bindL (envOfC qual scope s.heap.objs.size f cd).kindOf (ps.zip us) fun _=>none) (cellsFrom (s.heap.objs.size+1) scope.names []) (bindC (envOfC qual scope s.heap.objs.size f cd).kindOf (ps.zip us) fun _=>none) s1) :
  Inv (vW CX P w K mg base N qual scope f cd A outer s H E) [] (fR N vs) H s1:=by
 have hpl:ps.length<=N.length:=by have:=congrArg List.length S.pre;rw[List.length_take]at this;lia
 obtain⟨h1,tk,rfl,hk⟩:=x.done;have noA:∀b:Addr,b∉(vW CX P w K mg base N qual scope f cd A outer s H E).ex:=fun b z=>absurd (show b∈([]:List Addr) from z) (by simp);refine⟨⟨e0.mod,S.kind,rfl,rfl,Nat.le_refl _,fun y z c h1 h2=> ?_,fun y hy=> ?_,fun y c _ h=> ?_,fun _=>hd,Around.frames_deeper e0.frames,.inr ⟨rfl,rfl⟩,fun b z=>absurd z (noA b),e0.bs,e0.bsz,fun b _ _=>noA b,fun b z=>absurd z (noA b),e0.funs,e0.frf⟩,
  rfl,e0.bare,Un.kept hk,⟨_,x.toInCall.ns,fun i y v h1 h2 h3=> ?_⟩,fun y c h=>⟨_,x.cell y c h⟩,e0.hok.fresh (Nat.le_refl _),fun y c h=> ?_,fun p hp=>absurd (show p∈([]:List (Addr×Obj)) from hp) (by simp),e0.hok.kept hk,?_⟩
 ·exact name_of_addr x.apart (PySem.mem_of_lookup h1) (PySem.mem_of_lookup h2)
 ·have hy:scope.names.lookup y=some .cell∨scope.names.lookup y=some .free:=hy;rcases hy with hy|hy
  ·exact u0 hy
  ·exact absurd rfl (S.nofree _ (PySem.mem_of_lookup hy))
 ·exact Nat.le_of_lt (x.above y c (PySem.mem_of_lookup h))
 ·have hi:i<vs.length:=by
   unfold fR at h2
   by_cases hi:i<vs.length
   ·exact hi
   ·rw[List.getElem?_append_right (by simpa using hi)]at h2;rw[List.getElem?_replicate]at h2
    split at h2<;>cases h2
  have ha:vs[i]? =some v:=by
   unfold fR at h2;rw[List.getElem?_append_left (by simpa using hi),List.getElem?_map]at h2;cases e:vs[i]? with
   | none=>rw[e]at h2;cases h2
   | some a=>rw[e]at h2;cases h2;rfl
  obtain⟨u,hu,rv⟩:=r.get ha;have hp:ps[i]? =some y:=by
   rw[←S.pre,List.getElem?_take_of_lt (by lia)];exact h1
  have ndP:ps.Nodup:=by rw[←S.pre];exact S.nd.sublist (List.take_sublist _ _)
  refine⟨u,rv,?_⟩;rcases S.par y (List.mem_of_getElem? hp) with k|k
  ·exact .inl ⟨k,FR ndP hp hu k⟩
  ·obtain⟨c,e⟩:=u0 (n:=s.heap.objs.size+1) k;refine .inr ⟨.inl k,c,e,?_⟩;have q:=x.cell y c e;rw[F0 ndP hp hu (by show scope.names.lookup y≠_;rw[k];decide)]at q;exact q
 ·exact e0.hok.fresh (Nat.le_of_lt (x.above y c (PySem.mem_of_lookup h)))
 ·unfold fR;show _=N.length;rw[List.length_append,List.length_map,List.length_replicate]
  lia
theorem aDv {CX:CXT}{P:Program}{w:World}{K:W.Frag}{mg:Str->Option Value}{base:Heap}{k:Nat}{f:Addr}{name qual:Str}{params:Arguments}{body:List Stmt}{scope:Scope}{dV kV doc pm cdv ct oc:Value}{an od:Option Addr}
  {osl:Array (Option Value)}{N ps:List Str}{sp:Sp} (lk:K.lookup f=some ⟨oc,od,.func (W.fnOf name qual params body scope dV kV doc pm an cdv ct),osl⟩) (hcd:W.codeIn K cdv qual=true) (S:aL N ps scope)
  (len:∀vs H Q E,sp vs H Q E->vs.length=ps.length)
  (hbody:∀(A:Around) (outer:List Env) (s:Shared) (H:Hp) (vs:List V) (Q:VK) (E:XK),Room k (A.deeper (envOfC qual scope s.heap.objs.size f cdv))->sp vs H Q E →
   ∃t,PSs (vW CX P w K mg base N qual scope f cdv A outer s H E) body t/\t { nx:=fun _ H'=>Q .non H',rt:=Q } (fR N vs) H) :
  FnOk P w K mg base CX (k+1) f (W.fnOf name qual params body scope dV kV doc pm an cdv ct) ps sp:=by
 refine⟨len,fun A outer s H args us vs Q E hr e0 hb r hsp=> ?_⟩;have hl:=len _ _ _ _ hsp;have KX:K.In s.heap:=e0.mod.kin.keeps fun b o e=>(e0.bs b o e).1;have lim:s.heap.NoLimit:=e0.mod.nolimit.keeps fun b o e=>(e0.bs b o e).1;have hkind:∀y∈ps.zip us,scope.names.lookup y.1=some .local∨(scope.names.lookup y.1=some .cell/\((cellsFrom (s.heap.objs.size+1) scope.names []).lookup y.1).isSome=true):=fun⟨n,v⟩ hy=>by
  rcases S.par n (List.of_mem_zip hy).1 with q|q
  ·exact .inl q
  ·exact .inr ⟨q,W.cellsFrom_some _ _ _ (.inl q)⟩
 refine codeAny_call_function hr.depth (KX _ _ lk) rfl S.co S.gen rfl (W.codeRec_of KX hcd) (hb _ _ _ _ ?_);refine wpAny_newFunctionEnv_cells S.kind hkind fun env he s1 x=> ?_;subst he;refine⟨lim.keeps x.toInCall.keep,codeAny_func ?_⟩;obtain⟨t,ht,hq⟩:=hbody A outer s H vs Q E (hr.deeper _) hsp;have I:Inv (vW CX P w K mg base N qual scope f cdv A outer s H E) [] (fR N vs) H s1:=GC S hr.hd e0 hl r x;refine wpAny_mono (ht [] s1 (fR N vs) H _ I hq) (fun fl s' hs=> ?_) fun e s' hs=>hs;have fin:∀{σ':St}{H':Hp}{v:V}{u:Value},Inv (vW CX P w K mg base N qual scope f cdv A outer s H E) [] σ' H' s'->RelV v u->Q v H'->CE outer P w H s Q u s' :=
  fun {σ' H' v u} J rv q=>⟨v,H',J.os,J.bare,J.base,J.hok,rv,q⟩
 cases fl with
 | ret u =>
  obtain⟨v,σ',H',J,rv,q⟩:=hs;exact fin J rv q
 | next =>
  obtain⟨σ',H',J,q⟩:=hs;exact fin (v:=V.non) (u:=Value.none) J rfl q
 | brk =>
  obtain⟨_,_,_,q⟩:=hs;exact False.elim q
 | cont =>
  obtain⟨_,_,_,q⟩:=hs;exact False.elim q
section
variable {X:Cx}{x:Str}{p pos:Pos}{e:Expr}{es:List Expr}{t:TA}{id T:String}{r:List V->Hp->VK->Prop}
def tCB (r:List V->Hp->VK->Prop)(t:TA):TE:=fun σ H Q=>t σ H fun vs H1=>r vs H1 Q
theorem bH (hc:dS X (.builtin id) r)(hg:Gl X x)(hm:X.mg x=none)(hv:bootBuiltins x=some (.builtin id))(ha:PA X (e::es) t)(hn:x≠ "__name__" :=by decide)(hdb:(x==("__debug__" :Str))=false:=by decide)
  (he:starEach (e::es) X.env=(false,eval e X.env)::starEach es X.env:=by rfl)(hpl:(backTo pos (starEach es X.env)).any (·.1)=false:=by rfl):PE X (.Call (.Name x p) (e::es) [] pos) (tCB r t):=by
 intro pins s σ H Q I h;refine wpAny_Call_Name_kw (yF I hg hm hv ?_ hn hdb);exact PyProof.Rows.callWith_builtin1 (thn (ha pos pins s σ H _ I h) fun us s1 ⟨vs,H1,I1,r1,q1⟩=>hc pins s1 σ H1 vs us Q I1 r1 q1) he hpl
theorem xE (hc:dS X (.type T) r)(hg:Gl X x)(hm:X.mg x=none)(hv:bootBuiltins x=some (.type T))(ha:PA X (e::es) t)(hn:x≠ "__name__" :=by decide)(hdb:(x==("__debug__" :Str))=false:=by decide)
  (he:starEach (e::es) X.env=(false,eval e X.env)::starEach es X.env:=by rfl)(hpl:(backTo pos (starEach es X.env)).any (·.1)=false:=by rfl):PE X (.Call (.Name x p) (e::es) [] pos) (tCB r t):=by
 intro pins s σ H Q I h;refine wpAny_Call_Name_kw (yF I hg hm hv ?_ hn hdb);exact PyProof.Rows.callWith_type1 (thn (ha pos pins s σ H _ I h) fun us s1 ⟨vs,H1,I1,r1,q1⟩=>hc pins s1 σ H1 vs us Q I1 r1 q1) he hpl
end
end L2
namespace HT
open PySem PyProof.Rows
section
open PySem.SeqAt
open PySem.AutoSeq1 (wpAny_loadPart')
open PySem.MeetsSeq PySem.MeetsSeq2 PySem.MeetsSeq3
end
section
variable {prog:Program}{w:World}{A:Around}{E:Value->Shared->Prop}{s:Shared}
def sIx (n d:Nat):Option Int->Nat
 | none=>d
 | some v=>if v<0 then (v+(n:Int)).toNat else min v.toNat n
theorem sIx_none (n d:Nat):sIx n d none=d:=rfl
theorem sIx_nat (n d k:Nat):sIx n d (some (k:Int))=min k n:=by
 show (if (k:Int)<0 then ((k:Int)+(n:Int)).toNat else min (k:Int).toNat n)=min k n;rw[if_neg (by lia),Int.toNat_natCast]
end
end HT
namespace L2
open PySem PySem.Spec PyProof.Rows
abbrev TO:=St->Hp->(Option Int->Hp->Prop)->Prop
def PO (X:Cx)(e:Option Expr)(t:TO):Prop :=
 ∀(pins:List (Addr×Obj)) (s:Shared) (σ:St) (H:Hp) (Q:Option Int->Hp->Prop),Inv X pins σ H s->t σ H Q →
  wpAny (model X.prog X.w) X.A (evalPart e X.env) (fun u s'=>∃o H',Inv X pins σ H' s'/\IsPart u o/\Q o H') X.xe s
def OD:TO:=fun _ H Q=>Q none H
def XQ (t:TE):TO:=fun σ H Q=>t σ H fun x H1=>∃i,x= .int i/\Q (some i) H1
section
variable {X:Cx}{e:Expr}{te:TE}{lo hi:Option Expr}{tl th:TO}{pos p2:Pos}
theorem M0:PO X none OD:=by
 intro pins s σ H Q I h;rw[evalPart_none];exact wpAny_pure ⟨none,H,I,.none,h⟩
theorem OH (h:PE X e te):PO X (some e) (XQ te):=by
 intro pins s σ H Q I hw;rw[evalPart_some];refine thn (h pins s σ H _ I hw) fun u s1 ⟨x,H1,I1,r1,q1⟩=> ?_;obtain⟨i,rfl,q⟩:=q1;obtain⟨t,rfl⟩:=r1;exact⟨some i,H1,I1,.int i t,q⟩
def SlR (X:Cx)(r:V->Option Int->Option Int->Hp->VK->Prop):Prop :=
 ∀(pins:List (Addr×Obj)) (s:Shared) (σ:St) (H:Hp) (x:V) (v vl vu:Value) (lo hi:Option Int) (sl:Addr) (Q:VK),Inv X pins σ H s->RelV x v->s.heap.IsSliceOf sl vl vu .none->IsPart vl lo->IsPart vu hi->r x lo hi H Q →
  ∃T id,typeLookup (.type T) "__getitem__" =pure (some (.builtin id))/\s.TypeIs v T/\wpAny (model X.prog X.w) X.A (getItem v (.ref sl)) (EP X pins σ Q) X.xe s
def tSl (r:V->Option Int->Option Int->Hp->VK->Prop)(te:TE)(tl th:TO):TE:=fun σ H Q=>te σ H fun x H1=>tl σ H1 fun l H2=>th σ H2 fun u H3=>r x l u H3 Q
theorem HX {r:V->Option Int->Option Int->Hp->VK->Prop}(hr:SlR X r)(he:PE X e te)(hl:PO X lo tl)(hu:PO X hi th):PE X (.Subscript e (.Slice lo hi none p2) pos) (tSl r te tl th):=by
 intro pins s σ H Q I h;refine Subscript_ (thn (he pins s σ H _ I h) fun v s1 ⟨x,H1,I1,r1,q1⟩=> ?_);refine wpAny_Slice (thn (hl pins s1 σ H1 _ I1 q1) fun vl s2 ⟨l,H2,I2,pl,q2⟩=>thn (hu pins s2 σ H2 _ I2 q2) fun vu s3 ⟨u,H3,I3,pu,q3⟩=> ?_);rw[evalPart_none];refine wpAny_pure ?_;have I4:Inv X pins σ H3 { s3 with heap:=s3.heap.push { cls:= .type "slice",data:= .fields #[vl,vu,.none] } }:=I3.kept (t':=s3.toks) fun b ob q=>Heap.get?_push_of_some _ q;obtain⟨T,id,hT,ht,hg⟩:=hr pins { s3 with heap:=s3.heap.push { cls:= .type "slice",data:= .fields #[vl,vu,.none] } } σ H3 x v vl vu l u s3.heap.objs.size Q I4 r1 (Heap.IsSliceOf.new ..) pl pu q3;show wpAny (model X.prog X.w) X.A (subscriptTail e (.Slice lo hi none p2) v (.ref s3.heap.objs.size)) (EP X pins σ Q) X.xe { s3 with heap:=s3.heap.push { cls:= .type "slice",data:= .fields #[vl,vu,.none] } };exact tail_any (ops:=[.ref s3.heap.objs.size,v]) ht hT hg (by with_unfolding_all rfl)
def BT (xs:List V)(lo hi:Option Int):List V:=(xs.drop (HT.sIx xs.length 0 lo)).take (HT.sIx xs.length xs.length hi - HT.sIx xs.length 0 lo)
theorem L5 (xs:List V)(lo hi:Option Int):(BT xs lo hi).length<=xs.length:=by
 unfold BT;rw[List.length_take,List.length_drop]
 lia
end
def ixN (n:Nat)(i:Int):Option Nat:=if 0<=i then (if i<n then some i.toNat else none) else if -(n:Int)<=i then some (i+n).toNat else none
def atI {α:Type}(xs:List α)(i:Int):Option α:=(ixN xs.length i).bind fun j=>xs[j]?
theorem NW {n:Nat}{i:Int}{j:Nat} (h:ixN n i=some j):seqIndex? i n=some j/\j<n/\ -(n:Int)<=i/\i<n:=by
 unfold ixN at h
 by_cases h0:0<=i
 ·rw[if_pos h0]at h
  by_cases h1:i<n
  ·rw[if_pos h1]at h;have e:i.toNat=j:=Option.some.inj h;exact⟨by rw[seqIndex_of h0 h1,e],by lia,by lia,h1⟩
  ·rw[if_neg h1]at h;cases h
 ·rw[if_neg h0]at h
  by_cases h1: -(n:Int)<=i
  ·rw[if_pos h1]at h;have e:(i+n).toNat=j:=Option.some.inj h;exact⟨by rw[seqIndex_neg (by lia) h1,e],by lia,h1,by lia⟩
  ·rw[if_neg h1]at h;cases h
theorem FC {α:Type}{xs:List α}{i:Int}{v:α} (h:atI xs i=some v):∃j,seqIndex? i xs.length=some j/\xs[j]? =some v/\j<xs.length/\ -(xs.length:Int)<=i/\i<xs.length:=by
 unfold atI at h;cases e:ixN xs.length i with
 | none=>rw[e]at h;cases h
 | some j =>
  rw[e]at h;obtain⟨h1,h2,h3,h4⟩:=NW e;exact⟨j,h1,h,h2,h3,h4⟩
theorem pU {α:Type}{xs:List α}{j:Nat}{v:α} (h:xs[j]? =some v):atI xs (j:Int)=some v:=by
 have hj:j<xs.length:=(List.getElem?_eq_some_iff.mp h).1;have e:ixN xs.length (j:Int)=some j:=by
  unfold ixN;rw[if_pos (by lia),if_pos (by lia)];simp
 unfold atI;rw[e];exact h
def ZC (b:Expr):Prop:=∀o i,subscripted b false o i=operate [o,i] (getItem o i)
def IxR (X:Cx)(r:R2):Prop :=
 ∀(value slice:Expr) (pins:List (Addr×Obj)) (s:Shared) (σ:St) (H:Hp) (x y:V) (v u:Value) (Q:VK),Inv X pins σ H s->RelV x v->RelV y u->r x y H Q →
  subscripted slice false v u=operate [v,u] (getItem v u)->wpAny (model X.prog X.w) X.A (subscriptTail value slice v u) (EP X pins σ Q) X.xe s
def MtR (X:Cx)(id:String)(r:V->List V->Hp->VK->Prop):Prop :=
 ∀(pins:List (Addr×Obj)) (s:Shared) (σ:St) (H:Hp) (x:V) (xs:List V) (v:Value) (us:List Value) (Q:VK),Inv X pins σ H s->RelV x v->Vals xs us->r x xs H Q →
  wpAny (model X.prog X.w) X.A (call (.builtin id) (v::us)) (EP X pins σ Q) X.xe s
section
variable {X:Cx}{a b:Expr}{ta tb:TE}{pos:Pos}
theorem aW {r:R2}(hr:IxR X r)(ha:PE X a ta)(hb:PE X b tb)(hs:ZC b):PE X (.Subscript a b pos) (tOp r ta tb):=by
 intro pins s σ H Q I h;exact Subscript_ (VL ha hb I h fun v u s2 x y H2 I2 rx ry q=>hr a b pins s2 σ H2 x y v u Q I2 rx ry q (hs _ _))
def xQ (K:W.Frag):R2:=fun x y H Q=>∃p xs i v,x= .ref p/\y= .int i/\SqL K H p xs/\atI xs i=some v/\Q v H
def aCT (K:W.Frag):R2:=fun x y H Q=>∃p xs i v,x= .ref p/\y= .int i/\SqT K H p xs/\atI xs i=some v/\Q v H
def aD6:R2:=fun x y H Q=>∃z i c,x= .str z/\y= .int i/\z.length<=sizeLine/\atI z.cps.toList i=some c/\Q (.str ⟨#[c]⟩) H
theorem bL:IxR X (xQ X.K):=by
 intro value slice pins s σ H x y v u Q I rx ry h hs;obtain⟨p,xs,i,z,rfl,rfl,hq,he,q⟩:=h;cases rx;obtain⟨t,rfl⟩:=ry;obtain⟨its,r,pl,hz⟩:=I.list hq;obtain⟨j,h1,h2,h3,h4,h5⟩:=FC he;obtain⟨w,ew,rw'⟩:=r.get h2;have hl:=r.length;have hn:=qD;have fin:EP X pins σ Q w s:=⟨z,H,I,rw',q⟩
 by_cases h0:0<=i
 ·have hj:i.toNat=j:=by
   rw[seqIndex_of h0 h5]at h1;exact Option.some.inj h1
  exact item_listR pl.isList h0 (by lia) (by rw[hj];simpa using ew) fin hs
 ·have hj:(i+(its.toArray.size:Int)).toNat=j:=by
   rw[seqIndex_neg (by lia) h4]at h1;rw[List.size_toArray,←hl];exact Option.some.inj h1
  exact subscriptTail_builtinR (x:=w) pl.isList.typeIs slot_list_getitem.lookup
   (wpAny_getItem_list_neg (Q:=fun r s'=>r=w/\EP X pins σ Q r s') pl.isList (by lia) (by rw[List.size_toArray]<;>lia) (by lia) (by rw[hj];simpa using ew) ⟨rfl,fin⟩) hs
theorem cZ:IxR X (aCT X.K):=by
 intro value slice pins s σ H x y v u Q I rx ry h hs;obtain⟨p,xs,i,z,rfl,rfl,hq,he,q⟩:=h;cases rx;obtain⟨t,rfl⟩:=ry;obtain⟨its,r,pl,hz⟩:=I.tuple hq;obtain⟨j,h1,h2,h3,h4,h5⟩:=FC he;obtain⟨w,ew,rw'⟩:=r.get h2;have hl:=r.length;have hn:=qD;have fin:EP X pins σ Q w s:=⟨z,H,I,rw',q⟩
 exact subscriptTail_builtinR (x:=w) pl.typeIs slot_tuple_getitem.lookup
  (getItem_tuple (j:=j) (Q:=fun r s'=>r=w/\EP X pins σ Q r s') pl (by lia) (by lia) (by rw[List.size_toArray,←hl];exact h1) (by simpa using ew) ⟨rfl,fin⟩) hs
theorem aBF:IxR X aD6:=by
 intro value slice pins s σ H x y v u Q I rx ry h hs;obtain⟨z,i,c,rfl,rfl,hz,he,q⟩:=h;obtain⟨t,rfl⟩:=rx;obtain⟨t',rfl⟩:=ry;obtain⟨j,h1,h2,h3,h4,h5⟩:=FC he;have hl:z.cps.toList.length=z.length:=by simp[Str.length]
 rw[hl]at h1 h4 h5;have hn:=qD;exact tail_any (typeIs_str s z t) slot_str_getitem.lookup (getItem_str (c:=c) (by
  have e1:decide (i< -(2^63:Int))=false:=decide_eq_false (by lia);have e2:decide (i≥2^63)=false:=decide_eq_false (by lia);rw[e1,e2,Bool.or_false]) (by rw[h1];simpa using h2) ⟨.str ⟨#[c]⟩,H,I.tok _,⟨_,rfl⟩,q⟩) hs
theorem P1 (its:List Value)(n j:Nat)(u:Value):Obj.mapSeq (·.setIfInBounds j u) { cls:= .type "list",data:= .seq its.toArray n }={ cls:= .type "list",data:= .seq (its.set j u).toArray n }:=by
 simp[Obj.mapSeq]
theorem Inv.lst {pins:List (Addr×Obj)}{σ:St}{H:Hp}{s:Shared}{p:Addr}{xs:List V} (I:Inv X pins σ H s) (h:H p=some (.lst xs)) :
  ∃(its:List Value) (n:Nat),Vals xs its/\s.heap.get? p=some { cls:= .type "list",data:= .seq its.toArray n }/\xs.length<=sizeLine:=by
 obtain⟨z,its,n,r,e⟩:=I.hok p _ h;exact⟨its,n,r,e,z⟩
theorem Inv.lstUpd {pins:List (Addr×Obj)}{σ:St}{H:Hp}{s:Shared}{p:Addr}{xs ys:List V}{its its':List Value}{n n':Nat}{f:Obj->Obj} (I:Inv X pins σ H s) (h:H p=some (.lst xs))
  (ho:s.heap.get? p=some { cls:= .type "list",data:= .seq its.toArray n })(hf:f { cls:= .type "list",data:= .seq its.toArray n }={ cls:= .type "list",data:= .seq its'.toArray n' })(r:Vals ys its')(hz:ys.length<=sizeLine)(t:Nat) :
  Inv X pins σ (upd H p (.lst ys)) { s with heap:=s.heap.update p f,toks:=t }:=by
 have e:(s.heap.update p f).get? p=some { cls:= .type "list",data:= .seq its'.toArray n' }:=by
  rw[Heap.get?_update_self f ho (by rw[hf]<;>rfl),hf]
 refine I.write (x:=p) (e:=p) (by rw[h];trivial) (.inl rfl) (fun b u hb q=>(Heap.get?_update_other _ _ (Ne.symm hb)).trans q) ⟨_,e⟩ ?_;exact⟨hz,its',n',r,e⟩
def XW:V->V->V->Hp->(Hp->Prop)->Prop:=fun o i v H Q=>∃p xs k j,o= .ref p/\i= .int k/\H p=some (.lst xs)/\ixN xs.length k=some j/\Q (upd H p (.lst (xs.set j v)))
theorem J4:aBM X XW:=by
 intro pins s σ H o i v ov iv u Q I ro ri rv h;obtain⟨p,xs,k,j,rfl,rfl,hp,hj,q⟩:=h;cases ro;obtain⟨t,rfl⟩:=ri;obtain⟨its,n,r,ho,hz⟩:=I.lst hp;obtain⟨h1,h2,h3,h4⟩:=NW hj;have hl:=r.length;have hn:=qD;have I':Inv X pins σ (upd H p (.lst (xs.set j v))) { s with heap:=s.heap.update p (Obj.mapSeq (·.setIfInBounds j u)) } :=
  I.lstUpd hp ho (P1 its n j u) (r.set rv j) (by rw[List.length_set];exact hz) s.toks
 by_cases h0:0<=k
 ·have hk:k.toNat=j:=by
   rw[seqIndex_of h0 h4]at h1;exact Option.some.inj h1
  exact W.ki_setAt ho h0 (by lia) (by rw[List.size_toArray,←hl];exact h4) (by rw[hk];exact⟨_,I',q⟩)
 ·have hk:(k+(its.toArray.size:Int)).toNat=j:=by
   rw[seqIndex_neg (by lia) h3]at h1;rw[List.size_toArray,←hl];exact Option.some.inj h1
  exact W.ki_setBack ho (by lia) (by rw[List.size_toArray,←hl];exact h3) (by lia) (by rw[hk];exact⟨_,I',q⟩)
theorem KR (lo hi:Option Int)(n:Nat):(sliceBounds lo hi none n).1=((HT.sIx n 0 lo:Nat):Int)/\(sliceBounds lo hi none n).2.1=((HT.sIx n n hi:Nat):Int)/\(sliceBounds lo hi none n).2.2=1:=by
 refine⟨?_,?_,rfl⟩
 ·cases lo with
  | none=>simp[sliceBounds,HT.sIx]
  | some i =>
   simp only[sliceBounds,HT.sIx,Option.getD_none,show (1:Int)>0 by decide,if_true]
   by_cases h:i<0
   ·simp only[h,if_true]<;>lia
   ·simp only[h,if_false]<;>lia
 ·cases hi with
  | none=>simp[sliceBounds,HT.sIx]
  | some i =>
   simp only[sliceBounds,HT.sIx,Option.getD_none,show (1:Int)>0 by decide,if_true]
   by_cases h:i<0
   ·simp only[h,if_true]<;>lia
   ·simp only[h,if_false]<;>lia
theorem GN (its:List Value)(lo hi:Option Int):slicePick its.toArray lo hi none=((its.drop (HT.sIx its.length 0 lo)).take (HT.sIx its.length its.length hi - HT.sIx its.length 0 lo)).toArray:=by
 obtain⟨h1,h2,h3⟩:=KR lo hi its.toArray.size;unfold slicePick;rw[h1,h2,h3];simp only[sliceRange_one,pick_run,List.size_toArray]<;>rfl
def U8 (K:W.Frag):V->Option Int->Option Int->Hp->VK->Prop:=fun x lo hi H Q=>∃a xs,x= .ref a/\SqL K H a xs/\∀p,H p=none->Q (.ref p) (upd H p (.lst (BT xs lo hi)))
theorem N7:SlR X (U8 X.K):=by
 intro pins s σ H x v vl vu lo hi sl Q I rx hs pl pu h;obtain⟨a,xs,rfl,hx,q⟩:=h;cases rx;obtain⟨its,r,ht,hz⟩:=I.list hx;have hlen:=r.length;refine⟨"list",_,slot_list_getitem.lookup,ht.isList.typeIs,?_⟩;refine wpAny_getItem_list_slice ht.isList hs pl pu .none (by simp) ?_ (by rw[List.size_toArray]<;>lia);rw[GN,←hlen];refine⟨.ref s.heap.objs.size,_,I.laid (t':=s.toks) (o:= .lst (BT xs lo hi)) (fun b ob q=>Heap.get?_push_of_some _ q) (Nat.le_refl _) ?_,rfl,q _ (I.hok.fresh (Nat.le_refl _))⟩;exact⟨Nat.le_trans (L5 xs lo hi) hz,_,0,(r.drop (HT.sIx xs.length 0 lo)).take (HT.sIx xs.length xs.length hi - HT.sIx xs.length 0 lo),Heap.get?_push_size _ rfl⟩
def sJ:V->Bool
 | .non=>true
 | .bl _=>true
 | .int _=>true
 | .str _=>true
 | _=>false
def eqV:V->V->Bool
 | .non,.non=>true
 | .bl a,.bl b=>a==b
 | .bl a,.int b=>(if a then 1 else 0)==b
 | .int a,.bl b=>a==(if b then 1 else 0)
 | .int a,.int b=>a==b
 | .str a,.str b=>a==b
 | _,_=>false
theorem aC1 {A:Around}{s:Shared}{y x:V}{u v:Value} (ry:RelV y u) (rx:RelV x v) (fy:sJ y=true) (fx:sJ x=true):SeqAt.EqAt A s u v (eqV y x):=by
 cases y with
 | non =>
  cases ry;cases x with
  | non=>cases rx;exact SeqAt.EqAt.same _
  | bl b=>cases rx;exact SeqAt.EqAt.none_bool b
  | int b=>obtain⟨t,rfl⟩:=rx;exact SeqAt.EqAt.none_int b t
  | str b=>obtain⟨t,rfl⟩:=rx;exact SeqAt.EqAt.none_str b t
  | _=>exact absurd (show false=true from fx) Bool.false_ne_true
 | bl a =>
  cases ry;cases x with
  | non=>cases rx;exact SeqAt.EqAt.bool_none a
  | bl b=>cases rx;exact SeqAt.EqAt.bool_bool a b
  | int b=>obtain⟨t,rfl⟩:=rx;exact SeqAt.EqAt.bool_int a b t
  | str b=>obtain⟨t,rfl⟩:=rx;exact SeqAt.EqAt.bool_str a b t
  | _=>exact absurd (show false=true from fx) Bool.false_ne_true
 | int a =>
  obtain⟨t',rfl⟩:=ry;cases x with
  | non=>cases rx;exact SeqAt.EqAt.int_none a t'
  | bl b=>cases rx;exact SeqAt.EqAt.int_bool a t' b
  | int b=>obtain⟨t,rfl⟩:=rx;exact SeqAt.EqAt.int_int a t' b t
  | str b=>obtain⟨t,rfl⟩:=rx;exact SeqAt.EqAt.int_str a t' b t
  | _=>exact absurd (show false=true from fx) Bool.false_ne_true
 | str a =>
  obtain⟨t',rfl⟩:=ry;cases x with
  | non=>cases rx;exact SeqAt.EqAt.str_none a t'
  | bl b=>cases rx;exact SeqAt.EqAt.str_bool a t' b
  | int b=>obtain⟨t,rfl⟩:=rx;exact SeqAt.EqAt.str_int a t' b t
  | str b=>obtain⟨t,rfl⟩:=rx;exact SeqAt.EqAt.str_str a t' b t
  | _=>exact absurd (show false=true from fx) Bool.false_ne_true
 | _=>exact absurd (show false=true from fy) Bool.false_ne_true
def eqU (x:V)(u:Value):Bool:=match u with
 | .none=>eqV .non x
 | .bool b=>eqV (.bl b) x
 | .int i _=>eqV (.int i) x
 | .str z _=>eqV (.str z) x
 | _=>false
theorem TY {x y:V}{u:Value} (r:RelV y u) (f:sJ y=true):eqU x u=eqV y x:=by
 cases y with
 | non=>cases r;rfl
 | bl b=>cases r;rfl
 | int i=>obtain⟨t,rfl⟩:=r;rfl
 | str z=>obtain⟨t,rfl⟩:=r;rfl
 | _=>exact absurd (show false=true from f) Bool.false_ne_true
theorem D6 {x:V}:∀{xs:List V}{us:List Value},Vals xs us->xs.all sJ=true->us.any (eqU x)=xs.any fun y=>eqV y x
 | _,_,.nil,_=>rfl
 | y::xs,u::us,.cons r t,f=>by
  rw[List.all_cons,Bool.and_eq_true]at f;rw[List.any_cons,List.any_cons,TY r f.1,D6 t f.2]
theorem BF {A:Around}{s:Shared}{x:V}{v:Value} (rx:RelV x v) (fx:sJ x=true):∀{xs:List V}{us:List Value},Vals xs us->xs.all sJ=true->∀u∈us,SeqAt.EqAt A s u v (eqU x u)
 | _,_,.nil,_=>fun u hu=>by cases hu
 | y::xs,u::us,.cons r t,f=>fun u' hu=>by
  rw[List.all_cons,Bool.and_eq_true]at f;rcases List.mem_cons.mp hu with rfl|hu
  ·rw[TY r f.1];exact aC1 r rx f.1 fx
  ·exact BF rx fx t f.2 u' hu
def inV (x:V)(xs:List V):Bool:=xs.any fun y=>eqV y x
def rIn (K:W.Frag)(neg:Bool):R2:=fun x y H Q=>∃p xs,y= .ref p/\(SqL K H p xs∨SqT K H p xs)/\sJ x=true/\xs.all sJ=true/\Q (.bl (if neg then !inV x xs else inV x xs)) H
theorem F9:OpR X (compareOp .In) (rIn X.K false):=by
 intro pins s σ H x y v u Q I rx ry h;obtain⟨p,xs,rfl,hq,fx,fs,q⟩:=h;cases ry;rcases hq with hq|hq
 ·obtain⟨its,r,pl,hz⟩:=I.list hq;refine SeqAt.in_listAt (eqU x) pl.isList (fun w hw=>BF rx fx r fs w (by simpa using hw)) ⟨.bl _,H,I,rfl,?_⟩;rw[show its.toArray.any (eqU x)=its.any (eqU x) by simp,D6 r fs];exact q
 ·obtain⟨its,r,pl,hz⟩:=I.tuple hq;refine SeqAt.in_tupleAt (eqU x) pl (fun w hw=>BF rx fx r fs w (by simpa using hw)) ⟨.bl _,H,I,rfl,?_⟩;rw[show its.toArray.any (eqU x)=its.any (eqU x) by simp,D6 r fs];exact q
theorem KY:dS X (.builtin "len") (fun xs H Q=>∃p ys,xs=[.ref p]/\(SqL X.K H p ys∨SqT X.K H p ys)/\Q (.int ys.length) H):=by
 intro pins s σ H xs us Q I r h;obtain⟨p,ys,rfl,hq,q⟩:=h;obtain⟨u,rfl,rx⟩:=nG r;cases rx;have hn:=qD;rcases hq with hq|hq
 ·obtain⟨its,r',pl,hz⟩:=I.list hq;have hlen:=r'.length;exact Calls.call_len_list pl.isList (by simp only[List.size_toArray]<;>lia) ⟨.int ys.length,H,I.tok _,⟨s.toks+1,by rw[List.size_toArray,hlen]⟩,q⟩
 ·obtain⟨its,r',pl,hz⟩:=I.tuple hq;have hlen:=r'.length;exact len_tuple pl (by simp only[List.size_toArray]<;>lia) ⟨.int ys.length,H,I.tok _,⟨s.toks+1,by rw[List.size_toArray,hlen]⟩,q⟩
theorem KF:dS X (.builtin "len") (fun xs H Q=>∃z,xs=[.str z]/\z.length<=sizeLine/\Q (.int z.length) H):=by
 intro pins s σ H xs us Q I r h;obtain⟨z,rfl,hz,q⟩:=h;obtain⟨u,rfl,t,rfl⟩:=nG r;have hn:=qD;exact len_str (by lia) ⟨.int z.length,H,I.tok _,⟨_,rfl⟩,q⟩
def tyV (K:W.Frag)(T:String)(x:V)(H:Hp):Prop:=match x with
 | .str _=>T= "str"
 | .int _=>T= "int"
 | .ref p=>(T= "list" /\∃xs,SqL K H p xs)∨(T= "tuple" /\∃o,K.lookup p=some o/\o.cls= .type "tuple" /\o.dict=none) ∨
   (T= "dict" /\((∃kvs,H p=some (.dK kvs))∨∃kvs,H p=some (.dT kvs)))∨(T= "set" /\∃S n,H p=some (.set S n))
 | _=>False
theorem TW {pins:List (Addr×Obj)}{σ:St}{H:Hp}{s:Shared}{T:String}{x:V}{v:Value} (I:Inv X pins σ H s) (r:RelV x v) (ty:tyV X.K T x H) :
  s.TypeIs v T/\∀a,v= .ref a->∃ob,s.heap.get? a=some ob/\ob.dict=none:=by
 cases x with
 | str z =>
  obtain⟨t,rfl⟩:=r;cases (show T= "str" from ty);exact⟨typeIs_str s z t,fun _ e=>nomatch e⟩
 | int i =>
  obtain⟨t,rfl⟩:=r;cases (show T= "int" from ty);exact⟨typeIs_int s i t,fun _ e=>nomatch e⟩
 | ref p =>
  cases r;rcases ty with⟨rfl,xs,hq⟩|⟨rfl,o,hk,hc,hd⟩|⟨rfl,hk⟩|⟨rfl,S,n,hk⟩
  ·obtain⟨its,_,pl,_⟩:=I.list hq;refine⟨pl.isList.typeIs,fun a e=> ?_⟩;cases e;obtain⟨o,n,e,c,hd,_⟩:=pl;exact⟨o,e,hd⟩
  ·refine⟨⟨o,I.kIn p o hk,hc⟩,fun a e=> ?_⟩;cases e;exact⟨o,I.kIn _ o hk,hd⟩
  ·have z:∃o,s.heap.get? p=some o/\o.ExactDict:=by
    rcases hk with⟨kvs,hk⟩|⟨kvs,hk⟩
    ·obtain⟨_,_,_,_,o,_,_,e,ex,_⟩:=I.hok p _ hk;exact⟨o,e,ex⟩
    ·obtain⟨_,_,_,_,o,_,_,e,ex,_⟩:=I.hok p _ hk;exact⟨o,e,ex⟩
   obtain⟨o,e,ex⟩:=z;refine⟨⟨o,e,ex.1⟩,fun a e2=> ?_⟩;cases e2;exact⟨o,e,ex.2.1⟩
  ·obtain⟨o,_,_,_,e,ex,_⟩:=I.hok p _ hk;refine⟨⟨o,e,ex.1⟩,fun a e2=> ?_⟩;cases e2;exact⟨o,e,ex.2.1⟩
 | _=>exact False.elim ty
def aC5 (K:W.Frag)(T:String)(r:V->List V->Hp->VK->Prop)(to:TE):TE:=fun σ H Q=>to σ H fun x H1=>tyV K T x H1/\r x [] H1 Q
def tBM (K:W.Frag)(T:String)(r:V->List V->Hp->VK->Prop)(to:TE)(t:TA):TE:=fun σ H Q=>to σ H fun x H1=>tyV K T x H1/\t σ H1 fun xs H2=>r x xs H2 Q
variable {o e:Expr}{es:List Expr}{to:TE}{t:TA}{name:Str}{apos cpos:Pos}{T id:String}{r:V->List V->Hp->VK->Prop}
theorem aC9 (pa:PlainAttrs T)(slot:Slot T name id)(hty:typeOf (.builtin id)=pure (.type "method_descriptor"))(hm:MtR X id r)(ho:PE X o to)
  (hbase:attributeBase o name X.env (eval o X.env)=eval o X.env:=by rfl)(hline:(apos.endLine==cpos.line)=true:=by rfl):PE X (.Call (.Attribute o name apos) [] [] cpos) (aC5 X.K T r to):=by
 intro pins s σ H Q I h;refine wpAny_Call_method0_late hbase hline (thn (ho pins s σ H _ I h) fun v s1 ⟨x,H1,I1,r1,ty,q1⟩=> ?_);obtain⟨h1,h2⟩:=TW I1 r1 ty;exact⟨T,id,pa,slot,hty,h1,h2,Calls.callWith_builtin rfl (PySem.evalArgs_none (hm pins s1 σ H1 x [] v [] Q I1 r1 .nil q1))⟩
theorem g8 (pa:PlainAttrs T)(slot:Slot T name id)(hty:typeOf (.builtin id)=pure (.type "method_descriptor"))(hm:MtR X id r)(ho:PE X o to)(ha:PA X (e::es) t)
  (hbase:attributeBase o name X.env (eval o X.env)=eval o X.env:=by rfl)
  (hfew:((backTo cpos (starEach (e::es) X.env)).all (fun x=> !x.1)&&(backToKw cpos (keywordEach [] X.env)).all (fun x=>x.1.isSome)
   && decide ((e::es).length+([]:List Keyword).length+(if ([]:List Keyword).isEmpty then 0 else 1)<30))=true:=by rfl)
  (hline:(apos.endLine==cpos.line)=true:=by rfl)(hs:starEach (e::es) X.env=(false,eval e X.env)::starEach es X.env:=by rfl)(hplain:(backTo cpos (starEach es X.env)).any (·.1)=false:=by rfl) :
  PE X (.Call (.Attribute o name apos) (e::es) [] cpos) (tBM X.K T r to t):=by
 intro pins s σ H Q I h;refine wpAny_Call_method_late hbase hfew hline rfl (thn (ho pins s σ H _ I h) fun v s1 ⟨x,H1,I1,r1,ty,q1⟩=> ?_);obtain⟨h1,h2⟩:=TW I1 r1 ty;refine⟨T,id,pa,slot,hty,h1,h2,?_⟩;have hA:=ha cpos pins s1 σ H1 _ I1 q1;rw[hs]at hA ⊢;refine Calls.callWith_builtin (by show (false||(backTo cpos (starEach es X.env)).any (·.1))=false;rw[hplain]<;>rfl) (Calls.evalArgs_plain ?_);exact thn hA fun us s2 ⟨vs,H2,I2,r2,q2⟩=>hm pins s2 σ H2 x vs v us Q I2 r1 r2 q2
end
def MtM (X:Cx)(id:String)(r:V->List V->Hp->VK->Prop):Prop :=
 ∀(pins:List (Addr×Obj)) (s:Shared) (σ:St) (H:Hp) (x:V) (xs:List V) (v:Value) (us:List Value) (Q:VK),Inv X pins σ H s->RelV x v->Vals xs us->r x xs H Q →
  wpAny (model X.prog X.w) X.A (call (.builtin id) (v::us)) (EP X pins σ Q) X.xe s
theorem Vals.one:∀{x:V}{us:List Value},Vals [x] us->∃u,us=[u]/\RelV x u
 | _,_,.cons r .nil=>⟨_,rfl,r⟩
section
variable {X:Cx}{pins:List (Addr×Obj)}{σ:St}{H:Hp}{s:Shared}{l b:Addr}{xs ys zs:List V}
theorem Inv.lset {its its':List Value}{n:Nat}{f:Array Value->Array Value}{t':Nat} (I:Inv X pins σ H s) (hH:H l=some (.lst xs))
  (e:s.heap.get? l=some { cls:= .type "list",data:= .seq its.toArray n })(hf:f its.toArray=its'.toArray)(hv:Vals ys its')(hz:ys.length<=sizeLine) :
  Inv X pins σ (upd H l (.lst ys)) { s with heap:=s.heap.update l (Obj.mapSeq f),toks:=t' }:=by
 have q:=PySem.IsL.update e f;rw[hf]at q;refine I.write (x:=l) (e:=l) (by rw[hH];exact trivial) (.inl rfl) (fun b' u hb hu=>(Heap.get?_update_other s.heap (Obj.mapSeq f) (Ne.symm hb)).trans hu) ⟨_,q⟩ ?_;exact⟨hz,its',_,hv,q⟩
theorem Inv.lnew {its:List Value}{t':Nat} (I:Inv X pins σ H s) (hv:Vals ys its) (hz:ys.length<=sizeLine) :
  Inv X pins σ (upd H s.heap.objs.size (.lst ys)) { s with heap:=s.heap.push { cls:= .type "list",data:= .seq its.toArray },toks:=t' } :=
 I.laid (fun _ _ q=>Heap.get?_push_of_some _ q) (Nat.le_refl _) ⟨hz,its,0,hv,Heap.get?_push_size _ rfl⟩
theorem Inv.fresh (I:Inv X pins σ H s):H s.heap.objs.size=none:=I.hok.fresh (Nat.le_refl _)
theorem Inv.lstM (I:Inv X pins σ H s)(hH:H l=some (.lst xs)):xs.length<=sizeLine/\∃(its:List Value) (n:Nat),Vals xs its/\xs.length=its.length/\s.heap.get? l=some { cls:= .type "list",data:= .seq its.toArray n }:=by
 obtain⟨z,its,n,r,e⟩:=I.hok l _ hH;exact⟨z,its,n,r,r.length,e⟩
theorem U0 {n:Nat}(h:n<=sizeLine):Builtin.List.listTooLong n=false:=by
 unfold Builtin.List.listTooLong;exact decide_eq_false (by lia)
end
section
variable {X:Cx}
def N6:V->List V->Hp->VK->Prop:=fun x vs H Q=>∃l xs y,x= .ref l/\vs=[y]/\H l=some (.lst xs)/\xs.length<sizeLine/\Q .non (upd H l (.lst (xs++[y])))
theorem cS:MtM X "list.append" N6:=by
 intro pins s σ H x vs v us Q I rx rv h;obtain⟨l,xs,y,rfl,rfl,hH,hz,q⟩:=h;cases rx;obtain⟨u,rfl,ru⟩:=rv.one;obtain⟨z,its,n,r,hl,e⟩:=I.lstM hH;refine call_meets F.slot_list_append ⟨_,e,rfl⟩ F.entry_list_append (F.args_list_append_2 _ _) (PySem.list_append l its.toArray n u (by rw[List.size_toArray];lia)) ⟨e,?_⟩;refine⟨.non,_,I.lset (its':=its++[u]) hH e (by simp) (r.append (.cons ru .nil)) ?_,rfl,q⟩;rw[List.length_append,List.length_singleton]
 lia
def NE:V->List V->Hp->VK->Prop:=fun x vs H Q=>∃l b xs zs,x= .ref l/\vs=[.ref b]/\H l=some (.lst xs)/\H b=some (.lst zs)/\xs.length+zs.length<=sizeLine/\Q .non (upd H l (.lst (xs++zs)))
theorem FW:MtM X "list.extend" NE:=by
 intro pins s σ H x vs v us Q I rx rv h;obtain⟨l,b,xs,zs,rfl,rfl,hH,hB,hz,q⟩:=h;cases rx;obtain⟨u,rfl,ru⟩:=rv.one;cases ru;obtain⟨z,its,n,r,hl,e⟩:=I.lstM hH;obtain⟨z2,its2,n2,r2,hl2,e2⟩:=I.lstM hB;have hsz:its.toArray.size+its2.toArray.size<=sizeLine:=by rw[List.size_toArray,List.size_toArray];lia
 have hlong:¬(!its.toArray.isEmpty&&Builtin.List.listTooLong (its.toArray.size+its2.toArray.size))=true:=by
  rw[U0 hsz,Bool.and_false];exact Bool.false_ne_true
 refine call_meets F.slot_list_extend ⟨_,e,rfl⟩ F.entry_list_extend (F.args_list_extend_2 _ _)
  (AutoSeq1.list_extend_list_list_0 l its.toArray n b its2.toArray n2 hlong (by rw[List.size_toArray];lia) (by lia)) ⟨e,e2,?_⟩
 refine⟨.non,_,I.lset (its':=its++its2) hH e (by simp) (r.append r2) ?_,rfl,q⟩;rw[List.length_append]
 lia
def aDb:R2:=fun x y H Q=>∃l b xs zs,x= .ref l/\y= .ref b/\H l=some (.lst xs)/\H b=some (.lst zs)/\xs.length+zs.length<=sizeLine/\∀p,H p=none->Q (.ref p) (upd H p (.lst (xs++zs)))
theorem aBK:OpR X (binaryOp .Add) aDb:=by
 intro pins s σ H x y v u Q I rx ry h;obtain⟨l,b,xs,zs,rfl,rfl,hH,hB,hz,q⟩:=h;cases rx;cases ry;obtain⟨z,its,n,r,hl,e⟩:=I.lstM hH;obtain⟨z2,its2,n2,r2,hl2,e2⟩:=I.lstM hB;refine PySem.P.add_list e e2 ?_ (by rw[List.size_toArray,List.size_toArray];lia);have ea:its.toArray++its2.toArray=(its++its2).toArray:=by simp
 rw[ea];exact⟨.ref _,_,I.lnew (t':=s.toks) (r.append r2) (by rw[List.length_append];lia),rfl,q _ I.fresh⟩
end
section
variable {prog:Program}{w:World}{A:Around}{E:Value->Shared->Prop}{s:Shared}
set_option maxRecDepth 100000 in
end
section
variable {X:Cx}
end
end L2
namespace Att
open PySem PySem.W PySem.Calls PyProof.Rows
theorem DU {P:Params}{h:Heap}:∀(ns:List Int) (vs:List Value),WellAll P h vs (ns.map WData.int)->IntsAre vs ns:=by
 intro ns
 induction ns with
 | nil =>
  intro vs w;rw[List.map_nil]at w;cases w;exact .nil
 | cons n ns ih =>
  intro vs w;rw[List.map_cons]at w;cases w with
  | cons a b =>
   cases a;exact .cons _ _ (ih _ b)
theorem Q0 {l:OpenLaw}{n:Nat} (hn:l.most=some n) {P:Params}{h:Heap}{args:List WData}{vals:List Value}
  (hpre:l.row.toRowW.claim.pre args=true)(hwl:WellAll P h vals args) :
  ∃a vs ns,vals=[Value.ref a]/\args=[WData.list (ns.map WData.int)]/\h.get? a=some { cls:= .type "list",data:= .seq vs.toArray }/\IntsAre vs ns/\ns.length<=n:=by
 have hsh:WShape.hasAll [] args [.list .int]=true:=(pre_splitW hpre).1;have hc:l.pre.holds [] { args:=args }=true:=(pre_splitW hpre).2;obtain⟨d,r,rfl,h1,h2⟩:=hasAllW_cons hsh;obtain rfl:=hasAllW_nil h2;obtain⟨xs,rfl,h3⟩:=hasW_list h1;obtain⟨ns,rfl⟩:=items_int h3;have hlen:ns.length<=n:=by
  unfold OpenLaw.pre at hc;have h4:(WTm.not (.lt (.lit (.int (n:Int))) (.len (.arg 0)))).holds [] { args:=[.list (ns.map .int)] }=true:=by
   have h4:=(holds_andW hc).1;rw[hn]at h4;exact h4
  have h5:=condW_of h4 (w_not (w_lt w_lit (w_len_list (w_arg rfl))));rw[List.length_map]at h5;refine Nat.le_of_not_lt fun q=> ?_;have q':(n:Int)<((ns.length:Nat):Int):=by lia
  first
   | (rw[decide_eq_true q']at h5;exact absurd h5 (by decide))
   | (simp at h5;lia)
 cases hwl with
 | cons w1 w2 =>
  cases w2;cases w1 with
  | list ho hall=>exact⟨_,_,ns,rfl,rfl,ho,DU ns _ hall,hlen⟩
theorem SJ (l:OpenLaw)(args:List WData):l.row.toRowW.claim.post args (.bool true) args=true :=
 postW_of (r:=l.row.toRowW) (X:=(true==true))
  (show WShape.has [] (.bool true) .bool=true by first|rfl|decide|simp[WShape.has,WShape.arms,WShape.armsAll])
  (show (WTm.eq .res (.lit (.bool true))).value [] { args:=args,res:=some (.bool true),after:=args }=some (.bool (true==true)) from w_eq_bool (w_res rfl) w_lit) rfl
theorem attach_call {l:OpenLaw}{n:Nat}{q:Program}{loose:List Str}{XP:(Str->Option Value)->Heap->Prop}{YP:World->Heap->Prop}{d:DefRec}
  (hn:l.most=some n)(hdf:d.params.defaults=[])
  (call:∀(w:World) (s₀ s₁:Shared) (mg mb:Str->Option Value) (fa:Addr) (o:Obj) (pm cd doc:Value) (a:Addr) (vs:List Value) (ns:List Int),
   Ground q loose [] XP w s₀ mg mb s₁.heap->YP w s₁.heap →
   s₁.heap.get? fa=some o->o.data= .func (docDef d.name d.params d.body d.scope pm cd doc)->s₁.heap.CodeRec cd d.name->mg d.name=some (.ref fa) →
   s₁.heap.get? a=some { cls:= .type "list",data:= .seq vs.toArray }->IntsAre vs ns->ns.length<=n->s₁.gens= #[] →
   codeAny (model l.prog w) callerA (.call (.ref fa) ⟨[.ref a],[]⟩) (fun r s'=>r= .ok (.ret (.bool true))/\OldK s₁.heap s'.heap/\s'.os=s₁.os/\AllBare s'.gens) s₁) :
  WalkO q loose XP YP l.row.toRowW d [] (fun f vs=>PySem.call f vs):=by
 intro w s₀ s₁ mg mb G Y fa o pm cd doc dV kV ho hd hcd hD hmg hg args vals as hpre hlay hrd hwl hlo;obtain rfl:dV= .none:=Dflts.none hD hdf;obtain rfl:kV= .none:=Dflts.noKw hD;obtain⟨a,vs,ns,rfl,rfl,hobj,hints,hlen⟩:=Q0 hn hpre hwl;refine enter_call (codeAny_mono (call w s₀ s₁ mg mb fa o pm cd doc a vs ns G Y ho (fd_plain hd) hcd hmg hobj hints hlen hg) fun r s' hq=> ?_);obtain⟨rfl,h2,h3,h4⟩:=hq;exact⟨.inl ⟨.bool true,.bool true,[],rfl,fun _=>rfl,.bool true,SJ l _,fun _=>⟨List.Pairwise.nil,fun _ hm=>(nomatch hm)⟩⟩,h2,h3,h4⟩
section
variable {prog:Program}{w:World}{A:Around}{E:Value->Shared->Prop}{s:Shared}{K:Frag}
end
end Att
namespace L2
open PySem PySem.Spec PyProof.Rows
theorem F6:∀{vs:List Value}{ns:List Int},IntsAre vs ns->Vals (ns.map V.int) vs
 | _,_,.nil=> .nil
 | _,_,.cons n t h=> .cons ⟨t,rfl⟩ (F6 h)
def bD (s:Stmt)(j:Nat):Stmt:=match s with
 | .ClassDef _ _ _ body _ _ _ _ _ _ _=>body.getD j (.Pass ⟨0,0,0,0⟩)
 | _=> .Pass ⟨0,0,0,0⟩
def dP (s:Stmt):Arguments:=match s with
 | .FunctionDef _ a _ _ _ _ _ _ _ _=>a
 | _=>{ posonlyargs:=[],args:=[],vararg:=none,kwonlyargs:=[],kw_defaults:=[],kwarg:=none,defaults:=[] }
def c4 (s:Stmt):List Stmt:=match s with
 | .FunctionDef _ _ b _ _ _ _ _ _ _=>b
 | _=>[]
def aF (s:Stmt):Scope:=match s with
 | .FunctionDef _ _ _ _ _ _ sc _ _ _=>sc
 | _=>{ kind:= .function,names:=[],isGenerator:=false,isCoroutine:=false }
abbrev CX0:CXT:=fun _ _ _ _ _ _=>False
abbrev E0:XK:=fun _ _ _=>False
theorem sO {X:Cx}:t9 CX0 X E0:=fun _ _ _ _ _ _ _ h=>h.elim
section
variable {P:Program}{w:World}{K:W.Frag}{mg:Str->Option Value}{base:Heap}
end
theorem RK {n:Nat}(h:n<=1000):n<sizeLine:=Nat.lt_of_le_of_lt h (by decide)
section
variable {X:Cx}
theorem pv (i:Nat){x:Str}{pos:Pos} (hN:X.N[i]? =some x:=by rfl) (hv:Vis X.env.scope x:=by first|exact Or.inl rfl|exact Or.inr (Or.inl rfl)|exact Or.inr (Or.inr rfl)) (hd:(x==("__debug__" :Str))=false:=by decide)
  (hcd:(x==("__classdict__" :Str))=false:=by decide):PE X (.Name x pos) (gT i):=RA hN hv hd hcd
end
theorem EV {c A B:Prop}[Decidable c](h1:c->A)(h2:¬c->B):if c then A else B:=by
 by_cases h:c
 ·rw[if_pos h];exact h1 h
 ·rw[if_neg h];exact h2 h
def Same (H H':Hp):Prop:=∀b o,H b=some o->H' b=some o
theorem Same.refl (H:Hp):Same H H:=fun _ _ h=>h
theorem Same.trans {H H1 H2:Hp}(a:Same H H1)(b:Same H1 H2):Same H H2:=fun c o h=>b c o (a c o h)
theorem Same.seq {K:W.Frag}{H H':Hp}{a:Addr}{xs:List V} (e:Same H H') (h:SqL K H a xs):SqL K H' a xs:=by
 rcases h with (h|⟨o,h⟩)|h
 ·exact .inl (.inl (e _ _ h))
 ·exact .inl (.inr ⟨o,e _ _ h⟩)
 ·exact .inr h
section
variable {X:Cx}{pins:List (Addr×Obj)}{σ:St}{H:Hp}{s:Shared}{D:Addr}{ys:List V}
theorem HOk.adds {P:Program}{w:World}{h:Heap}{o:HO} (x:HOk P w H h) (hn:H D=none) (new:ObjOk P w (upd H D o) h D o):HOk P w (upd H D o) h:=fun b u e=>by
 by_cases hb:b=D
 ·subst hb;rw[aQ]at e;cases e;exact new
 ·rw[aH hb]at e;exact(x b u e).stay (fun c v _ q=>q) (fun c q=>by rw[aH (bA q hn)];exact q) fun c xs q=>by rw[aH (bA q hn)];exact q
theorem HOk.drops {P:Program}{w:World}{h:Heap} (x:HOk P w (upd H D (.lst ys)) h) (hn:H D=none):HOk P w H h:=fun b u e=>by
 have hb:b≠D:=bA e hn;refine(x b u (by rw[aH hb];exact e)).stay (fun c v _ q=>q) (fun c q=> ?_) fun c xs q=> ?_
 ·by_cases hc:c=D
  ·subst hc;rw[aQ]at q;cases q
  ·rw[aH hc]at q;exact q
 ·by_cases hc:c=D
  ·subst hc;rw[aQ]at q;cases q
  ·rw[aH hc]at q;exact q
theorem Inv.track {its:List Value}{n:Nat} (I:Inv X pins σ H s) (hn:H D=none) (e:s.heap.get? D=some { cls:= .type "list",data:= .seq its.toArray n }) (r:Vals ys its) (hz:ys.length<=sizeLine)
  (h0:X.s₀.heap.objs.size<=D)(h1:D≠X.env.locals)(h2:∀x c,X.env.cells.lookup x=some c->c≠D)(h3:∀p∈X.pn++pins,p.1≠D):Inv X pins σ (upd H D (.lst ys)) s where
 ok:=I.ok
 os:=I.os
 bare:=I.bare
 base:=by
  have lt:∀b o,X.s₀.heap.get? b=some o->b≠D:=fun b o q=>Nat.ne_of_lt (Nat.lt_of_lt_of_le (Heap.lt_size q) h0);refine⟨I.base.keep,I.base.slot,fun b o q n' hx=> ?_,I.base.there,fun b xs q=> ?_,fun b o u q=> ?_,fun b ps q=> ?_⟩
  ·rw[aH (lt b o q)];exact I.base.free b o q n' hx
  ·have z:=I.base.tups b xs q;rw[aH (bA z hn)];exact z
  ·have z:=I.base.frzs b o u q;rw[aH (bA z hn)];exact z
  ·obtain⟨more,z⟩:=I.base.tbls b ps q;exact⟨more,by rw[aH (bA z hn)];exact z⟩
 loc:=I.loc
 cell:=I.cell
 free:=by rw[aH (Ne.symm h1)];exact I.free
 freeC:=fun x c q=>by rw[aH (h2 x c q)];exact I.freeC x c q
 pin:=fun p hp=>by
  obtain⟨a,b,c⟩:=I.pin p hp;exact⟨a,by rw[aH (h3 p hp)];exact b,c⟩
 hok:=I.hok.adds hn ⟨hz,its,n,r,e⟩
 len:=I.len
theorem Inv.untrack (I:Inv X pins σ (upd H D (.lst ys)) s)(hn:H D=none):Inv X pins σ H s where
 ok:=I.ok
 os:=I.os
 bare:=I.bare
 base:=by
  have low:∀b u,upd H D (.lst ys) b=some u->(∀xs,u≠ .lst xs)->H b=some u:=fun b u q nl=>by
   by_cases hb:b=D
   ·subst hb;rw[aQ]at q;cases q;exact absurd rfl (nl ys)
   ·rw[aH hb]at q;exact q
  refine⟨I.base.keep,I.base.slot,fun b o q n' hx=> ?_,I.base.there,fun b xs q=> ?_,fun b o u q=> ?_,fun b ps q=> ?_⟩
  ·have z:=I.base.free b o q n' hx
   by_cases hb:b=D
   ·subst hb;exact hn
   ·rw[aH hb]at z;exact z
  ·exact low _ _ (I.base.tups b xs q) (fun _ z=>by cases z)
  ·exact low _ _ (I.base.frzs b o u q) (fun _ z=>by cases z)
  ·obtain⟨more,z⟩:=I.base.tbls b ps q;exact⟨more,low _ _ z (fun _ z=>by cases z)⟩
 loc:=I.loc
 cell:=I.cell
 free:=by
  have z:=I.free
  by_cases hb:X.env.locals=D
  ·rw[hb];exact hn
  ·rw[aH hb]at z;exact z
 freeC:=fun x c q=>by
  have z:=I.freeC x c q
  by_cases hb:c=D
  ·rw[hb];exact hn
  ·rw[aH hb]at z;exact z
 pin:=fun p hp=>by
  obtain⟨a,b,c⟩:=I.pin p hp;refine⟨a,?_,c⟩
  by_cases hb:p.1=D
  ·rw[hb];exact hn
  ·rw[aH hb]at b;exact b
 hok:=I.hok.drops hn
 len:=I.len
end
def bS (X:Cx)(scope:Scope)(cl:List (Str×Addr))(N:List Str)(C:Addr)(s0:Shared)(H0:Hp)(fp:List Addr):Cx where
 prog:=X.prog
 w:=X.w
 K:=X.K
 mg:=X.mg
 base:=X.base
 A:=X.A
 N:=N
 s₀:=s0
 H₀:=H0
 env:=compEnvC scope cl C X.env
 outer:=X.stack
 stack:=X.stack
 ex:=fp
 fn:=fun _=>false
 calm:=X.calm
 pn:=[]
 xe:=fun _ _=>False
structure Blk (X:Cx)(scope:Scope)(cl:List (Str×Addr))(N:List Str)(nl:Nat)(ci:List Nat):Prop where
 kind:scope.kind= .function
 names:∀y∈scope.names,y.2= .local->scope.names.lookup y.1=some .local
 nocell:∀y∈scope.names,y.2≠ .cell
 clos:closureFor scope X.env=pure cl
 sub:∀n c,cl.lookup n=some c->X.env.cells.lookup n=some c
 has:∀n,((relabel scope X.env).names.lookup n=some .cell∨(relabel scope X.env).names.lookup n=some .free)->∃c,cl.lookup n=some c
 len:N.length=nl+ci.length
 cap:∀(j i:Nat),ci[j]? =some i->∃n,N[nl+j]? =some n/\X.N[i]? =some n/\(X.env.scope.names.lookup n=some .cell∨X.env.scope.names.lookup n=some .free) ∧
  ((relabel scope X.env).names.lookup n=some .cell∨(relabel scope X.env).names.lookup n=some .free)/\cl.lookup n=X.env.cells.lookup n
def b9 (nl:Nat)(ci:List Nat)(σ:St):St:=List.replicate nl none++ci.map fun i=>(σ[i]?).join
theorem UA {nl:Nat}{ci:List Nat}{σ:St}{k:Nat}{v:V} (h:(b9 nl ci σ)[k]? =some (some v)):∃j i,k=nl+j/\ci[j]? =some i/\σ[i]? =some (some v):=by
 unfold b9 at h
 by_cases hk:k<nl
 ·rw[List.getElem?_append_left (by simpa using hk),List.getElem?_replicate]at h
  split at h<;>cases h
 ·rw[List.getElem?_append_right (by simpa using hk),List.length_replicate,List.getElem?_map]at h;cases e:ci[k - nl]? with
  | none=>rw[e]at h;cases h
  | some i =>
   rw[e]at h;have h':(σ[i]?).join=some v:=by simpa using h
   refine⟨k - nl,i,by lia,e,?_⟩;cases q:σ[i]? with
   | none=>rw[q]at h';cases h'
   | some o=>rw[q]at h';simp at h';rw[h']
theorem JQ {nl:Nat}{ci:List Nat}{σ:St}:(b9 nl ci σ).length=nl+ci.length:=by unfold b9;simp
section
variable {X:Cx}{scope:Scope}{cl:List (Str×Addr)}{N:List Str}{nl:Nat}{ci:List Nat}{pins:List (Addr×Obj)}{σ:St}{H2:Hp}{s2:Shared}{fp:List Addr}
theorem MA (B:Blk X scope cl N nl ci)(I:Inv X pins σ H2 s2)(f2:∀b∈fp,q0 X pins H2 b)(fo:∀b∈fp,∃o,s2.heap.get? b=some o){C:Addr}{h4:Heap}{t4:Nat}{m4:Str->Option Value} (hC:s2.heap.objs.size<=C) (hns:h4.Ns C m4)
  (hk:∀b o,s2.heap.get? b=some o->h4.get? b=some o):Inv (bS X scope cl N C s2 H2 fp) [] (b9 nl ci σ) H2 { s2 with heap:=h4,toks:=t4 }:=by
 have lt2:∀b∈fp,b<s2.heap.objs.size:=fun b hb=>by obtain⟨o,e⟩:=fo b hb;exact Heap.lt_size e
 have ok:(bS X scope cl N C s2 H2 fp).Ok:=by
  refine⟨I.ok.mod,B.kind,I.ok.glob,I.ok.blt,hC,fun x y c h1 h2=>I.ok.inj x y c (B.sub x c h1) (B.sub y c h2),fun x hx=>B.has x hx,fun x c hf _=>(by cases hf),I.ok.hd,I.ok.frames,.inl rfl,fun b hb=>⟨?_,?_⟩,I.bs,?_,fun b o e hb=> ?_,fun b hb z=> ?_,I.stack,I.stkFree⟩
  ·exact Nat.ne_of_lt (Nat.lt_of_lt_of_le (lt2 b hb) hC)
  ·exact fun x c h=>(f2 b hb).2.2.2.2.1 x c (B.sub x c h)
  ·exact Nat.le_trans I.ok.bsz I.sz
  ·rcases (f2 b hb).2.2.2.1 with z|z
   ·exact I.ok.noex b o e z
   ·exact absurd (Nat.lt_of_lt_of_le (Heap.lt_size e) (Nat.le_trans I.ok.bsz z)) (Nat.lt_irrefl _)
  ·rcases List.mem_cons.mp (I.stkSub b z) with q|q
   ·exact(f2 b hb).2.1 q
   ·exact(f2 b hb).2.2.1 q
 refine⟨ok,rfl,I.bare,Un.kept hk,⟨m4,hns,fun k x v e1 e2 e3=> ?_⟩,fun x c e=> ?_,I.hok.fresh hC,fun x c e=>I.freeC x c (B.sub x c e),fun p hp=>(by cases hp),I.hok.kept hk,?_⟩
 ·obtain⟨j,i,rfl,hj,hσ⟩:=UA e2;obtain⟨n,hn1,hn2,hk1,hk2,hl⟩:=B.cap j i hj;have en:x=n:=by
   have e1':N[nl+j]? =some x:=e1;rw[hn1]at e1';exact(Option.some.inj e1').symm
  subst en;obtain⟨m,hm,hloc⟩:=I.loc;have vis:Vis X.env.scope x:= .inr hk1;obtain⟨u,ru,lk⟩:=hloc i x v hn2 hσ vis;refine⟨u,ru,.inr ⟨hk2,?_⟩⟩;rcases lk with⟨kl,_⟩|⟨_,c,ec,hc⟩
  ·have kl':X.env.scope.names.lookup x=some .local:=kl;rcases hk1 with z|z<;>· rw[z]at kl';cases kl'
  ·refine⟨c,hl.trans ec,?_⟩;obtain⟨o,ho,hd⟩:=hc;exact⟨o,hk _ _ ho,hd⟩
 ·obtain⟨v,o,ho,hd⟩:=I.cell x c (B.sub x c e);exact⟨v,o,hk _ _ ho,hd⟩
 ·show (b9 nl ci σ).length=N.length;rw[JQ,B.len]
theorem ST {C:Addr}{σ':St}{H':Hp}{s':Shared}{pb:List (Addr×Obj)} (I:Inv X pins σ H2 s2) (f2:∀b∈fp,q0 X pins H2 b) (J:Inv (bS X scope cl N C s2 H2 fp) pb σ' H' s'):Inv X pins σ H' s' :=
 I.call' J.os J.base J.hok J.bare fun b hb=>⟨(f2 b hb).2.2.2.1,(f2 b hb).2.1,(f2 b hb).2.2.2.2.1,(f2 b hb).2.2.2.2.2⟩
end
section
variable {prog:Program}{w:World}{A:Around}{R:Result->Shared->Prop}{s:Shared}
theorem LW {elt target iter:Expr}{ifs:List Expr}{scope:Scope}{pos:Pos}{it acc:Value}{env:Env} (I:Nat->Shared->Prop)
  (turn:∀n s,I n s->wpAny (model prog w) A (pyNext it) (fun r s₁=>match r with
   | none=>R (.ok .next) s₁
   | some v=>wpAny (model prog w) A (letOwnedTupleGo target it v) (fun _ s₁'=>wpAny (model prog w) A (assign target env v) (fun _ s₂ =>
     wpAny (model prog w) A (forIn ifs true fun c r=>if r=true then do let ok ←isTrue c env (eval c env);pure (ForInStep.yield ok) else pure (ForInStep.yield r)) (fun ok s₃ =>
      if ok=true then wpAny (model prog w) A (eval elt env) (fun x s₄ =>
       wpAny (model prog w) A (call (.builtin "list.append") [acc,x]) (fun _ s₅=>∃m,m<n/\I m s₅) (notedBy (model prog w) A env fun e s'=>R (.error e) s') s₄) (notedBy (model prog w) A env fun e s'=>R (.error e) s') s₃
      else ∃m,m<n/\I m s₃) (notedBy (model prog w) A env fun e s'=>R (.error e) s') s₂) (notedBy (model prog w) A env fun e s'=>R (.error e) s') s₁') (notedBy (model prog w) A env fun e s'=>R (.error e) s') s₁) (notedBy (model prog w) A env fun e s'=>R (.error e) s') s)
  (n:Nat)(h:I n s) :
  codeAny (model prog w) A (.compLoop (.ListComp elt [⟨target,iter,ifs,0⟩] scope pos) 0 it acc env) R s:=by
 refine codeAny_loop rfl I (fun n s hI=> ?_) n h;show wpAny _ A ((compTurn (.ListComp elt [⟨target,iter,ifs,0⟩] scope pos) 0 it acc env).onRaise (fun x=>do noteFrame x env;theTreesLotGoes x)) _ _ s;refine wpAny_noted ?_;rw[compTurn_list];refine wpAny_bind (wpAny_standAt (wpAny_bind (wpAny_mono (turn n s hI) (fun r s₁ h₁=> ?_) fun _ _ h'=>h')));cases r with
 | none=>exact wpAny_pure h₁
 | some v =>
  refine wpAny_bind (wpAny_mono h₁ (fun _ s₁' h₁'=> ?_) fun _ _ h'=>h');refine wpAny_bind (wpAny_mono h₁' (fun _ s₂ h₂=>wpAny_bind (wpAny_mono h₂ (fun ok s₃ h₃=> ?_) fun _ _ h'=>h')) fun _ _ h'=>h');cases ok with
  | false=>exact wpAny_pure ⟨rfl,h₃⟩
  | true =>
   exact wpAny_bind (wpAny_bind (wpAny_mono h₃ (fun x s₄ h₄=>wpAny_bind (wpAny_mono h₄ (fun _ s₅ h₅=>wpAny_pure (wpAny_pure ⟨rfl,h₅⟩)) fun _ _ h'=>h')) fun _ _ h'=>h'))
end
def PF (X:Cx)(ifs:List Expr)(t:TT):Prop :=
 ∀(pins:List (Addr×Obj)) (s:Shared) (σ:St) (H:Hp) (Q:Bool->Hp->Prop),Inv X pins σ H s->t σ H Q →
  wpAny (model X.prog X.w) X.A (forIn ifs true fun c r=>if r=true then do let ok ←isTrue c X.env (eval c X.env);pure (ForInStep.yield ok) else pure (ForInStep.yield r)) (TP X pins σ Q) X.xe s
def BQ:TT:=fun _ H Q=>Q true H
theorem d9 {X:Cx}:PF X [] BQ:=fun _ _ _ H _ I h=>wpAny_tests_nil ⟨H,I,h⟩
theorem qP {X:Cx}{c:Expr}{t:TT} (h:PT X c t):PF X [c] t:=fun pins s σ H Q I q=>wpAny_tests_one (h pins s σ H Q I q)
def dI (J:It)(g:TG)(ti:TT)(te:TE)(σ0:St)(fin:List V->Hp->Prop)(H1:Hp):Prop :=
 ∃W:Nat->Nat->List V->Hp->Prop,(∃m,W 0 m [] H1)/\∀i m ys H,W i m ys H →
  (J.stop i H/\fin ys H) ∨
  (J.go i H/\∀x H',J.yld i H x H'->g x σ0 H' fun σ2 H2=>(σ2.length=σ0.length/\∀(j:Nat) v,σ0[j]? =some (some v)->σ2[j]? =some (some v)) ∧
   ti σ2 H2 fun b H3=>if b=true then te σ2 H3 fun y H4=>ys.length<sizeLine/\∃m',m'<m/\W (i+1) m' (ys++[y]) H4 else ∃m',m'<m/\W (i+1) m' ys H3)
def P6 (wi:TI)(nl:Nat)(ci:List Nat)(g:TG)(ti:TT)(te:TE):TE:=fun σ H Q =>
 wi σ H fun J H1=>dI J g ti te (b9 nl ci σ) (fun ys H'=>∀p,H' p=none->Q (.ref p) (upd H' p (.lst ys))) H1
section
variable {X:Cx}{scope:Scope}{cl:List (Str×Addr)}{N:List Str}{nl:Nat}{ci:List Nat}{tg elt iter:Expr}{ifs:List Expr}{pos:Pos}{wi:TI}{g:TG}{ti:TT}{te:TE}
theorem GG {pins:List (Addr×Obj)}{σ:St}{H2:Hp}{s2:Shared}{fp:List Addr}{it:Addr}{J:It}{tn:Nat->Heap->Prop}{E:Value->Shared->Prop}{RR:Value->Addr->Result->Shared->Prop}{fin:List V->Hp->Prop}
  (hc:X.calm=true)(B:Blk X scope cl N nl ci)(hg:∀C s0 H0 fp,PG (bS X scope cl N C s0 H0 fp) tg g)(hi:∀C s0 H0 fp,PF (bS X scope cl N C s0 H0 fp) ifs ti)(he:∀C s0 H0 fp,PE (bS X scope cl N C s0 H0 fp) elt te)
  (I2:Inv X pins σ H2 s2)(T:A3 X.prog X.w X.K tg J fp it tn)(st2:tn 0 s2.heap)(f2:∀b∈fp,q0 X pins H2 b)(hW:dI J g ti te (b9 nl ci σ) fin H2)
  (hfin:∀(D C:Addr) (s':Shared) (H':Hp) (ys:List V) (oC:Obj) (m:Str->Option Value),H' D=none->Inv X (pins++[(C,oC)]) σ (upd H' D (.lst ys)) s'->s'.heap.Ns C m->s2.heap.objs.size<=C->fin ys H'->RR (.ref D) C (.ok .next) s') :
  wpAny (model X.prog X.w) X.A (newList []) (fun acc s₃=>wpAny (model X.prog X.w) X.A (newFunctionEnv scope X.env.globals cl [] X.env.qual none .none (some X.env)) (fun cenv s₄ =>
   codeAny (model X.prog X.w) X.A (.compStart (.ListComp elt [⟨tg,iter,ifs,0⟩] scope pos) 0 (.ref it) acc { cenv with scope:=relabel scope X.env }) (RR acc cenv.locals) s₄) E s₃) E s2:=by
 obtain⟨W,⟨m0,w0⟩,turn⟩:=hW;refine wpAny_newObj_type (wpAny_newFunctionEnv B.nocell (by intro y hy;simp at hy) (fun h1 hns1 hsb1=> ?_) B.kind)
 dsimp only at hns1 hsb1 ⊢
 generalize hH2:s2.heap.push { cls:= .type "list",dict:=none,data:= .seq ([]:List Value).toArray }=G2 at hns1 hsb1 ⊢;have hCs:G2.objs.size=s2.heap.objs.size+1:=by rw[←hH2,Heap.size_push]
 generalize hCe:G2.objs.size=C at hns1 hsb1 hCs ⊢;have hDC:s2.heap.objs.size≠C:=by rw[hCs];exact Nat.ne_of_lt (Nat.lt_succ_self _)
 have hCle:s2.heap.objs.size<=C:=by rw[hCs];exact Nat.le_succ _
 have old:∀b o,s2.heap.get? b=some o->h1.get? b=some o:=fun b o e=>hsb1.extBut b o (by rw[hCs];exact Nat.ne_of_lt (Nat.lt_succ_of_lt (Heap.lt_size e))) (Heap.get?_push_of_some _ (hH2▸Heap.get?_push_of_some _ e));have hacc:h1.get? s2.heap.objs.size=some { cls:= .type "list",data:= .seq ([]:List Value).toArray 0 }:=hsb1.extBut _ _ hDC (Heap.get?_push_of_some _ (hH2▸Heap.get?_push_size _ rfl));have fo:∀b∈fp,∃o,s2.heap.get? b=some o:=fun b hb=>let ⟨o,e,_⟩:=T.obj 0 _ st2 b hb;⟨o,e⟩;have lt2:∀b∈fp,b<s2.heap.objs.size:=fun b hb=>let ⟨o,e⟩:=fo b hb;Heap.lt_size e;have hDfp:s2.heap.objs.size∉fp:=fun z=>Nat.lt_irrefl _ (lt2 _ z);have hCfp:C∉fp:=fun z=>Nat.lt_irrefl _ (Nat.lt_of_lt_of_le (lt2 _ z) hCle);generalize hDe:s2.heap.objs.size=D at hCs hDC hCle hacc hDfp lt2;have loop:∀s3:Shared,s3={ s2 with heap:=h1,toks:=s2.toks+([]:List (Str×Value)).length } →
   codeAny (model X.prog X.w) X.A (.compLoop (.ListComp elt [⟨tg,iter,ifs,0⟩] scope pos) 0 (.ref it) (.ref D) (compEnvC scope cl C X.env)) (RR (.ref D) C) s3:=by
  rintro s3 rfl;have I4:Inv (bS X scope cl N C s2 H2 fp) [] (b9 nl ci σ) H2 { s2 with heap:=h1,toks:=s2.toks+([]:List (Str×Value)).length }:=MA B I2 f2 fo (by rw[hDe];exact hCle) hns1 old;have fpk:∀{H':Hp},(∀b∈fp,H' b=none)->∀b∈fp,q0 (bS X scope cl N C s2 H2 fp) [] H' b:=fun hn b hb =>
   ⟨hn b hb,(I4.ok.exf b hb).1,I4.ok.exfs b hb,.inl hb,(I4.ok.exf b hb).2,fun p hp=>by cases hp⟩
  have hDX:∀x c,(bS X scope cl N C s2 H2 fp).env.cells.lookup x=some c->c≠D:=fun x c e=>by
   obtain⟨v,o,ho,_⟩:=I2.cell x c (B.sub x c e);rw[←hDe];exact Nat.ne_of_lt (Heap.lt_size ho)
  have hDL:D≠(bS X scope cl N C s2 H2 fp).env.locals:=hDC;have hDf:D∉(bS X scope cl N C s2 H2 fp).fs:=fun z=>by
   rcases List.mem_cons.mp (I2.stkSub D z) with q|q
   ·exact Nat.lt_irrefl _ (by have:=I2.lt;rw[hDe,←q]at this;exact this)
   ·exact I2.nofs (by rw[hDe];exact Nat.le_refl _) q
  refine LW (fun n s'=>∃i ys its k H',W i n ys H'/\Inv (bS X scope cl N C s2 H2 fp) [] (b9 nl ci σ) H' s'/\tn i s'.heap/\(∀b∈fp,H' b=none)/\H' D=none ∧
   s'.heap.get? D=some { cls:= .type "list",data:= .seq its.toArray k }/\Vals ys its/\ys.length<=sizeLine) ?_ m0 ?_
  ·rintro n s' ⟨i,ys,its,k,H',w',I',st',fr',hD',eD,rv,hz⟩;have IP:Inv (bS X scope cl N C s2 H2 fp) [(D,{ cls:= .type "list",data:= .seq its.toArray k })] (b9 nl ci σ) H' s':=I'.pins_of fun p hp=>by
    obtain rfl:p=_:=by simpa using hp
    exact⟨eD,hD',hDL,hDf,fun v z=>by cases z⟩
   have fpD:∀{H'':Hp},(∀b∈fp,H'' b=none)->∀b∈fp,q0 (bS X scope cl N C s2 H2 fp) [(D,{ cls:= .type "list",data:= .seq its.toArray k })] H'' b:=fun hn b hb =>
    ⟨hn b hb,(I4.ok.exf b hb).1,I4.ok.exfs b hb,.inl hb,(I4.ok.exf b hb).2,fun p hp=>by
     obtain rfl:p=_:=by simpa [bS] using hp
     exact fun z=>hDfp ((show D=b from z)▸hb)⟩
   rcases turn i n ys H' w' with⟨stop,q⟩|⟨go,step⟩
   ·refine thn (T.done (bS X scope cl N C s2 H2 fp) rfl rfl rfl hc i _ s' (b9 nl ci σ) H' _ IP (fpD fr') st' stop) fun r s'' ⟨hr,I''⟩=> ?_;subst hr;have eD2:=(I''.pin (D,_) (List.mem_append_right _ List.mem_cons_self)).1;have J1:Inv (bS X scope cl N C s2 H2 fp) [] (b9 nl ci σ) (upd H' D (.lst ys)) s'' :=
     (I''.pins_of (pins':=[]) fun p hp=>by cases hp).track hD' eD2 rv hz (by show s2.heap.objs.size<=D;rw[hDe];exact Nat.le_refl _) hDL hDX fun p hp=>by cases hp
    have K1:Inv X pins σ (upd H' D (.lst ys)) s'':=ST I2 f2 J1;obtain⟨mC,nsC,_⟩:=J1.loc;obtain⟨oC,es,ep,hoC,hdC,rC⟩:=id nsC;refine hfin D C s'' H' ys oC mC hD' (K1.pins_of fun p hp=> ?_) nsC (by rw[hDe];exact hCle) q;rcases List.mem_append.mp hp with hp|hp
    ·exact K1.pin p (List.mem_append_right _ hp)
    ·obtain rfl:p=(C,oC):=by simpa using hp
     refine⟨hoC,J1.free,Nat.ne_of_gt (Nat.lt_of_lt_of_le I2.lt (by rw[hDe];exact hCle)),I2.nofs (by rw[hDe];exact hCle),fun v z=> ?_⟩;rw[hdC]at z;cases z
   ·refine thn (T.item (bS X scope cl N C s2 H2 fp) rfl rfl rfl hc i _ s' (b9 nl ci σ) H' _ IP (fpD fr') st' go) fun r s4 ⟨u,hr,h4⟩=> ?_;subst hr;refine thn h4 fun _ s5 ⟨x,H5,I5,r5,y5,st5,fr5⟩=> ?_;have I5':=I5.pinned (fpD fr5) (T.obj _ _ st5);refine wpAny_mono (hg C s2 H2 fp _ s5 (b9 nl ci σ) H5 x u _ I5' r5 (step x H5 y5)) (fun _ s6 ⟨σ6,H6,I6,⟨hl6,hk6⟩,q6⟩=> ?_) fun _ _ f=>f.elim;refine wpAny_mono (hi C s2 H2 fp _ s6 σ6 H6 _ I6 q6) (fun b s7 ⟨H7,I7,q7⟩=> ?_) fun _ _ f=>f.elim;have pinD:∀{pp:List (Addr×Obj)}{σx:St}{Hx:Hp}{sx:Shared},Inv (bS X scope cl N C s2 H2 fp) ([(D,({ cls:= .type "list",data:= .seq its.toArray k }:Obj))]++nT fp s5.heap) σx Hx sx →
      sx.heap.get? D=some { cls:= .type "list",data:= .seq its.toArray k }/\Hx D=none/\tn (i+1) sx.heap/\(∀b∈fp,Hx b=none):=fun {pp σx Hx sx} Ix=>by
     refine⟨(Ix.pin (D,_) (List.mem_append_right _ (List.mem_append_left _ List.mem_cons_self))).1,(Ix.pin (D,_) (List.mem_append_right _ (List.mem_append_left _ List.mem_cons_self))).2.1,T.keep _ _ _ st5 fun b hb o e=>(Ix.pin (b,o) (List.mem_append_right _ (List.mem_append_right _ (lG hb e)))).1,fun b hb=> ?_⟩;obtain⟨o,e,d⟩:=T.obj _ _ st5 b hb;exact(Ix.pin (b,o) (List.mem_append_right _ (List.mem_append_right _ (lG hb e)))).2.1
    cases b with
    | false =>
     rw[if_neg Bool.false_ne_true]at q7 ⊢;obtain⟨m',hm',w7⟩:=q7;obtain⟨e7,n7,st7,fr7⟩:=pinD (pp:=[]) I7;exact⟨m',hm',i+1,ys,its,k,H7,w7,(I7.pins_of (pins':=[]) fun p hp=>by cases hp).weak hl6.symm hk6,st7,fr7,n7,e7,rv,hz⟩
    | true =>
     rw[if_pos rfl]at q7 ⊢;refine wpAny_mono (he C s2 H2 fp _ s7 σ6 H7 _ I7 q7) (fun y' s8 ⟨y,H8,I8,r8,hlt,m',hm',w8⟩=> ?_) fun _ _ f=>f.elim;obtain⟨e8,n8,st8,fr8⟩:=pinD (pp:=[]) I8;have I8f:Inv (bS X scope cl N C s2 H2 fp) (nT fp s5.heap) σ6 H8 s8:=I8.pins_of fun p hp=>I8.pin p (List.mem_append_right _ (List.mem_append_right _ hp));have I8t:=I8f.track n8 e8 rv hz (by show s2.heap.objs.size<=D;rw[hDe];exact Nat.le_refl _) hDL hDX fun p hp=>by
      have hp':p∈nT fp s5.heap:=by simpa [bS] using hp
      exact fun z=>hDfp (z▸(FP hp').1)
     refine wpAny_mono (cS (X:=bS X scope cl N C s2 H2 fp) (nT fp s5.heap) s8 σ6 _ (.ref D) [y] (.ref D) [y'] (fun _ H9=>H9=upd H8 D (.lst (ys++[y]))) I8t rfl (.cons r8 .nil)
      ⟨D,ys,y,rfl,rfl,aQ,hlt,ZZ⟩) (fun _ s9 ⟨_,H9,I9,_,e9⟩=> ?_) fun _ _ f=>f.elim
     subst e9;obtain⟨hz9,its9,k9,rv9,e9⟩:=I9.hok D _ aQ;have I9u:=I9.untrack n8;refine⟨m',hm',i+1,ys++[y],its9,k9,H8,w8,(I9u.pins_of (pins':=[]) fun p hp=>by cases hp).weak hl6.symm hk6,?_,fr8,n8,e9,rv9,hz9⟩;exact T.keep _ _ _ st5 fun b hb o e=>(I9u.pin (b,o) (List.mem_append_right _ (lG hb e))).1
  ·exact⟨0,[],[],0,H2,w0,I4,T.keep _ _ _ st2 fun b hb o e=>old b o e,fun b hb=>(f2 b hb).1,I2.hok.fresh (by rw[hDe];exact Nat.le_refl _),hacc,.nil,Nat.zero_le _⟩
 exact codeAny_compStart_list (loop _ rfl) (T.self _ 0 _ _ _ (T.keep _ _ _ st2 fun b hb o e=>old b o e) (loop _ rfl))
theorem c6 (hc:X.calm=true)(B:Blk X scope cl N nl ci)(hp:PI X tg iter wi)(hg:∀C s0 H0 fp,PG (bS X scope cl N C s0 H0 fp) tg g)(hi:∀C s0 H0 fp,PF (bS X scope cl N C s0 H0 fp) ifs ti)
  (he:∀C s0 H0 fp,PE (bS X scope cl N C s0 H0 fp) elt te)(hs:∀x,foldedSetIterable iter X.env x=pure x:=by intro _;rfl):PE X (.ListComp elt [⟨tg,iter,ifs,0⟩] scope pos) (P6 wi nl ci g ti te):=by
 intro pins s σ H Q I h;rw[eval_ListComp];refine wpAny_comprehension_free (use:=none) rfl hs B.clos B.kind B.names (thn (hp pins s σ H _ I h) fun v s1 h1=>thn h1 fun itv s2 h2=> ?_);obtain⟨it,fp,tn,J,H2,e,I2,T,st2,f2,hW⟩:=h2;subst e;refine GG (RR:=fun acc C=>compPost (model X.prog X.w) X.A X.xe none (EP X pins σ Q) acc C) hc B hg hi he I2 T st2 f2 hW ?_;intro D C s' H' ys oC m hD K1 hn hC q;refine⟨m,hn,fun h' hs'=> ?_⟩;have hL:C≠X.env.locals:=(K1.pin (C,oC) (by simp)).2.2.1;have I9:Inv X pins σ (upd H' D (.lst ys)) { s' with heap:=h',toks:=s'.toks }:=K1.unpinned.turned (t':=s'.toks) (it:=C) (fun b o hb e=>hs'.extBut b o hb e) (K1.pin (C,oC) (by simp)).2.1 hL (.inr (Nat.le_trans I2.sz hC)) (fun x c e z=> ?_) fun p hp z=> ?_
 ·exact⟨.ref D,_,I9,rfl,q D hD⟩
 ·obtain⟨v,o,ho,_⟩:=I2.cell x c e;exact absurd (Nat.lt_of_lt_of_le (Heap.lt_size ho) (z▸hC)) (Nat.lt_irrefl _)
 ·exact absurd (Nat.lt_of_lt_of_le (Heap.lt_size (I2.pin p hp).1) (z▸hC)) (Nat.lt_irrefl _)
theorem iI {i:Nat}{x:Str}{pos' spos:Pos} (hN:X.N.Nodup) (hix:X.N[i]? =some x) (hx:Loc X.env.scope x) (hc:X.calm=true) (B:Blk X scope cl N nl ci) (hp:PI X tg iter wi) (hg:∀C s0 H0 fp,PG (bS X scope cl N C s0 H0 fp) tg g)
  (hi:∀C s0 H0 fp,PF (bS X scope cl N C s0 H0 fp) ifs ti)(he:∀C s0 H0 fp,PE (bS X scope cl N C s0 H0 fp) elt te)
  (hsw:swapsWith (.ListComp elt [⟨tg,iter,ifs,0⟩] scope pos) (some (.Name x pos')) spos.line X.env=pure true:=by rfl)(hs:∀x,foldedSetIterable iter X.env x=pure x:=by intro _;rfl)
  (hf:X.fn x=true∨X.env.scope.names.lookup x=some .local:=by first|exact .inl rfl|exact .inr rfl|assumption) :
  PS X (.Assign [.Name x pos'] (.ListComp elt [⟨tg,iter,ifs,0⟩] scope pos) spos) (OO (P6 wi nl ci g ti te) (bZ i)):=by
 intro pins s σ H D I h;rw[exec_Assign_Name_used _ _ _ _ hsw];refine wpAny_bind (wpAny_standAt (wpAny_bind ?_));show wpAny _ X.A (do let _ ←comprehension (.ListComp elt [⟨tg,iter,ifs,0⟩] scope pos) scope X.env _ (newList []) false (eval iter X.env) (some (assign (.Name x pos') X.env))) _ _ s;refine wpAny_bind (wpAny_mono (wpAny_comprehension_free (use:=some (assign (.Name x pos') X.env)) (Q:=fun _ s'=>SP X pins D .next s') rfl hs B.clos B.kind B.names
  (thn (hp pins s σ H _ I h) fun v s1 h1=>thn h1 fun itv s2 h2=> ?_)) (fun _ s' hq=>wpAny_pure (wpAny_pure hq)) fun _ _ e=>e)
 obtain⟨it,fp,tn,J,H2,e,I2,T,st2,f2,hW⟩:=h2;subst e;refine GG (RR:=fun acc C=>compPost (model X.prog X.w) X.A X.xe (some (assign (.Name x pos') X.env)) (fun _ s'=>SP X pins D .next s') acc C) hc B hg hi he I2 T st2 f2 hW ?_;intro Dd C s' H' ys oC m hD K1 hn hC q;show wpAny _ X.A (assign (.Name x pos') X.env (.ref Dd)) _ _ _;refine thn (aN (i:=i) hN hix hx hf (pins++[(C,oC)]) s' σ (upd H' Dd (.lst ys)) (.ref Dd) (.ref Dd) (fun σ' H''=>D.nx σ' H'') K1 rfl (q Dd hD)) fun _ s'' ⟨σ',H'',K2,q2⟩=> ?_;have eC:=K2.pin (C,oC) (by simp);obtain⟨oC',es,ep,hoC,hdC,rC⟩:=id hn;have eo:oC'=oC:=by
  have:=(K1.pin (C,oC) (by simp)).1;rw[hoC]at this;exact Option.some.inj this
 subst eo;refine⟨m,⟨oC',es,ep,eC.1,hdC,rC⟩,fun h' hs'=> ?_⟩;have hL:C≠X.env.locals:=eC.2.2.1;have I9:Inv X pins σ' H'' { s'' with heap:=h',toks:=s''.toks }:=K2.unpinned.turned (t':=s''.toks) (it:=C) (fun b o hb e=>hs'.extBut b o hb e) eC.2.1 hL (.inr (Nat.le_trans I2.sz hC)) (fun x c e z=> ?_) fun p hp z=> ?_
 ·exact⟨σ',H'',I9,q2⟩
 ·obtain⟨v,o,ho,_⟩:=I2.cell x c e;exact absurd (Nat.lt_of_lt_of_le (Heap.lt_size ho) (z▸hC)) (Nat.lt_irrefl _)
 ·exact absurd (Nat.lt_of_lt_of_le (Heap.lt_size (I2.pin p hp).1) (z▸hC)) (Nat.lt_irrefl _)
end
def Its (x:Str):It:=⟨fun i _=>i<x.cps.size,fun i H v H'=>H'=H/\∃c,x.cps[i]? =some c/\v= .str ⟨#[c]⟩,fun i _=>i=x.cps.size⟩
theorem K6 {P:Program}{w:World}{K:W.Frag}{tg:Expr} (it:Addr) (x:Str) (t:Tok) (ty:String)
  (hty:["enumerate","zip","dict_itemiterator","dict_reverseitemiterator","odict_iterator","itertools.zip_longest","itertools.pairwise"].contains ty=false)
  (W:∀A':Around,A'.handled=none->Walks P w A' it [it] [it] x.cps.size (SignAt x) (fun i h=>h.IsStrIter it ty x t i))
  (hself:∀(A:Around) (i:Nat) (s:Shared) (Q:Value->Shared->Prop) (E:Value->Shared->Prop),s.heap.IsStrIter it ty x t i->Q (.ref it) s->wpAny (model P w) A (pyIter (.ref it)) Q E s) :
  A3 P w K tg (Its x) [it] it (fun i h=>h.IsStrIter it ty x t i) where
 mem:=by simp
 obj:=fun i h st b hb=>by
  have e:b=it:=by simpa using hb
  subst e;obtain⟨o,e,c,d⟩:=st;exact⟨o,e,fun v z=>by rw[d]at z;cases z⟩
 keep:=fun i h h' st k=>let ⟨o,ho,r⟩:=st;⟨o,k it (by simp) o ho,r⟩
 item:=by
  intro X hP hw hK hc i pins s σ H E I hf st hg;subst hP hw hK;obtain⟨f0,f1,f2,f3,f4,f5⟩:=hf it (by simp);refine(W X.A (I.ok.hd hc)).item i s _ _ hg st fun v h' tk hv st' kk=> ?_;obtain⟨c,u,hc',rfl⟩:=hv;have I1:Inv X pins σ H { s with heap:=h',toks:=tk }:=I.turned (fun b o hb e=>kk b o (by simpa using hb) e) f0 f1 f3 f4 f5;obtain⟨o,e,c1,d⟩:=id st';exact⟨_,rfl,OU (s:={ s with heap:=h',toks:=tk }) e c1 d hty ⟨.str ⟨#[c]⟩,H,I1,⟨u,rfl⟩,⟨rfl,c,hc',rfl⟩,st',fun b hb=>(hf b hb).1⟩⟩
 done:=by
  intro X hP hw hK hc i pins s σ H E I hf st hg;subst hP hw hK;obtain⟨f0,f1,f2,f3,f4,f5⟩:=hf it (by simp);have e:i=x.cps.size:=hg;subst e;exact(W X.A (I.ok.hd hc)).done s _ _ st fun h' tk kk=>⟨rfl,I.turned (fun b o hb e=>kk b o (by simpa using hb) e) f0 f1 f3 f4 f5⟩
 self:=hself
def aEc (tl:TE):TI:=fun σ H R=>tl σ H fun x H1=>∃z,x= .str z/\R (Its z) H1
theorem aCC {X:Cx}{tg l:Expr}{tl:TE} (hl:PE X l tl):PI X tg l (aEc tl):=by
 intro pins s σ H R I h;refine thn (hl pins s σ H _ I h) fun v s1 ⟨x,H1,I1,rx,z,ez,q⟩=> ?_;subst ez;obtain⟨t,rfl⟩:=rx;cases ha:z.cps.all (·<128)
 ·refine wpAny_pyIter_wide ha ⟨s1.heap.objs.size,[s1.heap.objs.size],_,Its z,H1,rfl,I1.kept (t':=s1.toks) fun b u e=>Heap.get?_push_of_some _ e,K6 _ z t "str_iterator" (by decide) (fun A' hA=>Walks.strWide hA _ z t) (fun _ _ _ _ _ st h=>wpAny_pyIter_striter_wide st h),⟨_,Heap.get?_push_size _ rfl,rfl,rfl⟩,fun b hb=> ?_,q⟩;have e:b=s1.heap.objs.size:=by simpa using hb
  subst e;exact I1.fpOk (Nat.le_refl _) (I1.hok.fresh (Nat.le_refl _))
 ·refine wpAny_pyIter_ascii ha ⟨s1.heap.objs.size,[s1.heap.objs.size],_,Its z,H1,rfl,I1.kept (t':=s1.toks) fun b u e=>Heap.get?_push_of_some _ e,K6 _ z t "str_ascii_iterator" (by decide) (fun A' hA=>Walks.strAscii hA _ z t) (fun _ _ _ _ _ st h=>wpAny_pyIter_striter_ascii st h),⟨_,Heap.get?_push_size _ rfl,rfl,rfl⟩,fun b hb=> ?_,q⟩;have e:b=s1.heap.objs.size:=by simpa using hb
  subst e;exact I1.fpOk (Nat.le_refl _) (I1.hok.fresh (Nat.le_refl _))
theorem ZE {J:It}{g:TG}{ti:TT}{te:TE}{σ0:St}{fin:List V->Hp->Prop}{H1:Hp} (n:Nat) (f:Nat->V) (hn:n<=sizeLine) (Ok:Hp->Prop) (h0:Ok H1)
  (hst:∀H,Ok H->J.stop n H)(hgo:∀i H,i<n->Ok H->J.go i H)
  (hstep:∀i H x H',i<n->Ok H->J.yld i H x H'->g x σ0 H' fun σ2 H2=>(σ2.length=σ0.length/\∀(j:Nat) v,σ0[j]? =some (some v)->σ2[j]? =some (some v))/\ti σ2 H2 fun b H3=>b=true/\te σ2 H3 fun y H4=>y=f i/\Ok H4)
  (mono:∀σ H (Q Q':Bool->Hp->Prop),(∀b H',Q b H'->Q' b H')->ti σ H Q->ti σ H Q')(mono2:∀σ H (Q Q':VK),(∀b H',Q b H'->Q' b H')->te σ H Q->te σ H Q')(mono3:∀x σ H (Q Q':St->Hp->Prop),(∀σ' H',Q σ' H'->Q' σ' H')->g x σ H Q->g x σ H Q')
  (hfin:∀H,Ok H->fin ((List.range n).map f) H):dI J g ti te σ0 fin H1:=by
 refine⟨fun i m ys H=>m=n - i/\i<=n/\ys=(List.range i).map f/\Ok H,⟨n,by simp,Nat.zero_le _,rfl,h0⟩,?_⟩;rintro i m ys H ⟨rfl,hi,rfl,ok⟩
 by_cases hlt:i<n
 ·refine .inr ⟨hgo i H hlt ok,fun x H' y=> ?_⟩;refine mono3 _ _ _ _ _ (fun σ' H'' q=>⟨q.1,mono _ _ _ _ (fun b H3 q=> ?_) q.2⟩) (hstep i H x H' hlt ok y);obtain⟨rfl,q⟩:=q;rw[if_pos rfl];refine mono2 _ _ _ _ (fun v H4 q=> ?_) q;obtain⟨rfl,ok4⟩:=q;refine⟨by rw[List.length_map,List.length_range];lia,n - (i+1),by lia,rfl,hlt,?_,ok4⟩;rw[List.range_succ,List.map_append];rfl
 ·have e:i=n:=by lia
  subst e;exact .inl ⟨hst H ok,hfin H ok⟩
section
variable {X:Cx}
theorem KU:∀bs:List Bool,(List.range bs.length).all (fun i=>bs.getD i true)=bs.all id
 | []=>rfl
 | b::bs=>by
  rw[List.length_cons,List.range_succ_eq_map,List.all_cons,List.all_map,List.all_cons,←KU bs];rfl
theorem EW (hc:X.calm=true):dS X (.builtin "all") (fun xs H Q=>∃(p:Addr) (bs:List Bool),xs=[.ref p]/\SqL X.K H p (bs.map V.bl)/\Q (.bl (bs.all id)) H):=by
 intro pins s σ H xs us Q I r h;obtain⟨p,bs,rfl,hq,q⟩:=h;obtain⟨u,rfl,rx⟩:=nG r;cases rx;obtain⟨its,r',pl,hz⟩:=I.list hq;have hl:=pl.isList;have hlt:p<s.heap.objs.size:=by obtain⟨_,e,_⟩:=hl;exact Heap.lt_size e
 have hlen:bs.length=its.length:=by have:=r'.length;rw[List.length_map]at this;exact this
 refine call_all_walk (wpAny_pyIter_list hl ?_);refine⟨s.heap.objs.size,_,_,its.toArray.size,_,_,fun i=>bs.getD i true,rfl,Walks.list (show X.A.in1.handled=none from I.ok.hd hc) s.heap.objs.size p (Nat.ne_of_lt hlt) its.toArray,⟨⟨_,Heap.get?_push_size _ rfl,rfl,rfl⟩,hl.push _⟩,?_,?_⟩
 ·intro i v s' Q' E' hi hQ;have hi':its[i]? =some v:=by simpa using hi
  have hib:i<bs.length:=by rw[hlen];exact(List.getElem?_eq_some_iff.mp hi').1
  obtain⟨u,hu,ru⟩:=r'.get (i:=i) (x:=V.bl bs[i]) (by rw[List.getElem?_map,List.getElem?_eq_getElem hib];rfl);rw[hi']at hu;cases hu;have:v=Value.bool bs[i]:=ru;subst this;refine wpAny_truthy_bool ?_;have eb:bs.getD i true=bs[i]:=by rw[List.getD_eq_getElem?_getD,List.getElem?_eq_getElem hib];rfl
  have hQ':Q' (bs.getD i true) s':=hQ;rw[eb]at hQ';exact hQ'
 ·intro h' tk hk;have eall:(List.range its.toArray.size).all (fun i=>bs.getD i true)=bs.all id:=by
   rw[List.size_toArray,←hlen];exact KU bs
  rw[eall];refine⟨.bl (bs.all id),H,?_,rfl,q⟩;have I1:Inv X pins σ H { s with heap:=s.heap.push { cls:= .type "list_iterator",data:= .fields #[.ref p,.int 0 0] },toks:=s.toks }:=I.kept fun b u e=>Heap.get?_push_of_some _ e;obtain⟨f0,f1,f2,f3,f4,f5⟩:=I.fpOk (Nat.le_refl _) (I.hok.fresh (Nat.le_refl _));exact I1.turned (fun b o hb e=>hk b o (by simpa using hb) e) f0 f1 f3 f4 f5
theorem MI:dS X (.builtin "isinstance") (fun xs H Q=>∃x c t u b,xs=[x,c]/\jU X.K H x t/\RelV c u/\W.kitOne X.K t u=some b/\Q (.bl b) H):=by
 intro pins s σ H xs us Q I r h;obtain⟨x,c,t,u,b,rfl,ty,rc,e,q⟩:=h;obtain⟨v1,v2,rfl,r1,r2⟩:=X9 r;have e2:v2=u:=by
  cases c with
  | non=>exact(show v2=_ from r2).trans (show u=_ from rc).symm
  | bl b=>exact(show v2=_ from r2).trans (show u=_ from rc).symm
  | ref b=>exact(show v2=_ from r2).trans (show u=_ from rc).symm
  | ty b=>exact(show v2=_ from r2).trans (show u=_ from rc).symm
  | int i =>
   obtain⟨t1,rfl⟩:=(show ∃t,u=_ from rc)
   cases ty<;>simp[W.kitOne,W.kitCls]at e
  | str i =>
   obtain⟨t1,rfl⟩:=(show ∃t,u=_ from rc)
   cases ty<;>simp[W.kitOne,W.kitCls]at e
  | byt i =>
   obtain⟨t1,rfl⟩:=(show ∃t,u=_ from rc)
   cases ty<;>simp[W.kitOne,W.kitCls]at e
  | flt i =>
   obtain⟨t1,rfl⟩:=(show ∃t,u=_ from rc)
   cases ty<;>simp[W.kitOne,W.kitCls]at e
 subst e2;exact T9 I r1 ty e fun tk=>⟨.bl b,H,I.tok tk,rfl,q⟩
theorem TN:OpR X (compareOp .LtE) (fun x y H Q=>∃i j,x= .str i/\y= .str j/\Q (.bl (!decide (j.cps.toList<i.cps.toList))) H):=by
 intro pins s σ H x y v u Q I rx ry h;obtain⟨i,j,rfl,rfl,q⟩:=h;obtain⟨t,rfl⟩:=rx;obtain⟨t',rfl⟩:=ry;exact P.le_str ⟨.bl _,H,I,rfl,q⟩
end
def XU (xs:List (Str×NameKind))(XN:List Str)(ns:List (Str×NameKind))(N:List Str)(nl:Nat)(ci:List Nat):Bool :=
 (ns.all fun y=>y.2 != .cell&&(y.2 != .local||ns.lookup y.1==some .local)&&(y.2 != .free||(xs.lookup y.1==some .cell&&ns.lookup y.1==some .free))) &&
 (N.length==nl+ci.length) &&
 (List.range ci.length).all fun j=>match ci[j]?,N[nl+j]? with
  | some i,some n=>XN[i]? ==some n&&xs.lookup n==some .cell&&ns.lookup n==some .free
  | _,_=>false
def wE (ns:List (Str×NameKind))(cs:List (Str×Addr)):List (Str×Addr)->List (Str×Addr)
 | acc=>ns.foldl (fun acc y=>if y.2== .free then (y.1,(cs.lookup y.1).getD 0)::acc else acc) acc
theorem wZ {env:Env}:∀(ns:List (Str×NameKind)) (acc:List (Str×Addr)),(∀y∈ns,y.2= .free->∃c,env.cells.lookup y.1=some c) →
  (forIn ns acc fun x r=>(do
   let (name,kind):=x
   if (kind==NameKind.free)=true then do
     let c ←cellOf env name
     pure (ForInStep.yield ((name,c)::r))
    else pure (ForInStep.yield r)):Sem (List (Str×Addr)))=pure (wE ns env.cells acc)
 | [],acc,_=>rfl
 | (n,k)::r,acc,h=>by
  have ih:=fun acc=>wZ r acc fun y hy=>h y (List.mem_cons_of_mem _ hy);rw[List.forIn_cons]
  by_cases hk:k= .free
  ·subst hk;obtain⟨c,e⟩:=h (n,.free) List.mem_cons_self rfl;have e1:cellOf env n=pure c:=by unfold cellOf;rw[e]
   simp only[beq_self_eq_true,if_true,e1];show (forIn r ((n,c)::acc) _:Sem (List (Str×Addr)))=_;rw[ih];show _=pure (wE ((n,NameKind.free)::r) env.cells acc);simp only[wE,List.foldl_cons,beq_self_eq_true,if_true,e,Option.getD_some]
  ·have hb:(k==NameKind.free)=false:=by simpa using hk
   simp only[hb,Bool.false_eq_true,if_false];show (forIn r acc _:Sem (List (Str×Addr)))=_;rw[ih];simp only[wE,List.foldl_cons,hb,Bool.false_eq_true,if_false]
theorem jH {cs:List (Str×Addr)}:∀(ns:List (Str×NameKind)) (acc:List (Str×Addr)) (n:Str),(∀y∈ns,y.2= .free->∃c,cs.lookup y.1=some c) →
  ((n,NameKind.free)∈ns∨acc.lookup n=cs.lookup n)->(∀c,acc.lookup n=some c->cs.lookup n=some c)->(wE ns cs acc).lookup n=cs.lookup n
 | [],acc,n,_,h,_=>by
  rcases h with h|h
  ·cases h
  ·exact h
 | (m,k)::r,acc,n,hc,h,hs=>by
  have hc':∀y∈r,y.2= .free->∃c,cs.lookup y.1=some c:=fun y hy=>hc y (List.mem_cons_of_mem _ hy);show (wE r cs (if k== .free then (m,(cs.lookup m).getD 0)::acc else acc)).lookup n=cs.lookup n
  by_cases hk:k= .free
  ·subst hk;obtain⟨c,e⟩:=hc (m,.free) List.mem_cons_self rfl;simp only[beq_self_eq_true,if_true,e,Option.getD_some]
   by_cases hm:n=m
   ·subst hm;have q:List.lookup n ((n,c)::acc)=some c:=by simp[List.lookup_cons]
    exact jH r _ n hc' (.inr (q.trans e.symm)) fun c' z=>by rw[q]at z;cases z;exact e
   ·have hb:(n==m)=false:=by simpa using hm
    have q:List.lookup n ((m,c)::acc)=acc.lookup n:=by simp[List.lookup_cons,hb]
    refine jH r _ n hc' ?_ fun c' z=>hs c' (q▸z);rcases h with h|h
    ·rcases List.mem_cons.mp h with z|z
     ·cases z;exact absurd rfl hm
     ·exact .inl z
    ·exact .inr (q.trans h)
  ·have hb:(k==NameKind.free)=false:=by simpa using hk
   simp only[hb,Bool.false_eq_true,if_false];refine jH r _ n hc' ?_ hs;rcases h with h|h
   ·rcases List.mem_cons.mp h with z|z
    ·cases z;exact absurd rfl hk
    ·exact .inl z
   ·exact .inr h
theorem JJ {cs:List (Str×Addr)}:∀(ns:List (Str×NameKind)) (acc:List (Str×Addr)),(∀y∈ns,y.2= .free->∃c,cs.lookup y.1=some c) →
  (∀n c,acc.lookup n=some c->cs.lookup n=some c)->∀n c,(wE ns cs acc).lookup n=some c->cs.lookup n=some c
 | [],acc,_,hs,n,c,h=>hs n c h
 | (m,k)::r,acc,hc,hs,n,c,h=>by
  have hc':∀y∈r,y.2= .free->∃c,cs.lookup y.1=some c:=fun y hy=>hc y (List.mem_cons_of_mem _ hy);have h':(wE r cs (if k== .free then (m,(cs.lookup m).getD 0)::acc else acc)).lookup n=some c:=h;refine JJ r _ hc' ?_ n c h';intro n' c' z
  by_cases hk:k= .free
  ·subst hk;obtain⟨d,e⟩:=hc (m,.free) List.mem_cons_self rfl;simp only[beq_self_eq_true,if_true,e,Option.getD_some]at z
   by_cases hm:n'=m
   ·subst hm;simp[List.lookup_cons]at z;subst z;exact e
   ·have hb:(n'==m)=false:=by simpa using hm
    simp[List.lookup_cons,hb]at z;exact hs n' c' z
  ·have hb:(k==NameKind.free)=false:=by simpa using hk
   simp only[hb,Bool.false_eq_true,if_false]at z;exact hs n' c' z
theorem mD {env:Env}(hkf:env.scope.kind= .function):∀{names:List (Str×NameKind)}{x:Str},names.lookup x=some .free->env.kindOf x=some .cell →
  (names.map fun (n,k)=>if (k==NameKind.free&&env.scope.kind== .function&&env.kindOf n==some .cell) then (n,NameKind.cell) else (n,k)).lookup x=some .cell
 | [],_,h,_=>by simp at h
 | (n,k)::r,x,h,hc=>by
  show List.lookup x ((if (k==NameKind.free&&env.scope.kind== .function&&env.kindOf n==some .cell)=true then (n,NameKind.cell) else (n,k))::_)=_;cases hx:x==n with
  | true =>
   simp only[List.lookup_cons,hx]at h;cases h;have e:x=n:=by simpa using hx
   subst e;rw[hkf,hc];simp[List.lookup_cons]
  | false =>
   simp only[List.lookup_cons,hx]at h;have ih:=mD hkf h hc
   split
   ·simp only[List.lookup_cons,hx];exact ih
   ·simp only[List.lookup_cons,hx];exact ih
theorem gQ {env:Env}:∀{names:List (Str×NameKind)}{x:Str}{k':NameKind},(∀y∈names,y.2≠ .cell)->(k'= .cell∨k'= .free) →
  (names.map fun (n,k)=>if (k==NameKind.free&&env.scope.kind== .function&&env.kindOf n==some .cell) then (n,NameKind.cell) else (n,k)).lookup x=some k'->(x,NameKind.free)∈names
 | [],_,_,_,_,h=>by simp at h
 | (n,k)::r,x,k',hn,hk',h=>by
  have h':List.lookup x ((if (k==NameKind.free&&env.scope.kind== .function&&env.kindOf n==some .cell)=true then (n,NameKind.cell) else (n,k))::r.map _)=some k':=h;cases hx:x==n with
  | true =>
   have e:x=n:=by simpa using hx
   subst e
   by_cases hf:k= .free
   ·subst hf;exact List.mem_cons_self
   ·have hb:(k==NameKind.free)=false:=by simpa using hf
    simp only[hb,Bool.false_and,Bool.false_eq_true,if_false,List.lookup_cons,hx]at h';cases h';rcases hk' with z|z
    ·exact absurd z (hn (x,k) List.mem_cons_self)
    ·exact absurd z hf
  | false =>
   have h2:List.lookup x (r.map fun (n,k)=>if (k==NameKind.free&&env.scope.kind== .function&&env.kindOf n==some .cell) then (n,NameKind.cell) else (n,k))=some k':=by
    split at h'
    ·simp only[List.lookup_cons,hx]at h';exact h'
    ·simp only[List.lookup_cons,hx]at h';exact h'
   exact List.mem_cons_of_mem _ (gQ (fun y hy=>hn y (List.mem_cons_of_mem _ hy)) hk' h2)
theorem blk {X:Cx}{scope:Scope}{N:List Str}{nl:Nat}{ci:List Nat} (n0:Nat) (hX:X.env.cells=cellsFrom n0 X.env.scope.names []) (hkf:X.env.scope.kind= .function) (hk:scope.kind= .function)
  (h:XU X.env.scope.names X.N scope.names N nl ci=true):Blk X scope (wE scope.names X.env.cells []) N nl ci:=by
 unfold XU at h;rw[Bool.and_eq_true,Bool.and_eq_true]at h;obtain⟨⟨h1,h2⟩,h3⟩:=h;rw[List.all_eq_true]at h1;have h1':∀y∈scope.names,y.2≠ .cell/\(y.2= .local->scope.names.lookup y.1=some .local)/\(y.2= .free->X.env.scope.names.lookup y.1=some .cell/\scope.names.lookup y.1=some .free):=fun y hy=>by
  have q:=h1 y hy;simp only[Bool.and_eq_true,Bool.or_eq_true,bne_iff_ne,ne_eq,beq_iff_eq]at q;obtain⟨⟨q1,q2⟩,q3⟩:=q;exact⟨q1,fun e=>q2.resolve_left fun z=>z e,fun e=>q3.resolve_left fun z=>z e⟩
 have hcs:∀y∈scope.names,y.2= .free->∃c,X.env.cells.lookup y.1=some c:=fun y hy e=>by
  rw[hX];exact u0 ((h1' y hy).2.2 e).1
 refine⟨hk,fun y hy=>(h1' y hy).2.1,fun y hy=>(h1' y hy).1,?_,?_,?_,by simpa using h2,?_⟩
 ·unfold closureFor;refine(congrArg (fun m:Sem (List (Str×Addr))=>m >>= fun cs=>pure cs) (wZ scope.names [] hcs)).trans ?_;rfl
 ·exact JJ scope.names [] hcs fun n c z=>by cases z
 ·intro n hn;have hm:(n,NameKind.free)∈scope.names:=by
   rcases hn with z|z
   ·exact gQ (fun y hy=>(h1' y hy).1) (.inl rfl) z
   ·exact gQ (fun y hy=>(h1' y hy).1) (.inr rfl) z
  obtain⟨c,e⟩:=hcs _ hm rfl;exact⟨c,(jH scope.names [] n hcs (.inl hm) fun c z=>by cases z).trans e⟩
 ·intro j i hj;have hjl:j<ci.length:=(List.getElem?_eq_some_iff.mp hj).1;rw[List.all_eq_true]at h3;have q:=h3 j (List.mem_range.mpr hjl);rw[hj]at q;cases e:N[nl+j]? with
  | none=>rw[e]at q;cases q
  | some n =>
   rw[e]at q;simp only[Bool.and_eq_true,beq_iff_eq]at q;obtain⟨⟨q1,q2⟩,q3⟩:=q;refine⟨n,rfl,q1,.inl q2,.inl (mD hkf q3 q2),?_⟩;exact jH scope.names [] n hcs (.inl (PySem.mem_of_lookup q3)) fun c z=>by cases z
structure Fc (P:Program)(w:World)(K:W.Frag)(mg:Str->Option Value)(base:Heap)(x:Str)(k:Nat)(ps:List Str)(sp:Sp):Prop where
 ex:∃f fd,mg x=some (.ref f)/\W.keepIn K (.ref f)=true/\Binds K fd ps []/\FnOk P w K mg base CX0 k f fd ps sp
theorem bK {X:Cx}{x:Str}{k k':Nat}{ps:List Str}{sp:Sp}{e:Expr}{es:List Expr}{t:TA}{p pos:Pos} (F:Fc X.prog X.w X.K X.mg X.base x k ps sp) (hr:Room k' X.A) (ha:PA X (e::es) t) (hk:k<=k':=by decide) (hg:Gl X x:=by rfl)
  (hdb:(x==("__debug__" :Str))=false:=by decide)(he:starEach (e::es) X.env=(false,eval e X.env)::starEach es X.env:=by rfl)(hpl:(backTo pos (starEach es X.env)).any (·.1)=false:=by rfl) :
  PE X (.Call (.Name x p) (e::es) [] pos) (v7 sp [] E0 t):=by
 obtain⟨f,fd,hm,kp,b,G⟩:=F.ex;exact Z5 G (hr.mono hk) hg hm kp b .nil sO ha hdb he hpl
theorem DP {X:Cx}{x:Str}{n:String}{pos:Pos} (hg:Gl X x) (hm:X.mg x=none) (hv:bootBuiltins x=some (.type n)) (hn:x≠ "__name__" :=by decide) (hd:(x==("__debug__" :Str))=false:=by decide):PE X (.Name x pos) (tC (.ty n)):=Z2 hg hm hv rfl hn hd
theorem aAV {X:Cx}{x:Str}{i:Int}{t:Tok}{pos:Pos} (hg:Gl X x) (hm:X.mg x=some (.int i t)) (hd:(x==("__debug__" :Str))=false:=by decide):PE X (.Name x pos) (tC (.int i)):=aA8 hg hm ⟨t,rfl⟩ hd
theorem gL:bootBuiltins "isinstance" =some (.builtin "isinstance"):=by decide +kernel
theorem aCQ:bootBuiltins "all" =some (.builtin "all"):=by decide +kernel
theorem jJ:bootBuiltins "len" =some (.builtin "len"):=by decide +kernel
theorem DG:bootBuiltins "min" =some (.builtin "min"):=by decide +kernel
theorem QY:bootBuiltins "int" =some (.type "int"):=by decide +kernel
theorem aCk:bootBuiltins "str" =some (.type "str"):=by decide +kernel
theorem OF:bootBuiltins "bool" =some (.type "bool"):=by decide +kernel
theorem NT:bootBuiltins "list" =some (.type "list"):=by decide +kernel
theorem ZV:bootBuiltins "dict" =some (.type "dict"):=by decide +kernel
inductive BTy (K:W.Frag)(H:Hp):V->String->Prop where
 | non:BTy K H .non "NoneType"
 | bl (x:Bool):BTy K H (.bl x) "bool"
 | int (i:Int):BTy K H (.int i) "int"
 | str (x:Str):BTy K H (.str x) "str"
 | lst {a:Addr}{xs:List V} (e:H a=some (.lst xs)):BTy K H (.ref a) "list"
 | tup {a:Addr}{xs:List V} (e:H a=some (.tup xs)):BTy K H (.ref a) "tuple"
 | dK {a:Addr}{kvs:List (Key×V)} (e:H a=some (.dK kvs)):BTy K H (.ref a) "dict"
theorem BTy.ty {K:W.Frag}{H:Hp}{x:V}{n:String} (b:BTy K H x n):jU K H x (.type n):=by
 cases b with
 | non=>exact .non
 | bl=>exact .bl _
 | int=>exact .int _
 | str=>exact .str _
 | lst e=>exact .lst e
 | tup e=>exact .tup e
 | dK e=>exact .dK e
def isB (n c:String):Bool:=n==c||(n== "bool" &&c== "int")
theorem HJ {K:W.Frag}{H:Hp}{x:V}{n:String} (b:BTy K H x n) (c:String) (hc:c= "int" ∨c= "bool" ∨c= "str"):W.kitOne K (.type n) (.type c)=some (isB n c):=by
 cases b<;>rcases hc with rfl|rfl|rfl<;>kernel_rfl
theorem S0 {J:It}{te:TE}{σ0:St}{fin:List V->Hp->Prop}{H1:Hp} (n:Nat) (Ok:Nat->List V->Hp->Prop) (hn:n<=sizeLine) (h00:σ0[0]? =some none) (h0:Ok 0 [] H1) (hlen:∀i ys H,Ok i ys H->ys.length<=i)
  (hst:∀ys H,Ok n ys H->J.stop n H/\fin ys H)(hstep:∀i ys H,i<n->Ok i ys H->J.go i H/\∀x H',J.yld i H x H'->∀R:VK,(∀y H4,Ok (i+1) (ys++[y]) H4->R y H4)->te (σ0.set 0 (some x)) H' R):dI J (bZ 0) BQ te σ0 fin H1:=by
 refine⟨fun i m ys H=>m=n - i/\i<=n/\Ok i ys H,⟨n,by simp,Nat.zero_le _,h0⟩,?_⟩;rintro i m ys H ⟨rfl,hi,ok⟩
 by_cases hlt:i<n
 ·obtain⟨go,st⟩:=hstep i ys H hlt ok;refine .inr ⟨go,fun x H' y=>⟨⟨by simp,fun j v hv=> ?_⟩,?_⟩⟩
  ·cases j with
   | zero=>rw[h00]at hv;cases hv
   | succ j=>rw[List.getElem?_set_ne (by lia)];exact hv
  ·unfold BQ
   dsimp only
   rw[if_pos rfl];exact st x H' y _ fun z H4 ok4=>⟨by have:=hlen i ys H ok;lia,n - (i+1),by lia,rfl,hlt,ok4⟩
 ·have e:i=n:=by lia
  subst e;exact .inl (hst ys H ok)
theorem P4 {lo:Int}{n:Nat}{te:TE}{σ0:St}{fin:List V->Hp->Prop}{H1:Hp} (Ok:Nat->List V->Hp->Prop) (hn:n<=sizeLine) (h00:σ0[0]? =some none) (h0:Ok 0 [] H1) (hlen:∀i ys H,Ok i ys H->ys.length<=i) (hfin:∀ys H,Ok n ys H->fin ys H)
  (hstep:∀i ys H,i<n->Ok i ys H->∀R:VK,(∀y H4,Ok (i+1) (ys++[y]) H4->R y H4)->te (σ0.set 0 (some (.int (lo+i)))) H R):dI (Itr lo n) (bZ 0) BQ te σ0 fin H1 :=
 S0 n Ok hn h00 h0 hlen (fun ys H ok=>⟨Nat.le_refl _,hfin ys H ok⟩) fun i ys H hi ok=>⟨hi,fun x H' y=>by
  obtain⟨e1,e2⟩:=y;subst e1 e2;exact hstep i ys _ hi ok⟩
section
variable {X:Cx}
end
structure FunV (K:W.Frag)(x qual:Str)(st:Stmt)(f:Addr)(fd:FuncData):Prop where
 ex:∃(oc:Value) (od:Option Addr) (dV kV doc pm:Value) (an:Option Addr) (cdv ct:Value) (osl:Array (Option Value)),
  fd=W.fnOf x qual (dP st) (c4 st) (aF st) dV kV doc pm an cdv ct/\K.lookup f=some ⟨oc,od,.func fd,osl⟩/\W.codeIn K cdv qual=true
 kp:W.keepIn K (.ref f)=true
section
variable {P:Program}{w:World}{K:W.Frag}{mg:Str->Option Value}{base:Heap}
theorem FunV.ok {x qual:Str}{st:Stmt}{f:Addr}{fd:FuncData}{N ps:List Str}{k:Nat}{sp:Sp} (F:FunV K x qual st f fd) (S:aL N ps (aF st)) (len:∀vs H Q E,sp vs H Q E->vs.length=ps.length)
  (hbody:∀(cdv:Value) (A:Around) (outer:List Env) (s:Shared) (H:Hp) (vs:List V) (Q:VK) (E:XK),Room k (A.deeper (envOfC qual (aF st) s.heap.objs.size f cdv))->sp vs H Q E →
   ∃t,PSs (vW CX0 P w K mg base N qual (aF st) f cdv A outer s H E).nox (c4 st) t/\t { nx:=fun _ H'=>Q .non H',rt:=Q } (fR N vs) H):FnOk P w K mg base CX0 (k+1) f fd ps sp:=by
 obtain⟨oc,od,dV,kV,doc,pm,an,cdv,ct,osl,rfl,lk,hcd⟩:=F.ex;refine aDv lk hcd S len fun A outer s H vs Q E hr h=> ?_;obtain⟨t,h1,h2⟩:=hbody cdv A outer s H vs Q E hr h;exact⟨t,PSs.nox h1,h2⟩
theorem pS {x qual:Str}{st:Stmt}{f:Addr}{oc:Value}{od an:Option Addr}{osl:Array (Option Value)}{dV kV doc pm cdv ct:Value} (l:K.lookup f=some ⟨oc,od,.func (W.fnOf x qual (dP st) (c4 st) (aF st) dV kV doc pm an cdv ct),osl⟩) (c:W.codeIn K cdv qual=true)
  (k:W.keepIn K (.ref f)=true):FunV K x qual st f (W.fnOf x qual (dP st) (c4 st) (aF st) dV kV doc pm an cdv ct):=⟨⟨oc,od,dV,kV,doc,pm,an,cdv,ct,osl,rfl,l,c⟩,k⟩
structure Mc (P:Program)(w:World)(K:W.Frag)(mg:Str->Option Value)(base:Heap)(C:Addr)(nm:Str)(k:Nat)(sp:Sp):Prop where
 ex:∃f fd ps,Cls K C/\Meth K C nm f/\Binds K fd ps []/\FnOk P w K mg base CX0 k f fd ps sp
structure Kc (P:Program)(w:World)(K:W.Frag)(mg:Str->Option Value)(base:Heap)(x:Str)(C:Addr)(k:Nat)(dvs:List V)(sp:Sp):Prop where
 ex:∃f fd ps ds,mg x=some (.ref C)/\Mk K C f/\Vals dvs ds/\Binds K fd ps ds/\FnOk P w K mg base CX0 k f fd ps sp
end
section
variable {X:Cx}{k k':Nat}{sp:Sp}{x m:Str}{p pos apos:Pos}{e o:Expr}{es:List Expr}{ta:TE}{t:TA}{C:Addr}{dvs:List V}
def tMD (M:Addr->Sp->Prop)(m:Str)(ta:TE)(t:TA):TE:=fun σ H Q=>ta σ H fun x H1=>∃a C dx fs sp,x= .ref a/\H1 a=some (.ins C dx fs)/\fs.lookup m=none/\M C sp/\t σ H1 fun vs H2=>sp (x::vs) H2 Q E0
theorem cO (k:Nat){pl:Sem Bool}(hr:Room k' X.A)(ho:PE X o ta)(ha:PA X (e::es) t)(hk:k<=k':=by decide)
  (hst:starEach (e::es) X.env=(false,eval e X.env)::starEach es X.env:=by rfl)(hpl:(backTo pos (starEach es X.env)).any (·.1)=false:=by rfl)
  (ht:eval (.Call (.Attribute o m apos) (e::es) [] pos) X.env=(do
   let ov ←eval o X.env
   standAt apos.atName
   let (f,first) ←holding [ov] (getMethod ov m pl)
   callWith pos f first (backTo pos (starEach (e::es) X.env)) (backToKw pos (keywordEach [] X.env))):=by rfl) :
  PE X (.Call (.Attribute o m apos) (e::es) [] pos) (tMD (fun C sp=>Mc X.prog X.w X.K X.mg X.base C m k sp) m ta t):=by
 intro pins s σ H Q I h;refine W.methodCall_KW (pl:=pl) (thn (ho pins s σ H _ I h) fun u s1 ⟨x,H1,I1,rx,a,C,dx,fs,sp,ex,ea,l,M,q⟩=> ?_) ht;subst ex;obtain rfl:u=Value.ref a:=rx;obtain⟨f,fd,ps,c,hm,hb,F⟩:=M.ex;refine DM I1 ea c hm l ?_;refine W.callWith_K (first:=[.ref a]) (h₀:=X.base) I.ok.mod.kin hm.kp (thn (ha pos pins s1 σ H1 _ I1 q) fun us s2 ⟨vs,H2,I2,r,q2⟩=>⟨I2.kIn,?_⟩) hst hpl;exact uP (us:= .ref a::us) (vs:= .ref a::vs) (dvs:=[]) F (hr.mono hk) hb .nil sO I2 (.cons rfl r) (by rw[List.append_nil];exact q2)
theorem cB (k:Nat){pl:Sem Bool}(hr:Room k' X.A)(ho:PE X o ta)(hk:k<=k':=by decide)
  (ht:eval (.Call (.Attribute o m apos) [] [] pos) X.env=(do
   let ov ←eval o X.env
   standAt apos.atName
   let (f,first) ←holding [ov] (getMethod ov m pl)
   callWith pos f first (backTo pos (starEach [] X.env)) (backToKw pos (keywordEach [] X.env))):=by rfl) :
  PE X (.Call (.Attribute o m apos) [] [] pos) (tMD (fun C sp=>Mc X.prog X.w X.K X.mg X.base C m k sp) m ta EU):=by
 intro pins s σ H Q I h;refine W.methodCall_KW (pl:=pl) (thn (ho pins s σ H _ I h) fun u s1 ⟨x,H1,I1,rx,a,C,dx,fs,sp,ex,ea,l,M,q⟩=> ?_) ht;subst ex;obtain rfl:u=Value.ref a:=rx;obtain⟨f,fd,ps,c,hm,hb,F⟩:=M.ex;refine DM I1 ea c hm l ?_;exact W.callWith_K0 (first:=[.ref a]) I1.kIn hm.kp (uP (us:=[.ref a]) (vs:=[.ref a]) (dvs:=[]) F (hr.mono hk) hb .nil sO I1 (.cons rfl .nil) q)
theorem pI (F:Kc X.prog X.w X.K X.mg X.base x C k dvs sp)(hr:Room k' X.A)(ha:PA X (e::es) t)(hk:k+1<=k':=by decide)(hg:Gl X x:=by rfl)
  (hdb:(x==("__debug__" :Str))=false:=by decide)(he:starEach (e::es) X.env=(false,eval e X.env)::starEach es X.env:=by rfl)(hpl:(backTo pos (starEach es X.env)).any (·.1)=false:=by rfl) :
  PE X (.Call (.Name x p) (e::es) [] pos) (CO C sp dvs E0 t):=by
 obtain⟨f,fd,ps,ds,hm,M,hd,hb,G⟩:=F.ex;exact aAr M G (hr.mono hk) hg hm hb hd sO ha hdb he hpl
structure Dc (P:Program)(w:World)(K:W.Frag)(mg:Str->Option Value)(base:Heap)(x m:Str)(k:Nat)(sp:Sp):Prop where
 ex:∃C f fd ps,mg x=some (.ref C)/\W.specialIn K (.ref C) "__getattribute__" =some (some (.builtin "type.__getattribute__"))/\W.readsIn K C (.type "type")=true/\W.findCls K (.ref C) (.type "type") m=some (.val (.ref f)) ∧
  W.keepIn K (.ref f)=true/\Binds K fd ps []/\FnOk P w K mg base CX0 k f fd ps sp
theorem HP {pl:Sem Bool}(F:Dc X.prog X.w X.K X.mg X.base x m k sp)(hr:Room k' X.A)(ha:PA X (e::es) t)(hk:k<=k':=by decide)(hg:Gl X x:=by rfl)(hdb:(x==("__debug__" :Str))=false:=by decide)
  (hst:starEach (e::es) X.env=(false,eval e X.env)::starEach es X.env:=by rfl)(hpl:(backTo pos (starEach es X.env)).any (·.1)=false:=by rfl)
  (ht:eval (.Call (.Attribute (.Name x p) m apos) (e::es) [] pos) X.env=(do
   let ov ←eval (.Name x p) X.env
   standAt apos.atName
   let (f,first) ←holding [ov] (getMethod ov m pl)
   callWith pos f first (backTo pos (starEach (e::es) X.env)) (backToKw pos (keywordEach [] X.env))):=by rfl) :
  PE X (.Call (.Attribute (.Name x p) m apos) (e::es) [] pos) (v7 sp [] E0 t):=by
 intro pins s σ H Q I h;obtain⟨C,f,fd,ps,hm,hga,hrd,hfc,kp,hb,G⟩:=F.ex;refine W.methodCall_KW (pl:=pl) (pW I hg hm ?_ hdb) ht;refine W.method_cls I.kIn hga (W.cls_value I.kIn hrd hfc (xF (v:= .ref f) rfl) ?_);have I1:=I.tok (s.toks+1);refine W.callWith_K (first:=[]) (h₀:=X.base) I.ok.mod.kin kp (thn (ha pos pins _ σ H _ I1 h) fun us s2 ⟨vs,H2,I2,r,q2⟩=>⟨I2.kIn,?_⟩) hst hpl;exact uP G (hr.mono hk) hb .nil sO I2 r q2
end
def XH:R2:=fun x y H Q=>∃i j,x= .str i/\y= .str j/\i.length+j.length<=sizeLine/\Q (.str (i++j)) H
def IE:R2:=fun x y H Q=>y= .non/\Q (.bl (decide (x= .non))) H
def HK:R2:=fun x y H Q=>y= .non/\Q (.bl (!decide (x= .non))) H
def aD7:R2:=fun x y H Q=>∃i j,x= .str i/\y= .str j/\Q (.bl (!decide (j.cps.toList<i.cps.toList))) H
def OQ (K:W.Frag):List V->Hp->VK->Prop:=fun xs H Q=>∃x c t u b,xs=[x,c]/\jU K H x t/\RelV c u/\W.kitOne K t u=some b/\Q (.bl b) H
def aD8 (K:W.Frag):List V->Hp->VK->Prop:=fun xs H Q=>∃(p:Addr) (bs:List Bool),xs=[.ref p]/\SqL K H p (bs.map V.bl)/\Q (.bl (bs.all id)) H
def aDM:List V->Hp->VK->Prop:=fun xs H Q=>∃z,xs=[.str z]/\z.length<=sizeLine/\Q (.int z.length) H
def XM (K:W.Frag):List V->Hp->VK->Prop:=fun xs H Q=>∃p ys,xs=[.ref p]/\(SqL K H p ys∨SqT K H p ys)/\Q (.int ys.length) H
def XE:List V->Hp->VK->Prop:=fun xs H Q=>∃i j,xs=[.int i,.int j]/\Q (.int (if j<i then j else i)) H
section
variable {X:Cx}
theorem ZG:OpR X (binaryOp .Add) XH:=P9
theorem yT:OpR X (compareOp .Is) IE:=aB8
theorem MX:OpR X (compareOp .IsNot) HK:=Y4
theorem SL:OpR X (compareOp .LtE) aD7:=TN
theorem qW:dS X (.builtin "isinstance") (OQ X.K):=MI
theorem V0 (hc:X.calm=true):dS X (.builtin "all") (aD8 X.K):=EW hc
theorem SK:dS X (.builtin "len") aDM:=KF
theorem eN:dS X (.builtin "len") (XM X.K):=KY
theorem xT (hc:X.calm=true):dS X (.builtin "min") XE:=SI hc
theorem dY {i j:Int}(n:Int){k1 k2 p1 p2 pos}(h:i^j.toNat=n)(c:aCa i j):PE X (.BinOp (.Constant (.int i) k1 p1) .Pow (.Constant (.int j) k2 p2) pos) (tC (.int n)):=by
 subst h;intro pins s σ H Q I q;exact aK aCX aD aD pins s σ H Q I ⟨i,j,rfl,rfl,c,q⟩
end
def vY (P:Bool->Hp->Prop):VK:=fun x H=>∃k,x= .bl k/\P k H
def aCs (O:Option Int->Hp->Prop):VK:=fun x H=>∃i,x= .int i/\O (some i) H
def aB2 (Q:VK):List V->Hp->Prop:=fun xs H=>xs.length<=sizeLine/\∀p,H p=none->Q (.ref p) (upd H p (.lst xs))
def aCb (Q:VK):List V->Hp->Prop:=fun xs H=>xs.length<=sizeLine/\∀p,H p=none->Q (.ref p) (upd H p (.tup xs))
def aBE (Q:VK):List V->Hp->Prop:=fun ys H=>∀p,H p=none->Q (.ref p) (upd H p (.lst ys))
def aC6 (K:W.Frag)(f:Str)(Q:VK):VK:=fun x H=>∃a C dx fs v,x= .ref a/\H a=some (.ins C dx fs)/\Cls K C/\NoAttr K C f/\fs.lookup f=some v/\Q v H
def XO (K:W.Frag)(f:Str)(y:V)(q:Hp->Prop):VK:=fun x H=>∃a C dx fs,x= .ref a/\H a=some (.ins C dx fs)/\Cls K C/\NoAttr K C f/\fs.length<1000/\q (upd H a (.ins C dx (bQ f y fs)))
def MdP (M:Addr->Sp->Prop)(m:Str)(t:TA)(σ:St)(Q:VK):VK:=fun x H=>∃a C dx fs sp,x= .ref a/\H a=some (.ins C dx fs)/\fs.lookup m=none/\M C sp/\t σ H fun vs H2=>sp (x::vs) H2 Q E0
def kW (C:Addr)(sp:Sp)(dvs:List V)(E:XK)(Q:VK):List V->Hp->Prop:=fun vs H1=>∀x dx,H1 x=none->H1 dx=none->dx≠x →
 sp (.ref x::(vs++dvs)) (upd (upd H1 dx (.own x)) x (.ins C dx [])) (fun v H2=>v= .non/\Q (.ref x) H2) E
def BmP (K:W.Frag)(T:String)(r:V->List V->Hp->VK->Prop)(t:TA)(σ:St)(Q:VK):VK:=fun x H1=>tyV K T x H1/\t σ H1 fun xs H2=>r x xs H2 Q
def aBD (K:W.Frag)(T:String)(r:V->List V->Hp->VK->Prop)(Q:VK):VK:=fun x H1=>tyV K T x H1/\r x [] H1 Q
def aCN (K:W.Frag)(R:It->Hp->Prop):VK:=fun x H1=>∃a,x= .ref a/\(∃xs,SqL K H1 a xs)/\R (Itl K a) H1
def aCY (R:It->Hp->Prop):List V->Hp->Prop:=fun vs H1=>∃j:Int,vs=[.int j]/\ -(2^62)<=j/\j<2^62/\R (Itr 0 j.toNat) H1
def aCU (R:It->Hp->Prop):List V->Hp->Prop:=fun vs H1=>∃i j:Int,vs=[.int i,.int j]/\(-(2^62)<=i/\i<2^62/\ -(2^62)<=j/\j<2^62)/\R (Itr i (j - i).toNat) H1
section
variable {nx bk ct:St->Hp->Prop}{rt:VK}{σ:St}{H:Hp}{Q:VK}{t u:TS}{te ta tb tc:TE}{g:TG}{c d:TT}{v:V}{K:W.Frag}{E:XK}
theorem aBJ (h:t ⟨u ⟨nx,rt,bk,ct⟩,rt,bk,ct⟩ σ H):JH t u ⟨nx,rt,bk,ct⟩ σ H:=h
theorem mM (R:St->Hp->Prop)(h2:∀σ' H',R σ' H'->u ⟨nx,rt,bk,ct⟩ σ' H')(h1:∀nx':St->Hp->Prop,(∀σ' H',R σ' H'->nx' σ' H')->t ⟨nx',rt,bk,ct⟩ σ H):JH t u ⟨nx,rt,bk,ct⟩ σ H:=h1 _ h2
theorem UQ {v:TS}(h:JH (QE c t u) v ⟨nx,rt,bk,ct⟩ σ H):JH (QE c t u) v ⟨nx,rt,bk,ct⟩ σ H:=h
theorem aAk (h:nx σ H):XJ ⟨nx,rt,bk,ct⟩ σ H:=h
theorem aB0 (h:te σ H fun x H1=>g x σ H1 nx):OO te g ⟨nx,rt,bk,ct⟩ σ H:=h
theorem aBu (h:te σ H rt):aC7 te ⟨nx,rt,bk,ct⟩ σ H:=h
theorem Z1 (h:te σ H fun _ H1=>nx σ H1):YA te ⟨nx,rt,bk,ct⟩ σ H:=h
theorem aDK (h:c σ H fun b H1=>if b=true then t ⟨nx,rt,bk,ct⟩ σ H1 else u ⟨nx,rt,bk,ct⟩ σ H1):QE c t u ⟨nx,rt,bk,ct⟩ σ H:=h
theorem aC2 {i:Nat}{ti:TIp} (h:gT i σ H fun x H0=>te σ H0 fun y H1=>ti x y H1 fun z H2=>bZ i z σ H2 nx):aCm i te ti ⟨nx,rt,bk,ct⟩ σ H:=by
 obtain⟨x,e,q⟩:=h;exact⟨x,e,q⟩
def O9 (J:It)(g:TG)(tb:TS)(D:fU)(σ:St)(H:Hp):Prop :=
 ∃W:Nat->Nat->St->Hp->Prop,(∃m,W 0 m σ H)/\∀i m σ H,W i m σ H →
  (J.stop i H/\D.nx σ H)∨(J.go i H/\∃N:St->Hp->Prop,(∀σ' H',N σ' H'->∃m',m'<m/\W (i+1) m' σ' H')/\∀x H',J.yld i H x H'->g x σ H' fun σ2 H2=>tb { D with nx:=N,ct:=N,bk:=D.nx } σ2 H2)
theorem aBm {wi:TI}{tb:TS} (h:wi σ H fun J H1=>O9 J g tb ⟨nx,rt,bk,ct⟩ σ H1):aBN wi g tb ⟨nx,rt,bk,ct⟩ σ H:=h
theorem aDk {l:St}(h:Q v H):gT 0 (some v::l) H Q:=⟨v,rfl,h⟩
theorem aDJ {a0}{l:St} (h:Q v H):gT 1 (a0::some v::l) H Q:=⟨v,rfl,h⟩
theorem aDu {a0 a1}{l:St} (h:Q v H):gT 2 (a0::a1::some v::l) H Q:=⟨v,rfl,h⟩
theorem aDE {a0 a1 a2}{l:St} (h:Q v H):gT 3 (a0::a1::a2::some v::l) H Q:=⟨v,rfl,h⟩
theorem aDn {a0 a1 a2 a3}{l:St} (h:Q v H):gT 4 (a0::a1::a2::a3::some v::l) H Q:=⟨v,rfl,h⟩
theorem aDF {a0 a1 a2 a3 a4}{l:St} (h:Q v H):gT 5 (a0::a1::a2::a3::a4::some v::l) H Q:=⟨v,rfl,h⟩
theorem aDj {a0 a1 a2 a3 a4 a5}{l:St} (h:Q v H):gT 6 (a0::a1::a2::a3::a4::a5::some v::l) H Q:=⟨v,rfl,h⟩
theorem aDL {a0 a1 a2 a3 a4 a5 a6}{l:St} (h:Q v H):gT 7 (a0::a1::a2::a3::a4::a5::a6::some v::l) H Q:=⟨v,rfl,h⟩
theorem aDr {a0 a1 a2 a3 a4 a5 a6 a7}{l:St} (h:Q v H):gT 8 (a0::a1::a2::a3::a4::a5::a6::a7::some v::l) H Q:=⟨v,rfl,h⟩
theorem aDs {a0 a1 a2 a3 a4 a5 a6 a7 a8}{l:St} (h:Q v H):gT 9 (a0::a1::a2::a3::a4::a5::a6::a7::a8::some v::l) H Q:=⟨v,rfl,h⟩
theorem aCw {a0 a1 a2 a3 a4 a5 a6 a7 a8 a9}{l:St} (h:Q v H):gT 10 (a0::a1::a2::a3::a4::a5::a6::a7::a8::a9::some v::l) H Q:=⟨v,rfl,h⟩
theorem aC8 {a0 a1 a2 a3 a4 a5 a6 a7 a8 a9 a10}{l:St} (h:Q v H):gT 11 (a0::a1::a2::a3::a4::a5::a6::a7::a8::a9::a10::some v::l) H Q:=⟨v,rfl,h⟩
theorem aCu {a0 a1 a2 a3 a4 a5 a6 a7 a8 a9 a10 a11}{l:St} (h:Q v H):gT 12 (a0::a1::a2::a3::a4::a5::a6::a7::a8::a9::a10::a11::some v::l) H Q:=⟨v,rfl,h⟩
variable {q:St->Hp->Prop}
theorem aDB {a}{l:St} (h:q (some v::l) H):bZ 0 v (a::l) H q:=h
theorem aDl {a0 a}{l:St} (h:q (a0::some v::l) H):bZ 1 v (a0::a::l) H q:=h
theorem aDt {a0 a1 a}{l:St} (h:q (a0::a1::some v::l) H):bZ 2 v (a0::a1::a::l) H q:=h
theorem aDX {a0 a1 a2 a}{l:St} (h:q (a0::a1::a2::some v::l) H):bZ 3 v (a0::a1::a2::a::l) H q:=h
theorem aDI {a0 a1 a2 a3 a}{l:St} (h:q (a0::a1::a2::a3::some v::l) H):bZ 4 v (a0::a1::a2::a3::a::l) H q:=h
theorem aDh {a0 a1 a2 a3 a4 a}{l:St} (h:q (a0::a1::a2::a3::a4::some v::l) H):bZ 5 v (a0::a1::a2::a3::a4::a::l) H q:=h
theorem aDA {a0 a1 a2 a3 a4 a5 a}{l:St} (h:q (a0::a1::a2::a3::a4::a5::some v::l) H):bZ 6 v (a0::a1::a2::a3::a4::a5::a::l) H q:=h
theorem aDO {a0 a1 a2 a3 a4 a5 a6 a}{l:St} (h:q (a0::a1::a2::a3::a4::a5::a6::some v::l) H):bZ 7 v (a0::a1::a2::a3::a4::a5::a6::a::l) H q:=h
theorem aDW {a0 a1 a2 a3 a4 a5 a6 a7 a}{l:St} (h:q (a0::a1::a2::a3::a4::a5::a6::a7::some v::l) H):bZ 8 v (a0::a1::a2::a3::a4::a5::a6::a7::a::l) H q:=h
theorem aDw {a0 a1 a2 a3 a4 a5 a6 a7 a8 a}{l:St} (h:q (a0::a1::a2::a3::a4::a5::a6::a7::a8::some v::l) H):bZ 9 v (a0::a1::a2::a3::a4::a5::a6::a7::a8::a::l) H q:=h
theorem aCZ {a0 a1 a2 a3 a4 a5 a6 a7 a8 a9 a}{l:St} (h:q (a0::a1::a2::a3::a4::a5::a6::a7::a8::a9::some v::l) H):bZ 10 v (a0::a1::a2::a3::a4::a5::a6::a7::a8::a9::a::l) H q:=h
theorem aBl {a0 a1 a2 a3 a4 a5 a6 a7 a8 a9 a10 a}{l:St} (h:q (a0::a1::a2::a3::a4::a5::a6::a7::a8::a9::a10::some v::l) H):bZ 11 v (a0::a1::a2::a3::a4::a5::a6::a7::a8::a9::a10::a::l) H q:=h
theorem aBZ {a0 a1 a2 a3 a4 a5 a6 a7 a8 a9 a10 a11 a}{l:St} (h:q (a0::a1::a2::a3::a4::a5::a6::a7::a8::a9::a10::a11::some v::l) H):bZ 12 v (a0::a1::a2::a3::a4::a5::a6::a7::a8::a9::a10::a11::a::l) H q:=h
theorem aD5 (h:Q v H):tC v σ H Q:=h
theorem aDH {r:R2}(h:ta σ H fun x H1=>tb σ H1 fun y H2=>r x y H2 Q):tOp r ta tb σ H Q:=h
theorem aDN {f:Int->Int->V}{i j:Int} (h:Q (f i j) H):rI0 f (.int i) (.int j) H Q:=⟨i,j,rfl,rfl,h⟩
theorem aBL {f:Int->Int->V}{i j:Int} (h0:0<j) (h1:j<1073741824) (h:Q (f i j) H):rI aCx f (.int i) (.int j) H Q:=⟨i,j,rfl,rfl,⟨h0,h1⟩,h⟩
theorem aCn {f:Int->Int->V}{i j:Int} (h0:0<j) (h:Q (f i j) H):rI (fun _ j=>0<j) f (.int i) (.int j) H Q:=⟨i,j,rfl,rfl,h0,h⟩
theorem YN {f:Int->Int->V}{i j:Int} (h0: -18446744073709551616<i) (h1:i<18446744073709551616) (h:Q (f i j) H):rI CMul f (.int i) (.int j) H Q:=⟨i,j,rfl,rfl,.inl ⟨by lia,by lia⟩,h⟩
theorem aA3 {f:Int->Int->V}{i j:Int} (h0: -18446744073709551616<j) (h1:j<18446744073709551616) (h:Q (f i j) H):rI CMul f (.int i) (.int j) H Q:=⟨i,j,rfl,rfl,.inr ⟨by lia,by lia⟩,h⟩
theorem RH {f:Int->Int->V}{i j:Int} (h0:0<=j) (h:Q (f i j) H):rI (fun _ j=>0<=j) f (.int i) (.int j) H Q:=⟨i,j,rfl,rfl,h0,h⟩
theorem YF {i j:Int}:decide (V.int i=V.int j)=decide (i=j):=by simp
theorem aDz {i j:Str}:decide (V.str i=V.str j)=decide (i=j):=by simp
theorem aCF {i j:Int}(h:Q (.bl (decide (i=j))) H):rEq (.int i) (.int j) H Q:=⟨rfl,by rw[YF];exact h⟩
theorem aCO {i j:Str}(h:Q (.bl (decide (i=j))) H):rEq (.str i) (.str j) H Q:=⟨rfl,by rw[aDz];exact h⟩
theorem aBY {i j:Int}(h:Q (.bl (!decide (i=j))) H):rNe (.int i) (.int j) H Q:=⟨rfl,by rw[YF];exact h⟩
theorem aAY (h:Q (.bl true) H):IE .non .non H Q:=⟨rfl,h⟩
theorem ZL {i:Str}(h:Q (.bl false) H):IE (.str i) .non H Q:=⟨rfl,by rw[decide_eq_false (fun z=>by cases z)];exact h⟩
theorem aAa {i:Int}(h:Q (.bl false) H):IE (.int i) .non H Q:=⟨rfl,by rw[decide_eq_false (fun z=>by cases z)];exact h⟩
theorem aAL (h:Q (.bl (decide (v= .non))) H):IE v .non H Q:=⟨rfl,h⟩
theorem Y9 (h:Q (.bl false) H):HK .non .non H Q:=⟨rfl,h⟩
theorem YY {i:Str}(h:Q (.bl true) H):HK (.str i) .non H Q:=⟨rfl,by rw[decide_eq_false (fun z=>by cases z)];exact h⟩
theorem aAb {i:Int}(h:Q (.bl true) H):HK (.int i) .non H Q:=⟨rfl,by rw[decide_eq_false (fun z=>by cases z)];exact h⟩
theorem YR {i j:Str}(hl:i.length+j.length<=sizeLine)(h:Q (.str (i++j)) H):XH (.str i) (.str j) H Q:=⟨i,j,rfl,rfl,hl,h⟩
theorem aA9 (h:ta σ H (vY fun c H1=>if c=true then tb σ H1 Q else Q (.bl false) H1)):YI ta tb σ H Q:=h
theorem ZJ (h:ta σ H (vY fun c H1=>Q (.bl (!c)) H1)):X8 ta σ H Q:=h
theorem aCd (h:c σ H fun k H1=>if k=true then ta σ H1 Q else tb σ H1 Q):tIf c ta tb σ H Q:=h
theorem WR {r r':R2}(h:ta σ H fun x H1=>tb σ H1 fun y H2=>r x y H2 (vY fun k H3=>if k=true then tc σ H3 fun w' H4=>r' y w' H4 Q else Q (.bl false) H3)):KP r r' ta tb tc σ H Q:=h
theorem Z6 {sp:Sp}{t:TA} (h:t σ H fun vs H1=>sp vs H1 Q E):v7 sp [] E t σ H Q:=by
 unfold v7;simp only[List.append_nil];exact h
theorem aDo {r:List V->Hp->VK->Prop}{t:TA} (h:t σ H fun vs H1=>r vs H1 Q):tCB r t σ H Q:=h
theorem aCG {t:TA}(h:t σ H (aB2 Q)):aCJ t σ H Q:=h
theorem aBX {t:TA}(h:t σ H (aCb Q)):aBH t σ H Q:=h
theorem gN {o:HO}{R:V->Hp->Prop} (h:∀p H',H p=none->Same H H'->H' p=some o->R (.ref p) H'):∀p,H p=none->R (.ref p) (upd H p o) :=
 fun p hp=>h p _ hp (fun b u e=>by rw[aH (bA e hp)];exact e) aQ
theorem aAR {xs:List V}(hn:xs.length<=sizeLine)(h:∀p H',H p=none->Same H H'->H' p=some (.lst xs)->Q (.ref p) H'):aB2 Q xs H:=⟨hn,gN h⟩
theorem aAy {xs:List V}(hn:xs.length<=sizeLine)(h:∀p H',H p=none->Same H H'->H' p=some (.tup xs)->Q (.ref p) H'):aCb Q xs H:=⟨hn,gN h⟩
theorem Y1 {xs:List V}(h:∀p H',H p=none->Same H H'->H' p=some (.lst xs)->Q (.ref p) H'):aBE Q xs H:=gN h
theorem aBR {f:Str}(h:ta σ H (aC6 K f Q)):WG K ta f σ H Q:=h
theorem aAK {a C dx:Addr}{fs:List (Str×V)}{f:Str} (e:H a=some (.ins C dx fs)) (cl:Cls K C) (na:NoAttr K C f) (l:fs.lookup f=some v) (h:Q v H):aC6 K f Q (.ref a) H:=⟨a,C,dx,fs,v,rfl,e,cl,na,l,h⟩
theorem ZO {f:Str}(h:ta σ H fun y H1=>tb σ H1 (XO K f y (nx σ))):aBV K tb ta f ⟨nx,rt,bk,ct⟩ σ H:=h
theorem V8 {a C dx:Addr}{fs:List (Str×V)}{f:Str}{y:V}{w:Hp->Prop} (e:H a=some (.ins C dx fs)) (cl:Cls K C) (na:NoAttr K C f) (l:decide (fs.length<1000)=true)
  (h:∀H',(∀b o,H b=some o->b≠a->H' b=some o)->H' a=some (.ins C dx (bQ f y fs))->w H'):XO K f y w (.ref a) H :=
 ⟨a,C,dx,fs,rfl,e,cl,na,of_decide_eq_true l,h _ (fun b o q hb=>by rw[aH hb];exact q) aQ⟩
theorem aDp {M:Addr->Sp->Prop}{m:Str}{t:TA} (h:ta σ H (MdP M m t σ Q)):tMD M m ta t σ H Q:=h
theorem aCE {M:Addr->Sp->Prop}{m:Str}{t:TA}{a C dx:Addr}{fs:List (Str×V)}{sp:Sp} (e:H a=some (.ins C dx fs)) (l:fs.lookup m=none) (F:M C sp) (h:t σ H fun vs H2=>sp (.ref a::vs) H2 Q E0):MdP M m t σ Q (.ref a) H :=
 ⟨a,C,dx,fs,sp,rfl,e,l,F,h⟩
theorem ZI {C:Addr}{sp:Sp}{dvs:List V}{t:TA} (h:t σ H (kW C sp dvs E Q)):CO C sp dvs E t σ H Q:=h
theorem mQ {C:Addr}{sp:Sp}{dvs vs:List V}{fs:List (Str×V)}
  (hsp:∀p dx H0 (Q':VK),H0 p=some (.ins C dx [])->(∀H',(∀b o,H0 b=some o->b≠p->H' b=some o)->H' p=some (.ins C dx fs)->Q' .non H')->Same H H0->sp (.ref p::(vs++dvs)) H0 Q' E)
  (k:∀p dx H',H p=none->Same H H'->H' p=some (.ins C dx fs)->Q (.ref p) H'):kW C sp dvs E Q vs H:=by
 intro x dx nx nd ne;have s0:Same H (upd (upd H dx (.own x)) x (.ins C dx [])):=fun b o e=>by
  rw[aH (bA e nx),aH (bA e nd)];exact e
 exact hsp x dx _ _ aQ (fun H' sb e=>⟨rfl,k x dx H' nx (fun b o q=>sb b o (s0 b o q) (bA q nx)) e⟩) s0
theorem aAp {wi:TI}{nl:Nat}{ci:List Nat}{ti:TT} (h:wi σ H fun J H1=>dI J g ti te (b9 nl ci σ) (aBE Q) H1):P6 wi nl ci g ti te σ H Q:=h
theorem aDP {r:V->Option Int->Option Int->Hp->VK->Prop}{tl th:TO} (h:te σ H fun x H1=>tl σ H1 fun l H2=>th σ H2 fun u H3=>r x l u H3 Q):tSl r te tl th σ H Q:=h
theorem T5 {a:Addr}{xs:List V}{lo hi:Option Int} (e:SqL K H a xs) (h:∀p H',H p=none->Same H H'->H' p=some (.lst (BT xs lo hi))->Q (.ref p) H'):U8 K (.ref a) lo hi H Q:=⟨a,xs,rfl,e,gN h⟩
theorem aB7 {p:Addr}{xs:List V}{i:Int} (e:SqL K H p xs) (l:atI xs i=some v) (h:Q v H):xQ K (.ref p) (.int i) H Q:=⟨p,xs,i,v,rfl,rfl,e,l,h⟩
theorem Z7 {p:Addr}{a b i:Int} (e:SqL K H p [.int a,.int b]) (h0:0<=i) (h1:i<2) (h:∀v,(i=0/\v=a)∨(i=1/\v=b)->Q (.int v) H):xQ K (.ref p) (.int i) H Q:=by
 have:i=0∨i=1:=by lia
 rcases this with rfl|rfl
 ·exact⟨p,_,0,_,rfl,rfl,e,rfl,h a (.inl ⟨rfl,rfl⟩)⟩
 ·exact⟨p,_,1,_,rfl,rfl,e,rfl,h b (.inr ⟨rfl,rfl⟩)⟩
def KS (ns:List Int)(lo hi:Option Int):List Int:=(ns.drop (HT.sIx ns.length 0 lo)).take (HT.sIx ns.length ns.length hi - HT.sIx ns.length 0 lo)
theorem RU (ns:List Int)(lo hi:Option Int):BT (ns.map V.int) lo hi=(KS ns lo hi).map V.int:=by
 unfold BT KS;rw[List.length_map,List.map_take,List.map_drop]
theorem aCB {a:Addr}{ns:List Int}{lo hi:Option Int} (e:SqL K H a (ns.map V.int)) (h:∀p H',H p=none->Same H H'->H' p=some (.lst ((KS ns lo hi).map V.int))->Q (.ref p) H'):U8 K (.ref a) lo hi H Q :=
 T5 e (by rw[RU];exact h)
theorem A4 {p:Addr}{xs:List V}{k:Int}{j:Nat}{R:Hp->Prop} (e:H p=some (.lst xs)) (l:ixN xs.length k=some j) (h:∀H',(∀b o,H b=some o->b≠p->H' b=some o)->H' p=some (.lst (xs.set j v))->R H'):XW (.ref p) (.int k) v H R :=
 ⟨p,xs,k,j,rfl,rfl,e,l,h _ (fun b o q hb=>by rw[aH hb];exact q) aQ⟩
theorem aA7 {l b:Addr}{xs zs:List V} (e:H l=some (.lst xs)) (e2:H b=some (.lst zs)) (hn:xs.length+zs.length<=sizeLine) (h:∀p H',H p=none->Same H H'->H' p=some (.lst (xs++zs))->Q (.ref p) H'):aDb (.ref l) (.ref b) H Q :=
 ⟨l,b,xs,zs,rfl,rfl,e,e2,hn,gN h⟩
theorem aDT {T:String}{r:V->List V->Hp->VK->Prop}{to:TE}{t:TA} (h:to σ H (BmP K T r t σ Q)):tBM K T r to t σ H Q:=h
theorem aBr {T:String}{r:V->List V->Hp->VK->Prop}{to:TE} (h:to σ H (aBD K T r Q)):aC5 K T r to σ H Q:=h
theorem aCc {r:V->List V->Hp->VK->Prop}{t:TA}{p:Addr}{xs:List V} (e:SqL K H p xs) (h:t σ H fun xs H2=>r (.ref p) xs H2 Q):BmP K "list" r t σ Q (.ref p) H:=⟨.inl ⟨rfl,xs,e⟩,h⟩
theorem ZQ {r:V->List V->Hp->VK->Prop}{i:Int} (h:r (.int i) [] H Q):aBD K "int" r Q (.int i) H:=⟨rfl,h⟩
theorem MU {x:V}{n cn:String} (b:BTy K H x n) (hc:cn= "int" ∨cn= "bool" ∨cn= "str") (h:Q (.bl (isB n cn)) H):OQ K [x,.ty cn] H Q:=⟨x,.ty cn,_,_,_,rfl,b.ty,rfl,HJ b cn hc,h⟩
theorem VE {i:Int}(h:Q (.bl true) H):OQ K [.int i,.ty "int"] H Q:=MU (.int i) (.inl rfl) h
theorem VX {i:Int}(h:Q (.bl false) H):OQ K [.int i,.ty "bool"] H Q:=MU (.int i) (.inr (.inl rfl)) h
structure ICls (K:W.Frag)(C:Addr):Prop where
 cl:Cls K C
 ha:W.findIn K (.ref C) "__class__" =some (some (.builtin "object.__class__"))
 hn:W.specialIn K (.builtin "object.__class__") "__get__" =some (some (.builtin "getset_descriptor.__get__"))
 tk:W.takesIn K (.builtin "object.__class__")=some true
 hm:W.mroIn K C (.type "object")=some true
theorem aA6 {p:Addr}{ys:List V} (e:SqL K H p ys) (h:Q (.int ys.length) H):XM K [.ref p] H Q:=⟨p,ys,rfl,.inl e,h⟩
theorem YQ {i j:Int}(h:Q (.int (min i j)) H):XE [.int i,.int j] H Q:=⟨i,j,rfl,by
 have e:(if j<i then j else i)=min i j:=by lia
 rw[e];exact h⟩
variable {B:Bool->Hp->Prop}
theorem aAB (h:te σ H (vY B)):O0 te σ H B:=h
theorem aDV (h:te σ H (vY B)):tB te σ H B:=h
theorem aCS (h:c σ H fun k H1=>if k=true then d σ H1 B else B false H1):aB9 c d σ H B:=h
theorem aDi (h:c σ H fun k H1=>if k=true then B true H1 else d σ H1 B):tOr c d σ H B:=h
theorem aB1 (h:c σ H fun k H1=>B (!k) H1):aC0 c σ H B:=h
theorem aCW {b:Bool}{P:Bool->Hp->Prop} (h:P b H):vY P (.bl b) H:=⟨b,rfl,h⟩
theorem JN {A B:Prop}(h:A):if true=true then A else B:=by rw[if_pos rfl];exact h
theorem IW {A B:Prop}(h:B):if false=true then A else B:=by rw[if_neg Bool.false_ne_true];exact h
theorem aBc {A B:Prop}(h:B):if (!true)=true then A else B:=IW h
theorem aAZ {A B:Prop}(h:A):if (!false)=true then A else B:=JN h
theorem aCA {p A B:Prop}[Decidable p](hp:¬p)(h:B):if decide p=true then A else B:=by rw[if_neg (by rw[decide_eq_false hp];exact Bool.false_ne_true)];exact h
theorem Z0 {p A B:Prop}[Decidable p](hp:p)(h:B):if (!decide p)=true then A else B:=by rw[decide_eq_true hp];exact IW h
theorem Y3 {p A B:Prop}[Decidable p](hp:¬p)(h:A):if (!decide p)=true then A else B:=by rw[decide_eq_false hp];exact JN h
theorem bM {p A B:Prop}[Decidable p](h1:p->A)(h2:¬p->B):if decide p=true then A else B:=EV (fun h=>h1 (of_decide_eq_true h)) fun h=>h2 fun z=>h (decide_eq_true z)
variable {L:List V->Hp->Prop}{O:Option Int->Hp->Prop}{tr:TA}
theorem aBQ (h:L [] H):EU σ H L:=h
theorem aAe (h:te σ H fun x H1=>tr σ H1 fun xs H2=>L (x::xs) H2):YC te tr σ H L:=h
theorem R8 (h:O none H):OD σ H O:=h
theorem aAq (h:te σ H (aCs O)):XQ te σ H O:=h
theorem aBU {i:Int}(h:O (some i) H):aCs O (.int i) H:=⟨i,rfl,h⟩
variable {vs:List V}{gs:TGs}
theorem aAt (h:q σ H):JC [] σ H q:=⟨rfl,h⟩
theorem UW (h:g v σ H fun σ' H'=>gs vs σ' H' q):pE g gs (v::vs) σ H q:=⟨v,vs,rfl,h⟩
theorem Z9 {a:Addr}{n:Nat} (e:SqT K H a vs) (hl:vs.length=n) (h:gs vs σ H q):EY K n gs (.ref a) σ H q:=⟨a,vs,rfl,e,hl,h⟩
variable {R:It->Hp->Prop}
theorem W2 (h:te σ H (aCN K R)):X0 K te σ H R:=h
theorem F5 {a:Addr}{xs:List V} (e:SqL K H a xs) (h:R (Itl K a) H):aCN K R (.ref a) H:=⟨a,rfl,⟨xs,e⟩,h⟩
theorem WA (h:tr σ H (aCY R)):YB tr σ H R:=h
theorem R7 {j:Int}(h0: -4611686018427387904<=j)(h1:j<4611686018427387904)(h:R (Itr 0 j.toNat) H):aCY R [.int j] H:=⟨j,rfl,by lia,by lia,h⟩
theorem WP (h:tr σ H (aCU R)):XD tr σ H R:=h
theorem RW {i j:Int}(h0: -4611686018427387904<=i)(h1:i<4611686018427387904)(h2: -4611686018427387904<=j)(h3:j<4611686018427387904)(h:R (Itr i (j - i).toNat) H):aCU R [.int i,.int j] H:=⟨i,j,rfl,⟨by lia,by lia,by lia,by lia⟩,h⟩
theorem dC {a:Addr}{tb:TS} (xs:List V) (Pv:Nat->St->Hp->Prop) (h0:Pv 0 σ H) (hl:∀i σ H,i<=xs.length->Pv i σ H->SqL K H a xs)
  (hs:∀i x σ H,xs[i]? =some x->Pv i σ H->g x σ H fun σ2 H2=>tb ⟨Pv (i+1),rt,nx,Pv (i+1)⟩ σ2 H2)(hd:∀σ H,Pv xs.length σ H->nx σ H):O9 (Itl K a) g tb ⟨nx,rt,bk,ct⟩ σ H :=
 V5 (D:=⟨nx,rt,bk,ct⟩) Pv h0 hl hs hd
theorem zW {lo:Int}{n:Nat}{tb:TS} (Pv:Nat->St->Hp->Prop) (h0:Pv 0 σ H)
  (hs:∀i σ H,i<n->Pv i σ H->g (.int (lo+i)) σ H fun σ2 H2=>tb ⟨Pv (i+1),rt,nx,Pv (i+1)⟩ σ2 H2)(hd:∀σ H,Pv n σ H->nx σ H):O9 (Itr lo n) g tb ⟨nx,rt,bk,ct⟩ σ H :=
 TR (D:=⟨nx,rt,bk,ct⟩) Pv h0 hs hd
end
section
variable {K:W.Frag}{te:TE}{σ:St}{ci:List Nat}{rest:St}{fin:List V->Hp->Prop}{H:Hp}{a:Addr}
theorem xB (hr:ci.map (fun i=>(σ[i]?).join)=rest):b9 1 ci σ=none::rest:=by
 unfold b9;rw[hr];rfl
theorem L7 {lo:Int}{n:Nat} (P:Nat->V->Prop) (hn:n<=sizeLine) (hr:ci.map (fun i=>(σ[i]?).join)=rest)
  (hs:∀i H1,i<n->Same H H1->∀R:VK,(∀y H2,P i y->Same H1 H2->R y H2)->te (some (.int (lo+i))::rest) H1 R)
  (hf:∀ys H1,Same H H1->ys.length=n->(∀i y,ys[i]? =some y->P i y)->fin ys H1):dI (Itr lo n) (bZ 0) BQ te (b9 1 ci σ) fin H:=by
 rw[xB hr];refine P4 (fun i ys H1=>Same H H1/\ys.length=i/\∀j y,ys[j]? =some y->P j y) hn rfl ⟨Same.refl _,rfl,fun j y h=>by simp at h⟩ (fun i ys H1 ok=>Nat.le_of_eq ok.2.1) (fun ys H1 ok=>hf ys H1 ok.1 ok.2.1 ok.2.2) ?_;intro i ys H1 hi ⟨s1,hl,hp⟩ R hR;refine hs i H1 hi s1 R fun y H2 hy s2=>hR y H2 ⟨s1.trans s2,by simp[hl],fun j z hz=> ?_⟩
 by_cases hj:j<ys.length
 ·rw[List.getElem?_append_left hj]at hz;exact hp j z hz
 ·rw[List.getElem?_append_right (by lia)]at hz;have hj0:j - ys.length=0:=by
   cases e:j - ys.length with
   | zero=>rfl
   | succ k=>rw[e]at hz;simp at hz
  rw[hj0]at hz;have:z=y:=by simpa using hz.symm
  subst this;have:j=i:=by lia
  subst this;exact hy
end
section
variable {K:W.Frag}{te:TE}{σ:St}{ci:List Nat}{rest:St}{fin:List V->Hp->Prop}{H:Hp}{a:Addr}
theorem O8 {α β:Type}{xs:List α}{ys:List β}{f:α->β} (hl:ys.length=xs.length) (h:∀(i:Nat) y,ys[i]? =some y->∃x,xs[i]? =some x/\y=f x):ys=xs.map f:=by
 apply List.ext_getElem?
 intro i;rw[List.getElem?_map];cases e:ys[i]? with
 | none =>
  have:xs[i]? =none:=by
   rw[List.getElem?_eq_none_iff]at e ⊢
   lia
  rw[this];rfl
 | some y =>
  obtain⟨x,hx,rfl⟩:=h i y e;rw[hx];rfl
theorem JU {lo:Int}{n:Nat} (f:Nat->V) (hn:n<=sizeLine) (hr:ci.map (fun i=>(σ[i]?).join)=rest)
  (hs:∀i H1,i<n->Same H H1->∀R:VK,(∀H2,Same H1 H2->R (f i) H2)->te (some (.int (lo+i))::rest) H1 R)
  (hf:∀H1,Same H H1->fin ((List.range n).map f) H1):dI (Itr lo n) (bZ 0) BQ te (b9 1 ci σ) fin H:=by
 refine L7 (fun i y=>y=f i) hn hr (fun i H1 hi s1 R hR=>hs i H1 hi s1 R fun H2 s2=>hR _ H2 rfl s2) ?_;intro ys H1 s1 hl hp;have e:ys=(List.range n).map f:=by
  refine O8 (by rw[hl,List.length_range]) fun i y hy=> ?_;have hi:i<n:=by
   rw[←hl];exact(List.getElem?_eq_some_iff.mp hy).1
  exact⟨i,by simp[hi],hp i y hy⟩
 rw[e];exact hf H1 s1
end
theorem Same.at {H H':Hp}{b:Addr}{o:HO} (s:Same H H') (h:H b=some o):H' b=some o:=s b o h
def SameBut (p:Addr)(H H':Hp):Prop:=∀b o,H b=some o->b≠p->H' b=some o
theorem SameBut.upd {p:Addr}{H:Hp}{o:HO}:SameBut p H (upd H p o):=fun b u e hb=>by rw[aH hb];exact e
theorem SameBut.trans {p:Addr}{H H1 H2:Hp} (a:SameBut p H H1) (b:SameBut p H1 H2):SameBut p H H2:=fun c o h hc=>b c o (a c o h hc) hc
theorem Same.but {p:Addr}{H H':Hp} (s:Same H H'):SameBut p H H':=fun b o e _=>s b o e
theorem SameBut.same {p:Addr}{H H0 H':Hp} (n:H0 p=none) (s:Same H0 H) (b:SameBut p H H'):Same H0 H':=fun c o e=>b c o (s c o e) (bA e n)
theorem aJ {t:TS}{D:fU}{N:List Str}{vs:List V}{σ:St}{H:Hp} (e:fR N vs=σ) (h:t D σ H):t D (fR N vs) H:=e▸h
theorem SameBut.refl {p:Addr}{H:Hp}:SameBut p H H:=fun _ _ e _=>e
theorem SameBut.snoc {p:Addr}{H H1 H2:Hp} (b:∀c o,H1 c=some o->c≠p->H2 c=some o) (a:SameBut p H H1):SameBut p H H2:=fun c o h hc=>b c o (a c o h hc) hc
theorem SameBut.snocS {p:Addr}{H H1 H2:Hp} (b:Same H1 H2) (a:SameBut p H H1):SameBut p H H2:=fun c o h hc=>b c o (a c o h hc)
theorem Same.snoc {H H1 H2:Hp}(b:Same H1 H2)(a:Same H H1):Same H H2:=a.trans b
theorem aAX {f:Str}{v:V}{fs:List (Str×V)}:(bQ f v fs).lookup f=some v:=by rw[nH,if_pos rfl]
theorem aDS {f g:Str}{v:V}{o:Option V}{fs:List (Str×V)} (h:decide (g=f)=false) (l:fs.lookup g=o):(bQ f v fs).lookup g=o:=by rw[nH,if_neg (of_decide_eq_false h)];exact l
theorem aCo {f:Str}:([]:List (Str×V)).lookup f=none:=rfl
section
variable {K:W.Frag}{x qual:Str}{st:Stmt}{kV doc pm cdv ct:Value}{an:Option Addr}{ps:List Str}
theorem mS (k:Nat){T:Addr}{ds:List Value}{oc:Value}{od:Option Addr}{sl:Array (Option Value)}{items:Array Value}{n:Nat} (lt:K.lookup T=some ⟨oc,od,.seq items n,sl⟩)
  (h:∀us:List Value,us.length=k->∃k,bindArgs (W.fnOf x qual (dP st) (c4 st) (aF st) (.ref T) kV doc pm an cdv ct) ⟨us,[]⟩=seqItems? (.ref T) >>= k/\k (some items)=pure (ps.zip (us++ds)))(hk:k+ds.length=ps.length:=by rfl) :
  Binds K (W.fnOf x qual (dP st) (c4 st) (aF st) (.ref T) kV doc pm an cdv ct) ps ds:=fun s us hK hl=>by
 obtain⟨k,h1,h2⟩:=h us (by rw[List.length_append]at hl;lia);exact .of_defaults (T:=T) (items:=items) (n:=n) rfl (hK T _ lt) rfl h1 h2
end
theorem cK (s:String):(Str.ofString s).length=s.length:=by
 rw[Str.ofString_eq_toList];show (s.toList.map Char.toNat).toArray.size=_;rw[List.size_toArray,List.length_map,String.length_toList]
def sgB (c:Nat):Bool:=decide (97<=c)&&decide (c<=122)
def aBv (z:Str):Bool:=z.cps.toList.all sgB
def bC (z:Str):Bool:=decide (1<=(z.length:Int))&&decide ((z.length:Int)<=8)&&aBv z
theorem RS {z:Str}(h:bC z=true):z.length<=8:=by
 unfold bC at h;simp only[Bool.and_eq_true,decide_eq_true_eq]at h
 lia
theorem UV {z:Str}(h0:1<=z.length)(h1:z.length<=8)(h2:aBv z=true):bC z=true:=by
 unfold bC;simp only[Bool.and_eq_true,decide_eq_true_eq];exact⟨⟨by lia,by lia⟩,h2⟩
theorem AY (x y:Str):(x++y).cps.toList=x.cps.toList++y.cps.toList:=by
 show (x.cps++y.cps).toList=_;simp
theorem tG (x y:Str):(x++y).length=x.length+y.length:=by
 show (x.cps++y.cps).size=_;rw[Array.size_append];rfl
theorem EF (c:Nat):(⟨#[c]⟩:Str).length=1:=rfl
theorem Y8 {x y:Str}(h:x.cps.toList=y.cps.toList):x=y:=by
 cases x;cases y;have:_=_:=Array.ext' h;cases this;rfl
section
variable {prog:Program}{w:World}{A:Around}{E:Value->Shared->Prop}{s:Shared}
theorem C8 {h h':Heap}{it l:Addr}{items:Array Value} (hl:h.IsList l items) (x:Heap.ExtBut it h h') (hne:l≠it):h'.IsList l items:=by
 obtain⟨o,ho,r⟩:=hl;exact⟨o,x l o hne ho,r⟩
theorem F2 {it t:Addr}{items:Array Value} (hne:t≠it):∀(n i:Nat) (s:Shared) (Q:List Value->Shared->Prop),s.heap.IsListIter it t i->s.heap.IsList t items->i+n<=items.size →
  (∀h':Heap,h'.IsListIter it t (i+n)->Heap.SameBut it s.heap h'->Q ((items.toList.drop i).take n) { s with heap:=h' })->wpAny (model prog w) A (draw (.ref it) n) Q E s
 | 0,i,s,Q,hit,_,_,hQ=>by
  show wpAny _ _ (pure []) Q E s;exact wpAny_pure (by simpa using hQ s.heap hit (Heap.SameBut.refl ..))
 | n+1,i,s,Q,hit,ht,hle,hQ=>by
  have hlt:i<items.size:=by lia
  show wpAny _ _ (pyNext (.ref it) >>= _) Q E s;refine wpAny_bind (wpAny_pyNext_list_item hit ht (x:=items[i]) (by simp[hlt]) fun h₁ hit₁ hs₁=> ?_);refine wpAny_bind (wpAny_holding (F2 hne n (i+1) _ _ hit₁ (C8 ht hs₁.extBut hne) (by lia) fun h₂ hit₂ hs₂=>wpAny_pure ?_));have hd:items.toList.drop i=items[i]::items.toList.drop (i+1):=by simp[List.drop_eq_getElem_cons,hlt]
  have:=hQ h₂ (by rw[show i+(n+1)=i+1+n by lia];exact hit₂) (hs₁.trans hs₂);rw[hd,List.take_succ_cons]at this;exact this
theorem A0 {t:Addr}{items:Array Value}{Q:List Value->Shared->Prop} (hh:A.handled=none) (ht:s.heap.IsList t items)
  (hQ:∀h',Heap.ExtBut s.heap.objs.size s.heap h'->Q items.toList { s with heap:=h' }):wpAny (model prog w) A (unpackItems (.ref t) items.size none) Q E s:=by
 have hlt:t≠s.heap.objs.size:=by obtain⟨o,ho,_⟩:=ht;exact Nat.ne_of_lt (Heap.lt_size ho)
 unfold unpackItems;refine wpAny_bind ?_
 ·unfold notIterableAtAll;refine wpAny_bind (wpAny_specialOf ht.typeIs slot_list_iter.lookup ?_);refine wpAny_pure ?_;simp only[Bool.false_eq_true,if_false];refine wpAny_bind (wpAny_holding (wpAny_pyIter_list ht ?_));refine wpAny_bind (wpAny_holding (F2 hlt items.size 0 _ _ ⟨_,Heap.get?_push_size _ rfl,rfl,rfl⟩ (ht.push _) (by lia) fun h₁ hit₁ hs₁=> ?_));have hall:List.take items.size (List.drop 0 items.toList)=items.toList:=by
   rw[List.drop_zero];exact List.take_of_length_le (by simp)
  rw[hall];rw[if_neg (by simp)];have ht₁:h₁.IsList t items:=C8 (ht.push _) hs₁.extBut hlt;refine wpAny_bind (wpAny_holding (wpAny_pyNext_list_end hh hit₁ ht₁ (by simp) fun h₂ he₂=> ?_));simp only[Option.isSome_none,Bool.false_eq_true,if_false];refine wpAny_pure (hQ h₂ fun b o hb e=>he₂ b o hb (hs₁.extBut b o hb (Heap.get?_push_of_some _ e)))
theorem z9 {env:Env}{elts:List Expr}{x1}{pos:Pos}{t:Addr}{items:Array Value}{Q:Unit->Shared->Prop} (hh:A.handled=none) (ht:s.heap.IsList t items)
  (hn:(assignEach elts env).length=items.size)(hstar:(assignEach elts env).findIdx? (·.1)=none)
  (h:∀h',Heap.ExtBut s.heap.objs.size s.heap h'->wpAny (model prog w) A (assignInOrder ((assignEach elts env).map (·.2)) items.toList) Q E { s with heap:=h' }) :
  wpAny (model prog w) A (assign (.Tuple elts x1 pos) env (.ref t)) Q E s:=by
 rw[assign_Tuple];refine wpAny_bind (wpAny_standAt ?_);unfold unpack;rw[hn,hstar];exact wpAny_bind (wpAny_holding (A0 hh ht h))
end
section
variable {X:Cx}{pos:Pos}
def X1 (K:W.Frag)(n:Nat)(t:TGs):TG:=fun v σ H Q=>∃a xs,v= .ref a/\SqL K H a xs/\xs.length=n/\t xs σ H Q
theorem MY {es:List Expr}{k:Nat}{t:TGs}{n:Nat} (hc:X.calm=true) (h:PGs X es t)
  (hn:(assignEach es X.env).length=n:=by rfl)(hst:(assignEach es X.env).findIdx? (·.1)=none:=by rfl):PG X (.Tuple es k pos) (X1 X.K n t):=by
 intro pins s σ H v u Q I r hw;obtain⟨a,xs,e1,hq,hl,hw⟩:=hw;subst e1;cases r;obtain⟨its,rv,ht,hz⟩:=I.list hq;refine z9 (I.ok.hd hc) ht.isList (by simp[hn,←hl,rv.length]) hst fun h' hx=> ?_;have I1:Inv X pins σ H { s with heap:=h' }:=I.kept (t':=s.toks) fun b o e=>hx b o (Nat.ne_of_lt (Heap.lt_size e)) e;exact h pins _ σ H xs _ Q I1 (by simpa using rv) hw
end
theorem U3 {K:W.Frag}{H:Hp}{σ:St}{q:St->Hp->Prop}{gs:TGs}{vs:List V}{a:Addr}{n:Nat} (e:SqL K H a vs) (hl:vs.length=n) (h:gs vs σ H q):X1 K n gs (.ref a) σ H q:=⟨a,vs,rfl,e,hl,h⟩
section
variable {nx bk ct:St->Hp->Prop}{rt:VK}{σ:St}{H:Hp}{g:TG}{K:W.Frag}{a:Addr}{tb:TS}{xs:List V}
end
theorem YW {H:Hp}{Q:VK}{i j:Int} (h0:0<j) (h:0<=i%j->i%j<j->Q (.int (i%j)) H):rI (fun _ j=>0<j) (fun i j=> .int (i%j)) (.int i) (.int j) H Q:=⟨i,j,rfl,rfl,h0,h (Int.emod_nonneg _ (by lia)) (Int.emod_lt_of_pos _ h0)⟩
end L2
namespace L2
open PySem PySem.Spec PyProof.Rows PySem.W
section
variable {prog:Program}{w:World}{A:Around}{E:Value->Shared->Prop}{h:Heap}{g:Array GenState}{d:Drawn}{t:Nat}{os:OsState}{a C:Addr}{o:Obj}{vs:Array Value}{K:Frag}
end
section
variable {P:Program}{w:World}{H H':Hp}{h h':Heap}{a:Addr}{o:HO}
end
section
variable {X:Cx}{pins:List (Addr×Obj)}{σ:St}{H H1:Hp}{s s1:Shared}{h2 B:Heap}
end
section
variable {X:Cx}{E:XK}{x:Str}{C:Addr}{np cpos pos:Pos}{e:Expr}{es:List Expr}{t:TA}
end
section
variable {X:Cx}{k k':Nat}{sp:Sp}{x m:Str}{p pos apos:Pos}{e o:Expr}{es:List Expr}{ta:TE}{t:TA}{C:Addr}{dvs:List V}{E:XK}{ps:List Str}
end
section
variable {P:Program}{w:World}{K:W.Frag}{mg:Str->Option Value}{base:Heap}
end
section
variable {X:Cx}{pins:List (Addr×Obj)}{σ:St}{H:Hp}{s:Shared}{ea:Addr}
end
section
variable {X:Cx}{k k':Nat}{sp:Sp}{x m:Str}{p pos apos:Pos}{e o:Expr}{es:List Expr}{ta:TE}{t:TA}{C f:Addr}{dvs:List V}{ds:List Value}{R:XK}{ps:List Str}{fd:FuncData}
end
section
variable {X:Cx}{i:Nat}{n x:Str}{T:Addr}{np hpos pos epos:Pos}{e:Expr}{tc:XK->TE}{b₀:Stmt}{suite:List Stmt}{ts:TS}
end
section
variable {X:Cx}{x:Str}{j:Nat}{p pos:Pos}{e v1 v2:Expr}{es:List Expr}{te:TE}{t:TJ}
end
end L2
namespace L2
open PySem PySem.W
section
variable {K:Frag}{C D:Addr}{cd:ClassData}{b:Bool}
end
variable {K:Frag}{H:Hp}{Q:VK}
end L2
namespace L2
open PySem PySem.W
end L2
set_option maxHeartbeats 4000000
namespace L2
open PySem PySem.Spec PyProof.Rows
abbrev kn (o:Obj):HO:= .frz o (.ext fun _=>True)
theorem HQ {P:Program}{w:World}{H:Hp}{h:Heap}{a:Addr}{o:Obj} (e:h.get? a=some o):ObjOk P w H h a (kn o):=⟨e,trivial,⟨o,e⟩,fun _ _ _ _=>trivial⟩
theorem yM {P:Program}{w:World}{H:Hp}{h:Heap}{a:Addr}{o:Obj} (x:HOk P w H h) (e:H a=some (kn o)):h.get? a=some o:=(x a _ e).1
section
variable {X:Cx}{pins:List (Addr×Obj)}{σ:St}{H:Hp}{s:Shared}
end
section
variable {X:Cx}{CX:CXT}{k k':Nat}{sp:Sp}{E:XK}{x y:Str}{p pos:Pos}{e:Expr}{es:List Expr}{t:TA}{i:Nat}{c:Addr}
end
def cxL (CX:CXT)(P:Program)(w:World)(K:W.Frag)(mg:Str->Option Value)(base:Heap)(N:List Str)(qual:Str)(scope:Scope)(f:Addr)(cd:Value)(cl:List (Str×Addr))(A:Around)(outer:List Env)(s:Shared)(H:Hp)(E:XK):Cx where
 prog:=P
 w:=w
 K:=K
 mg:=mg
 base:=base
 A:=A.deeper (W.envX qual scope s.heap.objs.size f cd cl)
 N:=N
 s₀:=s
 H₀:=H
 env:=W.envX qual scope s.heap.objs.size f cd cl
 outer:=outer
 stack:=W.envX qual scope s.heap.objs.size f cd cl::outer
 ex:=[]
 calm:=true
 fn:=fun _=>false
 pn:=[]
 xe:=fun e s'=>wpAny (model P w) (A.deeper (W.envX qual scope s.heap.objs.size f cd cl)) (leaving (W.envX qual scope s.heap.objs.size f cd cl) e) (fun _ s''=>CX outer H s E e s'') (fun e' s''=>CX outer H s E e' s'') s'
def LamAt (H:Hp)(F:Addr)(fd:FuncData)(qual:Str)(args:Arguments)(body:Expr)(sc:Scope)(y:Str)(c:Addr):Prop :=
 ∃(c':Addr) (pm ctv:Value) (oc:Obj) (fv:Array Value) (t:Tok),fd=W.kla_fn "<lambda>" qual args body sc [(y,c)] pm (.ref c') ctv ∧
  H F=some (kn (W.kla_obj "<lambda>" qual args body sc [(y,c)] pm c' ctv))/\H c'=some (kn oc)/\oc.data= .fields fv/\fv[1]? =some (.str qual t)
theorem LamAt.same {H H':Hp}{F:Addr}{fd:FuncData}{qual:Str}{args:Arguments}{body:Expr}{sc:Scope}{y:Str}{c:Addr} (x:LamAt H F fd qual args body sc y c) (s:Same H H'):LamAt H' F fd qual args body sc y c :=
 let ⟨c',pm,ctv,oc,fv,t,e1,e2,e3,r⟩:=x;⟨c',pm,ctv,oc,fv,t,e1,s _ _ e2,s _ _ e3,r⟩
section
variable {P:Program}{w:World}{K:W.Frag}{mg:Str->Option Value}{base:Heap}
end
section
variable {X:Cx}{k k':Nat}{x:Str}{p pos:Pos}{e:Expr}{es:List Expr}{t:TA}
def aBB (F:Addr->FuncData->List Str->Sp->Prop)(K:W.Frag)(i:Nat)(t:TA):TE:=fun σ H Q=>∃f o fd,σ[i]? =some (some (.ref f))/\H f=some (kn o)/\o.data= .func fd ∧
 t σ H fun vs H1=>∃ps sp,H1 f=some (kn o)/\Binds K fd ps []/\F f fd ps sp/\sp vs H1 Q E0
theorem NL {h:Heap}{f:Addr}{o:Obj}{fd:FuncData} (e:h.get? f=some o) (d:o.data= .func fd):W.FnAt f h:=by
 obtain⟨oc,od,dt,sl⟩:=o;have d':dt= .func fd:=d;subst d';exact⟨oc,od,fd,sl,e⟩
theorem VU (k:Nat)(i:Nat)(hr:Room k' X.A)(ha:PA X (e::es) t)(hk:k<=k':=by decide)(hN:X.N[i]? =some x:=by rfl)(hv:Vis X.env.scope x:=by first|exact Or.inl rfl|exact Or.inr (Or.inl rfl)|exact Or.inr (Or.inr rfl))
  (hdb:(x==("__debug__" :Str))=false:=by decide)(hcd:(x==("__classdict__" :Str))=false:=by decide)(he:starEach (e::es) X.env=(false,eval e X.env)::starEach es X.env:=by rfl)(hpl:(backTo pos (starEach es X.env)).any (·.1)=false:=by rfl) :
  PE X (.Call (.Name x p) (e::es) [] pos) (aBB (fun f fd ps sp=>FnOk X.prog X.w X.K X.mg X.base CX0 k f fd ps sp) X.K i t):=by
 intro pins s σ H Q I h;obtain⟨f,o,fd,hi,hf,hd,h⟩:=h;refine wpAny_Call_Name_kw (thn (RA (i:=i) hN hv hdb hcd pins s σ H (fun v' H'=>v'= .ref f/\H' f=some (kn o)/\t σ H' fun vs H1=>∃ps sp,H1 f=some (kn o)/\Binds X.K fd ps []/\FnOk X.prog X.w X.K X.mg X.base CX0 k f fd ps sp/\sp vs H1 Q E0) I ⟨_,hi,rfl,hf,h⟩) fun u s1 ⟨v1,H1,I1,rv,e1,hf1,q1⟩=> ?_);subst e1;obtain rfl:u=Value.ref f:=rv;refine W.callWith_F (NL (yM I1.hok hf1) hd) (thn (ha pos pins s1 σ H1 _ I1 q1) fun us s2 ⟨vs,H2,I2,r,ps,sp,hf2,hb,F,q⟩=>⟨NL (yM I2.hok hf2) hd,?_⟩) he hpl;have q':sp (vs++[]) H2 Q E0:=by rw[List.append_nil];exact q
 exact uP (us:=us) (vs:=vs) F (hr.mono hk) hb .nil sO I2 r q'
end
section
variable {X:Cx}{args:Arguments}{body:Expr}{lsc:Scope}{pos:Pos}{y:Str}{c cL PL:Addr}
end
section
variable {P:Program}{w:World}{K:W.Frag}{mg:Str->Option Value}{base:Heap}
end
theorem SD {P:Program}{w:World}{K:W.Frag}{mg mb:Str->Option Value}{CX:CXT}{k:Nat}{fa a cL PL:Addr}{fd:FuncData}{x:Str}{sp:Sp}{s₁:Shared}{vs:List Value}{ns:List Int}
  (KX:K.In s₁.heap)(hns:s₁.heap.Ns mainGlobals mg)(hb:s₁.heap.Ns builtinsNs mb)(hbb:∀x:Str,x≠ "__name__" ->mb x=bootBuiltins x)(hlim:s₁.heap.NoLimit)(hg:s₁.gens= #[])
  (C:W.CodeHd s₁.heap cL PL)(hP:s₁.heap.get? PL=some (W.tabObj #[]))(hKP:K.lookup PL=none)
  (hbm:∃bm ob,mg "__builtins__" =some (.ref bm)/\bm≠builtinsNs/\s₁.heap.get? bm=some ob/\ob.cls= .type "module" /\ob.dict=some builtinsNs/\ob.data= .plain)
  (ha:s₁.heap.get? a=some { cls:= .type "list",data:= .seq vs.toArray })(hi:IntsAre vs ns)(hl:ns.length<=sizeLine)(hr:Room k callerA)
  (F:∀base:Heap,W.CodeHd base cL PL->base.BuiltinsAt mg PL->FnOk P w K mg base CX k fa fd [x] sp)(hbind:∀(s:Shared) (u:Value),BindsTo s fd ⟨[u],[]⟩ [(x,u)])
  (hsp:∀H:Hp,SqL K H a (ns.map V.int)->H PL=some (.tbl #[])->sp [.ref a] H (fun v _=>v= .bl true) fun _ _ _=>False)
  (hCX:∀H e s',CX [] H s₁ (fun _ _ _=>False) e s'->False) :
  codeAny (model P w) callerA (.call (.ref fa) ⟨[.ref a],[]⟩) (fun r s'=>r= .ok (.ret (.bool true))/\OldK s₁.heap s'.heap/\s'.os=s₁.os/\AllBare s'.gens) s₁:=by
 have rv:=F6 hi;have lenV:=hi.length;have naP:a≠PL:=fun z=>by rw[z,hP]at ha;cases ha
 have core:∀H:Hp,H PL=some (.tbl #[])->SqL K H a (ns.map V.int)->HOk P w H s₁.heap->(∀b,H b≠none->b=a∨b=PL)->(H a≠none->K.lookup a=none)->(∀u,H a=some u->∃o xs,u= .frz o (.lst xs)) →
   codeAny (model P w) callerA (.call (.ref fa) ⟨[.ref a],[]⟩) (fun r s'=>r= .ok (.ret (.bool true))/\OldK s₁.heap s'.heap/\s'.os=s₁.os/\AllBare s'.gens) s₁:=by
  intro H hHP hS hok hA hK hfz;have base_of:∀{b:Addr}{o:Obj},s₁.heap.get? b=some o->H b=none->(pY s₁.heap H).get? b=some o:=fun e n=>VC e n;have noT:∀{b:Addr}{o:Obj},s₁.heap.get? b=some o->o.cls≠ .none->o.cls≠ .type "list" ->H b=none:=fun {b o} e n1 n2=>by
   cases q:H b with
   | none=>rfl
   | some u =>
    rcases hA b (by rw[q];simp) with z|z
    ·rw[z,ha]at e;cases e;exact absurd rfl n2
    ·rw[z,hP]at e;cases e;exact absurd rfl n1
  have noA:∀{b:Addr}{o:Obj}{es:Array DictEntry}{ep:Nat},s₁.heap.get? b=some o->o.data= .dict es ep->H b=none:=fun {b o es ep} e d=>by
   cases q:H b with
   | none=>rfl
   | some u =>
    rcases hA b (by rw[q];simp) with z|z
    ·rw[z,ha]at e;cases e;have d':Data.seq vs.toArray _=Data.dict es ep:=d;cases d'
    ·rw[z,hP]at e;cases e;have d':Data.fields #[]=Data.dict es ep:=d;cases d'
  have nsK:∀{b:Addr}{m:Str->Option Value},s₁.heap.Ns b m->(pY s₁.heap H).Ns b m:=fun {b m} ⟨o,es,ep,e,d,r⟩=>⟨o,es,ep,base_of e (noA e d),d,r⟩
  have hKb:K.In (pY s₁.heap H):=fun b o e=>base_of (KX b o e) (by
   cases q:H b with
   | none=>rfl
   | some u =>
    rcases hA b (by rw[q];simp) with z|z
    ·subst z;rw[hK (by rw[q];simp)]at e;cases e
    ·rw[z,hKP]at e;cases e)
  have hM:Mod K mg (pY s₁.heap H):=⟨hKb,nsK hns,⟨mb,nsK hb,hbb⟩,let ⟨mc,h1,h2⟩:=hlim;⟨mc,nsK h1,h2⟩⟩
  have e0:Env0 P w K mg (pY s₁.heap H) callerA [] s₁ H:=⟨rfl,hM,fun b o e=>Z3 e,Nat.le_of_eq (T4 _ _),trivial,fun b hb=>absurd (show b∈([]:List Addr) from hb) (by simp),hok,.of_eq hg⟩
  have hC:W.CodeHd (pY s₁.heap H) cL PL:=by
   obtain⟨o,fv,file,tf,flags,tg,inF,text,tt,e1,e2,r⟩:=C;exact⟨o,fv,file,tf,flags,tg,inF,text,tt,base_of e1 (noT e1 (by rw[e2];intro z;cases z) (by rw[e2];decide)),e2,r⟩
  have hB:(pY s₁.heap H).BuiltinsAt mg PL:=by
   obtain⟨bm,ob,b1,b2,b3,b4,b5,b6⟩:=hbm;refine⟨bm,ob,b1,b2,fun z=> ?_,fun z=> ?_,base_of b3 (noT b3 (by rw[b4];intro z;cases z) (by rw[b4];decide)),b4,b5,b6⟩
   ·obtain⟨o,es,ep,e,hd,_⟩:=hns;rw[z,e]at b3;cases b3;rw[hd]at b6;cases b6
   ·rw[z,hP]at b3;cases b3;cases b4
  refine codeAny_mono ((F _ hC hB).run callerA [] s₁ H ⟨[.ref a],[]⟩ [.ref a] [.ref a] _ _ hr e0 (hbind s₁ (.ref a)) (.cons rfl .nil) (hsp H hS hHP)) fun r s' h=> ?_;cases r with
  | error e=>exact(hCX H e s' h).elim
  | ok fl =>
   cases fl with
   | next=>exact False.elim h
   | brk=>exact False.elim h
   | cont=>exact False.elim h
   | ret u =>
    obtain⟨v,H',os,bare,un,hok',r',q⟩:=h;have q':v= .bl true:=q;subst q';obtain rfl:u=Value.bool true:=r';have kept:∀b o,b≠PL->s₁.heap.get? b=some o->s'.heap.get? b=some o:=fun b o nb e=>by
     cases q:H b with
     | none=>exact un.keep b o e q (by intro z;exact absurd (show b∈([]:List Addr) from z) (by simp)) (by simp)
     | some u =>
      rcases hA b (by rw[q];simp) with z|z
      ·subst z;obtain⟨ob,xs,rfl⟩:=hfz u q;have z2:=un.frzs b ob _ q;obtain⟨e1,_⟩:=hok b _ q;obtain⟨e2,_⟩:=hok' b _ z2;rw[e]at e1;cases e1;exact e2
      ·exact absurd z nb
    obtain⟨more,hm⟩:=un.tbls PL #[] hHP;have gP':s'.heap.get? PL=some (W.tabObj (#[]++more)):=hok' PL _ hm;refine⟨rfl,⟨fun b o e=> ?_,fun b o e=> ?_⟩,os,bare⟩
    ·by_cases hb:b=PL
     ·subst hb;rw[hP]at e;cases e;exact .inr (.inl ⟨(C.tab hP).isCodeTable,rfl,#[],more,rfl,gP'⟩)
     ·exact .inl (kept b o hb e)
    ·by_cases hb:b=PL
     ·subst hb;exact⟨_,gP'⟩
     ·exact⟨o,kept b o hb e⟩
 cases hk:K.lookup a with
 | some o =>
  have e:=KX a o hk;rw[ha]at e;cases e;refine core (fun b=>if b=PL then some (.tbl #[]) else none) (if_pos rfl) (.inr ⟨_,vs.toArray,_,hk,rfl,rfl,rfl,by rw[List.size_toArray,lenV];exact hl,by simpa using rv⟩) (fun b u z=> ?_) (fun b z=> ?_) (fun z=>absurd (if_neg naP) z) (fun u z=> ?_)
  ·by_cases hb:b=PL
   ·have z':=(if_pos hb).symm.trans z;cases z';subst hb;exact hP
   ·have z':=(if_neg hb).symm.trans z;cases z'
  ·by_cases hb:b=PL
   ·exact .inr hb
   ·exact absurd (if_neg hb) z
  ·have z':=(if_neg naP).symm.trans z;cases z'
 | none =>
  have eP:(if PL=a then some (HO.frz { cls:= .type "list",data:= .seq vs.toArray } (.lst (ns.map V.int))) else if PL=PL then some (.tbl #[]) else none)=some (.tbl #[]):=by rw[if_neg (Ne.symm naP),if_pos rfl]
  refine core (fun b=>if b=a then some (.frz { cls:= .type "list",data:= .seq vs.toArray } (.lst (ns.map V.int))) else if b=PL then some (.tbl #[]) else none) eP (.inl (.inr ⟨{ cls:= .type "list",data:= .seq vs.toArray },if_pos rfl⟩)) (fun b u z=> ?_) (fun b z=> ?_) (fun _=>hk) (fun u z=> ?_)
  ·by_cases hb:b=a
   ·have z':=(if_pos hb).symm.trans z;cases z';subst hb;exact⟨ha,by rw[List.length_map];exact hl,vs,_,rv,ha⟩
   ·have z1:=(if_neg hb).symm.trans z
    by_cases hb2:b=PL
    ·have z':=(if_pos hb2).symm.trans z1;cases z';subst hb2;exact hP
    ·have z':=(if_neg hb2).symm.trans z1;cases z'
  ·by_cases hb:b=a
   ·exact .inl hb
   ·by_cases hb2:b=PL
    ·exact .inr hb2
    ·exact absurd ((if_neg hb).trans (if_neg hb2)) z
  ·have z':=(if_pos rfl).symm.trans z;cases z';exact⟨_,_,rfl⟩
section
variable {X:Cx}{o:Expr}{to:TE}{ap pos:Pos}
def XG (i j:Int):Prop:=0<j/\j<2^100
theorem VP:OpR X (binaryOp .FloorDiv) (rI XG fun i j=> .int (i/j)):=opI fun i j _ _ _ _ _ hc q=>by
 have h1:(0:Int)<j:=hc.1;have h2:j<2^100:=hc.2;refine floordiv_int (by lia) (by rw[Int.fdiv_eq_ediv_of_nonneg i (by lia)];exact q) (.inl (PyProof.noPylong_of_log2 ?_));have h3:j.natAbs<2^100:=by lia
 have h4:=Nat.log2_lt (n:=j.natAbs) (k:=100) (by lia)
 lia
def rBL:V->List V->Hp->VK->Prop:=fun x xs H Q=>∃i,x= .int i/\xs=[]/\Q (.int (Builtin.Int.intBits i)) H
theorem UB:MtR X "int.bit_length" rBL:=by
 intro pins s σ H x xs v us Q I rx rs h;obtain⟨i,rfl,rfl,q⟩:=h;obtain⟨t,rfl⟩:=rx;cases rs;exact call_int_bit_length ⟨.int (Builtin.Int.intBits i),H,I.tok _,⟨_,rfl⟩,q⟩
theorem QU {b t:Int}(hb:0<=b)(h:(Builtin.Int.intBits b:Int)<=t):b/2^t.toNat%2=0:=by
 have ht:Builtin.Int.intBits b<=t.toNat:=by lia
 have hlt:b<2^t.toNat:=by
  unfold Builtin.Int.intBits at ht
  by_cases h0:b=0
  ·subst h0;exact Int.pow_pos (by decide)
  ·rw[if_neg (by simpa using h0)]at ht;have h1:b.natAbs<2^(b.natAbs.log2+1):=Nat.lt_log2_self;have h2:2^(b.natAbs.log2+1)<=2^t.toNat:=Nat.pow_le_pow_right (by decide) ht;have h3:((2^t.toNat:Nat):Int)=(2:Int)^t.toNat:=by simp
   lia
 rw[Int.ediv_eq_zero_of_lt hb hlt];rfl
theorem TU {H:Hp}{Q:VK}{i:Int} (h:Q (.int (Builtin.Int.intBits i)) H):rBL (.int i) [] H Q:=⟨i,rfl,rfl,h⟩
theorem aAT {H:Hp}{Q:VK}{f:Int->Int->V}{i j:Int} (h0:0<j) (h1:j<2^100) (h:Q (f i j) H):rI XG f (.int i) (.int j) H Q:=⟨i,j,rfl,rfl,⟨h0,h1⟩,h⟩
theorem IN:∀{xs:List V}{us:List Value},xs.length=us.length->(∀(i:Nat) x u,xs[i]? =some x->us[i]? =some u->RelV x u)->Vals xs us
 | [],[],_,_=> .nil
 | [],_::_,h,_=>by simp at h
 | _::_,[],h,_=>by simp at h
 | x::xs,u::us,h,k=> .cons (k 0 x u rfl rfl) (IN (by simpa using h) fun i y w e1 e2=>k (i+1) y w (by simpa using e1) (by simpa using e2))
end
structure DcD (P:Program)(w:World)(K:W.Frag)(mg:Str->Option Value)(base:Heap)(x m:Str)(k:Nat)(dvs:List V)(sp:Sp):Prop where
 ex:∃C f fd ps ds,mg x=some (.ref C)/\W.specialIn K (.ref C) "__getattribute__" =some (some (.builtin "type.__getattribute__"))/\W.readsIn K C (.type "type")=true/\W.findCls K (.ref C) (.type "type") m=some (.val (.ref f)) ∧
  W.keepIn K (.ref f)=true/\Vals dvs ds/\Binds K fd ps ds/\FnOk P w K mg base CX0 k f fd ps sp
section
variable {X:Cx}{k k':Nat}{sp:Sp}{x m:Str}{p pos apos:Pos}{e:Expr}{es:List Expr}{t:TA}{dvs:List V}
theorem aCz {pl:Sem Bool}(F:DcD X.prog X.w X.K X.mg X.base x m k dvs sp)(hr:Room k' X.A)(ha:PA X (e::es) t)(hk:k<=k':=by decide)(hg:Gl X x:=by rfl)(hdb:(x==("__debug__" :Str))=false:=by decide)
  (hst:starEach (e::es) X.env=(false,eval e X.env)::starEach es X.env:=by rfl)(hpl:(backTo pos (starEach es X.env)).any (·.1)=false:=by rfl)
  (ht:eval (.Call (.Attribute (.Name x p) m apos) (e::es) [] pos) X.env=(do
   let ov ←eval (.Name x p) X.env
   standAt apos.atName
   let (f,first) ←holding [ov] (getMethod ov m pl)
   callWith pos f first (backTo pos (starEach (e::es) X.env)) (backToKw pos (keywordEach [] X.env))):=by rfl) :
  PE X (.Call (.Attribute (.Name x p) m apos) (e::es) [] pos) (v7 sp dvs E0 t):=by
 intro pins s σ H Q I h;obtain⟨C,f,fd,ps,ds,hm,hga,hrd,hfc,kp,hd,hb,G⟩:=F.ex;refine W.methodCall_KW (pl:=pl) (pW I hg hm ?_ hdb) ht;refine W.method_cls I.kIn hga (W.cls_value I.kIn hrd hfc (xF (v:= .ref f) rfl) ?_);have I1:=I.tok (s.toks+1);refine W.callWith_K (first:=[]) (h₀:=X.base) I.ok.mod.kin kp (thn (ha pos pins _ σ H _ I1 h) fun us s2 ⟨vs,H2,I2,r,q2⟩=>⟨I2.kIn,?_⟩) hst hpl;exact uP G (hr.mono hk) hb hd sO I2 r q2
theorem WT {E:XK}{σ:St}{H:Hp}{Q:VK} (h:t σ H fun vs H1=>sp (vs++dvs) H1 Q E):v7 sp dvs E t σ H Q:=h
end
def HM (H:Hp)(c:Addr)(v:V):Prop:=∃o u,H c=some (kn o)/\o.data= .cell (some u)/\RelV v u
def off (H:Hp)(c:Addr):Hp:=fun b=>if b=c then none else H b
theorem qN {H:Hp}{c:Addr}:off H c c=none:=by unfold off;rw[if_pos rfl]
theorem gI {H:Hp}{c b:Addr} (h:b≠c):off H c b=H b:=by unfold off;rw[if_neg h]
theorem U6 {H:Hp}{c b:Addr}{u:HO} (h:off H c b=some u):b≠c/\H b=some u:=by
 by_cases hb:b=c
 ·subst hb;rw[qN]at h;cases h
 ·rw[gI hb]at h;exact⟨hb,h⟩
theorem VD {H:Hp}{c:Addr}{u:HO} (h:H c=some u):upd (off H c) c u=H:=by
 funext b
 by_cases hb:b=c
 ·subst hb;rw[aQ,h]
 ·rw[aH hb,gI hb]
section
variable {P:Program}{w:World}
theorem aAO {H:Hp}{h:Heap}{c:Addr}{o:Obj} (x:HOk P w H h) (e:H c=some (kn o)):HOk P w (off H c) h:=fun b u q=>by
 obtain⟨hb,q'⟩:=U6 q;refine(x b u q').stay (fun _ _ _ z=>z) (fun d z=> ?_) fun d xs z=> ?_
 ·rw[gI (by rintro rfl;rw[e]at z;cases z)];exact z
 ·rw[gI (by rintro rfl;rw[e]at z;cases z)];exact z
theorem SU {H:Hp}{h:Heap}{c:Addr}{o:Obj} (x:HOk P w H h) (n:H c=none) (g:h.get? c=some o):HOk P w (upd H c (kn o)) h:=fun b u q=>by
 by_cases hb:b=c
 ·subst hb;rw[aQ]at q;cases q;exact HQ g
 ·rw[aH hb]at q;exact(x b u q).stay (fun _ _ _ z=>z) (fun d z=>by rw[aH (bA z n)];exact z) fun d xs z=>by rw[aH (bA z n)];exact z
theorem aCI {fs:List Addr}{H H':Hp}{h h':Heap}{c:Addr}{o:Obj} (e:H c=some (kn o)) (g:h.get? c=some o) (hf:c∉fs) (x:Un fs [] (off H c) H' h h'):Un fs [] H (upd H' c (kn o)) h h' where
 keep:=fun b ob q n hb hx=>x.keep b ob q (by rw[gI (by rintro rfl;rw[e]at n;cases n)];exact n) hb hx
 slot:=fun b ob q n hb hx=>x.slot b ob q (by rw[gI (by rintro rfl;rw[e]at n;cases n)];exact n) hb hx
 free:=fun b ob q n hx=>by
  have hb:b≠c:=by rintro rfl;rw[e]at n;cases n
  rw[aH hb];exact x.free b ob q (by rw[gI hb];exact n) hx
 there:=x.there
 tups:=fun b xs q=>by
  have hb:b≠c:=by rintro rfl;rw[e]at q;cases q
  rw[aH hb];exact x.tups b xs (by rw[gI hb];exact q)
 frzs:=fun b ob u q=>by
  by_cases hb:b=c
  ·subst hb;rw[e]at q;cases q;exact aQ
  ·rw[aH hb];exact x.frzs b ob u (by rw[gI hb];exact q)
 tbls:=fun b ps q=>by
  have hb:b≠c:=by rintro rfl;rw[e]at q;cases q
  obtain⟨m,z⟩:=x.tbls b ps (by rw[gI hb];exact q);exact⟨m,by rw[aH hb];exact z⟩
end
section
variable {P:Program}{w:World}{K:W.Frag}{mg:Str->Option Value}{base:Heap}
theorem Y7 {k:Nat}{f c:Addr}{fd:FuncData}{qual:Str}{args:Arguments}{body:Expr}{sc:Scope}{x y:Str}{v:V}{sp:Sp}
  (hk:sc.kind= .function)(hco:sc.isCoroutine=false)(hgen:sc.isGenerator=false)(hcell:∀z∈sc.names,z.2≠ .cell)(hx:sc.names.lookup x=some .local)(hfree:∀z,sc.names.lookup z=some .free->z=y)(hy:sc.names.lookup y=some .free)
  (len:∀vs H Q E,sp vs H Q E->∃a,vs=[a]/\LamAt H f fd qual args body sc y c/\HM H c v)
  (hbody:∀(cdv:Value) (A:Around) (outer:List Env) (s:Shared) (H:Hp) (a:V) (Q:VK) (E:XK),Room k (A.deeper (W.envX qual sc s.heap.objs.size f cdv [(y,c)]))->sp [a] H Q E →
   ∃t,PE (cxL CX0 P w K mg base [x,y] qual sc f cdv [(y,c)] A outer s (off H c) E).nox body t/\∀o,H c=some (kn o)->t [some a,some v] (off H c) (fun r H'=>Q r (upd H' c (kn o)))) :
  FnOk P w K mg base CX0 (k+1) f fd [x] sp:=by
 refine⟨fun vs H Q E h=> ?_,fun A outer s H ar us vs Q E hr e0 hb r hsp=> ?_⟩
 ·obtain⟨a,rfl,_⟩:=len vs H Q E h;rfl
 obtain⟨a,rfl,⟨c',pm,ctv,oc,fv,tt,rfl,hF,hc',hd,hv⟩,oC,uv,eC,hdC,rv⟩:=len vs H Q E hsp;obtain⟨u,rfl,ra⟩:∃u,us=[u]/\RelV a u:=by
  cases r with
  | cons r1 r2=>cases r2;exact⟨_,rfl,r1⟩
 obtain⟨t,ht,hq⟩:=hbody (.ref c') A outer s H a Q E (hr.deeper _) hsp;have hq:=hq oC eC;have gC:=yM e0.hok eC;have lim:s.heap.NoLimit:=e0.mod.nolimit.keeps fun b o e=>(e0.bs b o e).1;refine W.kla_callFunE hr.depth (yM e0.hok hF) rfl hco hgen rfl ⟨c',oc,fv,tt,rfl,yM e0.hok hc',hd,hv⟩ (hb _ _ _ _ ?_);refine wpAny_newFunctionEnv hcell (fun z hz=>by
  have hz':z∈[(x,u)]:=hz;rw[List.mem_singleton]at hz';rw[hz'];exact hx) (fun h₁ hns hsb=>⟨lim.fresh _ hsb,?_⟩) hk
 have hk₁:∀b o,s.heap.get? b=some o->h₁.get? b=some o:=fun b o e=>hsb.extBut b o (Nat.ne_of_lt (Heap.lt_size e)) (Heap.get?_push_of_some _ e);have lkY:∀z (d:Addr),([(y,c)]:List (Str×Addr)).lookup z=some d->z=y/\d=c:=fun z d e=>by
  rw[List.lookup_cons]at e;cases q:z==y with
  | true=>rw[q]at e;cases e;exact⟨eq_of_beq q,rfl⟩
  | false=>rw[q]at e;cases e
 have lkC:([(y,c)]:List (Str×Addr)).lookup y=some c:=by rw[List.lookup_cons,beq_self_eq_true]
 have nc:∀b o,base.get? b=some o->b≠c:=fun b o e z=>by
  have:=(e0.bs b o e).2;rw[z,eC]at this;cases this
 have ncf:c∉frs outer:=fun z=>by rw[e0.frf c z]at eC;cases eC
 show codeAny (model P w) A (.expr body (W.envX qual sc s.heap.objs.size f (.ref c') [(y,c)])) _ _;have hokO:=aAO e0.hok eC;have I:Inv (cxL CX0 P w K mg base [x,y] qual sc f (.ref c') [(y,c)] A outer s (off H c) E) [] [some a,some v] (off H c) { s with heap:=h₁,toks:=s.toks+([x].zip [u]).length }:=by
  have noA:∀b:Addr,b∉(cxL CX0 P w K mg base [x,y] qual sc f (.ref c') [(y,c)] A outer s (off H c) E).ex:=fun b z=>absurd (show b∈([]:List Addr) from z) (by simp);refine⟨⟨e0.mod,hk,rfl,rfl,Nat.le_refl _,fun z1 z2 d h1 h2=> ?_,fun z hz=> ?_,fun z d hf _=>absurd (show false=true from hf) Bool.false_ne_true,fun _=>hr.hd,Around.frames_deeper e0.frames,.inr ⟨rfl,rfl⟩,fun b z=>absurd z (noA b),fun b o e=>⟨(e0.bs b o e).1,by show off H c b=none;rw[gI (nc b o e)];exact(e0.bs b o e).2⟩,e0.bsz,fun b _ _=>noA b,fun b z=>absurd z (noA b),e0.funs,fun b hb=> ?_⟩,
   rfl,e0.bare,Un.kept hk₁,⟨_,hns,fun i z v' h1 h2 h3=> ?_⟩,fun z d h=> ?_,hokO.fresh (Nat.le_refl _),fun z d h=> ?_,fun p hp=>absurd (show p∈([]:List (Addr×Obj)) from hp) (by simp),hokO.kept hk₁,rfl⟩
  ·exact(lkY z1 d h1).1.trans (lkY z2 d h2).1.symm
  ·have hz:sc.names.lookup z=some .cell∨sc.names.lookup z=some .free:=hz;rcases hz with hz|hz
   ·exact absurd rfl (hcell _ (PySem.mem_of_lookup hz))
   ·rw[hfree z hz];exact⟨c,lkC⟩
  ·show off H c b=none
   by_cases hbc:b=c
   ·rw[hbc];exact qN
   ·rw[gI hbc];exact e0.frf b hb
  ·match i,h1,h2 with
   | 0,h1,h2 =>
    cases h1;cases h2;refine⟨u,ra,.inl ⟨hx,?_⟩⟩;show ([(x,u)].reverse).lookup x=some u;rw[List.reverse_singleton,List.lookup_cons,beq_self_eq_true]
   | 1,h1,h2 =>
    cases h1;cases h2;exact⟨uv,rv,.inr ⟨.inr hy,c,lkC,oC,hk₁ _ _ gC,hdC⟩⟩
   | i+2,h1,h2=>cases h1
  ·rw[(lkY z d h).2];exact⟨_,oC,hk₁ _ _ gC,hdC⟩
  ·rw[(lkY z d h).2];exact qN
 refine W.kla_codeExpr (wpAny_mono (PE.nox ht [] _ [some a,some v] (off H c) _ I hq) (fun u' s' ⟨v',H',J,rv',q⟩=> ?_) fun e s' hs=> ?_)
 ·have Jb:Un (frs outer) [] (off H c) H' s.heap s'.heap:=J.base;have gC':s'.heap.get? c=some oC:=Jb.keep c oC gC qN ncf (by simp);have nC':H' c=none:=Jb.free c oC gC qN (by simp);exact⟨v',upd H' c (kn oC),J.os,J.bare,aCI eC gC ncf Jb,SU J.hok nC' gC',rv',q⟩
 ·exact wpAny_mono hs (fun _ s'' z=>z.elim) fun _ s'' z=>z.elim
end
def SPr (X:Cx)(pins:List (Addr×Obj))(D:fU)(R:St->V->Hp->Prop)(f:Flow)(s':Shared):Prop :=
 match f with
 | .ret u=>∃v σ' H',Inv X pins σ' H' s'/\RelV v u/\(D.rt v H'∨R σ' v H')
 | f=>SP X pins D f s'
def PRs (X:Cx)(st:List Stmt)(t:fU->(St->V->Hp->Prop)->St->Hp->Prop):Prop :=
 ∀(pins:List (Addr×Obj)) (s:Shared) (σ:St) (H:Hp) (D:fU) (R:St->V->Hp->Prop),Inv X pins σ H s->t D R σ H->wpAny (model X.prog X.w) X.A (execs st X.env) (SPr X pins D R) X.xe s
section
variable {X:Cx}{st:Stmt}{rest:List Stmt}{t:TS}{u:fU->(St->V->Hp->Prop)->St->Hp->Prop}{e:Expr}{te:TE}{pos:Pos}
def YE (t:TS)(u:fU->(St->V->Hp->Prop)->St->Hp->Prop):fU->(St->V->Hp->Prop)->St->Hp->Prop:=fun D R=>t { D with nx:=u D R }
def YJ (te:TE):fU->(St->V->Hp->Prop)->St->Hp->Prop:=fun _ R σ H=>te σ H (R σ)
theorem ZW {nx bk ct:St->Hp->Prop}{rt:VK}{R:St->V->Hp->Prop}{σ:St}{H:Hp} (h:t ⟨u ⟨nx,rt,bk,ct⟩ R,rt,bk,ct⟩ σ H):YE t u ⟨nx,rt,bk,ct⟩ R σ H:=h
theorem aBa {D:fU}{R:St->V->Hp->Prop}{σ:St}{H:Hp} (h:te σ H (R σ)):YJ te D R σ H:=h
theorem mO (h1:PS X st t)(h2:PRs X rest u):PRs X (st::rest) (YE t u):=by
 intro pins s σ H D R I h;refine wpAny_execs_cons (thn (h1 pins s σ H { D with nx:=u D R } I h) fun f s1 q=> ?_);cases f with
 | next =>
  obtain⟨σ',H',I',q⟩:=q;exact h2 pins s1 σ' H' D R I' q
 | ret v=>obtain⟨v,σ',H',I,r,q⟩:=q;exact⟨v,σ',H',I,r,.inl q⟩
 | brk=>exact q
 | cont=>exact q
theorem ZD (he:PE X e te):PRs X [.Return (some e) pos] (YJ te):=by
 intro pins s σ H D R I h;refine wpAny_execs_cons ?_;exact wpAny_Return_some (thn (he pins s σ H _ I h) fun v s1 ⟨x,H1,I1,r1,q1⟩=>⟨x,σ,H1,I1,r1,.inr q1⟩)
end
theorem aDD {fs:List Addr}{H H':Hp}{h h':Heap}{c:Addr}{u:HO} (n:H' c=none) (hc:h.objs.size<=c) (x:Un fs [] H H' h h'):Un fs [] H (upd H' c u) h h' where
 keep:=x.keep
 slot:=x.slot
 free:=fun b ob q n' hx=>by
  rw[aH (Nat.ne_of_lt (Nat.lt_of_lt_of_le (Heap.lt_size q) hc))];exact x.free b ob q n' hx
 there:=x.there
 tups:=fun b xs q=>by rw[aH (bA (x.tups b xs q) n)];exact x.tups b xs q
 frzs:=fun b ob u' q=>by rw[aH (bA (x.frzs b ob u' q) n)];exact x.frzs b ob u' q
 tbls:=fun b ps q=>by
  obtain⟨m,z⟩:=x.tbls b ps q;exact⟨m,by rw[aH (bA z n)];exact z⟩
section
variable {P:Program}{w:World}{K:W.Frag}{mg:Str->Option Value}{base:Heap}
def aD9 (i:Nat)(c:Addr)(Q:VK):St->V->Hp->Prop:=fun σ v H'=>∃cv,σ[i]? =some (some cv)/\∀H2,Same H' H2->H' c=none->HM H2 c cv->Q v H2
theorem FunV.okR {x qual:Str}{st:Stmt}{f:Addr}{fd:FuncData}{N ps:List Str}{k i:Nat}{y:Str}{sp:Sp} (F:FunV K x qual st f fd) (S:aL N ps (aF st)) (hi:N[i]? =some y) (hyc:(aF st).names.lookup y=some .cell) (len:∀vs H Q E,sp vs H Q E->vs.length=ps.length)
  (hbody:∀(cdv:Value) (A:Around) (outer:List Env) (s:Shared) (H:Hp) (vs:List V) (Q:VK) (E:XK) (c:Addr),fd.code=cdv->(cellsFrom (s.heap.objs.size+1) (aF st).names []).lookup y=some c->Room k (A.deeper (envOfC qual (aF st) s.heap.objs.size f cdv))->sp vs H Q E →
   ∃t,PRs (vW CX0 P w K mg base N qual (aF st) f cdv A outer s H E).nox (c4 st) t/\t { nx:=fun _ H'=>Q .non H',rt:=Q } (aD9 i c Q) (fR N vs) H):FnOk P w K mg base CX0 (k+1) f fd ps sp:=by
 obtain⟨oc,od,dV,kV,doc,pm,an,cdv,ct,osl,rfl,lk,hcd⟩:=F.ex;refine⟨len,fun A outer s H args us vs Q E hr e0 hb r hsp=> ?_⟩;have hl:=len _ _ _ _ hsp;have KX:K.In s.heap:=e0.mod.kin.keeps fun b o e=>(e0.bs b o e).1;have lim:s.heap.NoLimit:=e0.mod.nolimit.keeps fun b o e=>(e0.bs b o e).1;have hkind:∀y∈ps.zip us,(aF st).names.lookup y.1=some .local∨((aF st).names.lookup y.1=some .cell/\((cellsFrom (s.heap.objs.size+1) (aF st).names []).lookup y.1).isSome=true):=fun⟨n,v⟩ hy=>by
  rcases S.par n (List.of_mem_zip hy).1 with q|q
  ·exact .inl q
  ·exact .inr ⟨q,W.cellsFrom_some _ _ _ (.inl q)⟩
 refine codeAny_call_function hr.depth (KX _ _ lk) rfl S.co S.gen rfl (W.codeRec_of KX hcd) (hb _ _ _ _ ?_);refine wpAny_newFunctionEnv_cells S.kind hkind fun env he s1 x=> ?_;subst he;refine⟨lim.keeps x.toInCall.keep,codeAny_func ?_⟩;obtain⟨c,hc⟩:=u0 (n:=s.heap.objs.size+1) hyc;obtain⟨t,ht,hq⟩:=hbody cdv A outer s H vs Q E c rfl hc (hr.deeper _) hsp;have I:Inv (vW CX0 P w K mg base N qual (aF st) f cdv A outer s H E) [] (fR N vs) H s1:=GC S hr.hd e0 hl r x;refine wpAny_mono (ht [] s1 (fR N vs) H _ _ (I.wish _) hq) (fun fl s' hs=> ?_) fun e s' hs=>False.elim hs;have fin:∀{σ':St}{H':Hp}{v:V}{u:Value},Inv (vW CX0 P w K mg base N qual (aF st) f cdv A outer s H E).nox [] σ' H' s'->RelV v u->Q v H'->CE outer P w H s Q u s' :=
  fun {σ' H' v u} J rv q=>⟨v,H',J.os,J.bare,J.base,J.hok,rv,q⟩
 cases fl with
 | ret u =>
  obtain⟨v,σ',H',J,rv,q⟩:=hs;rcases q with q|⟨cv,hi',q⟩
  ·exact fin J rv q
  ·obtain⟨m,hn,hl'⟩:=J.loc;obtain⟨u',ru,lk'⟩:=hl' i y cv hi hi' (.inr (.inl hyc));have hcell:s'.heap.IsCell c (some u'):=by
    rcases lk' with⟨z,_⟩|⟨_,c2,e1,e2⟩
    ·have z':(aF st).names.lookup y=some .local:=z;rw[hyc]at z';cases z'
    ·have e1':(cellsFrom (s.heap.objs.size+1) (aF st).names []).lookup y=some c2:=e1;rw[hc]at e1';cases e1';exact e2
   obtain⟨oC,hoC,hdC⟩:=hcell;have nC:H' c=none:=J.freeC y c hc;have cs:s.heap.objs.size<=c:=J.ok.cab y c rfl hc;exact⟨v,upd H' c (kn oC),J.os,J.bare,aDD nC cs J.base,SU J.hok nC hoC,rv,q _ (fun b o e=>by rw[aH (bA e nC)];exact e) nC ⟨oC,u',aQ,hdC,ru⟩⟩
 | next =>
  obtain⟨σ',H',J,q⟩:=hs;exact fin (v:=V.non) (u:=Value.none) J rfl q
 | brk =>
  obtain⟨_,_,_,q⟩:=hs;exact False.elim q
 | cont =>
  obtain⟨_,_,_,q⟩:=hs;exact False.elim q
end
section
open PySem.W
variable {X:Cx}{i j:Nat}{n x y:Str}{T:Addr}{np yp hpos pos epos:Pos}{e:Expr}{tc:XK->TE}{b₀:Stmt}{suite:List Stmt}{ts:TS}
end
theorem T7 {t:fU->(St->V->Hp->Prop)->St->Hp->Prop}{D:fU}{R:St->V->Hp->Prop}{N:List Str}{vs:List V}{σ:St}{H:Hp} (e:fR N vs=σ) (h:t D R σ H):t D R (fR N vs) H:=e▸h
theorem walk_ofT2 {l:W.OpenLaw}{n k:Nat}{q:Program}{loose:List Str}{XP:(Str->Option Value)->Heap->Prop}{YP:World->Heap->Prop}{d d2:DefRec}{K:Params->W.Frag}{CX:World->CXT}{sp:World->Addr->Sp}{x:Str}
  (hn:l.most=some n)(hn2:n<=sizeLine)(hdf:d.params.defaults=[])(hr:Room k callerA)(hrec:d2∈recsOf q)(hnt:∀w:World,W.noTabs (K w.params)=true)
  (hY:∀(w:World) (h:Heap),YP w h->(K w.params).In h)
  (F:∀(w:World) (mg:Str->Option Value) (fa:Addr) (h:Heap),(K w.params).In h->h.Ns mainGlobals mg->mg d.name=some (.ref fa) →
   ∃(fd:FuncData) (f2:Addr) (fd2:FuncData),mg d2.name=some (.ref f2)/\(∃oc od osl,(K w.params).lookup f2=some ⟨oc,od,.func fd2,osl⟩)/\(∀(s:Shared) (u:Value),BindsTo s fd ⟨[u],[]⟩ [(x,u)]) ∧
    ∀(base:Heap) (cL PL:Addr),fd2.code= .ref cL->W.CodeHd base cL PL->base.BuiltinsAt mg PL->FnOk l.prog w (K w.params) mg base (CX w) k fa fd [x] (sp w PL))
  (hsp:∀(w:World) (PL:Addr) (H:Hp) (a:Addr) (ns:List Int),ns.length<=n->SqL (K w.params) H a (ns.map V.int)->H PL=some (.tbl #[])->sp w PL [.ref a] H (fun v _=>v= .bl true) fun _ _ _=>False)
  (hCX:∀(w:World) (H:Hp) (s:Shared) (e:Value) (s':Shared),CX w [] H s (fun _ _ _=>False) e s'->False) :
  W.WalkO q loose XP YP l.row.toRowW d [] (fun f vs=>PySem.call f vs):=by
 refine Att.attach_call hn hdf fun w s₀ s₁ mg mb fa o pm cd doc a vs ns G Y ho hd hcd hmg hobj hints hlen hg=> ?_;have KX:=hY w _ Y;obtain⟨fd,f2,fd2,hm2,⟨oc,od,osl,lk⟩,hb,hF⟩:=F w mg fa _ KX G.T.g hmg;obtain⟨a',o',fd',c,PL,h1,h2,h3,h4,h5,h6⟩:=G.T.tab d2 hrec;rw[hm2]at h1;cases h1;have e1:=KX _ _ lk;rw[h2]at e1;cases e1;have h3':fd2=fd':=by injection h3
 subst h3';have C:=W.CodeHd.of h5 h6;have hKP:(K w.params).lookup PL=none:=by
  cases q:(K w.params).lookup PL with
  | none=>rfl
  | some o2 =>
   have e2:=KX _ _ q;rw[h6.2]at e2;cases e2;have z:=List.all_eq_true.mp (hnt w) (PL,_) (W.mem_of_lookupK q);exact absurd (show false=true from z) Bool.false_ne_true
 exact SD KX G.T.g G.T.b G.T.builtins G.T.nolimit hg C h6.2 hKP G.T.bmain hobj hints (Nat.le_trans hlen hn2) hr (fun base hc hB=>hF base c PL h4 hc hB) hb (fun H hS hP=>hsp w PL H a ns hlen hS hP) fun H e s'=>hCX w H s₁ e s'
section
variable {X:Cx}
def aBS (K:W.Frag):R2:=fun x y H Q=>∃a b xs,x= .ref a/\y= .ref b/\SqL K H a xs/\SqL K H b []/\Q (.bl (!xs.isEmpty)) H
theorem aCl (hu:X.A.units<cLine):OpR X (compareOp .NotEq) (aBS X.K):=by
 intro pins s σ H x y v u Q I rx ry h;obtain⟨a,b,xs,rfl,rfl,ha,hb,q⟩:=h;cases rx;cases ry;obtain⟨its,r,pl,hz⟩:=I.list ha;obtain⟨its2,r2,pl2,_⟩:=I.list hb;cases r2;cases xs with
 | nil =>
  cases r;refine SeqAt.RcNeAt.lists (e:=fun _=>true) pl.isList pl2.isList rfl hu (fun j h1=>absurd h1 (Nat.not_lt_zero _)) X.prog X.w X.xe _ ⟨.bl false,H,I,rfl,q⟩
 | cons x xs =>
  cases r with
  | cons r1 r2 =>
   exact SeqAt.RcNeAt.lists_lengths pl.isList pl2.isList (by simp) hu X.prog X.w X.xe _ ⟨.bl true,H,I,rfl,q⟩
theorem aB4 {K:W.Frag}{H:Hp}{Q:VK}{a b:Addr}{xs:List V} (ha:SqL K H a xs) (hb:SqL K H b []) (h:Q (.bl (!xs.isEmpty)) H):aBS K (.ref a) (.ref b) H Q:=⟨a,b,xs,rfl,rfl,ha,hb,h⟩
end
section
variable {κ:Type}[DecidableEq κ]
def aY (kvs:List (κ×V))(k:κ):Option V:=(kvs.find? fun kv=>decide (kv.1=k)).map (·.2)
def cC (kvs:List (κ×V))(k:κ)(v:V):List (κ×V) :=
 if (kvs.any fun kv=>decide (kv.1=k))=true then kvs.map (fun kv=>if kv.1=k then (kv.1,v) else kv) else kvs++[(k,v)]
theorem dA {p:κ×V}{r:List (κ×V)}{k:κ} (e:p.1=k):aY (p::r) k=some p.2:=by simp[aY,List.find?_cons,e]
theorem dB {p:κ×V}{r:List (κ×V)}{k:κ} (e:¬p.1=k):aY (p::r) k=aY r k:=by simp[aY,List.find?_cons,e]
theorem mW (k:κ):∀kvs:List (κ×V),(kvs.any fun kv=>decide (kv.1=k))=(aY kvs k).isSome
 | []=>rfl
 | p::r=>by
  rw[List.any_cons]
  by_cases e:p.1=k
  ·simp only[dA e,decide_eq_true e,Bool.true_or,Option.isSome_some]
  ·rw[dB e,decide_eq_false e,Bool.false_or];exact mW k r
theorem IZ (k j:κ)(y:V):∀kvs:List (κ×V),aY (kvs.map fun kv=>if kv.1=k then (kv.1,y) else kv) j=(aY kvs j).map fun x=>if j=k then y else x
 | []=>rfl
 | p::r=>by
  have ih:=IZ k j y r;rw[List.map_cons]
  by_cases h:p.1=k
  ·rw[if_pos h]
   by_cases e:p.1=j
   ·rw[dA (p:=(p.1,y)) e,dA e,Option.map_some,if_pos (e.symm.trans h)]
   ·rw[dB (p:=(p.1,y)) e,dB e,ih]
  ·rw[if_neg h]
   by_cases e:p.1=j
   ·rw[dA (p:=p) e,dA e,Option.map_some,if_neg (fun z=>h (e.trans z))]
   ·rw[dB (p:=p) e,dB e,ih]
theorem GD (k j:κ)(y:V):∀kvs:List (κ×V),aY kvs k=none->aY (kvs++[(k,y)]) j=if j=k then some y else aY kvs j
 | [],_=>by
  by_cases e:k=j
  ·rw[if_pos e.symm];exact dA (p:=(k,y)) e
  ·rw[if_neg (fun z=>e z.symm)];exact dB (p:=(k,y)) e
 | p::r,hn=>by
  rw[List.cons_append];have hk:¬p.1=k:=fun z=>by rw[dA z]at hn;cases hn
  rw[dB hk]at hn;have ih:=GD k j y r hn
  by_cases e:p.1=j
  ·rw[dA e,dA e,if_neg (fun z=>hk (e.trans z))]
  ·rw[dB e,dB e,ih]
theorem BS (kvs:List (κ×V))(k j:κ)(y:V):aY (cC kvs k y) j=if j=k then some y else aY kvs j:=by
 unfold cC
 by_cases a:(kvs.any fun kv=>decide (kv.1=k))=true
 ·rw[if_pos a,IZ];rw[mW]at a
  by_cases e:j=k
  ·obtain⟨x,hx⟩:=Option.isSome_iff_exists.mp a;rw[if_pos e,e,hx,Option.map_some,if_pos rfl]
  ·rw[if_neg e];cases aY kvs j with
   | none=>rfl
   | some x=>rw[Option.map_some,if_neg e]
 ·rw[if_neg a];refine GD k j y kvs ?_;rw[mW]at a;cases q:aY kvs k with
  | none=>rfl
  | some x=>rw[q]at a;exact(a rfl).elim
theorem jL (kvs:List (κ×V))(k:κ)(v:V):(cC kvs k v).length<=kvs.length+1:=by
 unfold cC
 split
 ·rw[List.length_map];lia
 ·rw[List.length_append,List.length_cons,List.length_nil];lia
theorem d7 {kvs:List (κ×V)}{k:κ} (v:V) (h:aY kvs k=none):cC kvs k v=kvs++[(k,v)]:=by
 unfold cC;rw[mW,h];exact if_neg (by decide)
theorem RelO.isSome_eq {o:Option V}{u:Option Value} (r:RelO o u):o.isSome=u.isSome:=by
 cases o with
 | none=>cases u with
  | none=>rfl
  | some _=>exact(show False from r).elim
 | some _=>cases u with
  | none=>exact(show False from r).elim
  | some _=>rfl
theorem RelO.getD {o:Option V}{u:Option Value}{d:V}{d':Value} (r:RelO o u) (rd:RelV d d'):RelV (o.getD d) (u.getD d'):=by
 cases o with
 | none=>cases u with
  | none=>exact rd
  | some _=>exact(show False from r).elim
 | some _=>cases u with
  | none=>exact(show False from r).elim
  | some _=>exact r
theorem KV.val {kvs:List (κ×V)}{vs:List (κ×Value)} (r:KV kvs vs) (k:κ):RelO (aY kvs k) (valueAt vs k):=by
 unfold KV at r
 induction r with
 | nil=>exact True.intro
 | @cons p q ps qs h t ih =>
  obtain⟨h1,h2⟩:=h
  by_cases e:p.1=k
  ·have e':q.1=k:=h1.symm.trans e;have b:valueAt (q::qs) k=some q.2:=by simp[valueAt,List.find?_cons,e']
   rw[dA e,b];exact h2
  ·have e':¬q.1=k:=fun z=>e (h1.trans z);have b:valueAt (q::qs) k=valueAt qs k:=by simp[valueAt,List.find?_cons,e']
   rw[dB e,b];exact ih
theorem KV.any {kvs:List (κ×V)}{vs:List (κ×Value)} (r:KV kvs vs) (k:κ):(kvs.any fun kv=>decide (kv.1=k))=vs.any fun kv=>decide (kv.1=k):=by
 unfold KV at r
 induction r with
 | nil=>rfl
 | cons h t ih=>rw[List.any_cons,List.any_cons,ih,h.1]
theorem KV.repl {kvs:List (κ×V)}{vs:List (κ×Value)} (r:KV kvs vs) (k:κ) {y:V}{u:Value} (ry:RelV y u) :
  KV (kvs.map fun kv=>if kv.1=k then (kv.1,y) else kv) (vs.map fun kv=>if kv.1=k then (kv.1,u) else kv):=by
 unfold KV at r ⊢
 induction r with
 | nil=>exact .nil
 | @cons p q ps qs h t ih =>
  rw[List.map_cons,List.map_cons];refine .cons ?_ ih;obtain⟨h1,h2⟩:=h
  by_cases e:p.1=k
  ·rw[if_pos e,if_pos (h1.symm.trans e)];exact⟨h1,ry⟩
  ·rw[if_neg e,if_neg (fun z=>e (h1.trans z))];exact⟨h1,h2⟩
theorem KV.put {kvs:List (κ×V)}{vs:List (κ×Value)} (r:KV kvs vs) (k:κ) {y:V}{u:Value} (ry:RelV y u):KV (cC kvs k y) (stored vs k u):=by
 unfold cC stored;rw[r.any k]
 by_cases e:(vs.any fun kv=>decide (kv.1=k))=true
 ·rw[if_pos e,if_pos e];exact r.repl k ry
 ·rw[if_neg e,if_neg e];exact Paired.snoc r ⟨rfl,ry⟩
theorem KV.length {kvs:List (κ×V)}{vs:List (κ×Value)} (r:KV kvs vs):kvs.length=vs.length:=Paired.length r
end
theorem sP {P:Program}{w:World}{k:Key}{u:Value} (r:RelV (kV k) u):(bY P w).is k u=true:=by
 cases k with
 | inl i=>obtain⟨t,e⟩:=(show ∃t,u=Value.int i t from r);subst e;exact L1 P w i t
 | inr x=>obtain⟨t,e⟩:=(show ∃t,u=Value.str x t from r);subst e;exact L4 P w x t
theorem FQ {P:Program}{w:World}:∀{ks:List Key}{us:List Value},Vals (ks.map kV) us->ItemsAre (bY P w) ks us
 | [],_,r=>by rw[List.map_nil]at r;cases r;exact .nil
 | k::ks,_,r=>by
  rw[List.map_cons]at r;cases r with
  | cons h t=>exact .cons (sP h) (FQ t)
abbrev KT (H:Hp):List (List Key×V)->List (List Key×Addr×Value)->Prop:=Paired fun p q=>p.1=q.1/\H q.2.1=some (.tup (p.1.map kV))/\RelV p.2 q.2.2
theorem KT.val {H:Hp}{kvs:List (List Key×V)}{xs:List (List Key×Addr×Value)} (r:KT H kvs xs) (k:List Key):RelO (aY kvs k) ((atKey xs k).map (·.2)):=by
 induction r with
 | nil=>exact True.intro
 | @cons p q ps qs h t ih =>
  obtain⟨h1,_,h2⟩:=h
  by_cases e:p.1=k
  ·have e':q.1=k:=h1.symm.trans e;have b:atKey (q::qs) k=some q.2:=by simp[atKey,List.find?_cons,e']
   rw[dA e,b];exact h2
  ·have e':¬q.1=k:=fun z=>e (h1.trans z);have b:atKey (q::qs) k=atKey qs k:=by simp[atKey,List.find?_cons,e']
   rw[dB e,b];exact ih
theorem KT.repl {H:Hp}{kvs:List (List Key×V)}{xs:List (List Key×Addr×Value)} (r:KT H kvs xs) (k:List Key) {y:V}{u:Value} (ry:RelV y u) :
  KT H (kvs.map fun kv=>if kv.1=k then (kv.1,y) else kv) (xs.map (putAt k u)):=by
 induction r with
 | nil=>exact .nil
 | @cons p q ps qs h t ih =>
  rw[List.map_cons,List.map_cons];refine .cons ?_ ih;obtain⟨h1,h2,h3⟩:=h;unfold putAt
  by_cases e:p.1=k
  ·rw[if_pos e,if_pos (h1.symm.trans e)];exact⟨h1,h2,ry⟩
  ·rw[if_neg e,if_neg (fun z=>e (h1.trans z))];exact⟨h1,h2,h3⟩
theorem KT.put {H:Hp}{kvs:List (List Key×V)}{xs:List (List Key×Addr×Value)} (r:KT H kvs xs) (k:List Key) {b:Addr}{y:V}{u:Value} (hb:H b=some (.tup (k.map kV))) (ry:RelV y u) :
  KT H (cC kvs k y) (storedH xs k b u):=by
 have e:(kvs.any fun kv=>decide (kv.1=k))=(atKey xs k).isSome:=by
  rw[mW,(r.val k).isSome_eq,Option.isSome_map]
 unfold cC storedH;rw[e]
 by_cases q:(atKey xs k).isSome=true
 ·rw[if_pos q,if_pos q];exact r.repl k ry
 ·rw[if_neg q,if_neg q];exact Paired.snoc r ⟨rfl,hb,ry⟩
theorem KT.keeps {H H':Hp}{kvs:List (List Key×V)}{xs:List (List Key×Addr×Value)} (r:KT H kvs xs) (ht:∀b ys,H b=some (.tup ys)->H' b=some (.tup ys)):KT H' kvs xs :=
 Paired.mapP r fun _ _ z=>⟨z.1,ht _ _ z.2.1,z.2.2⟩
section
variable {P:Program}{w:World}{H:Hp}{h:Heap}{a:Addr}
theorem XT {u:HO}(ok:HOk P w H h)(e:Rd H a u):ObjOk P w H h a u:=e.ok ok
theorem nF {kvs:List (Key×V)}(ok:HOk P w H h)(e:Rd H a (.dK kvs)):kvs.length<=sizeLine/\(a==sysModules)=false/\∃vs,KV kvs vs/\h.DictOf (bY P w) a vs :=
 show ObjOk P w H h a (.dK kvs) from XT ok e
theorem XY {kvs:List (Key×V)}(ok:HOk P w H h)(e:H a=some (.dK kvs)):kvs.length<=sizeLine/\(a==sysModules)=false/\∃vs,KV kvs vs/\h.DictOf (bY P w) a vs:=nF ok (.inl e)
theorem uM {ks:List Key}(ok:HOk P w H h)(e:H a=some (.tup (ks.map kV))):(tupleKind (bY P w)).is h ks a:=by
 obtain⟨_,its,r,o,h1,h2,n,h3⟩:=(show ObjOk P w H h a (.tup (ks.map kV)) from ok a _ e)
 exact⟨o,its.toArray,n,h1,h2,h3,by simpa using FQ r⟩
theorem vS {kvs:List (List Key×V)}(ok:HOk P w H h)(e:Rd H a (.dT kvs)):kvs.length<=sizeLine/\(a==sysModules)=false ∧
  ∃xs,KT H kvs xs/\h.DictOfH (tupleKind (bY P w)) a xs:=by
 obtain⟨z,y,xs,r,o,es,ep,h1,h2,h3,h4,h5⟩:=(show ObjOk P w H h a (.dT kvs) from XT ok e)
 refine⟨z,y,xs,r,o,es,ep,h1,h2,h3,h4,fun x hx=> ?_,h5⟩;have all:∀{l:List (List Key×V)}{m:List (List Key×Addr×Value)},KT H l m->∀x∈m,(tupleKind (bY P w)).is h x.1 x.2.1:=by
  intro l m q
  induction q with
  | nil=>intro x hx;exact nomatch hx
  | @cons p q ps qs hq t ih =>
   intro x hx;rcases List.mem_cons.mp hx with e|hx
   ·subst e;exact uM ok (by rw[←hq.1];exact hq.2.1)
   ·exact ih x hx
 exact all r x hx
theorem aDy {kvs:List (List Key×V)}(ok:HOk P w H h)(e:H a=some (.dT kvs)):kvs.length<=sizeLine/\(a==sysModules)=false ∧
  ∃xs,KT H kvs xs/\h.DictOfH (tupleKind (bY P w)) a xs:=vS ok (.inl e)
end
def DGet (H:Hp)(a:Addr)(y:V)(r:Option V):Prop :=
 (∃kvs k,Rd H a (.dK kvs)/\y=kV k/\r=aY kvs k)∨∃kvs k b,Rd H a (.dT kvs)/\y= .ref b/\H b=some (.tup (k.map kV))/\r=aY kvs k
def DPut (H:Hp)(a:Addr)(y v:V)(H':Hp):Prop :=
 (∃kvs k,H a=some (.dK kvs)/\y=kV k/\kvs.length<sizeLine/\H'=upd H a (.dK (cC kvs k v))) ∨
 ∃kvs k b,H a=some (.dT kvs)/\y= .ref b/\H b=some (.tup (k.map kV))/\kvs.length<sizeLine/\H'=upd H a (.dT (cC kvs k v))
theorem DGet.t {H:Hp}{a b:Addr}{kvs:List (List Key×V)}{k:List Key} (e:H a=some (.dT kvs)) (eb:H b=some (.tup (k.map kV))):DGet H a (.ref b) (aY kvs k):= .inr ⟨kvs,k,b,.inl e,rfl,eb,rfl⟩
theorem DPut.k {H:Hp}{a:Addr}{kvs:List (Key×V)}{k:Key}{v:V} (e:H a=some (.dK kvs)) (hl:kvs.length<sizeLine):DPut H a (kV k) v (upd H a (.dK (cC kvs k v))):= .inl ⟨kvs,k,e,rfl,hl,rfl⟩
theorem DPut.t {H:Hp}{a b:Addr}{kvs:List (List Key×V)}{k:List Key}{v:V} (e:H a=some (.dT kvs)) (eb:H b=some (.tup (k.map kV))) (hl:kvs.length<sizeLine) :
  DPut H a (.ref b) v (upd H a (.dT (cC kvs k v))):= .inr ⟨kvs,k,b,e,rfl,eb,hl,rfl⟩
section
variable {X:Cx}{pins:List (Addr×Obj)}{σ:St}{H:Hp}{s:Shared}{a:Addr}{y v:V}{u r:Value}{o:Option V}{A:Around}{E:Value->Shared->Prop}
theorem Inv.big (I:Inv X pins σ H s):sysModules<s.heap.objs.size:=by
 have h:mainGlobals<s.heap.objs.size:=(I.mod.glob.keeps I.bk).lt;exact Nat.lt_trans (by decide) h
theorem GA {Q:Value->Shared->Prop}(hu:A.units+1<cLine)(I:Inv X pins σ H s)(g:DGet H a y (some v))(ry:RelV y u)(h:∀w' s',Inv X pins σ H s'->RelV v w'->Q w' s') :
  wpAny (model X.prog X.w) A (getItem (.ref a) u) Q E s:=by
 rcases g with⟨kvs,k,e,ey,l⟩|⟨kvs,k,b,e,ey,eb,l⟩
 ·subst ey;obtain⟨z,hd,vs,rel,dd⟩:=nF I.hok e;obtain⟨w',hw,rw'⟩:=RelO.some_of (v:=v) (o:=valueAt vs k) (by rw[l];exact rel.val k);exact wpAny_getItem_of (sP ry) dd.mapOf hw (h w' _ (I.tok _) rw')
 ·subst ey;cases (show u=Value.ref b from ry);obtain⟨z,hd,xs,rel,dd⟩:=vS I.hok e;obtain⟨w',hw,rw'⟩:=RelO.some_of (v:=v) (o:=(atKey xs k).map (·.2)) (by rw[l];exact rel.val k);obtain⟨p,hp,hp2⟩:=Option.map_eq_some_iff.mp hw;refine wpAny_getItem_heap (tupleKind_room_in1 hu) (uM I.hok eb) dd hp ?_;rw[hp2];exact h w' _ (I.tok _) rw'
theorem aEi {Q:Value->Shared->Prop}(hu:A.units+1<cLine)(I:Inv X pins σ H s)(g:DGet H a y o)(ry:RelV y u)(h:∀s',Inv X pins σ H s'->Q (.bool o.isSome) s') :
  wpAny (model X.prog X.w) A (compareOp .In u (.ref a)) Q E s:=by
 rcases g with⟨kvs,k,e,ey,l⟩|⟨kvs,k,b,e,ey,eb,l⟩
 ·subst ey;obtain⟨z,hd,vs,rel,dd⟩:=nF I.hok e;refine wpAny_in_of (sP ry) hd dd.mapOf ?_;rw[←(rel.val k).isSome_eq,←l];exact h _ (I.tok _)
 ·subst ey;cases (show u=Value.ref b from ry);obtain⟨z,hd,xs,rel,dd⟩:=vS I.hok e;refine wpAny_in_heap (tupleKind_room_in1 hu) (uM I.hok eb) hd dd ?_;have q:=(rel.val k).isSome_eq;rw[Option.isSome_map]at q;rw[←q,←l];exact h _ (I.tok _)
theorem aAs {Q:Value->Shared->Prop}(hu:A.units+1<cLine)(I:Inv X pins σ H s)(g:DGet H a y o)(ry:RelV y u)(h:∀s',Inv X pins σ H s'->Q (.bool (!o.isSome)) s') :
  wpAny (model X.prog X.w) A (compareOp .NotIn u (.ref a)) Q E s:=by
 rcases g with⟨kvs,k,e,ey,l⟩|⟨kvs,k,b,e,ey,eb,l⟩
 ·subst ey;obtain⟨z,hd,vs,rel,dd⟩:=nF I.hok e;refine wpAny_notIn_of (sP ry) hd dd.mapOf ?_;rw[←(rel.val k).isSome_eq,←l];exact h _ (I.tok _)
 ·subst ey;cases (show u=Value.ref b from ry);obtain⟨z,hd,xs,rel,dd⟩:=vS I.hok e;refine wpAny_notIn_heap (tupleKind_room_in1 hu) (uM I.hok eb) hd dd ?_;have q:=(rel.val k).isSome_eq;rw[Option.isSome_map]at q;rw[←q,←l];exact h _ (I.tok _)
theorem E8 {h':Heap}{t':Nat}{ob:HO} (I:Inv X pins σ H s) (mu:Mut (H a)) (hs:Heap.SameBut a s.heap h') (he:∃q,h'.get? a=some q) (new:ObjOk X.prog X.w (upd H a ob) h' a ob) :
  Inv X pins σ (upd H a ob) { s with heap:=h',toks:=t' } :=
 I.write (x:=a) (e:=a) mu (.inl rfl) (fun b q hb z=>(hs.2 b hb).trans z) he new
theorem xC {P:Program}{w:World}{H':Hp}{h':Heap}{kvs:List (Key×V)}{vs:List (Key×Value)} (z:kvs.length<=sizeLine) (hd:(a==sysModules)=false) (rel:KV kvs vs) (dd:h'.DictOf (bY P w) a vs) :
  ObjOk P w H' h' a (.dK kvs):=⟨z,hd,vs,rel,dd⟩
theorem F7 {H':Hp}{Q:Unit->Shared->Prop} (hu:A.units+1<cLine) (I:Inv X pins σ H s) (g:DPut H a y v H') (ry:RelV y u) (rv:RelV v r) (h:∀s',Inv X pins σ H' s'->Q () s') :
  wpAny (model X.prog X.w) A (setItem (.ref a) u r) Q E s:=by
 rcases g with⟨kvs,k,e,ey,l,eH⟩|⟨kvs,k,b,e,ey,eb,l,eH⟩
 ·subst ey eH;obtain⟨z,hd,vs,rel,dd⟩:=XY I.hok e;have hz:vs.length<=sizeLine:=by rw[←rel.length];exact z
  have hl:(cC kvs k v).length<=sizeLine:=by have:=jL kvs k v;lia
  refine wpAny_setItem_pairs (hsz:=hz) (sP ry) dd fun h' dd' hs=>h _ ?_;have he:∃q,h'.get? a=some q:=let ⟨q,_,_,hq,_⟩:=dd';⟨q,hq⟩;exact E8 I (by rw[e];exact True.intro) hs he (xC hl hd (rel.put k rv) dd')
 ·subst ey eH;cases (show u=Value.ref b from ry);obtain⟨z,hd,xs,rel,dd⟩:=aDy I.hok e;have hz:xs.length<=sizeLine:=by rw[←Paired.length rel];exact z
  have hl:(cC kvs k v).length<=sizeLine:=by have:=jL kvs k v;lia
  refine wpAny_setItem_heap (hsz:=hz) (tupleKind_room_in1 hu) (uM I.hok eb) dd fun h' dd' hs=>h _ ?_;obtain⟨q,es,ep,hq,h2,h3,h4,_,h5⟩:=dd';refine E8 I (by rw[e];exact True.intro) hs ⟨q,hq⟩ ⟨hl,hd,_,(rel.put k eb rv).keeps fun c ys ec=> ?_,q,es,ep,hq,h2,h3,h4,h5⟩;rw[aH (aDm ec e (fun z=>nomatch z))];exact ec
end
section
variable {X:Cx}{pins:List (Addr×Obj)}{σ:St}{H:Hp}{s:Shared}{a:Addr}{kvs:List (Key×V)}{k:Key}{u:Value}{A:Around}{E:Value->Shared->Prop}
end
def aCi (i:Expr):Prop:=∀ov iv,subscripted i false ov iv=operate [ov,iv] (getItem ov iv)
theorem aAG {prog:Program}{w:World}{A:Around}{E:Value->Shared->Prop}{s:Shared}{env:Env}{value slice:Expr}{pos:Pos}{T id:String}{Q:Value->Shared->Prop}
  (hl:typeLookup (.type T) "__getitem__" =pure (some (.builtin id)))(hs:aCi slice)
  (h:wpAny (model prog w) A (eval value env) (fun o s₁=>wpAny (model prog w) A (eval slice env) (fun i s₂=>s₂.TypeIs o T/\wpAny (model prog w) A (getItem o i) Q E s₂) E s₁) E s) :
  wpAny (model prog w) A (eval (.Subscript value slice pos) env) Q E s:=by
 refine Subscript_ (wpAny_mono h (fun o s₁ h₁=>wpAny_mono h₁ (fun i s₂ h₂=> ?_) fun _ _ x=>x) fun _ _ x=>x);obtain⟨hT,h₂⟩:=h₂;unfold subscriptTail;refine wpAny_bind ?_;rw[getitemInPython_of_ne hT.not_modules];refine wpAny_bind (wpAny_specialOf hT hl ?_);have fin:wpAny (model prog w) A (subscripted slice false o i) (fun r s₃=>wpAny (model prog w) A (letTemporaryGo value o r >>= fun _=>pure r) Q E s₃) E s₂:=by
  rw[hs o i];exact wpAny_operating (wpAny_mono h₂ (fun r s₃ h₃=>wpAny_bind (wpAny_letTemporaryGo (wpAny_pure h₃))) fun _ _ x=>x)
 first
  | exact wpAny_pure (wpAny_bind fin)
  | exact wpAny_bind (wpAny_pure (wpAny_bind fin))
  | exact wpAny_bind fin
theorem MH {X:Cx}{pins:List (Addr×Obj)}{σ:St}{H:Hp}{s:Shared}{a:Addr}{y:V}{o:Option V} (I:Inv X pins σ H s) (g:DGet H a y o):s.TypeIs (.ref a) "dict" :=by
 rcases g with⟨kvs,k,e,_,_⟩|⟨kvs,k,b,e,_,_,_⟩
 ·obtain⟨_,_,vs,_,dd⟩:=nF I.hok e;exact dd.typeIs
 ·obtain⟨_,_,xs,_,dd⟩:=vS I.hok e;exact dd.typeIs
def XS (td ty:TE):TE:=fun σ H Q=>td σ H fun x H1=>ty σ H1 fun y H2=>∃a v,x= .ref a/\DGet H2 a y (some v)/\Q v H2
def aDc (ty td:TE):TE:=fun σ H Q=>ty σ H fun y H1=>td σ H1 fun x H2=>∃a o,x= .ref a/\DGet H2 a y o/\Q (.bl o.isSome) H2
def NY (ty td:TE):TE:=fun σ H Q=>ty σ H fun y H1=>td σ H1 fun x H2=>∃a o,x= .ref a/\DGet H2 a y o/\Q (.bl (!o.isSome)) H2
def XL (td ty tv:TE):TS:=fun D σ H=>tv σ H fun v H1=>td σ H1 fun x H2=>ty σ H2 fun y H3=>∃a H4,x= .ref a/\DPut H3 a y v H4/\D.nx σ H4
def X5 (td ty tv:TE)(rd:V->V->Hp->VK->Prop):TS:=fun D σ H=>td σ H fun x H1=>ty σ H1 fun y H2=>∃a v,x= .ref a/\DGet H2 a y (some v) ∧
 tv σ H2 fun y2 H3=>rd v y2 H3 fun z H4=>∃H5,DPut H4 a y z H5/\D.nx σ H5
section
variable {X:Cx}{o i e value:Expr}{pos pos' tpos:Pos}{td ty tv:TE}
theorem fK (hu:X.A.units+1<cLine)(ho:PE X o td)(hi:PE X i ty)(hs:aCi i):PE X (.Subscript o i pos) (XS td ty):=by
 intro pins s σ H Q I h;refine aAG PySem.F.slot_dict_getitem.lookup hs (thn (ho pins s σ H _ I h) fun u s1 ⟨x,H1,I1,rx,q1⟩=>thn (hi pins s1 σ H1 _ I1 q1) fun iv s2 ⟨y,H2,I2,ry,a,v,ex,g,q2⟩=> ?_);subst ex;obtain rfl:u=Value.ref a:=rx;exact⟨MH I2 g,GA hu I2 g ry fun w' s3 I3 rw'=>⟨v,H2,I3,rw',q2⟩⟩
theorem KH (hu:X.A.units+1<cLine)(hi:PE X i ty)(ho:PE X o td):PC X .In i o (aDc ty td):=by
 intro pins s σ H Q I h;refine thn (hi pins s σ H _ I h) fun iv s1 ⟨y,H1,I1,ry,q1⟩=>thn (ho pins s1 σ H1 _ I1 q1) fun u s2 ⟨x,H2,I2,rx,a,ov,ex,g,q2⟩=> ?_;subst ex;obtain rfl:u=Value.ref a:=rx;exact aEi hu I2 g ry fun s3 I3=>⟨.bl ov.isSome,H2,I3,rfl,q2⟩
theorem xL (hu:X.A.units+1<cLine)(hi:PE X i ty)(ho:PE X o td):PC X .NotIn i o (NY ty td):=by
 intro pins s σ H Q I h;refine thn (hi pins s σ H _ I h) fun iv s1 ⟨y,H1,I1,ry,q1⟩=>thn (ho pins s1 σ H1 _ I1 q1) fun u s2 ⟨x,H2,I2,rx,a,ov,ex,g,q2⟩=> ?_;subst ex;obtain rfl:u=Value.ref a:=rx;exact aAs hu I2 g ry fun s3 I3=>⟨.bl (!ov.isSome),H2,I3,rfl,q2⟩
theorem iN (hu:X.A.units+1<cLine)(ho:PE X o td)(hi:PE X i ty)(hv:PE X value tv)(hs:swapsWith value (some (.Subscript o i pos')) pos.line X.env=pure false) :
  PS X (.Assign [.Subscript o i pos'] value pos) (XL td ty tv):=by
 intro pins s σ H D I h;refine wpAny_Assign_Subscript (thn (hv pins s σ H _ I h) fun r s1 ⟨v,H1,I1,rv,q1⟩=>thn (ho pins s1 σ H1 _ I1 q1) fun u s2 ⟨x,H2,I2,rx,q2⟩=>thn (hi pins s2 σ H2 _ I2 q2) fun iv s3 ⟨y,H3,I3,ry,a,H4,ex,g,q3⟩=> ?_) hs;subst ex;obtain rfl:u=Value.ref a:=rx;exact F7 hu I3 g ry rv fun s4 I4=>⟨σ,H4,I4,q3⟩
theorem aAl {op:Operator}{rd:V->V->Hp->VK->Prop} (hu:X.A.units+1<cLine) (ho:PE X o td) (hi:PE X i ty) (hv:PE X value tv) (hop:UN X op rd)
  (ha:∀ov iv new,augStore i ov iv new=(do holding [new,ov,iv] (setItem ov iv new);release [new,ov,iv] [];pure .next)):PS X (.AugAssign (.Subscript o i tpos) op value pos) (X5 td ty tv rd):=by
 intro pins s σ H D I h;refine wpAny_AugAssign_SubscriptAny (thn (ho pins s σ H _ I h) fun u s1 ⟨x,H1,I1,rx,q1⟩=>thn (hi pins s1 σ H1 _ I1 q1) fun iv s2 ⟨y,H2,I2,ry,a,v,ex,g,q2⟩=> ?_) ha;subst ex;obtain rfl:u=Value.ref a:=rx;refine GA hu I2 g ry fun w' s3 I3 rw'=>thn (hv pins s3 σ H2 _ I3 q2) fun w2 s4 ⟨y2,H3,I4,ry2,q3⟩=>thn (hop pins s4 σ H3 v y2 w' w2 _ I4 rw' ry2 q3) fun w3 s5 ⟨z,H4,I5,rz,H5,g5,q4⟩=> ?_;exact F7 hu I5 g5 ry rz fun s6 I6=>⟨σ,H5,I6,q4⟩
end
theorem J6 {P:Program}{w:World}{H:Hp} (h:Heap) (hb:sysModules<h.objs.size):ObjOk P w H (h.push { cls:= .type "dict",data:= .dict #[] }) h.objs.size (.dK []) :=
 ⟨Nat.zero_le _,beq_eq_false_iff_ne.mpr (Ne.symm (Nat.ne_of_lt hb)),[],.nil,Heap.DictOf.new h⟩
theorem VY {P:Program}{w:World}{H:Hp} (h:Heap) (hb:sysModules<h.objs.size):ObjOk P w H (h.push { cls:= .type "dict",data:= .dict #[] }) h.objs.size (.dT []) :=
 ⟨Nat.zero_le _,beq_eq_false_iff_ne.mpr (Ne.symm (Nat.ne_of_lt hb)),[],.nil,_,#[],0,Heap.get?_push_size _ rfl,⟨rfl,rfl,rfl⟩,rfl,rfl,List.nodup_nil⟩
def TZ:TE:=fun _ H Q=>∀p,H p=none->Q (.ref p) (upd H p (.dK []))
def R4:TE:=fun _ H Q=>∀p,H p=none->Q (.ref p) (upd H p (.dT []))
section
variable {X:Cx}{pos:Pos}
theorem wG:PE X (.Dict [] [] pos) TZ:=fun pins s σ H Q I h =>
 wpAny_Dict_empty ⟨.ref s.heap.objs.size,_,I.laid (a:=s.heap.objs.size) (o:= .dK []) (t':=s.toks) (fun _ _ q=>Heap.get?_push_of_some _ q) (Nat.le_refl _) (J6 s.heap I.big),rfl,h _ (I.hok.fresh (Nat.le_refl _))⟩
theorem BA:PE X (.Dict [] [] pos) R4:=fun pins s σ H Q I h =>
 wpAny_Dict_empty ⟨.ref s.heap.objs.size,_,I.laid (a:=s.heap.objs.size) (o:= .dT []) (t':=s.toks) (fun _ _ q=>Heap.get?_push_of_some _ q) (Nat.le_refl _) (VY s.heap I.big),rfl,h _ (I.hok.fresh (Nat.le_refl _))⟩
end
def k6 (kvs more:List (Key×V)):List (Key×V):=more.foldl (fun acc kv=>cC acc kv.1 kv.2) kvs
theorem KV.merge:∀{more:List (Key×V)}{rs:List (Key×Value)}{kvs:List (Key×V)}{vs:List (Key×Value)},KV more rs->KV kvs vs->KV (k6 kvs more) (merged vs rs):=by
 intro more rs kvs vs r;unfold KV at r
 induction r generalizing kvs vs with
 | nil=>intro q;exact q
 | @cons p q ps qs h t ih =>
  intro r0;have e:KV (cC kvs p.1 p.2) (stored vs q.1 q.2):=by
   have:=r0.put p.1 h.2;rw[←h.1];exact this
  exact ih e
theorem w6:∀(more kvs:List (Key×V)),(k6 kvs more).length<=kvs.length+more.length
 | [],kvs=>by show kvs.length<=kvs.length+0;lia
 | p::r,kvs=>by
  have h1:=w6 r (cC kvs p.1 p.2);have h2:=jL kvs p.1 p.2;show (k6 (cC kvs p.1 p.2) r).length<=_;rw[List.length_cons];lia
structure M2 (X:Cx)(o:Expr)(m:Str)(apos:Pos)(e f:Expr)(cpos:Pos):Prop where
 base:attributeBase o m X.env (eval o X.env)=eval o X.env
 few:((backTo cpos (starEach [e,f] X.env)).all (fun x=> !x.1)&&(backToKw cpos (keywordEach [] X.env)).all (fun x=>x.1.isSome)
  && decide (([e,f]:List Expr).length+([]:List Keyword).length+(if ([]:List Keyword).isEmpty then 0 else 1)<30))=true
 line:(apos.endLine==cpos.line)=true
 trees:backTo cpos (starEach [e,f] X.env)=[(false,eval e X.env),(false,eval f X.env)]
def IsD (H:Hp)(a:Addr):Prop:=(∃kvs,Rd H a (.dK kvs))∨∃kvs,Rd H a (.dT kvs)
theorem JG {X:Cx}{pins:List (Addr×Obj)}{σ:St}{H:Hp}{s:Shared}{a:Addr} (I:Inv X pins σ H s) (d:IsD H a) :
  s.TypeIs (.ref a) "dict" /\(∀b,Value.ref a= .ref b->∃ob,s.heap.get? b=some ob/\ob.dict=none)/\(a==sysModules)=false:=by
 rcases d with⟨kvs,e⟩|⟨kvs,e⟩
 ·obtain⟨_,hd,vs,_,dd⟩:=nF I.hok e;refine⟨dd.typeIs,fun b q=> ?_,hd⟩;cases q;obtain⟨ob,_,_,h1,h2,_⟩:=dd;exact⟨ob,h1,h2.2.1⟩
 ·obtain⟨_,hd,xs,_,dd⟩:=vS I.hok e;refine⟨dd.typeIs,fun b q=> ?_,hd⟩;cases q;obtain⟨ob,_,_,h1,h2,_⟩:=dd;exact⟨ob,h1,h2.2.1⟩
section
variable {X:Cx}{pins:List (Addr×Obj)}{σ:St}{H:Hp}{s:Shared}{a:Addr}{y d:V}{u r:Value}{o:Option V}{A:Around}{E:Value->Shared->Prop}
theorem aCK {Q:Value->Shared->Prop}(hu:A.units+1<cLine)(I:Inv X pins σ H s)(g:DGet H a y o)(ry:RelV y u)(rd:RelV d r)(h:∀w' s',Inv X pins σ H s'->RelV (o.getD d) w'->Q w' s') :
  wpAny (model X.prog X.w) A (call (.builtin "dict.get") [.ref a,u,r]) Q E s:=by
 rcases g with⟨kvs,k,e,ey,l⟩|⟨kvs,k,b,e,ey,eb,l⟩
 ·subst ey;obtain⟨z,hd,vs,rel,dd⟩:=nF I.hok e;refine call_meetsIn PySem.F.slot_dict_get dd.typeIs PySem.F.entry_dict_get (PySem.F.args_dict_get_3 _ _ _) (meets_dict_get_default (bY X.prog X.w) a (sP ry) hd r) ⟨_,dd.mapOf,h _ _ (I.tok _) ?_⟩;rw[l];exact(rel.val k).getD rd
 ·subst ey;cases (show u=Value.ref b from ry);obtain⟨z,hd,xs,rel,dd⟩:=vS I.hok e;refine call_meetsIn PySem.F.slot_dict_get dd.typeIs PySem.F.entry_dict_get (PySem.F.args_dict_get_3 _ _ _) (meetsH_dict_get_default (tupleKind (bY X.prog X.w)) a b hd r) ⟨tupleKind_room_in1 hu,k,xs,uM I.hok eb,dd,h _ _ (I.tok _) ?_⟩;rw[l];exact(rel.val k).getD rd
end
def Q4 (td ty tx:TE):TE:=fun σ H Q=>td σ H fun x H1=>∃a,x= .ref a/\IsD H1 a/\ty σ H1 fun y H2=>tx σ H2 fun z H3=>∃o,DGet H3 a y o/\Q (o.getD z) H3
section
variable {X:Cx}{o e f:Expr}{apos cpos:Pos}{td ty tx:TE}
theorem VO (hu:X.A.units+1<cLine)(ho:PE X o td)(he:PE X e ty)(hf:PE X f tx)(m:M2 X o "get" apos e f cpos):PE X (.Call (.Attribute o "get" apos) [e,f] [] cpos) (Q4 td ty tx):=by
 intro pins s σ H Q I h;refine wpAny_Call_method m.base m.few m.line PySem.F.plainAttrs_dict PySem.F.slot_dict_get PySem.F.type_dict_get (thn (ho pins s σ H _ I h) fun u s1 ⟨x,H1,I1,rx,a,ex,d,q1⟩=> ?_);subst ex;obtain rfl:u=Value.ref a:=rx;obtain⟨t1,t2,_⟩:=JG I1 d;refine⟨t1,t2,?_⟩;rw[m.trees];refine Calls.callWith_builtin rfl (Calls.evalArgs_plain (Calls.spliced_cons (thn (he pins s1 σ H1 _ I1 q1) fun iv s2 ⟨y,H2,I2,ry,q2⟩ =>
  Calls.spliced_cons (thn (hf pins s2 σ H2 _ I2 q2) fun fv s3 ⟨z,H3,I3,rz,ov,g,q3⟩=>Calls.spliced_nil ?_))))
 exact aCK hu I3 g ry rz fun w' s4 I4 rw'=>⟨_,H3,I4,rw',q3⟩
end
section
variable {X:Cx}{pins:List (Addr×Obj)}{σ:St}{H:Hp}{s:Shared}{a:Addr}{kvs:List (Key×V)}{A:Around}{E:Value->Shared->Prop}
end
section
variable {X:Cx}{pins:List (Addr×Obj)}{σ:St}{H:Hp}{s:Shared}{a:Addr}{y:V}{u:Value}{A:Around}{E:Value->Shared->Prop}
end
section
variable {κ:Type}[DecidableEq κ]
theorem nd_snoc:∀{l:List κ}{k:κ},l.Nodup->¬k∈l->(l++[k]).Nodup
 | [],k,_,_=>by simp
 | a::r,k,h,hk=>by
  obtain⟨h1,h2⟩:=List.nodup_cons.mp h;show (a::(r++[k])).Nodup;refine List.nodup_cons.mpr ⟨fun m=> ?_,nd_snoc h2 fun m=>hk (List.mem_cons.mpr (Or.inr m))⟩;rcases List.mem_append.mp m with q|q
  ·exact h1 q
  ·exact hk (List.mem_cons.mpr (Or.inl (List.mem_singleton.mp q).symm))
end
end L2
namespace L2
open PySem PySem.W PyProof.Rows
def iG {α:Type}(c:Nat->Nat->Bool):KasT α->α
 | .ret a=>a
 | .ask i j k=>iG c (k (c i j))
def KasIn {α:Type}(n:Nat)(R:α->Prop):KasT α->Prop
 | .ret a=>R a
 | .ask i j k=>i<n/\j<n/\∀b,KasIn n R (k b)
theorem KasIn.bind {α β:Type}{n:Nat}{R:α->Prop}{S:β->Prop}{f:α->KasT β} (hf:∀a,R a->KasIn n S (f a)):∀{t:KasT α},KasIn n R t->KasIn n S (t.bind f)
 | .ret _,h=>hf _ h
 | .ask _ _ _,h=>⟨h.1,h.2.1,fun b=>KasIn.bind hf (h.2.2 b)⟩
theorem KasIn.val {α:Type}{n:Nat}{R:α->Prop} (c:Nat->Nat->Bool):∀{t:KasT α},KasIn n R t->R (iG c t)
 | .ret _,h=>h
 | .ask i j k,h=>KasIn.val c (t:=k (c i j)) (h.2.2 (c i j))
theorem KasIn.wp {α:Type}{n:Nat}{R:α->Prop}{c:Nat->Nat->Bool}{cmp:Nat->Nat->(Bool->Shared->Prop)->Shared->Prop}{s:Shared} (hc:∀i j,i<n->j<n->∀C,C (c i j) s->cmp i j C s) {Q:α->Shared->Prop} :
  ∀{t:KasT α},KasIn n R t->Q (iG c t) s->t.kasWp cmp Q s
 | .ret _,_,q=>q
 | .ask i j k,h,q=>hc i j h.1 h.2.1 _ (KasIn.wp hc (t:=k (c i j)) (h.2.2 (c i j)) q)
abbrev Places (n:Nat)(p:Array Nat):Prop:=p.Perm (List.range n).toArray
theorem Places.lt {n:Nat}{p:Array Nat} (h:Places n p) (h0:0<n) (i:Nat):p.getD i 0<n:=by
 by_cases hi:i<p.size
 ·have e:p.getD i 0=p[i]:=by simp[Array.getD,hi]
  rw[e];have:=h.mem_iff.mp (Array.getElem_mem hi)
  simpa using this
 ·have e:p.getD i 0=0:=by simp[Array.getD,hi]
  rw[e];exact h0
theorem kY {n:Nat}{p:Array Nat} (h:Places n p) (i j:Nat):Places n (kas_rev p i j):=(mirror_perm _ _ _ _).trans h
theorem J0 {n:Nat}{p:Array Nat} (h0:0<n) (hp:Places n p):∀(f k:Nat),KasIn n (fun _=>True) (kas_asc p f k)
 | 0,_=>trivial
 | f+1,k=>⟨hp.lt h0 _,hp.lt h0 _,fun b=>by cases b with|true=>exact trivial|false=>exact J0 h0 hp f (k+1)⟩
theorem zO {n:Nat}(h0:0<n):∀(f:Nat) {p:Array Nat},Places n p->∀k q,KasIn n (fun r:Array Nat×Nat×Nat=>Places n r.1) (kas_desc f p k q)
 | 0,_,hp,_,_=>hp
 | f+1,p,hp,k,q=>by
  refine⟨hp.lt h0 _,hp.lt h0 _,fun b=> ?_⟩;cases b with
  | true =>
   show KasIn n _ (if q>0 then _ else _)
   split
   ·exact zO h0 f (kY hp _ _) _ _
   ·exact zO h0 f hp _ _
  | false =>
   refine⟨hp.lt h0 _,hp.lt h0 _,fun b=> ?_⟩;cases b with
   | true=>exact hp
   | false=>exact zO h0 f hp _ _
theorem IQ {n k m:Nat}{p:Array Nat} (h0:0<n) (hp:Places n p):KasIn n (fun r:Nat×Array Nat=>Places n r.2) (kas_tail3 k m p) :=
 KasIn.bind (R:=fun _=>True) (S:=fun r:Nat×Array Nat=>Places n r.2) (f:=fun j=> .ret (j,kas_rev p 0 k)) (fun _ _=>kY hp 0 k) (J0 h0 (kY hp 0 k) (m - k) k)
theorem AO {n k m:Nat}{p:Array Nat} (h0:0<n) (hp:Places n p):KasIn n (fun r:Nat×Array Nat=>Places n r.2) (kas_descPart k m p) :=
 KasIn.bind (fun r hr=>by
  split
  ·exact IQ h0 (kY hr _ _)
  ·exact IQ h0 hr) (zO h0 _ hp _ _)
theorem VB {n m:Nat}{p:Array Nat} (h0:0<n) (hp:Places n p):KasIn n (fun r:Nat×Array Nat=>Places n r.2) (kas_count m p) :=
 KasIn.bind (fun k _=>by
  split
  ·exact hp
  ·split
   ·refine⟨hp.lt h0 _,hp.lt h0 _,fun b=> ?_⟩;cases b with
    | true=>exact hp
    | false=>exact AO h0 (kY hp _ _)
   ·exact AO h0 hp) (J0 h0 hp _ _)
theorem BR {n k:Nat}{p:Array Nat} (h0:0<n) (hp:Places n p):∀(f l r:Nat),KasIn n (fun _=>True) (kas_place p k f l r)
 | 0,_,_=>trivial
 | f+1,l,r=>by
  unfold kas_place
  split
  ·exact trivial
  ·refine⟨hp.lt h0 _,hp.lt h0 _,fun b=> ?_⟩;cases b with
   | true=>exact BR h0 hp f _ _
   | false=>exact BR h0 hp f _ _
theorem Q9 {n:Nat}(h0:0<n):∀(f:Nat) {p:Array Nat} (k:Nat),Places n p->KasIn n (Places n) (kas_bin f p k)
 | 0,_,_,hp=>hp
 | f+1,_,k,hp=>KasIn.bind (fun _ _=>Q9 h0 f (k+1) ((bubble_perm _ _ _).trans hp)) (BR h0 hp _ _ _)
theorem MS {n:Nat}(h0:0<n):KasIn n (Places n) (kas_sort n) :=
 KasIn.bind (fun r hr=>by
  split
  ·exact Q9 h0 _ _ hr
  ·exact hr) (VB h0 (Array.Perm.refl _))
def dE {α:Type}(d:α)(c:Nat->Nat->Bool)(l:List α):List α:=if l.length<2 then l else (iG c (kas_sort l.length)).toList.map fun i=>l.getD i d
theorem jI {n:Nat}(c:Nat->Nat->Bool)(h:0<n):Places n (iG c (kas_sort n)):=(MS h).val c
theorem ER {α:Type}(d:α)(c:Nat->Nat->Bool)(l:List α):(dE d c l).length=l.length:=by
 unfold dE
 split
 ·rfl
 ·have h:=(jI (n:=l.length) c (by lia)).size_eq;rw[List.length_map,Array.length_toList,h];simp
end L2
namespace L2
open PySem PySem.W PyProof.Rows PySem.Calls
section
variable {prog:Program}{w:World}{A:Around}{E:Value->Shared->Prop}{s:Shared}
abbrev uD (a:Addr)(h h':Heap):Prop:=∀b o,b≠a->h.get? b=some o->h'.get? b=some o
theorem ZK {a:Addr}{vs:List Value}{n:Nat}{P:PySem.Fin->Shared->Prop} (c:Nat->Nat->Bool) (κ:SortKind) (ho:s.heap.get? a=some (seqObj "list" vs.toArray n)) (h64:vs.length<64)
  (hk:2<=vs.length->∀h',uD a s.heap h'->∀R:SortKind->Shared->Prop,R κ { s with heap:=h' }->wpAny (model prog w) A (keyKind' vs.toArray) R (fun _ _=>False) { s with heap:=h' })
  (hc:2<=vs.length->∀h',uD a s.heap h'->∀i j,i<vs.length->j<vs.length->∀C,C (c i j) { s with heap:=h' }->kas_ask prog w A κ vs i j C { s with heap:=h' })
  (h:∀h' e,uD a s.heap h'->h'.get? a=some (seqObj "list" (dE Value.none c vs).toArray e)->P (.done (.ret .none)) { s with heap:=h' }) :
  wpAny (model prog w) A (Builtin.«list.sort» ⟨[.ref a],[]⟩) P E s:=by
 have lt:a<s.heap.objs.size:=Heap.lt_size ho;generalize hg1:s.heap.update a (Obj.mapSeq fun _=>(#[]:Array Value))=g1;have sb1:Heap.SameBut a s.heap g1:=hg1▸Heap.SameBut.update s.heap a (Obj.mapSeq fun _=>(#[]:Array Value));obtain⟨e1,o1⟩:∃e1,g1.get? a=some (seqObj "list" #[] e1):=hg1▸⟨_,get?_update_seq ho fun _=> #[]⟩;have lt1:a<g1.objs.size:=Heap.lt_size o1;have kp:uD a s.heap ((g1.push (seqObj "tuple" vs.toArray 0)).push (seqObj "list" #[] 0)):=fun b o hb q =>
  Heap.get?_push_of_some _ (Heap.get?_push_of_some _ ((sb1.2 b hb).trans q))
 have o3:((g1.push (seqObj "tuple" vs.toArray 0)).push (seqObj "list" #[] 0)).get? a=some (seqObj "list" #[] e1):=Heap.get?_push_of_some _ (Heap.get?_push_of_some _ o1);generalize hg3:(g1.push (seqObj "tuple" vs.toArray 0)).push (seqObj "list" #[] 0)=g3 at kp o3;have fin:∀out:List Value,out.length=vs.length->out=dE Value.none c vs->wpAny (model prog w) A (do
   let touched:=(←seqEpoch a) !=e1
   Builtin.List.listUpdate (.ref a) fun _=>out.toArray
   if let some e:=(none:Option Value) then rule "list.sort.comparison-raised";throw e
   if touched then rule "list.sort.modified";raiseError "ValueError" "list modified during sort"
   ret .none) P E { s with heap:=g3 }:=by
  intro out hl ho';obtain⟨e2,o4⟩:∃e2,(g3.update a (Obj.mapSeq fun _=>out.toArray)).get? a=some (seqObj "list" out.toArray e2):=⟨_,get?_update_seq o3 fun _=>out.toArray⟩
  refine wpAny_bind (seqEpoch_at (s:={ s with heap:=g3 }) o3 rfl ?_);refine wpAny_bind (listUpdate_at (s:={ s with heap:=g3 }) o3 rfl ?_ (Nat.zero_le _) (by rw[List.size_toArray,sizeLine_eq];lia));simp only[bne_self_eq_false,Bool.false_eq_true,if_false];refine wpAny_pure (h _ e2 (fun b o hb q=> ?_) (ho'▸o4));exact((Heap.SameBut.update g3 a (Obj.mapSeq fun _=>out.toArray)).2 b hb).trans (kp b o hb q)
 rw[list_sort_plain];refine wpAny_bind (listItems_at ho rfl (wpAny_bind (listUpdate_at ho rfl ?_ (by rw[List.size_toArray,sizeLine_eq];lia) (Nat.zero_le _))));rw[hg1];refine wpAny_bind (seqEpoch_at (s:={ s with heap:=g1 }) o1 rfl ?_);refine wpAny_bind (wpAny_newTuple ?_ (by show vs.length<=_;rw[sizeLine_eq];lia));refine wpAny_bind (wpAny_newList ?_ (Nat.zero_le _));refine wpAny_holding ?_;show wpAny (model prog w) A _ P E { s with heap:=(g1.push (seqObj "tuple" vs.toArray 0)).push (seqObj "list" #[] 0) };rw[hg3]
 dsimp only
 by_cases h2:vs.toArray.size<2
 ·rw[if_pos h2,if_pos h2];have h2':vs.length<2:=by rwa [List.size_toArray]at h2
  refine wpAny_bind (wpAny_pure ?_);rw[StateT.run_pure];refine wpAny_bind (wpAny_pure ?_)
  dsimp only
  have ez:(arrOf (SortSt.mk' general' (vs.toArray.zip vs.toArray) #[] 7 none)).map (·.2)=vs.toArray:=by
   show (vs.toArray.zip vs.toArray).map (·.2)=_
   apply Array.toList_inj.mp
   rw[Array.toList_map,Array.toList_zip,List.map_snd_zip];exact Nat.le_refl _
  rw[ez];exact fin vs rfl (by unfold dE;rw[if_pos h2'])
 ·rw[if_neg h2,if_neg h2];have h2':2<=vs.length:=by rw[List.size_toArray]at h2;lia
  refine wpAny_bind (wpAny_mono (hk h2' _ kp (fun κ' s'=>κ'=κ/\s'={ s with heap:=g3 }) ⟨rfl,rfl⟩) ?_ fun _ _ x=>x.elim);rintro _ _ ⟨rfl,rfl⟩;refine wpAny_bind (wpAny_mono (kat_run (Q:=fun st' s'=>∃p:Array Nat,p=iG c (kas_sort vs.length)/\arrOf st'=p.map (kas_item (vs.toArray.zip vs.toArray))/\failedOf st'=none/\s'={ s with heap:=g3 }) (G:=fun p s'=>p=iG c (kas_sort vs.length)/\s'={ s with heap:=g3 })
   rfl h2' h64 (fun p st' s' _ a2 a3 a4=>⟨p,a4.1,a2,a3,a4.2⟩) ((MS (by lia)).wp (hc h2' _ kp) ⟨rfl,rfl⟩)) ?_ fun _ _ e=>e)
  rintro ⟨⟨⟩,st'⟩ _ ⟨p,rfl,har,hf,rfl⟩
  dsimp only
  rw[kat_snds rfl har,hf];have hz:=(jI (n:=vs.length) c (by lia)).size_eq;exact fin _ (by rw[List.length_map,Array.length_toList,hz];simp) (by unfold dE;rw[if_neg (by lia)])
theorem TQ {l:Addr}{vs:List Value}{Q:Value->Shared->Prop} (c:Nat->Nat->Bool) (κ:SortKind) (hl:s.heap.IsList l vs.toArray) (h64:vs.length<64)
  (hk:2<=vs.length->∀h',(∀b o,s.heap.get? b=some o->h'.get? b=some o)->∀R:SortKind->Shared->Prop,R κ { s with heap:=h' }->wpAny (model prog w) A.in1.in1 (keyKind' vs.toArray) R (fun _ _=>False) { s with heap:=h' })
  (hc:2<=vs.length->∀h',(∀b o,s.heap.get? b=some o->h'.get? b=some o)->∀i j,i<vs.length->j<vs.length->∀C,C (c i j) { s with heap:=h' }->kas_ask prog w A.in1.in1 κ vs i j C { s with heap:=h' })
  (h:∀D h' e,s.heap.objs.size<=D->(∀b o,s.heap.get? b=some o->h'.get? b=some o)->h'.get? D=some (seqObj "list" (dE Value.none c vs).toArray e)->Q (.ref D) { s with heap:=h' }) :
  wpAny (model prog w) A (call (.builtin "sorted") [.ref l]) Q E s:=by
 have hz64:vs.length<=sizeLine:=by rw[sizeLine_eq];lia
 refine Calls.call_function_entry kind_sorted plain_sorted entry_sorted (args_sorted1 _) ?_;unfold Builtin.«sorted»;refine wpAny_bind (m:=checkCount "sorted" 1 1 _) (wpAny_pure (wpAny_bind (collect_list hl ?_ hz64)));refine wpAny_bind (wpAny_newList ?_ hz64);generalize hq:(s.heap.push (seqObj "list" #[] 0)).update s.heap.objs.size (Obj.mapSeq (·++vs.toArray))=q;have qs:q.objs.size=s.heap.objs.size+1:=by rw[←hq,Heap.size_update,size_push']
 have qk:∀b o,s.heap.get? b=some o->q.get? b=some o:=fun b o e=>by
  have bl:b<s.heap.objs.size:=Heap.lt_size e;rw[←hq,Heap.get?_update_ne _ _ _ _ (Nat.ne_of_lt bl),Heap.get?_push_ne _ _ _ (Nat.ne_of_lt bl)];exact e
 have oD:(q.push (seqObj "list" vs.toArray 0)).get? q.objs.size=some (seqObj "list" vs.toArray 0):=Heap.get?_push_size _ rfl;have kD:∀h',uD q.objs.size (q.push (seqObj "list" vs.toArray 0)) h'->∀b o,s.heap.get? b=some o->h'.get? b=some o:=fun h' k b o e =>
  k b o (Nat.ne_of_lt (by rw[qs];exact Nat.lt_succ_of_lt (Heap.lt_size e))) (Heap.get?_push_of_some _ (qk b o e))
 refine wpAny_bind (wpAny_holding (wpAny_call_entry slot_list_sort ⟨_,oD,rfl⟩ entry_list_sort ?body (args_list_sort _)))
 case body =>
  refine ZK (s:={ s with heap:=q.push (seqObj "list" vs.toArray 0) }) c κ oD h64 (fun h2 h' k=>hk h2 h' (kD h' k)) (fun h2 h' k=>hc h2 h' (kD h' k)) fun h' e k o'=> ?_;exact⟨_,rfl,wpAny_pure ⟨_,rfl,h _ h' e (by show s.heap.objs.size<=q.objs.size;rw[qs];exact Nat.le_succ _) (kD h' k) o'⟩⟩
end
end L2
namespace L2
open PySem PySem.W PyProof.Rows
def eU:Key->Bool
 | .inl _=>true
 | .inr _=>false
def O3:Key->Key->Bool
 | .inl i,.inl j=>decide (i<j)
 | .inr x,.inr y=>decide (x.cps.toList<y.cps.toList)
 | _,_=>false
def JK:List Key->List Key->Bool
 | a::as,b::bs=>if a=b then JK as bs else O3 a b
 | _,_=>false
section
variable {prog:Program}{w:World}{A:Around}{s:Shared}
theorem aBG {a b:Key}{u v:Value}{Q:Bool->Shared->Prop}{E:Value->Shared->Prop} (k:eU a=eU b) (ru:RelV (kV a) u) (rv:RelV (kV b) v) (q:Q (decide (a=b)) s):wpAny (model prog w) A (eqBool u v) Q E s:=by
 cases a<;>cases b<;>first|(cases k;done)|skip
 ·obtain⟨t,rfl⟩:=ru;obtain⟨t',rfl⟩:=rv;refine wpAny_eqBool_int ?_;rename_i i j;have e:(i==j)=decide ((Sum.inl i:Key)=Sum.inl j):=by
   by_cases z:i=j
   ·subst z;simp
   ·rw[beq_false_of_ne z,decide_eq_false (fun y=>z (Sum.inl.inj y))]
  rw[e];exact q
 ·obtain⟨t,rfl⟩:=ru;obtain⟨t',rfl⟩:=rv;refine wpAny_eqBool_str ?_;rename_i i j;have e:decide (i=j)=decide ((Sum.inr i:Key)=Sum.inr j):=by
   by_cases z:i=j
   ·subst z;simp
   ·rw[decide_eq_false z,decide_eq_false (fun y=>z (Sum.inr.inj y))]
  rw[e];exact q
theorem aBy {a b:Key}{u v:Value}{Q:Bool->Shared->Prop}{E:Value->Shared->Prop} (k:eU a=eU b) (ru:RelV (kV a) u) (rv:RelV (kV b) v) (q:Q (O3 a b) s) (t:Bool):wpAny (model prog w) A (oneLt' t u v) Q E s:=by
 cases a<;>cases b<;>first|(cases k;done)|skip
 ·obtain⟨t1,rfl⟩:=ru;obtain⟨t2,rfl⟩:=rv;cases t with
  | true=>exact oneLt_int q
  | false=>exact kat_one _ _ (lt_int q)
 ·obtain⟨t1,rfl⟩:=ru;obtain⟨t2,rfl⟩:=rv;cases t with
  | true=>exact oneLt_str q
  | false=>exact kat_one _ _ (lt_str q)
theorem R3 {Q:Bool->Shared->Prop}:∀{as bs:List Key}{us vs:List Value} (i:Nat),as.map eU=bs.map eU->Vals (as.map kV) us->Vals (bs.map kV) vs->Q (JK as bs) s->KatLex prog w A true false Q (us.zip vs) i s
 | [],[],_,_,_,_,.nil,.nil,q=>kat_nil q
 | [],_::_,_,_,_,k,_,_,_=>by cases k
 | _::_,[],_,_,_,k,_,_,_=>by cases k
 | a::as,b::bs,_,_,i,k,.cons ra rs,.cons rb rt,q=>by
  have k1:eU a=eU b:=(List.cons.inj k).1;refine kat_cons (aBG k1 ra rb ?_);have q':Q (if a=b then JK as bs else O3 a b) s:=q
  by_cases z:a=b
  ·rw[if_pos z]at q';rw[decide_eq_true z];exact kat_yes (R3 (i+1) (List.cons.inj k).2 rs rt q')
  ·rw[if_neg z]at q';rw[decide_eq_false z];exact kat_no (aBy k1 ra rb q' _)
end
abbrev KRows (H:Hp):List V->List (List Key)->Prop:=Paired fun v r=>∃p,v= .ref p/\H p=some (.tup (r.map kV))
theorem KRows.map {H H':Hp}(f:∀p xs,H p=some (.tup xs)->H' p=some (.tup xs)):∀{vs:List V}{rs:List (List Key)},KRows H vs rs->KRows H' vs rs
 | _,_,.nil=> .nil
 | _,_,.cons ⟨p,e,h⟩ r=> .cons ⟨p,e,f _ _ h⟩ (KRows.map f r)
theorem KRows.same {H H':Hp}{vs:List V}{rs:List (List Key)} (x:KRows H vs rs) (s:Same H H'):KRows H' vs rs:=x.map fun p xs h=>s _ _ h
theorem KRows.get {H:Hp}:∀{vs:List V}{rs:List (List Key)}{i:Nat}{v:V},KRows H vs rs->vs[i]? =some v->∃p r,v= .ref p/\rs[i]? =some r/\H p=some (.tup (r.map kV))
 | _,_,0,_,.cons ⟨p,e,h⟩ _,z=>by cases z;exact⟨p,_,e,rfl,h⟩
 | _,_,i+1,_,.cons _ t,z=>KRows.get (i:=i) t (by simpa using z)
 | _,_,_,_,.nil,z=>by simp at z
def sV (rs:List (List Key))(i j:Nat):Bool:=JK (rs.getD i []) (rs.getD j [])
def OX (rs:List (List Key))(vs:List V):List V:=dE .non (sV rs) vs
section
variable {X:Cx}{pins:List (Addr×Obj)}{σ:St}{H:Hp}{s:Shared}
theorem D9 (I:Inv X pins σ H s){p:Addr}{r:List Key} (e:H p=some (.tup (r.map kV))):∃(o:Obj) (us:List Value) (n:Nat),s.heap.get? p=some o/\o.cls= .type "tuple" /\o.data= .seq us.toArray n/\Vals (r.map kV) us:=by
 obtain⟨_,its,r',o,h1,h2,n,h3⟩:=(show ObjOk X.prog X.w H s.heap p (.tup (r.map kV)) from I.hok p _ e)
 exact⟨o,its,n,h1,h2,h3,r'⟩
theorem FS (I:Inv X pins σ H s){sh:List Bool}{T:Value}{h':Heap} (kp:∀b o,s.heap.get? b=some o->h'.get? b=some o) (hT:∀(k:Key) (u:Value),sh.head? =some (eU k)->RelV (kV k) u->Looks (model X.prog X.w) h' (typeOf u) T) :
  ∀{vs:List V}{rs:List (List Key)}{us:List Value},KRows H vs rs->Vals vs us->(∀r∈rs,r.map eU=sh)->sh≠[]->∃fs,KatTups h' us fs/\fs.length=us.length/\∀v∈fs,Looks (model X.prog X.w) h' (typeOf v) T
 | _,_,_,.nil,.nil,_,_=>⟨[],trivial,rfl,fun _ z=>nomatch z⟩
 | _::_,r::_,_::_,.cons ⟨p,hv,e⟩ q,.cons rv rt,hs,hn=>by
  obtain⟨fs,f1,f2,f3⟩:=FS I kp hT q rt (fun r hr=>hs r (List.mem_cons_of_mem _ hr)) hn;subst hv;cases rv;have hr:=hs r (.head _);cases r with
  | nil=>exact absurd hr.symm hn
  | cons k ks =>
   obtain⟨o,us,n,o1,o2,o3,o4⟩:=D9 I e;cases o4 with
   | cons r1 r2 =>
    rename_i u us;refine⟨u::fs,KatTups.cons (kp _ _ o1) o2 o3 (by simp) f1,by simp[f2],fun v hv=> ?_⟩;rcases List.mem_cons.mp hv with rfl|hv
    ·exact hT k _ (by rw[←hr];rfl) r1
    ·exact f3 v hv
def NI (K:W.Frag):List V->Hp->VK->Prop:=fun xs H Q=>∃p vs rs sh,xs=[.ref p]/\SqL K H p vs/\KRows H vs rs/\vs.length<64/\(∀r∈rs,r.map eU=sh)/\sh≠[]/\∀l,H l=none->Q (.ref l) (upd H l (.lst (OX rs vs)))
theorem IV {xs:List V}{us:List Value} (c:Nat->Nat->Bool) (r:Vals xs us):Vals (dE .non c xs) (dE Value.none c us):=by
 have hl:=r.length;unfold dE;rw[hl]
 split
 ·exact r
 ·have hp:=jI (n:=us.length) c (by lia);have hm:∀i∈(iG c (kas_sort us.length)).toList,i<us.length:=fun i hi=>by
   have h:=hp.mem_iff.mp (Array.mem_toList_iff.mp hi)
   simpa using h
  revert hm;generalize (iG c (kas_sort us.length)).toList=l;intro hm
  induction l with
  | nil=>exact .nil
  | cons i l ih =>
   refine .cons ?_ (ih fun j hj=>hm j (List.mem_cons_of_mem _ hj));have hi:=hm i (.head _);have hx:xs[i]? =some (xs[i]'(by lia)):=List.getElem?_eq_getElem _;obtain⟨u,hu,ru⟩:=r.get hx;show RelV (xs.getD i .non) (us.getD i Value.none);rw[List.getD_eq_getElem?_getD,List.getD_eq_getElem?_getD,hx,hu];exact ru
theorem yH:dS X (.builtin "sorted") (NI X.K):=by
 intro pins s σ H xs us Q I r h;obtain⟨p,vs,rs,sh,rfl,hq,kr,h64,hs,hn,q⟩:=h;obtain⟨u,rfl,rx⟩:=nG r;cases rx;obtain⟨its,rv,pl,hz⟩:=I.list hq;have hl:=rv.length;have hT:∃T:Value,(T==T)=true/\(T !=Value.type "tuple")=true/\∀(h':Heap) (k:Key) (u:Value),sh.head? =some (eU k)->RelV (kV k) u->Looks (model X.prog X.w) h' (typeOf u) T:=by
  cases sh with
  | nil=>exact absurd rfl hn
  | cons b sh =>
   cases b with
   | true =>
    refine⟨.type "int",rfl,by decide,fun h' k u hk ru=> ?_⟩;cases k with
    | inl i=>obtain⟨t,rfl⟩:=ru;exact Looks.of_pure rfl
    | inr x=>cases hk
   | false =>
    refine⟨.type "str",rfl,by decide,fun h' k u hk ru=> ?_⟩;cases k with
    | inl i=>cases hk
    | inr x=>obtain⟨t,rfl⟩:=ru;exact Looks.of_pure rfl
 obtain⟨T,t1,t2,t3⟩:=hT;refine TQ (sV rs) (tuples' true) pl.isList (by lia) (fun h2 h' kp R hR=> ?_) (fun h2 h' kp i j hi hj C hC=> ?_) fun D h' e hD kp o'=> ?_
 ·obtain⟨fs,f1,f2,f3⟩:=FS I kp (fun k u=>t3 h' k u) kr rv hs hn;refine kat_kind (s:={ s with heap:=h' }) f1 (by lia) f3 t1 ?_;rw[t2];exact hR
 ·obtain⟨p1,r1,x1,y1,z1⟩:=kr.get (i:=i) (List.getElem?_eq_getElem (by lia));obtain⟨p2,r2,x2,y2,z2⟩:=kr.get (i:=j) (List.getElem?_eq_getElem (by lia));obtain⟨u1,v1,w1⟩:=rv.get (List.getElem?_eq_getElem (show i<vs.length by lia));obtain⟨u2,v2,w2⟩:=rv.get (List.getElem?_eq_getElem (show j<vs.length by lia));rw[x1]at w1;rw[x2]at w2;cases w1;cases w2;obtain⟨o1,us1,n1,g1,c1,d1,l1⟩:=D9 I z1;obtain⟨o2,us2,n2,g2,c2,d2,l2⟩:=D9 I z2;have s1:=hs r1 (List.mem_of_getElem? y1);have s2:=hs r2 (List.mem_of_getElem? y2);have e1:=l1.length;have e2:=l2.length;rw[List.length_map]at e1 e2;have e3:r1.length=r2.length:=by rw[←List.length_map (f:=eU),s1,←s2,List.length_map]
  unfold kas_ask;rw[List.getD_eq_getElem?_getD,List.getD_eq_getElem?_getD,v1,v2];refine kat_lt (s:={ s with heap:=h' }) (kp _ _ g1) d1 (kp _ _ g2) d2 ?_;rw[show decide (us1.toArray.size<us2.toArray.size)=false from decide_eq_false (by rw[List.size_toArray,List.size_toArray];lia)];refine R3 0 (s1.trans s2.symm) l1 l2 ?_;have ec:sV rs i j=JK r1 r2:=by
   unfold sV;rw[List.getD_eq_getElem?_getD,List.getD_eq_getElem?_getD,y1,y2];rfl
  rw[ec]at hC;exact hC
 ·exact⟨.ref D,_,I.laid (t':=s.toks) kp hD (show ObjOk X.prog X.w _ h' _ (.lst _) from⟨by rw[ER];exact hz,_,e,IV _ rv,o'⟩),rfl,q _ (I.hok.fresh hD)⟩
end
section
variable {prog:Program}{w:World}{A:Around}{E:Value->Shared->Prop}{s:Shared}{d it:Addr}{o:Obj}{es:Array DictEntry}{ep i:Nat}
theorem IY {Q:Value->Shared->Prop}(hd:(d==sysModules)=false)(ho:s.heap.get? d=some o)(hc:o.ExactDict)(hq:o.data= .dict es ep)
  (k:Q (.ref s.heap.objs.size) { s with heap:=s.heap.push { cls:= .type "dict_keyiterator",data:= .fields #[.ref d,.int 0 0,.int es.size 0,.int ep 0] } }):wpAny (model prog w) A (pyIter (.ref d)) Q E s:=by
 have T:s.TypeIs (.ref d) "dict" :=⟨o,ho,hc.1⟩
 refine wpAny_pyIter_slot T F.slot_dict_iter (wpAny_call_entry F.slot_dict_iter T F.entry_dict_iter ?_ (F.args_dict_iter_1 _));unfold Builtin.«dict.__iter__» Builtin.Dict.dictSlotNone;refine wpAny_bind (wpAny_bind (wpAny_notOrdered_dict T (wpAny_pure ?_)));show wpAny _ A.in1 (Builtin.Dict.showsAll d >>= _) _ _ s;unfold Builtin.Dict.showsAll;rw[if_neg (fun z=>by rw[hd]at z;cases z)];refine wpAny_bind (wpAny_pure (wpAny_bind (wpAny_dictEntries ho hq (wpAny_bind (wpAny_dictEpoch ho hq ?_)))));exact wpAny_bind (wpAny_newObj_type (wpAny_pure ⟨_,rfl,"dict_keyiterator",_,⟨_,Heap.get?_push_size _ rfl,rfl⟩,F.slot_dict_keyiterator_next.lookup,k⟩))
theorem V1 {Q:Option Value->Shared->Prop}{e:DictEntry} (hit:s.heap.IsKeyIter it d i es.size ep) (ho:s.heap.get? d=some o) (hq:o.data= .dict es ep) (hx:es[i]? =some e)
  (k:∀h',h'.IsKeyIter it d (i+1) es.size ep->Heap.SameBut it s.heap h'->Q (some e.key) { s with heap:=h' }):wpAny (model prog w) A (pyNext (.ref it)) Q E s:=by
 obtain⟨oi,hi,ci,di⟩:=id hit;have T:=hit.typeIs;unfold pyNext;refine wpAny_bind (wpAny_attempt (wpAny_callSpecial?_slot (name:=Str.ofString "__next__") T F.slot_dict_keyiterator_next (wpAny_call_entry F.slot_dict_keyiterator_next T F.entry_dict_keyiterator_next ?_ (F.args_dict_keyiterator_next_1 _))));refine wpAny_bind (wpAny_pure (wpAny_bind (wpAny_bind ?_)))
 first|refine wpAny_bind (wpAny_typeNameOfWhole_keyiter T (wpAny_pure (wpAny_bind (wpAny_fieldsOf hi di ?_))))|refine wpAny_bind (wpAny_typeNameOf_keyiter T (wpAny_pure (wpAny_bind (wpAny_fieldsOf hi di ?_))))
 simp only[show Builtin.Dict_items.ownsTuple "dict_keyiterator" =false by decide,Bool.false_eq_true,if_false];show wpAny _ A.in1 (if (Value.ref d==Value.none)=true then _ else _) _ _ s;rw[if_neg (show ¬(Value.ref d==Value.none)=true from Bool.false_ne_true)];refine wpAny_bind (wpAny_pure (wpAny_bind (wpAny_dictEntries ho hq ?_)));rw[if_neg (by simp)];refine wpAny_bind (wpAny_pure (wpAny_bind (wpAny_dictEpoch ho hq ?_)));rw[if_neg (by simp)];refine wpAny_pure ?_;simp only[show ¬((i:Int)<0) from by lia,if_false,Int.toNat_natCast,hx];refine wpAny_bind ?_
 first|refine wpAny_bind (wpAny_typeNameOfWhole_keyiter T (wpAny_pure (wpAny_bind (wpAny_isOneOf_keyiter T ?_))))|refine wpAny_bind (wpAny_typeNameOf_keyiter T (wpAny_pure (wpAny_bind (wpAny_isOneOf_keyiter T ?_))))
 show wpAny _ A.in1 (setField (.ref it) 1 (rawInt ((i:Int)+1)) >>= _) _ _ s;refine wpAny_bind (wpAny_setField hi di (by simp) ?_);have H2:(s.heap.update it (Obj.mapFields (·.setIfInBounds 1 (rawInt ((i:Int)+1))))).IsKeyIter it d (i+1) es.size ep :=
  ⟨_,Heap.get?_update_self _ hi (Obj.isFreed_of_fields (Obj.data_mapFields di _)),(Obj.cls_mapFields ..).trans ci,(Obj.data_mapFields di _).trans (by simp[rawInt])⟩
 refine wpAny_bind (wpAny_holding (wpAny_bind (wpAny_isOneOf_keyiter (s:={ s with heap:=s.heap.update it (Obj.mapFields (·.setIfInBounds 1 (rawInt ((i:Int)+1)))) }) H2.typeIs ?_)));show wpAny _ A.in1 (pure e.key) _ _ _;exact wpAny_pure (wpAny_pure ⟨_,rfl,wpAny_pure (k _ H2 (Heap.SameBut.update ..))⟩)
theorem aAw {Q:Option Value->Shared->Prop}(hh:A.handled=none)(hit:s.heap.IsKeyIter it d i es.size ep)(ho:s.heap.get? d=some o)(hq:o.data= .dict es ep)(hx:es.size<=i)
  (k:∀h',Heap.ExtBut it s.heap h'->Q none { s with heap:=h' }):wpAny (model prog w) A (pyNext (.ref it)) Q E s:=by
 obtain⟨oi,hi,ci,di⟩:=id hit;have T:=hit.typeIs;unfold pyNext;refine wpAny_bind (wpAny_attempt (wpAny_callSpecial?_slot (name:=Str.ofString "__next__") T F.slot_dict_keyiterator_next (wpAny_call_entry F.slot_dict_keyiterator_next T F.entry_dict_keyiterator_next ?_ (F.args_dict_keyiterator_next_1 _))));refine wpAny_bind (wpAny_pure (wpAny_bind (wpAny_bind ?_)))
 first|refine wpAny_bind (wpAny_typeNameOfWhole_keyiter T (wpAny_pure (wpAny_bind (wpAny_fieldsOf hi di ?_))))|refine wpAny_bind (wpAny_typeNameOf_keyiter T (wpAny_pure (wpAny_bind (wpAny_fieldsOf hi di ?_))))
 simp only[show Builtin.Dict_items.ownsTuple "dict_keyiterator" =false by decide,Bool.false_eq_true,if_false];show wpAny _ A.in1 (if (Value.ref d==Value.none)=true then _ else _) _ _ s;rw[if_neg (show ¬(Value.ref d==Value.none)=true from Bool.false_ne_true)];refine wpAny_bind (wpAny_pure (wpAny_bind (wpAny_dictEntries ho hq ?_)));rw[if_neg (by simp)];refine wpAny_bind (wpAny_pure (wpAny_bind (wpAny_dictEpoch ho hq ?_)));rw[if_neg (by simp)];refine wpAny_pure ?_;simp only[show ¬((i:Int)<0) from by lia,if_false,Int.toNat_natCast,Array.getElem?_eq_none hx];refine wpAny_bind ?_
 first|refine wpAny_bind (wpAny_typeNameOfWhole_keyiter T (wpAny_pure ?_))|refine wpAny_bind (wpAny_typeNameOf_keyiter T (wpAny_pure ?_))
 show wpAny _ A.in1 (setField (.ref it) 0 .none >>= _) _ _ s;refine wpAny_bind (wpAny_setField hi di (by simp) ?_);show wpAny _ A.in1 (newExc (.type "StopIteration") [] >>= _) _ _ _;refine wpAny_bind ?_;simp only[newExc,newTuple];refine wpAny_bind (wpAny_newObj_type (wpAny_bind (m:=firstArgMember _ _) (wpAny_of_eq (a:=Value.none) (by first|rfl|(simp only[firstArgMember];rfl)) (wpAny_newObj_type ?_ (by size_fits)))) (by size_fits));simp only[raiseNew];refine wpAny_bind (wpAny_handled ?_);rw[show A.in1.handled=none from hh];refine wpAny_bind (wpAny_pure (wpAny_throw ?_));refine wpAny_bind (wpAny_isInstance (b:=true) (T:= "StopIteration") ⟨_,Heap.get?_push_size _ rfl,rfl⟩ isSubtype_stop ?_);exact wpAny_pure (k _ (((Heap.SameBut.update ..).extBut.push _).push _))
end
def Itk (a:Addr)(o:Obj)(kvs:List (Key×V)):It :=
 ⟨fun i H=>H a=some (.frz o (.dK kvs))/\i<kvs.length,fun i H x H'=>H'=H/\∃k v,kvs[i]? =some (k,v)/\x=kV k,fun i H=>H a=some (.frz o (.dK kvs))/\kvs.length<=i⟩
theorem KT.len {H:Hp}{kvs:List (List Key×V)}{xs:List (List Key×Addr×Value)} (r:KT H kvs xs):kvs.length=xs.length:=Paired.length r
section
variable {X:Cx}{tg:Expr}
theorem Inv.freeze {pins:List (Addr×Obj)}{σ:St}{H:Hp}{s:Shared}{a:Addr}{u:HO}{o:Obj} (I:Inv X pins σ H s) (mu:Mut (some u)) (e:H a=some u) (ho:s.heap.get? a=some o) (new:ObjOk X.prog X.w (upd H a (.frz o u)) s.heap a (.frz o u)):Inv X pins σ (upd H a (.frz o u)) s :=
 I.write (t':=s.toks) (h':=s.heap) (by rw[e];exact mu) (.inl rfl) (fun b u _ z=>z) ⟨_,ho⟩ new
end
section
variable {X:Cx}{e c:Expr}{te:TE}{lo hi:Option Expr}{tl th ts:TO}{pos p2:Pos}
end
section
variable {X:Cx}
end
section
variable {X:Cx}{pins:List (Addr×Obj)}{σ:St}{H:Hp}{s:Shared}
end
section
variable {X:Cx}
end
section
variable {K:W.Frag}{ti:TT}{te:TE}{σ:St}{ci:List Nat}{rest:St}{fin:List V->Hp->Prop}{H:Hp}{a:Addr}
end
theorem GE:bootBuiltins "sorted" =some (.builtin "sorted"):=by decide +kernel
theorem Room.units1 {k:Nat}{A:Around} (r:Room k A):A.units+1<cLine:=by have:=r.un;lia
section
variable {K:W.Frag}{H:Hp}{Q:VK}
end
section
variable {H:Hp}{Q:VK}{σ:St}
theorem W4 (h:∀p H',H p=none->Same H H'->H' p=some (.dT [])->Q (.ref p) H'):R4 σ H Q:=gN h
theorem VG {κ:Type}[DecidableEq κ]{kvs:List (κ×V)}{k:κ}{v:V}{e:κ×V} (h:e∈cC kvs k v):e∈kvs∨e.1=k/\e.2=v:=by
 unfold cC at h
 split at h
 ·obtain⟨p,hp,e1⟩:=List.mem_map.mp h
  by_cases z:p.1=k
  ·rw[if_pos z]at e1;subst e1;exact .inr ⟨z,rfl⟩
  ·rw[if_neg z]at e1;subst e1;exact .inl hp
 ·rcases List.mem_append.mp h with h|h
  ·exact .inl h
  ·cases List.mem_singleton.mp h;exact .inr ⟨rfl,rfl⟩
end
section
variable {X:Cx}{K:W.Frag}
theorem kM {es:List Expr}{k:Nat}{t:TGs}{n:Nat}{pos:Pos} (hc:X.calm=true) (h:PGs X es t) (hK:X.K=K:=by rfl)
  (hn:(assignEach es X.env).length=n:=by rfl)(hst:(assignEach es X.env).findIdx? (·.1)=none:=by rfl):PG X (.Tuple es k pos) (EY K n t):=by
 subst hK;exact yG hc h hn hst
theorem dQ (hK:X.K=K:=by rfl):IxR X (aCT K):=by
 subst hK;exact cZ
end
def HR (nx:St->Hp->Prop)(σ:St)(x v:V):VK:=fun y H3=>∃a H4,x= .ref a/\DPut H3 a y v H4/\nx σ H4
def HN (Q:VK)(x:V):VK:=fun y H2=>∃a v,x= .ref a/\DGet H2 a y (some v)/\Q v H2
section
variable {K:W.Frag}{H:Hp}{Q:VK}{σ:St}{nx rt bk ct:St->Hp->Prop}
theorem YX {td ty tv:TE}{nx:St->Hp->Prop}{rt:VK}{bk ct:St->Hp->Prop} (h:tv σ H fun v H1=>td σ H1 fun x H2=>ty σ H2 (HR nx σ x v)):XL td ty tv ⟨nx,rt,bk,ct⟩ σ H:=h
theorem vF {p b:Addr}{v:V}{kvs:List (List Key×V)} (k:List Key) (e:H p=some (.dT kvs)) (eb:H b=some (.tup (k.map kV))) (hl:kvs.length<sizeLine)
  (h:∀H',SameBut p H H'->H' p=some (.dT (cC kvs k v))->nx σ H'):HR nx σ (.ref p) v (.ref b) H :=
 ⟨p,_,rfl,DPut.t e eb hl,h _ SameBut.upd aQ⟩
theorem aAM {td ty:TE}(h:td σ H fun x H1=>ty σ H1 (HN Q x)):XS td ty σ H Q:=h
theorem WK {p b:Addr}{v:V}{kvs:List (List Key×V)} (k:List Key) (e:Rd H p (.dT kvs)) (eb:H b=some (.tup (k.map kV))) (hv:aY kvs k=some v) (h:Q v H):HN Q (.ref p) (.ref b) H :=
 ⟨p,v,rfl,.inr ⟨kvs,k,b,e,rfl,eb,hv.symm⟩,h⟩
theorem qR {p:Addr}{xs:List V}{i:Int} (e:SqL K H p xs) (h0:0<=i) (h1:i<xs.length) (h:∀v∈xs,Q v H):xQ K (.ref p) (.int i) H Q:=by
 have hl:i.toNat<xs.length:=by lia
 have e1:=pU (xs:=xs) (j:=i.toNat) (v:=xs[i.toNat]) (List.getElem?_eq_getElem hl);rw[show ((i.toNat:Nat):Int)=i by lia]at e1;exact⟨p,xs,i,_,rfl,rfl,e,e1,h _ (List.getElem_mem hl)⟩
end
theorem w9:entryFor table "dict_itemiterator.__iter__" =some Builtin.«dict_keyiterator.__iter__»:=entryFor_alias (id':= "dict_keyiterator.__iter__") (by kernel_rfl) rfl (by decide +kernel) (by kernel_rfl)
theorem ND {P:Program}{w:World}{k:Key}{u:Value} (h:(bY P w).is k u=true):RelV (kV k) u:=by
 rcases cX h with⟨i,t,rfl,rfl⟩|⟨x,t,rfl,rfl⟩
 ·exact⟨t,rfl⟩
 ·exact⟨t,rfl⟩
theorem IS {κ:Type}{kvs:List (κ×V)}{vs:List (κ×Value)}{i:Nat} (h:KV kvs vs) (hi:i<kvs.length):∃k v u,kvs[i]? =some (k,v)/\vs[i]? =some (k,u)/\RelV v u:=by
 induction h generalizing i with
 | nil=>exact absurd hi (Nat.not_lt_zero _)
 | @cons x y l m h t ih =>
  cases i with
  | zero=>exact⟨x.1,x.2,y.2,rfl,by rw[h.1];rfl,h.2⟩
  | succ i=>exact ih (Nat.lt_of_succ_lt_succ hi)
theorem FY {P:Program}{w:World}{κ:Type} [DecidableEq κ] {knd:KeyKind P w κ}:∀{es:List DictEntry}{kvs:List (κ×Value)}{i:Nat}{k:κ}{u:Value},Pairs knd es kvs->kvs[i]? =some (k,u)->∃e,es[i]? =some e/\knd.is k e.key=true/\e.val=u
 | _,_,0,_,_,.cons h1 h2 _,z=>by cases z;exact⟨_,rfl,h1,h2⟩
 | _,_,i+1,_,_,.cons _ _ t,z=>by
  obtain⟨e,e1,e2⟩:=FY (i:=i) t (by simpa using z);exact⟨e,by simpa using e1,e2⟩
 | _,_,_,_,_,.nil,z=>by simp at z
theorem QD {P:Program}{w:World}{K:W.Frag}{tg:Expr} (a it:Addr) {o:Obj}{es:Array DictEntry}{ep:Nat} (kvs:List (Key×V)) (hd:o.data= .dict es ep) (hz:es.size=kvs.length) :
  A3 P w K tg (Itk a o kvs) [it] it (fun i h=>h.IsKeyIter it a i es.size ep) where
 mem:=by simp
 obj:=fun i h st b hb=>by
  have e:b=it:=by simpa using hb
  subst e;obtain⟨ob,e,c,d⟩:=st;exact⟨ob,e,fun v z=>by rw[d]at z;cases z⟩
 keep:=fun i h h' st k=>st.at fun ob e=>k it (by simp) ob e
 item:=by
  intro X hP hw hK hc i pins s σ H E I hf st hg;subst hP hw hK;obtain⟨ha,hi⟩:=hg;obtain⟨ho,z,y,vs,r,o',es',ep',h1,h2,h3,h4,h5,h6⟩:=(show ObjOk X.prog X.w H s.heap a (.frz o (.dK kvs)) from I.hok a _ ha)
  rw[ho]at h1;cases h1;rw[hd]at h3;cases h3;obtain⟨k,v,u,e1,e2,e3⟩:=IS r hi;obtain⟨e,f6,f7,f8⟩:=FY h5 e2;obtain⟨f0,f1,f2,f3,f4,f5⟩:=hf it (by simp);refine V1 st ho hd (e:=e) (by simpa using f6) fun h' st' sb=> ?_;have I1:Inv X pins σ H { s with heap:=h' }:=I.turned (t':=s.toks) (fun b o hb e=>(sb.2 b hb).trans e) f0 f1 f3 f4 f5;exact⟨_,rfl,letGo_keyiter (s':={ s with heap:=h' }) st' ⟨kV k,H,I1,ND f7,⟨rfl,k,v,e1,rfl⟩,st',fun b hb=>(hf b hb).1⟩⟩
 done:=by
  intro X hP hw hK hc i pins s σ H E I hf st hg;subst hP hw hK;obtain⟨ha,hi⟩:=hg;obtain⟨ho,hok⟩:=(show ObjOk X.prog X.w H s.heap a (.frz o (.dK kvs)) from I.hok a _ ha)
  obtain⟨f0,f1,f2,f3,f4,f5⟩:=hf it (by simp);exact aAw (I.ok.hd hc) st ho hd (by lia) fun h' eb=>⟨rfl,I.turned (t':=s.toks) (fun b o hb e=>eb b o hb e) f0 f1 f3 f4 f5⟩
 self:=fun _ _ _ _ _ st h=>wpAny_pyIter_keyiter st h
def R9 (td:TE):TI:=fun σ H R=>td σ H fun x H1=>∃a kvs,x= .ref a/\H1 a=some (.dK kvs)/\∀o,R (Itk a o kvs) (upd H1 a (.frz o (.dK kvs)))
section
variable {X:Cx}{tg:Expr}
theorem JR {l:Expr}{td:TE} (hl:PE X l td):PI X tg l (R9 td):=by
 intro pins s σ H R I h;refine thn (hl pins s σ H _ I h) fun v s1 ⟨x,H1,I1,r1,q1⟩=> ?_;obtain⟨a,kvs,rfl,hq,q⟩:=q1;cases r1;obtain⟨z,y,vs,r,o,es,ep,h1,h2,h3,h4,h5,h6⟩:=(show ObjOk X.prog X.w H1 s1.heap a (.dK kvs) from I1.hok a _ hq)
 have hz:es.size=kvs.length:=by rw[r.length,←h5.length];simp
 have new:ObjOk X.prog X.w (upd H1 a (.frz o (.dK kvs))) s1.heap a (.frz o (.dK kvs)):=⟨h1,z,y,vs,r,o,es,ep,h1,h2,h3,h4,h5,h6⟩
 have I2:Inv X pins σ (upd H1 a (.frz o (.dK kvs))) s1:=I1.freeze trivial hq h1 new;refine IY y h1 h2 h3 ?_;refine⟨s1.heap.objs.size,[s1.heap.objs.size],_,_,upd H1 a (.frz o (.dK kvs)),rfl,I2.kept (t':=s1.toks) fun b o e=>Heap.get?_push_of_some _ e,QD a _ kvs h3 hz,⟨_,Heap.get?_push_size _ rfl,rfl,rfl⟩,fun b hb=> ?_,q o⟩;have e:b=s1.heap.objs.size:=by simpa using hb
 subst e;exact I2.fpOk (Nat.le_refl _) (I2.hok.fresh (Nat.le_refl _))
end
section
variable {X:Cx}
end
section
variable {X:Cx}{pins:List (Addr×Obj)}{σ:St}{H:Hp}{s:Shared}{a:Addr}{o:Obj}{u:HO}
theorem Inv.thaw (I:Inv X pins σ H s)(h0:∀o u,X.H₀ a≠some (.frz o u))(e:H a=some (.frz o u)):Inv X pins σ (upd H a u) s:=by
 have nn:∀b,H b=none->b≠a:=fun b n z=>by rw[z,e]at n;cases n
 have no:∀b c,H b=some (.own c)->b≠a:=fun b c n z=>by rw[z,e]at n;cases n
 have nt:∀b xs,H b=some (.tup xs)->b≠a:=fun b c n z=>by rw[z,e]at n;cases n
 refine⟨I.ok,I.os,I.bare,⟨I.base.keep,I.base.slot,fun b ob q n hx=> ?_,I.base.there,fun b xs q=> ?_,fun b ob xs q=> ?_,fun b ps q=> ?_⟩,I.loc,I.cell,?_,fun x c ec=> ?_,fun p hp=> ?_,fun b v q=> ?_,I.len⟩
 ·have z:=I.base.free b ob q n hx;rw[aH (nn b z)];exact z
 ·have z:=I.base.tups b xs q;rw[aH (nt b xs z)];exact z
 ·have z:=I.base.frzs b ob xs q;have hb:b≠a:=fun y=>h0 ob xs (by rw[←y];exact q);rw[aH hb];exact z
 ·obtain⟨more,z⟩:=I.base.tbls b ps q;refine⟨more,?_⟩;rw[aH (fun y=>by rw[y,e]at z;cases z)];exact z
 ·rw[aH (nn _ I.free)];exact I.free
 ·rw[aH (nn _ (I.freeC x c ec))];exact I.freeC x c ec
 ·obtain⟨p1,p2,p3⟩:=I.pin p hp;exact⟨p1,by rw[aH (nn _ p2)];exact p2,p3⟩
 ·have so:∀b c,H b=some (.own c)->upd H a u b=some (.own c):=fun b c z=>by rw[aH (no b c z)];exact z
  have st:∀b xs,H b=some (.tup xs)->upd H a u b=some (.tup xs):=fun b c z=>by rw[aH (nt b c z)];exact z
  by_cases hb:b=a
  ·subst hb;rw[aQ]at q;cases q;obtain⟨_,z⟩:=(show ObjOk X.prog X.w H s.heap b (.frz o u) from I.hok b _ e)
   exact z.stay (fun _ _ _ q=>q) (fun c z=>so c b z) st
  ·rw[aH hb]at q;exact(I.hok b v q).stay (fun _ _ _ q=>q) (fun c z=>so c b z) st
theorem Inv.wasFree (I:Inv X pins σ H s)(h:∀o u,H a≠some (.frz o u)):∀o u,X.H₀ a≠some (.frz o u):=fun o u z=>h o u (I.base.frzs a o u z)
end
def iB (a:Addr)(R:Hp->Prop):Hp->Prop:=fun H=>∃o u,H a=some (.frz o u)/\R (upd H a u)
def YH (te:TE):TE:=fun σ H Q=>∃a,(∀o u,H a≠some (.frz o u))/\te σ H fun x=>iB a (Q x)
def X6 (ts:TS):TS:=fun D σ H=>∃a,(∀o u,H a≠some (.frz o u))/\ts ⟨fun σ'=>iB a (D.nx σ'),fun v=>iB a (D.rt v),fun σ'=>iB a (D.bk σ'),fun σ'=>iB a (D.ct σ')⟩ σ H
section
variable {X:Cx}
theorem EK {e:Expr}{te:TE} (he:PE X e te):PE X e (YH te):=by
 intro pins s σ H Q I h;obtain⟨a,h0,h⟩:=h;refine thn (he pins s σ H _ I h) fun v s1 ⟨x,H1,I1,r1,o,u,e,q⟩=> ?_;exact⟨x,_,I1.thaw (I.wasFree h0) e,r1,q⟩
theorem ZS {st:Stmt}{ts:TS} (he:PS X st ts):PS X st (X6 ts):=by
 intro pins s σ H D I h;obtain⟨a,h0,h⟩:=h;refine thn (he pins s σ H _ I h) fun f s1 z=> ?_;cases f with
 | next=>obtain⟨σ1,H1,I1,o,u,e,q⟩:=z;exact⟨σ1,_,I1.thaw (I.wasFree h0) e,q⟩
 | brk=>obtain⟨σ1,H1,I1,o,u,e,q⟩:=z;exact⟨σ1,_,I1.thaw (I.wasFree h0) e,q⟩
 | cont=>obtain⟨σ1,H1,I1,o,u,e,q⟩:=z;exact⟨σ1,_,I1.thaw (I.wasFree h0) e,q⟩
 | ret v=>obtain⟨x,σ1,H1,I1,r,o,u,e,q⟩:=z;exact⟨x,σ1,_,I1.thaw (I.wasFree h0) e,r,q⟩
end
theorem IM:∀bs:List Bool,((List.range bs.length).any fun i=>bs.getD i false)=bs.any id
 | []=>rfl
 | b::bs=>by
  rw[List.length_cons,List.range_succ_eq_map,List.any_cons,List.any_map,List.any_cons,←IM bs];rfl
theorem vK:∀{ns:List Int}{us:List Value},Vals (ns.map V.int) us->∃xs:List (Int×Tok),us=xs.map (fun p=>Value.int p.1 p.2)/\ns=xs.map (·.1)
 | [],_,.nil=>⟨[],rfl,rfl⟩
 | n::ns,_,.cons r t=>by
  obtain⟨xs,rfl,rfl⟩:=vK t;obtain⟨tk,rfl⟩:=r;exact⟨(n,tk)::xs,rfl,rfl⟩
section
variable {X:Cx}
def aBO (K:W.Frag):List V->Hp->VK->Prop:=fun xs H Q=>∃(p:Addr) (bs:List Bool),xs=[.ref p]/\SqL K H p (bs.map V.bl)/\Q (.bl (bs.any id)) H
theorem FT (hc:X.calm=true):dS X (.builtin "any") (aBO X.K):=by
 intro pins s σ H xs us Q I r h;obtain⟨p,bs,rfl,hq,q⟩:=h;obtain⟨u,rfl,rx⟩:=nG r;cases rx;obtain⟨its,r',pl,hz⟩:=I.list hq;have hl:=pl.isList;have hlt:p<s.heap.objs.size:=by obtain⟨_,e,_⟩:=hl;exact Heap.lt_size e
 have hlen:bs.length=its.length:=by have:=r'.length;rw[List.length_map]at this;exact this
 refine call_any_walk (wpAny_pyIter_list hl ?_);refine⟨s.heap.objs.size,_,_,its.toArray.size,_,_,fun i=>bs.getD i false,rfl,Walks.list (show X.A.in1.handled=none from I.ok.hd hc) s.heap.objs.size p (Nat.ne_of_lt hlt) its.toArray,⟨⟨_,Heap.get?_push_size _ rfl,rfl,rfl⟩,hl.push _⟩,?_,?_⟩
 ·intro i v s' Q' E' hi hQ;have hi':its[i]? =some v:=by simpa using hi
  have hib:i<bs.length:=by rw[hlen];exact(List.getElem?_eq_some_iff.mp hi').1
  obtain⟨u,hu,ru⟩:=r'.get (i:=i) (x:=V.bl bs[i]) (by rw[List.getElem?_map,List.getElem?_eq_getElem hib];rfl);rw[hi']at hu;cases hu;have:v=Value.bool bs[i]:=ru;subst this;refine wpAny_truthy_bool ?_;have eb:bs.getD i false=bs[i]:=by rw[List.getD_eq_getElem?_getD,List.getElem?_eq_getElem hib];rfl
  have hQ':Q' (bs.getD i false) s':=hQ;rw[eb]at hQ';exact hQ'
 ·intro h' tk hk;have eany:(List.range its.toArray.size).any (fun i=>bs.getD i false)=bs.any id:=by
   rw[List.size_toArray,←hlen];exact IM bs
  rw[eany];refine⟨.bl (bs.any id),H,?_,rfl,q⟩;have I1:Inv X pins σ H { s with heap:=s.heap.push { cls:= .type "list_iterator",data:= .fields #[.ref p,.int 0 0] },toks:=s.toks }:=I.kept fun b u e=>Heap.get?_push_of_some _ e;obtain⟨f0,f1,f2,f3,f4,f5⟩:=I.fpOk (Nat.le_refl _) (I.hok.fresh (Nat.le_refl _));exact I1.turned (fun b o hb e=>hk b o (by simpa using hb) e) f0 f1 f3 f4 f5
def aB3 (K:W.Frag):List V->Hp->VK->Prop:=fun xs H Q=>∃(p:Addr) (ns:List Int),xs=[.ref p]/\SqL K H p (ns.map V.int)/\Q (.int ns.sum) H
theorem nQ (hc:X.calm=true):dS X (.builtin "sum") (aB3 X.K):=by
 intro pins s σ H xs us Q I r h;obtain⟨p,ns,rfl,hq,q⟩:=h;obtain⟨u,rfl,rx⟩:=nG r;cases rx;obtain⟨its,r',pl,hz⟩:=I.list hq;obtain⟨zs,rfl,rfl⟩:=vK r';have hl:s.heap.IsList p (intItems zs.toArray):=by
  have:=pl.isList
  simpa [intItems] using this
 refine sum_intListG (I.ok.hd hc) hl fun h' tk t' hk=> ?_;have e2:preSum (numAt zs.toArray) zs.toArray.size=(zs.map (·.1)).sum:=by
  rw[preSum_eq,List.take_of_length_le (by simp)]
 rw[e2];exact⟨.int (zs.map (·.1)).sum,H,I.kept hk,⟨t',rfl⟩,q⟩
end
section
variable {K:W.Frag}{H:Hp}{Q:VK}
theorem TC {p:Addr}{bs:List Bool} (e:SqL K H p (bs.map V.bl)) (h:Q (.bl (bs.any id)) H):aBO K [.ref p] H Q:=⟨p,bs,rfl,e,h⟩
theorem xD {p:Addr}{ns:List Int} (e:SqL K H p (ns.map V.int)) (h:Q (.int ns.sum) H):aB3 K [.ref p] H Q:=⟨p,ns,rfl,e,h⟩
end
theorem UC:bootBuiltins "any" =some (.builtin "any"):=by decide +kernel
theorem uQ:bootBuiltins "sum" =some (.builtin "sum"):=by decide +kernel
theorem ZP:typeLookup (.type "list") "keys" =pure none:=by rw[typeLookup_type,builtinLookup_eq_fast];kernel_rfl
theorem aAE:typeLookup (.type "list") "__getattr__" =pure none:=by rw[typeLookup_type,builtinLookup_eq_fast];kernel_rfl
theorem KD:isSubtype (.type "AttributeError") (.type "AttributeError")=pure true:=by rw[isSubtype_type];kernel_rfl
theorem V2:((Manifest.find? "AttributeError").elim false fun t=>t.mro.contains "StopIteration" ||t.mro.contains "SystemExit")=false:=by decide +kernel
section
variable {prog:Program}{w:World}{A:Around}{E:Value->Shared->Prop}{s:Shared}
theorem VN {α:Type}{v:Value}{a:Addr}{Q:α->Shared->Prop} (hh:A.handled=none)
  (k:∀e h' tk' o,h'.get? e=some o->o.cls= .type "AttributeError" ->(∀b o,s.heap.get? b=some o->h'.get? b=some o)->E (.ref e) { s with heap:=h',toks:=tk' }) :
  wpAny (model prog w) A (do
   let e ←newExc (.type "AttributeError") [v];let l ←mkText "keys"
   noteAttr e (.ref a) l
   raiseNew e) Q E s:=by
 unfold newExc newTuple;refine wpAny_bind (wpAny_bind (wpAny_newObj_type (wpAny_bind (m:=firstArgMember _ _) (wpAny_of_eq (a:=Value.none) (by simp only[firstArgMember,V2];rfl) (wpAny_newObj_type ?_ (by size_fits)))) (by size_fits)));refine wpAny_bind (wpAny_mkText ?_);refine wpAny_bind ?_;unfold noteAttr;refine wpAny_bind ?_;unfold lacksNameAndObj;have e1:(#[Value.ref s.heap.objs.size,.none,.none,.none,.bool false,.none]++ownMembersOf (.type "AttributeError") [v]:Array Value)= #[Value.ref s.heap.objs.size,.none,.none,.none,.bool false,.none,unsetMember,unsetMember]:=rfl;rw[e1];generalize hs:s.heap.push { cls:=Value.type "tuple",data:=Data.seq #[v] }=h1;have ho:(h1.push { cls:= .type "AttributeError",data:= .fields #[Value.ref s.heap.objs.size,.none,.none,.none,.bool false,.none,unsetMember,unsetMember] }).get? h1.objs.size=some { cls:= .type "AttributeError",data:= .fields #[Value.ref s.heap.objs.size,.none,.none,.none,.bool false,.none,unsetMember,unsetMember] }:=Heap.get?_push_size _ rfl;refine wpAny_bind (wpAny_isInstance (b:=true) (T:= "AttributeError") ⟨_,ho,rfl⟩ KD ?_);refine wpAny_bind (wpAny_load ho ?_);refine wpAny_pure ?_;refine wpAny_bind (wpAny_rule ?_);refine wpAny_bind (wpAny_typeOf (T:= "AttributeError") ⟨_,ho,rfl⟩ ?_);unfold layMembers;refine wpAny_bind (wpAny_load ho ?_);refine wpAny_update ho ?_;simp only[raiseNew];refine wpAny_bind (wpAny_handled ?_);rw[hh];refine wpAny_bind (wpAny_pure (wpAny_throw ?_));refine k h1.objs.size _ _ _ (Heap.get?_update_self _ ho (Obj.isFreed_of_fields (Obj.data_mapFields rfl _))) (Obj.cls_mapFields ..) fun b o e=> ?_;have hb:b≠h1.objs.size:=fun z=>by
  have h2:h1.objs.size=s.heap.objs.size+1:=by rw[←hs];simp[Heap.push]
  have h3:=Heap.lt_size e;rw[z,h2]at h3;exact absurd h3 (Nat.not_lt.mpr (Nat.le_succ _))
 exact(Heap.get?_update_other _ _ (Ne.symm hb)).trans (Heap.get?_push_of_some _ (by rw[←hs];exact Heap.get?_push_of_some _ e))
theorem PD {a:Addr}{its:Array Value}{n:Nat}{tk:Tok}{Q:Fin->Shared->Prop} (hh:A.handled=none) (hx:s.heap.get? a=some { cls:= .type "list",data:= .seq its n })
  (k:∀e h' tk' o,h'.get? e=some o->o.cls= .type "AttributeError" ->(∀b o,s.heap.get? b=some o->h'.get? b=some o)->E (.ref e) { s with heap:=h',toks:=tk' }) :
  wpAny (model prog w) A (Builtin.«object.__getattribute__» ⟨[.ref a,.str "keys" tk],[]⟩) Q E s:=by
 obtain⟨h,g,d,t,os⟩:=s;have hT:(⟨h,g,d,t,os⟩:Shared).TypeIs (.ref a) "list" :=⟨_,hx,rfl⟩
 have f4:=ZP
 repeat (any_goals (first|assumption|wp_step))
 refine wpAny_bind (wpAny_mkStr ?_ (by rw[sizeLine_eq];decide +kernel));exact VN hh fun e h' tk' o e1 e2 e3=>k e h' tk' o e1 e2 e3
theorem QS {a:Addr}{its:Array Value}{n:Nat}{tk:Tok}{R:Result->Shared->Prop} (hh:A.handled=none) (hx:s.heap.get? a=some { cls:= .type "list",data:= .seq its n })
  (k:∀e h' tk' o,h'.get? e=some o->o.cls= .type "AttributeError" ->(∀b o,s.heap.get? b=some o->h'.get? b=some o)->R (.error (.ref e)) { s with heap:=h',toks:=tk' }) :
  codeAny (model prog w) A (.call (.builtin "list.__getattribute__") ⟨[.ref a,.str "keys" tk],[]⟩) R s:=by
 obtain⟨h,g,d,t,os⟩:=s;exact codeAny_call_builtin F.slot_list_getattribute.plain F.entry_list_ga (F.slot_list_getattribute.check _ _ _ _ _ _ _ _ (show (⟨h,g,d,t,os⟩:Shared).TypeIs (.ref a) "list" from⟨_,hx,rfl⟩) (F.args_list_getattribute_2 _ _) (PD hh hx k))
theorem YT {a:Addr}{its:Array Value}{n:Nat}{Q:Option Value->Shared->Prop} (hh:A.handled=none) (hx:s.heap.get? a=some { cls:= .type "list",data:= .seq its n })
  (k:∀h' tk',(∀b o,s.heap.get? b=some o->h'.get? b=some o)->Q none { s with heap:=h',toks:=tk' }):wpAny (model prog w) A (getAttr? (.ref a) "keys") Q E s:=by
 obtain⟨h,g,d,t,os⟩:=s;have hT:(⟨h,g,d,t,os⟩:Shared).TypeIs (.ref a) "list" :=⟨_,hx,rfl⟩
 have f2:=F.slot_list_getattribute.lookup;have f3:=F.slot_list_getattribute.bind (.ref a);unfold getAttr? getAttrBy?
 repeat (any_goals (first|assumption|wp_step))
 refine QS hh hx fun e h' tk' o e1 e2 e3=> ?_;have hE:(⟨h',g,d,tk',os⟩:Shared).TypeIs (.ref e) "AttributeError" :=⟨_,e1,e2⟩
 show wpAny (model prog w) A (getattributeRaised (Value.ref a) (Value.str (Str.ofString "keys") t) (.type "list") (.ref e) none false false) _ _ (⟨h',g,d,tk',os⟩:Shared);unfold getattributeRaised;refine wpAny_bind (wpAny_isInstance (b:=true) hE KD ?_);show wpAny (model prog w) A (typeLookup (.type "list") "__getattr__" >>= fun x=>hookOrError (Value.ref a) (Value.str (Str.ofString "keys") t) (.ref e) false false x) _ _ (⟨h',g,d,tk',os⟩:Shared);rw[aAE];refine wpAny_bind (wpAny_pure ?_);refine wpAny_throw ?_;refine wpAny_bind (wpAny_isInstance (b:=true) hE KD ?_);exact wpAny_pure (k h' tk' e3)
end
theorem uE:entryFor table "dict.update.loop" =some Builtin.«dict.update.loop»:=entryFor_of_tree (by kernel_rfl)
theorem iM:plainId "dict.update.loop" =true:=by decide +kernel
def QT {κ:Type}[DecidableEq κ](kvs ps:List (κ×Value)):List (κ×Value):=ps.foldl (fun acc p=>stored acc p.1 p.2) kvs
theorem OJ {κ:Type}[DecidableEq κ](kvs:List (κ×Value))(k:κ)(v:Value):(stored kvs k v).length<=kvs.length+1:=by
 unfold stored
 split
 ·rw[List.length_map];exact Nat.le_succ _
 ·rw[List.length_append];exact Nat.le_refl _
section
variable {prog:Program}{w:World}{A:Around}{E:Value->Shared->Prop}{κ:Type} [DecidableEq κ] {knd:KeyKind prog w κ}{I d:Addr}{fp wr:List Addr}{n:Nat}{P:Nat->Value->Prop}{St:Nat->Heap->Prop}{R:Result->Shared->Prop}
def aDY (knd:KeyKind prog w κ)(d:Addr)(wr:List Addr)(P:Nat->Value->Prop)(ps:List (κ×Value))(h:Heap):Prop :=
 ∀i v,P i v->∃(q:Addr) (o:Obj) (key:Value) (k:κ) (u:Value) (c:Nat),v= .ref q/\q∉wr/\q≠d/\h.get? q=some o/\o.cls= .type "tuple" /\o.data= .seq #[key,u] c/\knd.is k key=true/\ps[i]? =some (k,u)
theorem WH (W:Walks prog w A.in1 I fp wr n P St)(hdf:d∉fp)(ps:List (κ×Value))(hn:ps.length=n)(hsz:n<=sizeLine) :
  ∀(k i:Nat) (s:Shared) (kvs:List (κ×Value)),n - i=k->i<=n->St i s.heap->kvs.length<=i->s.heap.DictOf knd d kvs->aDY knd d wr P ps s.heap →
  (∀h' tk,h'.DictOf knd d (QT kvs (ps.drop i))->(∀b o,b∉wr->b≠d->s.heap.get? b=some o->h'.get? b=some o)->R (.ok (.ret .none)) { s with heap:=h',toks:=tk }) →
  codeAny (model prog w) A (.builtin "dict.update.loop" ⟨[.ref d,.ref I,rawInt i,.none],[]⟩) R s:=by
 have hdw:d∉wr:=fun h=>hdf (W.sub _ h);intro k
 induction k with
 | zero =>
  intro i s kvs hk hi hst hl hd hrow hR;have hin:i=n:=by lia
  subst hin;refine codeAny_builtin uE ?_;rw[Around.under_plainId iM _];show wpAny _ A.in1 (pyNext (.ref I) >>= _) _ _ s;refine wpAny_bind (W.done s _ _ hst fun h' tk hk'=> ?_);show wpAny _ _ (Builtin.Dict.addKeywords d [] >>= _) _ _ _;refine wpAny_bind (wpAny_pure (wpAny_pure (hR h' tk ?_ fun b o hb _ e=>hk' b o hb e)));rw[List.drop_of_length_le (by lia)];exact hd.at fun o e=>hk' d o hdw e
 | succ k ih =>
  intro i s kvs hk hi hst hl hd hrow hR;have hlt:i<n:=by lia
  refine codeAny_builtin uE ?_;rw[Around.under_plainId iM _];show wpAny _ A.in1 (pyNext (.ref I) >>= _) _ _ s;refine wpAny_bind (W.item i s _ _ hlt hst fun v h' tk hP hst' hk'=> ?_);obtain⟨q,o,key,kk,u,c,rfl,hqw,hqd,ho,hc,hdt,his,hps⟩:=hrow i v hP;have ho':=hk' q o hqw ho;refine wpAny_bind (wpAny_holding (wpAny_bind (wpAny_tryCatch ?_)));unfold Builtin.Dict.pairItems;refine wpAny_bind (wpAny_typeOf (T:= "tuple") ⟨o,ho',hc⟩ ?_);rw[if_pos (by rfl)];refine wpAny_bind (wpAny_seqItems ho' hdt (wpAny_pure ?_));have hd':h'.DictOf knd d kvs:=hd.at fun o e=>hk' d o hdw e;refine wpAny_holding (wpAny_dictSet_pairs his hd' (fun h2 hd2 sb=> ?_) (by lia));have keep:∀b o,b∉wr->b≠d->s.heap.get? b=some o->h2.get? b=some o:=fun b o hb hbd e=>(sb.2 b hbd).trans (hk' b o hb e);refine wpAny_pure ⟨plainId_quiet iM _,ih (i+1) _ (stored kvs kk u) (by lia) hlt (W.frame _ _ _ hst' fun b hb o e=>(sb.2 b (fun z=>hdf (z▸hb))).trans e) (Nat.le_trans (OJ ..) (by lia)) hd2 (fun j v hj=> ?_) fun h3 tk3 hd3 hk3=> ?_⟩
  ·obtain⟨q,o,key,kk,u,c,e1,e2,e3,e4,e5⟩:=hrow j v hj;exact⟨q,o,key,kk,u,c,e1,e2,e3,keep q o e2 e3 e4,e5⟩
  ·refine hR h3 tk3 ?_ fun b o hb hbd e=>hk3 b o hb hbd (keep b o hb hbd e);have ed:ps.drop i=(kk,u)::ps.drop (i+1):=by
    have hi2:i<ps.length:=by lia
    rw[List.drop_eq_getElem_cons hi2];have:=(List.getElem?_eq_some_iff.mp hps).2;rw[this]
   rw[ed];exact hd3
end
section
variable {prog:Program}{w:World}{A:Around}{E:Value->Shared->Prop}{κ:Type} [DecidableEq κ] {knd:KeyKind prog w κ}{s:Shared}{l:Addr}{its:Array Value}{c:Nat}
theorem SM {ps:List (κ×Value)}{Q:Value->Shared->Prop} (hh:A.handled=none) (hl:s.heap.get? l=some { cls:= .type "list",data:= .seq its c }) (hsz:its.size<=sizeLine) (hlen:ps.length=its.size)
  (hrow:∀(i:Nat) (v:Value),its[i]? =some v->∃(q:Addr) (o:Obj) (key:Value) (k:κ) (u:Value) (c:Nat),v= .ref q/\s.heap.get? q=some o/\o.cls= .type "tuple" /\o.data= .seq #[key,u] c/\knd.is k key=true/\ps[i]? =some (k,u))
  (h:∀h' tk,h'.DictOf knd s.heap.objs.size (QT [] ps)->(∀b o,s.heap.get? b=some o->h'.get? b=some o)->Q (.ref s.heap.objs.size) { s with heap:=h',toks:=tk }) :
  wpAny (model prog w) A (call (.type "dict") [.ref l]) Q E s:=by
 refine callType_codes (Q₁:=fun obj s₁=>obj= .ref s.heap.objs.size/\s₁={ s with heap:=s.heap.push { cls:= .type "dict",data:= .dict #[] } }) F.kt_called_dict (F.kt_typeCall_dict_1 _) F.entry_dict_init (kt_code_dict_new _ ⟨rfl,rfl⟩) ?_;rintro obj s₁ ⟨rfl,rfl⟩;have hnew:(s.heap.push { cls:= .type "dict",data:= .dict #[] }).DictOf knd s.heap.objs.size []:=Heap.DictOf.new s.heap;have hl':(s.heap.push { cls:= .type "dict",data:= .dict #[] }).get? l=some { cls:= .type "list",data:= .seq its c }:=Heap.get?_push_of_some _ hl;refine⟨hnew.typeIs,F.args_dict_init_2 _ _,?_⟩;unfold Builtin.«dict.__init__»;refine wpAny_bind ?_;unfold Builtin.Dict.selfAndRest;refine wpAny_bind (wpAny_notOrdered_dict hnew.typeIs ?_);show wpAny _ _ (pure (s.heap.objs.size,[Value.ref l])) _ _ _;refine wpAny_pure ?_;show wpAny _ _ (Builtin.Dict.updateFrom "dict.__init__" s.heap.objs.size (.ref l) [] .none) _ _ _;unfold Builtin.Dict.updateFrom;refine wpAny_bind (wpAny_typeOf (T:= "list") ⟨_,hl',rfl⟩ ?_);rw[if_pos (by decide)];refine wpAny_bind (YT hh hl' fun h1 t1 kp1=> ?_);rw[if_pos (show (none:Option Value).isNone=true from rfl)];refine wpAny_bind (wpAny_rule ?_);have hl1:=kp1 _ _ hl';have isl:h1.IsList l its:=⟨_,hl1,rfl,_,rfl⟩
 have lt1:∀b o,s.heap.get? b=some o->b≠h1.objs.size:=fun b o e z=>by
  have:=Heap.lt_size (kp1 b o (Heap.get?_push_of_some _ e));rw[z]at this;exact Nat.lt_irrefl _ this
 have hdI:s.heap.objs.size≠h1.objs.size:=fun z=>by
  have:=Heap.lt_size (kp1 _ _ (Heap.get?_push_size s.heap (o:={ cls:= .type "dict",data:= .dict #[] }) rfl));rw[z]at this;exact Nat.lt_irrefl _ this
 have hdl:∀b o,s.heap.get? b=some o->b≠s.heap.objs.size:=fun b o e z=>by
  have:=Heap.lt_size e;rw[z]at this;exact Nat.lt_irrefl _ this
 refine wpAny_bind (wpAny_pyIter_list isl ?_);refine wpAny_pure ⟨plainId_quiet iM _,?_⟩;have W:=Walks.list (prog:=prog) (w:=w) (A:=A.in1.in1) hh h1.objs.size l (lt1 _ _ hl) its;refine WH (knd:=knd) W (by simp only[List.mem_cons,List.not_mem_nil,or_false,not_or];exact⟨hdI,Ne.symm (hdl _ _ hl)⟩) ps hlen hsz its.size 0 _ [] (Nat.sub_zero _) (Nat.zero_le _) ⟨⟨_,Heap.get?_push_size _ rfl,rfl,rfl⟩,isl.push _⟩ (Nat.le_refl _) ((hnew.at fun o e=>kp1 _ o e).push _) (fun i v hi=> ?_) fun h' tk hd hk=> ?_
 ·obtain⟨q,o,key,k,u,c',e1,e2,e3,e4,e5,e6⟩:=hrow i v hi;refine⟨q,o,key,k,u,c',e1,?_,hdl _ _ e2,Heap.get?_push_of_some _ (kp1 _ _ (Heap.get?_push_of_some _ e2)),e3,e4,e5,e6⟩;simp only[List.mem_cons,List.not_mem_nil,or_false];exact lt1 _ _ e2
 ·refine⟨rfl,h h' tk hd fun b o e=>hk b o ?_ (hdl _ _ e) (Heap.get?_push_of_some _ (kp1 _ _ (Heap.get?_push_of_some _ e)))⟩;simp only[List.mem_cons,List.not_mem_nil,or_false];exact lt1 _ _ e
end
abbrev HS (H:Hp):List V->List (Key×V)->Prop:=Paired fun v p=>∃q,v= .ref q/\H q=some (.tup [kV p.1,p.2])
section
variable {X:Cx}{pins:List (Addr×Obj)}{σ:St}{H:Hp}{s:Shared}
theorem V3 (I:Inv X pins σ H s){q:Addr}{k:Key}{x:V} (e:H q=some (.tup [kV k,x])):∃(o:Obj) (key u:Value) (n:Nat),s.heap.get? q=some o/\o.cls= .type "tuple" /\o.data= .seq #[key,u] n/\(bY X.prog X.w).is k key=true/\RelV x u:=by
 obtain⟨_,us,r,o,h1,h2,n,h3⟩:=(show ObjOk X.prog X.w H s.heap q (.tup [kV k,x]) from I.hok q _ e)
 cases r with
 | @cons _ key _ _ r1 r =>
  cases r with
  | @cons _ u _ _ r2 r =>
   cases r;exact⟨o,key,u,n,h1,h2,h3,sP r1,r2⟩
theorem DS (I:Inv X pins σ H s):∀{vs:List V}{ps:List (Key×V)}{us:List Value},HS H vs ps->Vals vs us →
  ∃rs:List (Key×Value),KV ps rs/\rs.length=us.length/\∀(i:Nat) (v:Value),us[i]? =some v->∃(q:Addr) (o:Obj) (key:Value) (k:Key) (u:Value) (c:Nat),v= .ref q/\s.heap.get? q=some o/\o.cls= .type "tuple" /\o.data= .seq #[key,u] c/\(bY X.prog X.w).is k key=true/\rs[i]? =some (k,u)
 | _,_,_,.nil,.nil=>⟨[],.nil,rfl,fun i v z=>by simp at z⟩
 | _::_,(k,x)::_,_::us,.cons ⟨q,e,hq⟩ t,.cons r rt=>by
  obtain⟨rs,h1,h2,h3⟩:=DS I t rt;obtain⟨o,key,u,n,o1,o2,o3,o4,o5⟩:=V3 I hq;subst e;cases r;refine⟨(k,u)::rs,.cons ⟨rfl,o5⟩ h1,by simp[h2],fun i v z=> ?_⟩;cases i with
  | zero=>cases z;exact⟨q,o,key,k,u,n,rfl,o1,o2,o3,o4,rfl⟩
  | succ i =>
   obtain⟨q,o,key,k,u,c,w1⟩:=h3 i v (by simpa using z);exact⟨q,o,key,k,u,c,by simpa using w1⟩
def TH:List V->Hp->VK->Prop:=fun xs H Q=>∃p vs ps,xs=[.ref p]/\Rd H p (.lst vs)/\HS H vs ps/\∀l,H l=none->Q (.ref l) (upd H l (.dK (k6 [] ps)))
theorem PN (hc:X.calm=true):dS X (.type "dict") TH:=by
 intro pins s σ H xs us Q I r h;obtain⟨p,vs,ps,rfl,hq,pr,q⟩:=h;obtain⟨u,rfl,rx⟩:=nG r;cases rx;obtain⟨z,its,n,rv,e⟩:=(show ObjOk X.prog X.w H s.heap p (.lst vs) from hq.ok I.hok)
 obtain⟨rs,h1,h2,h3⟩:=DS I pr rv;have hl:=rv.length;have hlp:=h1.length;refine SM (knd:=bY X.prog X.w) (ps:=rs) (I.ok.hd hc) e (by rw[List.size_toArray];lia) (by rw[List.size_toArray];exact h2) (fun i v hv=>h3 i v (by simpa using hv)) fun h' tk hd kp=> ?_;have lm:(k6 [] ps).length<=sizeLine:=Nat.le_trans (w6 ps []) (by simp;lia);have nm:(s.heap.objs.size==sysModules)=false:=by
  have:=I.big;simp only[beq_eq_false_iff_ne];exact fun z=>by rw[z]at this;exact Nat.lt_irrefl _ this
 exact⟨.ref _,_,I.laid (t':=tk) kp (Nat.le_refl _) (xC lm nm (KV.merge h1 .nil) hd),rfl,q _ (I.hok.fresh (Nat.le_refl _))⟩
end
section
variable {prog:Program}{w:World}{A:Around}{E:Value->Shared->Prop}{s:Shared}{d it:Addr}{o:Obj}{es:Array DictEntry}{ep i:Nat}{k0 v0:Value}
theorem T3 {Q:Option Value->Shared->Prop}{e:DictEntry} (st:IsItemIter s.heap it d i es.size ep k0 v0) (ho:s.heap.get? d=some o) (hq:o.data= .dict es ep) (hx:es[i]? =some e)
  (k:∀h',IsItemIterOut h' it d (i+1) es.size ep e.key e.val s.heap.objs.size->h'.get? s.heap.objs.size=some { cls:= .type "tuple",data:= .seq #[e.key,e.val] } →
   (∀b u,b≠it->s.heap.get? b=some u->h'.get? b=some u)->Q (some (.ref s.heap.objs.size)) { s with heap:=h' }):wpAny (model prog w) A (pyNext (.ref it)) Q E s:=by
 obtain⟨hp,g,dr,tk,os⟩:=s;have T:Shared.TypeIs ⟨hp,g,dr,tk,os⟩ (.ref it) "dict_itemiterator" :=⟨_,st,rfl⟩
 unfold pyNext;refine wpAny_bind (wpAny_attempt (wpAny_callSpecial?_slot (name:=Str.ofString "__next__") T F.slot_dict_itemiterator_next (wpAny_call_entry F.slot_dict_itemiterator_next T F.entry_dict_itemiterator_next ?_ (F.args_dict_itemiterator_next_1 _))));refine wpAny_bind (wpAny_pure (wpAny_bind (wpAny_bind ?_)))
 first|refine wpAny_bind (wpAny_typeNameOfWhole_itemiter T (wpAny_pure (wpAny_bind (wpAny_fieldsOf st rfl ?_))))|refine wpAny_bind (wpAny_typeNameOf_itemiter T (wpAny_pure (wpAny_bind (wpAny_fieldsOf st rfl ?_))))
 simp only[show Builtin.Dict_items.ownsTuple "dict_itemiterator" =true by decide,if_true];show wpAny _ A.in1 (if (Value.ref d==Value.none)=true then _ else _) _ _ (⟨hp,g,dr,tk,os⟩:Shared);rw[if_neg (show ¬(Value.ref d==Value.none)=true from Bool.false_ne_true)];refine wpAny_bind (wpAny_pure (wpAny_bind (wpAny_dictEntries ho hq ?_)));rw[if_neg (by simp)];refine wpAny_bind (wpAny_pure (wpAny_bind (wpAny_dictEpoch ho hq ?_)));rw[if_neg (by simp)];refine wpAny_pure ?_;simp only[show ¬((i:Int)<0) from by lia,if_false,Int.toNat_natCast,hx];refine wpAny_bind ?_
 first|refine wpAny_bind (wpAny_typeNameOfWhole_itemiter T (wpAny_pure (wpAny_bind (wpAny_isOneOf_itemiter T ?_))))|refine wpAny_bind (wpAny_typeNameOf_itemiter T (wpAny_pure (wpAny_bind (wpAny_isOneOf_itemiter T ?_))))
 show wpAny _ A.in1 (setField (.ref it) 3 (rawInt ((i:Int)+1)) >>= _) _ _ (⟨hp,g,dr,tk,os⟩:Shared);refine wpAny_bind (wpAny_setField_rec st (by simp) fun h1 e1 s1=> ?_)
 replace s1:Heap.SameBut it hp h1:=s1
 replace e1:IsItemIter h1 it d (i+1) es.size ep k0 v0:=by
  unfold IsItemIter;rw[show ((i+1:Nat):Int)=(i:Int)+1 by lia];simpa [rawInt] using e1
 have T1:Shared.TypeIs ⟨h1,g,dr,tk,os⟩ (.ref it) "dict_itemiterator" :=⟨_,e1,rfl⟩
 refine wpAny_bind (wpAny_holding (wpAny_bind (wpAny_isOneOf_itemiter T1 (wpAny_bind (wpAny_isOneOf_itemiter T1 ?_)))));show wpAny _ A.in1 (Builtin.Dict_items.pairFromOwner (.ref it) 6 e.key e.val) _ _ (⟨h1,g,dr,tk,os⟩:Shared);unfold Builtin.Dict_items.pairFromOwner;refine wpAny_bind (wpAny_newTuple ?_);have e2:IsItemIter (h1.push { cls:= .type "tuple",data:= .seq #[e.key,e.val] }) it d (i+1) es.size ep k0 v0:=Heap.get?_push_of_some _ e1;generalize q2:h1.push { cls:= .type "tuple",data:= .seq #[e.key,e.val] }=h2 at e2;have z1:h1.objs.size=hp.objs.size:=s1.1;have il:it<hp.objs.size:=Heap.lt_size st;have t2:h2.get? hp.objs.size=some { cls:= .type "tuple",data:= .seq #[e.key,e.val] }:=by rw[←q2,←z1];exact Heap.get?_push_size _ rfl
 have k2:∀b u,b≠it->hp.get? b=some u->h2.get? b=some u:=fun b u hb z=>by rw[←q2];exact Heap.get?_push_of_some _ (s1.extBut b u hb z)
 show wpAny _ A.in1 (Builtin.Dict_items.ownedTupleIsFree (.ref it) >>= _) _ _ (⟨h2,g,dr,tk,os⟩:Shared);rw[z1];clear q2 e1 s1 T1 z1 h1;refine wpAny_bind ?_;unfold Builtin.Dict_items.ownedTupleIsFree;refine wpAny_bind (wpAny_field e2 rfl (x:= .none) rfl (wpAny_pure ?_));simp only[if_true];refine wpAny_bind (wpAny_field e2 rfl (x:=k0) rfl (wpAny_bind (wpAny_field e2 rfl (x:=v0) rfl ?_)));refine wpAny_bind (wpAny_setField_rec e2 (by simp) fun h3 e3 s3=> ?_)
 replace s3:Heap.SameBut it h2 h3:=s3
 replace e3:IsItemIter h3 it d (i+1) es.size ep e.key v0:=e3
 refine wpAny_bind (wpAny_setField_rec e3 (by simp) fun h4 e4 s4=> ?_)
 replace s4:Heap.SameBut it h3 h4:=s4
 replace e4:IsItemIter h4 it d (i+1) es.size ep e.key e.val:=e4
 refine wpAny_bind (wpAny_setField_rec e4 (by simp) fun h5 e5 s5=> ?_)
 replace s5:Heap.SameBut it h4 h5:=s5
 replace e5:IsItemIterOut h5 it d (i+1) es.size ep e.key e.val hp.objs.size:=e5
 refine wpAny_bind (wpAny_setField_rec e5 (by simp) fun h6 e6 s6=> ?_)
 replace s6:Heap.SameBut it h5 h6:=s6
 replace e6:IsItemIterOut h6 it d (i+1) es.size ep e.key e.val hp.objs.size:=e6
 have kk:∀b u,b≠it->h2.get? b=some u->h6.get? b=some u:=fun b u hb z=>s6.extBut b u hb (s5.extBut b u hb (s4.extBut b u hb (s3.extBut b u hb z)));exact wpAny_bind (wpAny_letGo (wpAny_pure (wpAny_pure ⟨_,rfl,wpAny_pure (k h6 e6 (kk _ _ (Nat.ne_of_gt il) t2) fun b u hb z=>kk b u hb (k2 b u hb z))⟩)))
theorem WB {Q:Option Value->Shared->Prop}(hh:A.handled=none)(st:IsItemIter s.heap it d i es.size ep k0 v0)(ho:s.heap.get? d=some o)(hq:o.data= .dict es ep)(hx:es.size<=i)
  (k:∀h',Heap.ExtBut it s.heap h'->Q none { s with heap:=h' }):wpAny (model prog w) A (pyNext (.ref it)) Q E s:=by
 have T:s.TypeIs (.ref it) "dict_itemiterator" :=⟨_,st,rfl⟩
 unfold pyNext;refine wpAny_bind (wpAny_attempt (wpAny_callSpecial?_slot (name:=Str.ofString "__next__") T F.slot_dict_itemiterator_next (wpAny_call_entry F.slot_dict_itemiterator_next T F.entry_dict_itemiterator_next ?_ (F.args_dict_itemiterator_next_1 _))));refine wpAny_bind (wpAny_pure (wpAny_bind (wpAny_bind ?_)))
 first|refine wpAny_bind (wpAny_typeNameOfWhole_itemiter T (wpAny_pure (wpAny_bind (wpAny_fieldsOf st rfl ?_))))|refine wpAny_bind (wpAny_typeNameOf_itemiter T (wpAny_pure (wpAny_bind (wpAny_fieldsOf st rfl ?_))))
 simp only[show Builtin.Dict_items.ownsTuple "dict_itemiterator" =true by decide,if_true];show wpAny _ A.in1 (if (Value.ref d==Value.none)=true then _ else _) _ _ s;rw[if_neg (show ¬(Value.ref d==Value.none)=true from Bool.false_ne_true)];refine wpAny_bind (wpAny_pure (wpAny_bind (wpAny_dictEntries ho hq ?_)));rw[if_neg (by simp)];refine wpAny_bind (wpAny_pure (wpAny_bind (wpAny_dictEpoch ho hq ?_)));rw[if_neg (by simp)];refine wpAny_pure ?_;simp only[show ¬((i:Int)<0) from by lia,if_false,Int.toNat_natCast,Array.getElem?_eq_none hx];refine wpAny_bind ?_
 first|refine wpAny_bind (wpAny_typeNameOfWhole_itemiter T (wpAny_pure ?_))|refine wpAny_bind (wpAny_typeNameOf_itemiter T (wpAny_pure ?_))
 show wpAny _ A.in1 (setField (.ref it) 2 .none >>= _) _ _ s;refine wpAny_bind (wpAny_setField st rfl (by simp) ?_);show wpAny _ A.in1 (newExc (.type "StopIteration") [] >>= _) _ _ _;refine wpAny_bind ?_;simp only[newExc,newTuple];refine wpAny_bind (wpAny_newObj_type (wpAny_bind (m:=firstArgMember _ _) (wpAny_of_eq (a:=Value.none) (by first|rfl|(simp only[firstArgMember];rfl)) (wpAny_newObj_type ?_ (by size_fits)))) (by size_fits));simp only[raiseNew];refine wpAny_bind (wpAny_handled ?_);rw[show A.in1.handled=none from hh];refine wpAny_bind (wpAny_pure (wpAny_throw ?_));refine wpAny_bind (wpAny_isInstance (b:=true) (T:= "StopIteration") ⟨_,Heap.get?_push_size _ rfl,rfl⟩ isSubtype_stop ?_);exact wpAny_pure (k _ (((Heap.SameBut.update ..).extBut.push _).push _))
end
section
variable {prog:Program}{w:World}{A:Around}{E:Value->Shared->Prop}{s:Shared}{d it:Addr}{o:Obj}{es:Array DictEntry}{ep i:Nat}
theorem QF {Q:Value->Shared->Prop}(hd:(d==sysModules)=false)(T:s.TypeIs (.ref d) "dict")
  (k:Q (.ref s.heap.objs.size) { s with heap:=s.heap.push { cls:= .type "dict_items",data:= .fields #[.ref d] } }):wpAny (model prog w) A (call (.builtin "dict.items") [.ref d]) Q E s:=by
 refine wpAny_call_entry F.slot_dict_items T F.entry_dict_items ?_ (F.args_dict_items_1 _);unfold Builtin.«dict.items» Builtin.Dict.noArgs;refine wpAny_bind (wpAny_bind (wpAny_notOrdered_dict T (wpAny_pure ?_)));show wpAny _ A.in1 (Builtin.Dict.showsAll d >>= _) _ _ s;unfold Builtin.Dict.showsAll;rw[if_neg (fun z=>by rw[hd]at z;cases z)];exact wpAny_bind (wpAny_pure (wpAny_bind (wpAny_newObj_type (wpAny_pure ⟨_,rfl,k⟩))))
theorem SS {v:Addr}{Q:Value->Shared->Prop} (hv:s.heap.IsItemsView v d) (ho:s.heap.get? d=some o) (hq:o.data= .dict es ep)
  (k:Q (.ref s.heap.objs.size) { s with heap:=s.heap.push { cls:= .type "dict_itemiterator",data:= .fields #[.none,.bool false,.ref d,.int 0 0,.int es.size 0,.int ep 0,.none,.none] } }):wpAny (model prog w) A (pyIter (.ref v)) Q E s:=by
 obtain⟨ov,hov,hcv,hdv⟩:=id hv;refine wpAny_pyIter_slot hv.typeIs F.slot_dict_items_iter (wpAny_call_entry F.slot_dict_items_iter hv.typeIs F.entry_dict_items_iter ?_ (F.args_dict_items_iter_1 _));unfold Builtin.«dict_items.__iter__» Builtin.Dict_items.dictOf Builtin.Dict_items.newIterator;refine wpAny_bind (wpAny_pure (wpAny_bind (wpAny_bind (wpAny_field hov hdv (x:= .ref d) rfl (wpAny_pure (wpAny_bind (wpAny_bind (wpAny_dictEntries ho hq (wpAny_bind (wpAny_dictEpoch ho hq ?_))))))))));simp only[show Builtin.Dict_items.ownsTuple "dict_itemiterator" =true by decide,if_true];refine wpAny_newObj_type (wpAny_pure ⟨_,rfl,"dict_itemiterator",_,⟨_,Heap.get?_push_size _ rfl,rfl⟩,F.slot_dict_itemiterator_next.lookup,?_⟩) (by simp only[sizeOk,Builtin.Dict_items.ownedTupleFields,List.size_toArray,List.length_append,List.length_cons,List.length_nil,sizeLine_eq];lia)
 simpa [rawInt,Builtin.Dict_items.ownedTupleFields] using k
end
def Itj (a:Addr)(o:Obj)(kvs:List (List Key×V)):It :=
 ⟨fun i H=>H a=some (.frz o (.dT kvs))/\i<kvs.length,fun i H x H'=>∃k v p q,kvs[i]? =some (k,v)/\x= .ref q/\H p=some (.tup (k.map kV))/\H q=none/\H'=upd H q (.tup [.ref p,v]),fun i H=>H a=some (.frz o (.dT kvs))/\kvs.length<=i⟩
theorem KT.get2 {H:Hp}:∀{kvs:List (List Key×V)}{xs:List (List Key×Addr×Value)}{i:Nat},KT H kvs xs->i<kvs.length->∃k v b u,kvs[i]? =some (k,v)/\xs[i]? =some (k,b,u)/\H b=some (.tup (k.map kV))/\RelV v u
 | _,_,0,.cons h _,_=>⟨_,_,_,_,rfl,by rw[h.1];rfl,h.2.1,h.2.2⟩
 | _,_,i+1,.cons _ t,hi=>by
  obtain⟨k,v,b,u,e1,e2,e3⟩:=KT.get2 (i:=i) t (by simpa using hi);exact⟨k,v,b,u,by simpa using e1,by simpa using e2,e3⟩
 | _,_,_,.nil,hi=>by simp at hi
theorem LV {P:Program}{w:World}{K:W.Frag}{elts:List Expr}{x1:Nat}{tpos:Pos} (a it:Addr) {o:Obj}{es:Array DictEntry}{ep:Nat} (kvs:List (List Key×V)) (hd:o.data= .dict es ep) (hz:es.size=kvs.length) :
  A3 P w K (.Tuple elts x1 tpos) (Itj a o kvs) [it] it (fun i h=>∃ok ov,IsItemIter h it a i es.size ep ok ov) where
 mem:=by simp
 obj:=fun i h st b hb=>by
  have e:b=it:=by simpa using hb
  subst e;obtain⟨ok,ov,e⟩:=st;exact⟨_,e,fun v z=>by cases z⟩
 keep:=fun i h h' st k=>let ⟨ok,ov,e⟩:=st;⟨ok,ov,k it (by simp) _ e⟩
 item:=by
  intro X hP hw hK hc i pins s σ H E I hf st hg;subst hP hw hK;obtain⟨ha,hi⟩:=hg;obtain⟨ok,ov,st⟩:=st;obtain⟨ho,z,y,xs,r,o',es',ep',h1,h2,h3,h4,h5⟩:=(show ObjOk X.prog X.w H s.heap a (.frz o (.dT kvs)) from I.hok a _ ha)
  rw[ho]at h1;cases h1;rw[hd]at h3;cases h3;obtain⟨k,v,b,u,e1,e2,e3,e5⟩:=KT.get2 r hi;have e4:=entry_at h4 i;rw[e2]at e4;obtain⟨f0,f1,f2,f3,f4,f5⟩:=hf it (by simp);refine T3 st ho hd e4 fun h' st' ht kp=> ?_;refine⟨_,rfl,?_⟩;refine wpAny_letOwnedTupleGo_items (s:={ s with heap:=h' }) st' fun h'' st'' sb=> ?_;have hq:H s.heap.objs.size=none:=I.hok.fresh (Nat.le_refl _);have hne:s.heap.objs.size≠it:=fun z=>by
   have:=Heap.lt_size (show s.heap.get? it=some _ from st);rw[z]at this;exact Nat.lt_irrefl _ this
  have tup:Vals [.ref b,v] [.ref b,u]:= .cons rfl (.cons e5 .nil);have I1:Inv X pins σ (upd H s.heap.objs.size (.tup [.ref b,v])) { s with heap:=s.heap.push { cls:= .type "tuple",data:= .seq #[.ref b,u] } } :=
   I.laid (t':=s.toks) (fun b u e=>Heap.get?_push_of_some _ e) (Nat.le_refl _) ⟨(show 2<=sizeLine by rw[sizeLine_eq];decide),[.ref b,u],tup,⟨_,Heap.get?_push_size _ rfl,rfl,0,rfl⟩⟩
  have n0:upd H s.heap.objs.size (.tup [.ref b,v]) it=none:=by rw[aH (Ne.symm hne)];exact f0
  have I2:Inv X pins σ (upd H s.heap.objs.size (.tup [.ref b,v])) { s with heap:=h'' }:=Inv.turned (s:={ s with heap:=s.heap.push { cls:= .type "tuple",data:= .seq #[.ref b,u] } }) (h':=h'') (t':=s.toks) (it:=it) I1 (fun c o hb e=>by
   rcases Heap.get?_push_cases e with⟨rfl,rfl⟩|e
   ·exact(sb.2 _ hb).trans ht
   ·exact(sb.2 c hb).trans (kp c o hb e)) n0 f1 f3 f4 f5
  exact⟨.ref s.heap.objs.size,_,I2,rfl,⟨k,v,b,_,e1,rfl,e3,hq,rfl⟩,⟨_,_,st''⟩,fun b hb=>by
   have e:b=it:=by simpa using hb
   rw[e];exact n0⟩
 done:=by
  intro X hP hw hK hc i pins s σ H E I hf st hg;subst hP hw hK;obtain⟨ha,hi⟩:=hg;obtain⟨ok,ov,st⟩:=st;obtain⟨ho,hok⟩:=(show ObjOk X.prog X.w H s.heap a (.frz o (.dT kvs)) from I.hok a _ ha)
  obtain⟨f0,f1,f2,f3,f4,f5⟩:=hf it (by simp);exact WB (I.ok.hd hc) st ho hd (by lia) fun h' eb=>⟨rfl,I.turned (t':=s.toks) (fun b o hb e=>eb b o hb e) f0 f1 f3 f4 f5⟩
 self:=fun A i s Q E st h=>by
  obtain⟨ok,ov,st⟩:=st;have T:s.TypeIs (.ref it) "dict_itemiterator" :=⟨_,st,rfl⟩
  refine wpAny_pyIter_slot T F.slot_dict_itemiterator_iter (wpAny_call_entry F.slot_dict_itemiterator_iter T w9 ?_ (F.args_dict_itemiterator_iter_1 _));show wpAny _ _ (ret (.ref it)) _ _ s;exact wpAny_pure ⟨_,rfl,"dict_itemiterator",_,T,F.slot_dict_itemiterator_next.lookup,h⟩
def NF (td:TE):TI:=fun σ H R=>td σ H fun x H1=>∃a kvs,x= .ref a/\H1 a=some (.dT kvs)/\∀o,R (Itj a o kvs) (upd H1 a (.frz o (.dT kvs)))
section
variable {X:Cx}
theorem xK {l:Expr}{td:TE}{elts:List Expr}{x1:Nat}{tpos apos cpos:Pos} (hl:PE X l td) (hbase:attributeBase l "items" X.env (eval l X.env)=eval l X.env:=by rfl) (hline:(apos.endLine==cpos.line)=true:=by rfl) :
  PI X (.Tuple elts x1 tpos) (.Call (.Attribute l "items" apos) [] [] cpos) (NF td):=by
 intro pins s σ H R I h;refine wpAny_Call_method0_late hbase hline (thn (hl pins s σ H _ I h) fun v s1 ⟨x,H1,I1,r1,q1⟩=> ?_);obtain⟨a,kvs,rfl,hq,q⟩:=q1;cases r1;obtain⟨t1,t2,_⟩:=JG I1 (.inr ⟨kvs,.inl hq⟩);refine⟨"dict","dict.items",F.plainAttrs_dict,F.slot_dict_items,F.type_dict_items,t1,t2,Calls.callWith_builtin rfl (PySem.evalArgs_none ?_)⟩;obtain⟨z,y,xs,r,o,es,ep,h1,h2,h3,h4,h5⟩:=(show ObjOk X.prog X.w H1 s1.heap a (.dT kvs) from I1.hok a _ hq)
 have hz:es.size=kvs.length:=by rw[size_of_entries h4,KT.len r]
 refine QF y t1 ?_;have hne:∀b ys,H1 b=some (.tup ys)->upd H1 a (.frz o (.dT kvs)) b=some (.tup ys):=fun b ys e=>by
  have hb:b≠a:=fun z=>by rw[z,hq]at e;cases e
  rw[aH hb];exact e
 have new:ObjOk X.prog X.w (upd H1 a (.frz o (.dT kvs))) s1.heap a (.frz o (.dT kvs)):=⟨h1,z,y,xs,KT.keeps r hne,o,es,ep,h1,h2,h3,h4,h5⟩
 have I2:Inv X pins σ (upd H1 a (.frz o (.dT kvs))) s1:=I1.freeze trivial hq h1 new;have I3:Inv X pins σ (upd H1 a (.frz o (.dT kvs))) { s1 with heap:=s1.heap.push { cls:= .type "dict_items",data:= .fields #[.ref a] } }:=I2.kept (t':=s1.toks) fun b o e=>Heap.get?_push_of_some _ e;refine SS ⟨_,Heap.get?_push_size _ rfl,rfl,rfl⟩ (Heap.get?_push_of_some _ h1) h3 ?_;refine⟨_,[_],_,_,upd H1 a (.frz o (.dT kvs)),rfl,I3.kept (t':=s1.toks) fun b o e=>Heap.get?_push_of_some _ e,LV a _ kvs h3 hz,⟨.none,.none,Heap.get?_push_size _ rfl⟩,fun b hb=> ?_,q o⟩;obtain rfl:=List.mem_singleton.mp hb;exact I3.fpOk (Nat.le_refl _) (I3.hok.fresh (Nat.le_refl _))
end
section
variable (r:Nat->Int)
variable {r}{p:Array Nat}
end
section
variable {r:Nat->Int}{p:Array Nat}
end
section
variable {α:Type}{lt:α->α->Bool}{l:List α}{d:α}
theorem KO (c:Nat->Nat->Bool):(dE d c l).Perm l:=by
 unfold dE
 split
 ·exact List.Perm.refl _
 ·have h:=Array.perm_iff_toList_perm.mp (jI (n:=l.length) c (by lia));refine(h.map fun i=>l.getD i d).trans ?_;have e:((List.range l.length).toArray.toList.map fun i=>l.getD i d)=l:=by
   apply List.ext_getElem?
   intro i
   by_cases hi:i<l.length
   ·simp[hi,List.getD_eq_getElem?_getD]
   ·simp[hi]
  rw[e]
end
section
variable {X:Cx}
end
def kZ (rs:List (List Key)):List (List Key):=dE [] (sV rs) rs
theorem lE (rs:List (List Key)):(kZ rs).Perm rs:=KO _
theorem O4 {H:Hp}{vs:List V}{rs:List (List Key)} (k:KRows H vs rs):KRows H (OX rs vs) (kZ rs):=by
 have hl:vs.length=rs.length:=Paired.length k;unfold OX kZ dE;rw[hl]
 split
 ·exact k
 ·have hp:=jI (n:=rs.length) (sV rs) (by lia);have hm:∀i∈(iG (sV rs) (kas_sort rs.length)).toList,i<rs.length:=fun i hi=>by
   have h:=hp.mem_iff.mp (Array.mem_toList_iff.mp hi)
   simpa using h
  revert hm;generalize (iG (sV rs) (kas_sort rs.length)).toList=l;intro hm
  induction l with
  | nil=>exact .nil
  | cons i l ih =>
   refine .cons ?_ (ih fun j hj=>hm j (List.mem_cons_of_mem _ hj));have hi:=hm i (.head _);obtain⟨p,r,e1,e2,e3⟩:=k.get (i:=i) (v:=vs.getD i .non) (by rw[List.getD_eq_getElem?_getD,List.getElem?_eq_getElem (by lia)];rfl);refine⟨p,e1,?_⟩;show H p=some (.tup ((rs.getD i []).map kV));rw[List.getD_eq_getElem?_getD,e2];exact e3
section
variable {X:Cx}{pins:List (Addr×Obj)}{σ:St}{H:Hp}{s:Shared}
end
section
variable {X:Cx}
end
theorem Paired.snoc {α β:Type}{F:α->β->Prop}:∀{l:List α}{m:List β}{a:α}{b:β},Paired F l m->F a b->Paired F (l++[a]) (m++[b])
 | _,_,_,_,.nil,h=> .cons h .nil
 | _,_,_,_,.cons r t,h=> .cons r (Paired.snoc t h)
theorem Paired.at2 {α β:Type}{F:α->β->Prop}:∀{l:List α}{m:List β}{i:Nat}{a:α}{b:β},Paired F l m->l[i]? =some a->m[i]? =some b->F a b
 | _,_,0,_,_,.cons r _,h1,h2=>by cases h1;cases h2;exact r
 | _,_,i+1,_,_,.cons _ t,h1,h2=>Paired.at2 (i:=i) t (by simpa using h1) (by simpa using h2)
 | _,_,_,_,_,.nil,h1,_=>by simp at h1
theorem mU {α:Type}{J:It}{g:TG}{ti:TT}{te:TE}{σ0:St}{fin:List V->Hp->Prop}{H:Hp} (xs:List α) (c:α->Bool) (P:α->V->Hp->Prop) (hm:∀x y H1 H2,P x y H1->Same H1 H2->P x y H2) (hn:xs.length<=sizeLine)
  (hgo:∀i H1,Same H H1->i<xs.length->J.go i H1)(hst:∀H1,Same H H1->J.stop xs.length H1)
  (hb:∀i x H1,xs[i]? =some x->Same H H1->∀v H',J.yld i H1 v H'->Same H1 H'/\∃σ2:St,σ2.length=σ0.length/\(∀(j:Nat) v,σ0[j]? =some (some v)->σ2[j]? =some (some v))/\(∀R:St->Hp->Prop,R σ2 H'->g v σ0 H' R) ∧
   (∀R:Bool->Hp->Prop,(∀H2,Same H' H2->R (c x) H2)->ti σ2 H' R)/\(c x=true->∀H2,Same H' H2->∀R:VK,(∀y H3,P x y H3->Same H2 H3->R y H3)->te σ2 H2 R))
  (hf:∀ys H1,Same H H1->Paired (fun x y=>P x y H1) (xs.filter c) ys->fin ys H1):dI J g ti te σ0 fin H:=by
 refine⟨fun i m ys H1=>i+m=xs.length/\Same H H1/\Paired (fun x y=>P x y H1) ((xs.take i).filter c) ys,⟨xs.length,by lia,Same.refl _,.nil⟩,?_⟩;rintro i m ys H1 ⟨e1,s1,pr⟩;cases m with
 | zero =>
  have ei:i=xs.length:=by lia
  subst ei;rw[List.take_length]at pr;exact .inl ⟨hst H1 s1,hf ys H1 s1 pr⟩
 | succ m =>
  have hi:i<xs.length:=by lia
  refine .inr ⟨hgo i H1 s1 hi,fun v H' y=> ?_⟩;have ex:xs[i]? =some xs[i]:=List.getElem?_eq_getElem hi;have etake:xs.take (i+1)=xs.take i++[xs[i]]:=by rw[List.take_succ,ex];rfl
  have hlen:ys.length<=i:=by
   rw[←Paired.length pr];exact Nat.le_trans (List.length_filter_le _ _) (by rw[List.length_take];lia)
  obtain⟨s2,σ2,l2,c2,hg,ht,he⟩:=hb i xs[i] H1 ex s1 v H' y;refine hg _ ⟨⟨l2,c2⟩,ht _ fun H2 s3=> ?_⟩;cases hc:c xs[i] with
  | true =>
   show te σ2 H2 _;refine he hc H2 s3 _ fun y H3 py s4=>⟨by lia,m,by lia,by lia,((s1.trans s2).trans s3).trans s4,?_⟩
   rw[etake,List.filter_append,List.filter_cons_of_pos hc];exact Paired.snoc (Paired.imp' (fun a b h=>hm a b _ _ h ((s2.trans s3).trans s4)) pr) py
  | false =>
   show ∃m',_;refine⟨m,by lia,by lia,(s1.trans s2).trans s3,?_⟩;rw[etake,List.filter_append,List.filter_cons_of_neg (by rw[hc];exact Bool.false_ne_true),List.filter_nil,List.append_nil];exact Paired.imp' (fun a b h=>hm a b _ _ h (s2.trans s3)) pr
section
variable {K:W.Frag}{ti:TT}{te:TE}{σ:St}{ci:List Nat}{rest:St}{fin:List V->Hp->Prop}{H:Hp}{a:Addr}
theorem KG {n:Nat}(hr:ci.map (fun i=>(σ[i]?).join)=rest):b9 n ci σ=List.replicate n none++rest:=by unfold b9;rw[hr]
theorem EG {α:Type}{vs:List V}{xs:List α} (f1 f2:α->V) (c:α->Bool) (P:α->V->Hp->Prop) (hm:∀x y H1 H2,P x y H1->Same H1 H2->P x y H2) (hn:xs.length<=sizeLine) (hr:ci.map (fun i=>(σ[i]?).join)=rest) (hl:SqL K H a vs)
  (hv:Paired (fun v x=>∃q,v= .ref q/\H q=some (.tup [f1 x,f2 x])) vs xs)
  (ht:∀x H1,x∈xs->Same H H1->∀R:Bool->Hp->Prop,(∀H2,Same H1 H2->R (c x) H2)->ti (some (f1 x)::some (f2 x)::rest) H1 R)
  (he:∀x H1,x∈xs->c x=true->Same H H1->∀R:VK,(∀y H2,P x y H2->Same H1 H2->R y H2)->te (some (f1 x)::some (f2 x)::rest) H1 R)
  (hf:∀ys H1,Same H H1->Paired (fun x y=>P x y H1) (xs.filter c) ys->fin ys H1):dI (Itl K a) (EY K 2 (pE (bZ 0) (pE (bZ 1) JC))) ti te (b9 2 ci σ) fin H:=by
 have e0:b9 2 ci σ=none::none::rest:=KG hr;rw[e0];have hlen:vs.length=xs.length:=Paired.length hv;refine mU xs c P hm hn (fun i H1 s hi=>⟨vs,vs[i],s.seq hl,List.getElem?_eq_getElem (by lia)⟩) (fun H1 s=>⟨vs,s.seq hl,by lia⟩) (fun i x H1 hx s1 v H' y=> ?_) hf;obtain⟨rfl,e2⟩:=y;have ev:=e2 vs (s1.seq hl);obtain⟨q,rfl,hq⟩:∃q,v= .ref q/\H q=some (.tup [f1 x,f2 x]):=Paired.at2 hv ev hx;have hmem:=List.mem_of_getElem? hx;refine⟨Same.refl _,some (f1 x)::some (f2 x)::rest,rfl,fun j v hv=> ?_,fun R h=>⟨q,[f1 x,f2 x],rfl,.inl (.inl (s1 _ _ hq)),rfl,f1 x,[f2 x],rfl,f2 x,[],rfl,rfl,h⟩,fun R h=>ht x _ hmem s1 R h,fun hc H2 s2 R h=>he x H2 hmem hc (s1.trans s2) R h⟩
 match j,hv with
 | 0,hv=>cases hv
 | 1,hv=>cases hv
 | j+2,hv=>exact hv
end
section
variable {K:W.Frag}{ti:TT}{te:TE}{σ:St}{ci:List Nat}{rest:St}{fin:List V->Hp->Prop}{H:Hp}{a:Addr}
theorem same_upd {H:Hp}{q:Addr}{o:HO} (h:H q=none):Same H (upd H q o):=fun b u e=>by
 have:b≠q:=fun z=>by rw[z,h]at e;cases e
 rw[aH this];exact e
theorem NH {α:Type}{vs:List V}{xs:List α} (f1 f2 f3:α->V) (c:α->Bool) (P:α->V->Hp->Prop) (hm:∀x y H1 H2,P x y H1->Same H1 H2->P x y H2) (hn:xs.length<=sizeLine) (hr:ci.map (fun i=>(σ[i]?).join)=rest) (hl:SqL K H a vs)
  (hv:Paired (fun v x=>∃q,v= .ref q/\H q=some (.tup [f1 x,f2 x,f3 x])) vs xs)
  (ht:∀x H1,x∈xs->Same H H1->∀R:Bool->Hp->Prop,(∀H2,Same H1 H2->R (c x) H2)->ti (some (f1 x)::some (f2 x)::some (f3 x)::rest) H1 R)
  (he:∀x H1,x∈xs->c x=true->Same H H1->∀R:VK,(∀y H2,P x y H2->Same H1 H2->R y H2)->te (some (f1 x)::some (f2 x)::some (f3 x)::rest) H1 R)
  (hf:∀ys H1,Same H H1->Paired (fun x y=>P x y H1) (xs.filter c) ys->fin ys H1):dI (Itl K a) (EY K 3 (pE (bZ 0) (pE (bZ 1) (pE (bZ 2) JC)))) ti te (b9 3 ci σ) fin H:=by
 have e0:b9 3 ci σ=none::none::none::rest:=KG hr;rw[e0];have hlen:vs.length=xs.length:=Paired.length hv;refine mU xs c P hm hn (fun i H1 s hi=>⟨vs,vs[i],s.seq hl,List.getElem?_eq_getElem (by lia)⟩) (fun H1 s=>⟨vs,s.seq hl,by lia⟩) (fun i x H1 hx s1 v H' y=> ?_) hf;obtain⟨rfl,e2⟩:=y;have ev:=e2 vs (s1.seq hl);obtain⟨q,rfl,hq⟩:∃q,v= .ref q/\H q=some (.tup [f1 x,f2 x,f3 x]):=Paired.at2 hv ev hx;have hmem:=List.mem_of_getElem? hx;refine⟨Same.refl _,some (f1 x)::some (f2 x)::some (f3 x)::rest,rfl,fun j v hv=> ?_,fun R h=>⟨q,[f1 x,f2 x,f3 x],rfl,.inl (.inl (s1 _ _ hq)),rfl,f1 x,[f2 x,f3 x],rfl,f2 x,[f3 x],rfl,f3 x,[],rfl,rfl,h⟩,fun R h=>ht x _ hmem s1 R h,fun hc H2 s2 R h=>he x H2 hmem hc (s1.trans s2) R h⟩
 match j,hv with
 | 0,hv=>cases hv
 | 1,hv=>cases hv
 | 2,hv=>cases hv
 | j+3,hv=>exact hv
theorem aCq {kvs:List (Key×V)}{o:Obj} (c:Key×V->Bool) (P:Key×V->V->Hp->Prop) (hm:∀x y H1 H2,P x y H1->Same H1 H2->P x y H2) (hn:kvs.length<=sizeLine) (hr:ci.map (fun i=>(σ[i]?).join)=rest) (h0:H a=some (.frz o (.dK kvs)))
  (ht:∀x H1,x∈kvs->Same H H1->∀R:Bool->Hp->Prop,(∀H2,Same H1 H2->R (c x) H2)->ti (some (kV x.1)::rest) H1 R)
  (he:∀x H1,x∈kvs->c x=true->Same H H1->∀R:VK,(∀y H2,P x y H2->Same H1 H2->R y H2)->te (some (kV x.1)::rest) H1 R)
  (hf:∀ys H1,Same H H1->Paired (fun x y=>P x y H1) (kvs.filter c) ys->fin ys H1):dI (Itk a o kvs) (bZ 0) ti te (b9 1 ci σ) fin H:=by
 rw[xB hr];refine mU kvs c P hm hn (fun i H1 s hi=>⟨s _ _ h0,hi⟩) (fun H1 s=>⟨s _ _ h0,Nat.le_refl _⟩) (fun i x H1 hx s1 v H' y=> ?_) hf;obtain⟨rfl,k,u,e2,rfl⟩:=y;rw[hx]at e2;cases e2;have hmem:=List.mem_of_getElem? hx;refine⟨Same.refl _,some (kV k)::rest,rfl,fun j v hv=> ?_,fun R h=>h,fun R h=>ht _ _ hmem s1 R h,fun hc H2 s2 R h=>he _ H2 hmem hc (s1.trans s2) R h⟩;cases j with
 | zero=>cases hv
 | succ j=>exact hv
theorem JZ {kvs:List (List Key×V)}{o:Obj} (c:List Key×V->Bool) (P:List Key×V->V->Hp->Prop) (hm:∀x y H1 H2,P x y H1->Same H1 H2->P x y H2) (hn:kvs.length<=sizeLine) (hr:ci.map (fun i=>(σ[i]?).join)=rest) (h0:H a=some (.frz o (.dT kvs)))
  (ht:∀x H1 p,x∈kvs->Same H H1->H1 p=some (.tup (x.1.map kV))->∀R:Bool->Hp->Prop,(∀H2,Same H1 H2->R (c x) H2)->ti (some (.ref p)::some x.2::rest) H1 R)
  (he:∀x H1 p,x∈kvs->c x=true->Same H H1->H1 p=some (.tup (x.1.map kV))->∀R:VK,(∀y H2,P x y H2->Same H1 H2->R y H2)->te (some (.ref p)::some x.2::rest) H1 R)
  (hf:∀ys H1,Same H H1->Paired (fun x y=>P x y H1) (kvs.filter c) ys->fin ys H1):dI (Itj a o kvs) (EY K 2 (pE (bZ 0) (pE (bZ 1) JC))) ti te (b9 2 ci σ) fin H:=by
 have e0:b9 2 ci σ=none::none::rest:=KG hr;rw[e0];refine mU kvs c P hm hn (fun i H1 s hi=>⟨s _ _ h0,hi⟩) (fun H1 s=>⟨s _ _ h0,Nat.le_refl _⟩) (fun i x H1 hx s1 v H' y=> ?_) hf;obtain⟨k,u,p,q,e2,rfl,hp,hq,rfl⟩:=y;rw[hx]at e2;cases e2;have hmem:=List.mem_of_getElem? hx;have sq:Same H1 (upd H1 q (.tup [.ref p,u])):=same_upd hq;refine⟨sq,some (.ref p)::some u::rest,rfl,fun j v hv=> ?_,fun R h=>⟨q,[.ref p,u],rfl,.inl (.inl aQ),rfl,.ref p,[u],rfl,u,[],rfl,rfl,h⟩,fun R h=>ht _ _ p hmem (s1.trans sq) (sq _ _ hp) R h,fun hc H2 s2 R h=>he _ H2 p hmem hc ((s1.trans sq).trans s2) (s2 _ _ (sq _ _ hp)) R h⟩
 match j,hv with
 | 0,hv=>cases hv
 | 1,hv=>cases hv
 | j+2,hv=>exact hv
end
section
variable {σ:St}{H:Hp}{g:TG}{tb:TS}{nx bk ct:St->Hp->Prop}{rt:VK}
theorem VS {p:Addr}{o:Obj} (kvs:List (Key×V)) (Pv:Nat->St->Hp->Prop) (h0:Pv 0 σ H) (hl:∀i σ H,Pv i σ H->H p=some (.frz o (.dK kvs)))
  (hs:∀i k v σ H,kvs[i]? =some (k,v)->Pv i σ H->g (kV k) σ H fun σ2 H2=>tb ⟨Pv (i+1),rt,nx,Pv (i+1)⟩ σ2 H2)(hd:∀σ H,Pv kvs.length σ H->nx σ H):O9 (Itk p o kvs) g tb ⟨nx,rt,bk,ct⟩ σ H:=by
 refine⟨fun i m σ H=>m=kvs.length - i/\i<=kvs.length/\Pv i σ H,⟨kvs.length,by simp,Nat.zero_le _,h0⟩,?_⟩;rintro i m σ H ⟨rfl,hi,q⟩
 by_cases hlt:i<kvs.length
 ·refine .inr ⟨⟨hl i σ H q,hlt⟩,Pv (i+1),fun σ' H' p'=>⟨kvs.length - (i+1),by lia,rfl,hlt,p'⟩,fun x H' y=> ?_⟩;obtain⟨rfl,k,v,e,rfl⟩:=y;exact hs i k v σ _ e q
 ·have e:i=kvs.length:=by lia
  subst e;exact .inl ⟨⟨hl _ σ H q,Nat.le_refl _⟩,hd σ H q⟩
end
def SG (R:It->Hp->Prop):VK:=fun x H1=>∃a kvs,x= .ref a/\H1 a=some (.dK kvs)/\∀o,R (Itk a o kvs) (upd H1 a (.frz o (.dK kvs)))
def OE (R:It->Hp->Prop):VK:=fun x H1=>∃a kvs,x= .ref a/\H1 a=some (.dT kvs)/\∀o,R (Itj a o kvs) (upd H1 a (.frz o (.dT kvs)))
def UR (Q:VK)(y:V):VK:=fun x H2=>∃a o,x= .ref a/\DGet H2 a y o/\Q (.bl o.isSome) H2
def ET (Q:VK)(y:V):VK:=fun x H2=>∃a o,x= .ref a/\DGet H2 a y o/\Q (.bl (!o.isSome)) H2
def TX (σ:St)(ty tx:TE)(Q:VK):VK:=fun x H1=>∃a,x= .ref a/\IsD H1 a/\ty σ H1 fun y H2=>tx σ H2 fun z H3=>∃o,DGet H3 a y o/\Q (o.getD z) H3
def aCr (a:Addr)(Q:VK)(y:V):VK:=fun z H3=>∃o,DGet H3 a y o/\Q (o.getD z) H3
section
variable {K:W.Frag}{H:Hp}{Q:VK}{σ:St}{nx:St->Hp->Prop}{R:It->Hp->Prop}{td ty tx:TE}
theorem SW (h:td σ H (SG R)):R9 td σ H R:=h
theorem OI (h:td σ H (OE R)):NF td σ H R:=h
theorem II {p:Addr}{kvs:List (Key×V)} (e:H p=some (.dK kvs)) (h:∀o H',SameBut p H H'->H' p=some (.frz o (.dK kvs))->R (Itk p o kvs) H'):SG R (.ref p) H:=⟨p,kvs,rfl,e,fun o=>h o _ SameBut.upd aQ⟩
theorem xX {p:Addr}{kvs:List (List Key×V)} (e:H p=some (.dT kvs)) (h:∀o H',SameBut p H H'->H' p=some (.frz o (.dT kvs))->R (Itj p o kvs) H'):OE R (.ref p) H:=⟨p,kvs,rfl,e,fun o=>h o _ SameBut.upd aQ⟩
theorem aCV (h:ty σ H fun y H1=>td σ H1 (UR Q y)):aDc ty td σ H Q:=h
theorem RZ (h:ty σ H fun y H1=>td σ H1 (ET Q y)):NY ty td σ H Q:=h
theorem aAn {p:Addr}{z:Str}{kvs:List (Key×V)} (e:Rd H p (.dK kvs)) (h:Q (.bl (aY kvs (.inr z)).isSome) H):UR Q (.str z) (.ref p) H:=⟨p,_,rfl,.inl ⟨kvs,.inr z,e,rfl,rfl⟩,h⟩
theorem DF {p:Addr}{z:Str}{kvs:List (Key×V)} (e:Rd H p (.dK kvs)) (h:Q (.bl (!(aY kvs (.inr z)).isSome)) H):ET Q (.str z) (.ref p) H:=⟨p,_,rfl,.inl ⟨kvs,.inr z,e,rfl,rfl⟩,h⟩
theorem vU {p:Addr}{v:V}{z:Str}{kvs:List (Key×V)} (e:H p=some (.dK kvs)) (hl:kvs.length<sizeLine) (h:∀H',SameBut p H H'->H' p=some (.dK (cC kvs (.inr z) v))->nx σ H'):HR nx σ (.ref p) v (.str z) H :=
 ⟨p,_,rfl,DPut.k (k:= .inr z) e hl,h _ SameBut.upd aQ⟩
theorem hU {p:Addr}{v:V}{z:Str}{kvs:List (Key×V)} (e:Rd H p (.dK kvs)) (hv:aY kvs (.inr z)=some v) (h:Q v H):HN Q (.ref p) (.str z) H:=⟨p,v,rfl,.inl ⟨kvs,.inr z,e,rfl,hv.symm⟩,h⟩
theorem VH (h:∀p H',H p=none->Same H H'->H' p=some (.dK [])->Q (.ref p) H'):TZ σ H Q:=gN h
theorem WL (h:td σ H (TX σ ty tx Q)):Q4 td ty tx σ H Q:=h
theorem SF {p:Addr}{kvs:List (List Key×V)} (e:H p=some (.dT kvs)) (h:ty σ H fun y H2=>tx σ H2 (aCr p Q y)):TX σ ty tx Q (.ref p) H:=⟨p,rfl,.inr ⟨kvs,.inl e⟩,h⟩
theorem V9 {p b:Addr}{z:V}{kvs:List (List Key×V)} (k:List Key) (e:H p=some (.dT kvs)) (eb:H b=some (.tup (k.map kV))) (h:Q ((aY kvs k).getD z) H):aCr p Q (.ref b) z H:=⟨_,DGet.t e eb,h⟩
theorem WZ {p:Addr}{vs:List V}{ps:List (Key×V)} (e:H p=some (.lst vs)) (r:HS H vs ps) (h:∀l H',H l=none->Same H H'->H' l=some (.dK (k6 [] ps))->Q (.ref l) H'):TH [.ref p] H Q:=⟨p,vs,ps,rfl,.inl e,r,gN h⟩
theorem IG {p:Addr}{vs:List V}{rs:List (List Key)}{sh:List Bool} (e:SqL K H p vs) (kr:KRows H vs rs) (hl:vs.length<64) (hs:∀r∈rs,r.map eU=sh) (hn:sh≠[]) (h:∀l ws H',H l=none->Same H H'->H' l=some (.lst ws)->KRows H' ws (kZ rs)->Q (.ref l) H'):NI K [.ref p] H Q :=
 ⟨p,vs,rs,sh,rfl,e,kr,hl,hs,hn,gN fun l H' n S e=>h l _ H' n S e ((O4 kr).same S)⟩
theorem BC {te:TE}{p:Addr}{u:HO} (e:H p=some u) (nf:∀o x,u≠ .frz o x) (h:te σ H fun x=>iB p (Q x)):YH te σ H Q:=⟨p,fun o x z=>nf o x (by rw[e]at z;exact Option.some.inj z),h⟩
theorem UX {ts:TS}{bk ct:St->Hp->Prop}{rt:VK}{p:Addr}{u:HO} (e:H p=some u) (nf:∀o x,u≠ .frz o x) (h:ts ⟨fun σ'=>iB p (nx σ'),fun v=>iB p (rt v),fun σ'=>iB p (bk σ'),fun σ'=>iB p (ct σ')⟩ σ H):X6 ts ⟨nx,rt,bk,ct⟩ σ H :=
 ⟨p,fun o x z=>nf o x (by rw[e]at z;exact Option.some.inj z),h⟩
theorem sM {p:Addr}{o:Obj}{u:HO}{R:Hp->Prop} (e:H p=some (.frz o u)) (h:∀H',SameBut p H H'->H' p=some u->R H'):iB p R H:=⟨o,u,e,h _ SameBut.upd aQ⟩
theorem QR {H Hf H1 H2:Hp}{p:Addr}{u:HO} (e:H p=some u) (a:SameBut p H Hf) (b:SameBut p Hf H1) (c:SameBut p H1 H2) (e2:H2 p=some u):Same H H2:=fun x o z=>by
 by_cases hx:x=p
 ·subst hx;rw[e]at z;cases z;exact e2
 ·exact c x o (b x o (a x o z hx) hx) hx
end
section
variable {X:Cx}{K:W.Frag}
theorem uB {e:Expr}{ta:TE}{f:Str}{pos:Pos} (he:PE X e ta) (hb:attributeBase e f X.env (eval e X.env)=eval e X.env) (hK:X.K=K:=by rfl):PE X (.Attribute e f pos) (WG K ta f):=by
 subst hK;exact aI he hb
theorem C0 (hK:X.K=K:=by rfl):OpR X (compareOp .In) (rIn K false):=by
 subst hK;exact F9
end
section
variable {K:W.Frag}{ti:TT}{te:TE}{σ:St}{ci:List Nat}{rest:St}{fin:List V->Hp->Prop}{H:Hp}{a:Addr}{α:Type}
theorem mG {vs:List V}{xs:List α} (F:V->α->Prop) (c:α->Bool) (P:α->V->Hp->Prop) (hm:∀x y H1 H2,P x y H1->Same H1 H2->P x y H2) (hn:xs.length<=sizeLine) (hr:ci.map (fun i=>(σ[i]?).join)=rest) (hl:SqL K H a vs) (hv:Paired F vs xs)
  (ht:∀v x H1,F v x->x∈xs->Same H H1->∀R:Bool->Hp->Prop,(∀H2,Same H1 H2->R (c x) H2)->ti (some v::rest) H1 R)
  (he:∀v x H1,F v x->x∈xs->c x=true->Same H H1->∀R:VK,(∀y H2,P x y H2->Same H1 H2->R y H2)->te (some v::rest) H1 R)
  (hf:∀ys H1,Same H H1->Paired (fun x y=>P x y H1) (xs.filter c) ys->fin ys H1):dI (Itl K a) (bZ 0) ti te (b9 1 ci σ) fin H:=by
 rw[xB hr];have hlen:vs.length=xs.length:=Paired.length hv;refine mU xs c P hm hn (fun i H1 s hi=>⟨vs,vs[i],s.seq hl,List.getElem?_eq_getElem (by lia)⟩) (fun H1 s=>⟨vs,s.seq hl,by lia⟩) (fun i x H1 hx s1 v H' y=> ?_) hf;obtain⟨rfl,e2⟩:=y;have ev:=e2 vs (s1.seq hl);have hF:=Paired.at2 hv ev hx;have hmem:=List.mem_of_getElem? hx;refine⟨Same.refl _,some v::rest,rfl,fun j v hv=> ?_,fun R h=>h,fun R h=>ht v x _ hF hmem s1 R h,fun hc H2 s2 R h=>he v x H2 hF hmem hc (s1.trans s2) R h⟩;cases j with
 | zero=>cases hv
 | succ j=>exact hv
end
theorem fQ {α:Type}{f:α->V}:∀{l:List α}{ys:List V},Paired (fun x y=>y=f x) l ys->ys=l.map f
 | _,_,.nil=>rfl
 | _,_,.cons h t=>by rw[h,fQ t];rfl
theorem d6 {α:Type}(l:List α):l.filter (fun _=>true)=l:=by simp
theorem R5 {K:W.Frag}{H:Hp}{Q:VK}{p:Addr}{z:Str}{ss:List Str} (e:SqL K H p (ss.map V.str)) (h:Q (.bl (decide (z∈ss))) H):rIn K false (.str z) (.ref p) H Q:=by
 refine⟨p,_,rfl,.inl e,rfl,?_,?_⟩
 ·rw[List.all_eq_true];intro x hx;obtain⟨y,_,rfl⟩:=List.mem_map.mp hx;rfl
 ·have e2:inV (.str z) (ss.map V.str)=decide (z∈ss):=by
   rw[Bool.eq_iff_iff,decide_eq_true_eq];unfold inV;rw[List.any_eq_true]
   constructor
   ·rintro ⟨x,hx,h⟩;obtain⟨y,hy,rfl⟩:=List.mem_map.mp hx;have:y=z:=by simpa [eqV] using h
    rw[←this];exact hy
   ·intro h;exact⟨.str z,List.mem_map.mpr ⟨z,h,rfl⟩,by simp[eqV]⟩
  show Q (.bl (inV (.str z) (ss.map V.str))) H;rw[e2];exact h
abbrev bN:=Int×Str×Int
def bT (t:Int)(n:Str):List Key:=[.inl t,.inr n]
def eY (r:bN):List Key:=[.inl r.1,.inr r.2.1,.inl r.2.2]
def HL:V->Int
 | .int i=>i
 | _=>0
def JV (kvs:List (List Key×V))(r:bN):List (List Key×V):=cC kvs (bT r.1 r.2.1) (.int (HL ((aY kvs (bT r.1 r.2.1)).getD (.int 0))+r.2.2))
def iW (rows:List bN):List (List Key×V):=rows.foldl JV []
theorem nR (rows:List bN)(r:bN):iW (rows++[r])=JV (iW rows) r:=by unfold iW;rw[List.foldl_append];rfl
def pD (rows:List bN)(t:Int)(n:Str):Int:=((rows.filter fun r=>decide (r.1=t)&&decide (r.2.1=n)).map (·.2.2)).sum
theorem P5 (rows:List bN)(r:bN)(t:Int)(n:Str):pD (rows++[r]) t n=pD rows t n+if r.1=t/\r.2.1=n then r.2.2 else 0:=by
 unfold pD;rw[List.filter_append,List.map_append,List.sum_append]
 congr 1
 by_cases h:r.1=t/\r.2.1=n
 ·rw[if_pos h,List.filter_cons_of_pos (by simp[h])];simp
 ·rw[if_neg h,List.filter_cons_of_neg (by simpa using h)];simp
theorem fT {t t':Int}{n n':Str} (h:bT t n=bT t' n'):t=t'/\n=n':=by
 unfold bT at h;injection h with h1 h2;injection h2 with h2;exact⟨Sum.inl.inj h1,Sum.inr.inj h2⟩
theorem zP {α:Type}{P:List α->Prop} (h0:P []) (hs:∀l a,P l->P (l++[a])) (l:List α):P l:=by
 have:∀m:List α,P m.reverse:=fun m=>by
  induction m with
  | nil=>exact h0
  | cons a m ih=>rw[List.reverse_cons];exact hs _ _ ih
 rw[←List.reverse_reverse l];exact this _
theorem IK (t:Int)(n:Str)(rows:List bN):HL ((aY (iW rows) (bT t n)).getD (.int 0))=pD rows t n:=by
 induction rows using zP with
 | h0=>rfl
 | hs l r ih =>
  rw[nR,P5];unfold JV;rw[BS]
  by_cases e:bT t n=bT r.1 r.2.1
  ·obtain⟨rfl,rfl⟩:=fT e;rw[if_pos rfl,if_pos ⟨rfl,rfl⟩,←ih];rfl
  ·rw[if_neg e,if_neg (fun h=>e (by rw[h.1,h.2])),ih];lia
theorem RF {κ:Type}[DecidableEq κ]{kvs:List (κ×V)}{k:κ}{v:V} (nd:(kvs.map (·.1)).Nodup):((cC kvs k v).map (·.1)).Nodup:=by
 unfold cC
 split
 ·have e:(kvs.map fun kv=>if kv.1=k then (kv.1,v) else kv).map (·.1)=kvs.map (·.1):=by
   rw[List.map_map]
   apply List.map_congr_left
   intro x _;show (if x.1=k then (x.1,v) else x).1=x.1
   split<;>rfl
  rw[e];exact nd
 ·rename_i h;rw[List.map_append];refine nd_snoc nd fun hk=>h ?_;obtain⟨x,hx,e⟩:=List.mem_map.mp hk;rw[List.any_eq_true];exact⟨x,hx,decide_eq_true e⟩
theorem fJ {κ:Type}[DecidableEq κ]:∀{kvs:List (κ×V)}{e:κ×V},(kvs.map (·.1)).Nodup->e∈kvs->aY kvs e.1=some e.2
 | a::l,e,nd,h=>by
  have nd':=List.pairwise_cons.mp nd;rcases List.mem_cons.mp h with rfl|h
  ·exact dA rfl
  ·rw[dB (nd'.1 e.1 (List.mem_map.mpr ⟨e,h,rfl⟩))];exact fJ nd'.2 h
theorem sR {κ:Type}[DecidableEq κ]{kvs:List (κ×V)}{k:κ}{v:V} (h:aY kvs k=some v):(k,v)∈kvs:=by
 unfold aY at h;obtain⟨x,hx,e⟩:=Option.map_eq_some_iff.mp h;have h1:=List.find?_some hx;have h2:=List.mem_of_find?_eq_some hx;have h3:x.1=k:=of_decide_eq_true h1;rw[←h3,←e];exact h2
def aEe (kvs:List (List Key×V)):Prop:=(kvs.map (·.1)).Nodup/\∀e∈kvs,∃t n i,e=(bT t n,.int i)
theorem kQ (rows:List bN):aEe (iW rows):=by
 induction rows using zP with
 | h0=>exact⟨List.nodup_nil,fun e h=>nomatch h⟩
 | hs l r ih =>
  rw[nR];refine⟨RF ih.1,fun e he=> ?_⟩;rcases VG he with h|⟨h1,h2⟩
  ·exact ih.2 e h
  ·exact⟨_,_,_,Prod.ext h1 h2⟩
theorem VZ (rows:List bN)(t:Int)(n:Str):∃i,(aY (iW rows) (bT t n)).getD (.int 0)= .int i:=by
 cases h:aY (iW rows) (bT t n) with
 | none=>exact⟨0,rfl⟩
 | some v =>
  obtain⟨t',n',i,e⟩:=(kQ rows).2 _ (sR h);cases e;exact⟨i,rfl⟩
theorem A6 (rows:List bN):(iW rows).length<=rows.length:=by
 induction rows using zP with
 | h0=>exact Nat.le_refl _
 | hs l r ih =>
  rw[nR,List.length_append];exact Nat.le_trans (jL _ _ _) (by simp;lia)
def VM (e:List Key×V):Bool:=decide (0<HL e.2)
def OW (e:List Key×V):List Key:=e.1++[.inl (HL e.2)]
def eI (rows:List bN):List (List Key):=((iW rows).filter VM).map OW
theorem mem_told {rows:List bN}{k:List Key}:k∈eI rows↔∃t n,k=eY (t,n,pD rows t n)/\0<pD rows t n:=by
 unfold eI
 constructor
 ·intro h;obtain⟨e,he,rfl⟩:=List.mem_map.mp h;obtain⟨h1,h2⟩:=List.mem_filter.mp he;obtain⟨t,n,i,rfl⟩:=(kQ rows).2 e h1;have hv:=fJ (kQ rows).1 h1;have ht:=IK t n rows;rw[hv]at ht;have ht':i=pD rows t n:=ht;refine⟨t,n,?_,?_⟩
  ·rw[←ht'];rfl
  ·rw[←ht'];exact of_decide_eq_true h2
 ·rintro ⟨t,n,rfl,h⟩;have ht:=IK t n rows;cases hv:aY (iW rows) (bT t n) with
  | none =>
   rw[hv]at ht;have:(0:Int)=pD rows t n:=ht
   lia
  | some v =>
   have hm:=sR hv;obtain⟨t',n',i,e⟩:=(kQ rows).2 _ hm;obtain⟨e1,e2⟩:=Prod.mk.inj e;subst e2;rw[hv]at ht;have ht':i=pD rows t n:=ht;refine List.mem_map.mpr ⟨(bT t n,.int i),List.mem_filter.mpr ⟨hm,?_⟩,?_⟩
   ·show decide (0<i)=true;rw[ht'];exact decide_eq_true h
   ·rw[ht'];rfl
theorem O1 (rows:List bN):∀r∈eI rows,r.map eU=[true,false,true]:=fun r hr=>by
 obtain⟨t,n,rfl,_⟩:=mem_told.mp hr;rfl
theorem UU {a b:bN}(h:eY a=eY b):a=b:=by
 unfold eY at h;injection h with h1 h2;injection h2 with h2 h3;injection h3 with h3;exact Prod.ext (Sum.inl.inj h1) (Prod.ext (Sum.inr.inj h2) (Sum.inl.inj h3))
theorem ZX:typeLookup (.type "dict") "__len__" =pure (some (.builtin "dict.__len__")):=by rw[typeLookup_type,builtinLookup_eq_fast];kernel_rfl
section
variable {prog:Program}{w:World}{A:Around}{E:Value->Shared->Prop}{s:Shared}{d:Addr}{κ:Type} [DecidableEq κ] {knd:KeyKind prog w κ}{ps:List (κ×Value)}{ep:Nat}
theorem SN (T:s.TypeIs (.ref d) "dict"){Q:Bool->Shared->Prop}(h:Q false s):wpAny (model prog w) A (Builtin.List.listLengthHint (.ref d)) Q E s:=by
 unfold Builtin.List.listLengthHint;refine wpAny_bind (wpAny_specialOf T ZX ?_);generalize q:("dict.__len__" :String)=i0
 wp_delta
 rw[show splitId i0=some ("dict","__len__") from by subst q;decide +kernel];subst q;refine wpAny_bind (wpAny_isInstance (T:= "dict") (b:=true) T (by rw[isSubtype_type];kernel_rfl) (wpAny_ite_split (fun z=>absurd z (by decide)) (fun _=>wpAny_ite_split (fun _=> ?_) (fun z=>absurd (by decide +kernel) z))));exact wpAny_bind (wpAny_typeOf T (wpAny_pure h))
theorem MG {R:Result->Shared->Prop}(hh:A.handled=none)(hm:s.heap.DictAt knd d ps ep)(hd0:(d==sysModules)=false)(S:Addr)(hSd:S≠d)(c0:Nat)(hS:s.heap.get? S=some { cls:= .type "list",data:= .seq #[] c0 })(hn:ps.length<=sizeLine)
  (k:∀h' tk acc c,(∀b o,b≠S->s.heap.get? b=some o->h'.get? b=some o)->h'.get? S=some { cls:= .type "list",dict:=none,data:= .seq acc c,slots:= #[] }->ItemsOf (fun i v=>∃k x,ps[i]? =some (k,x)/\knd.is k v=true) acc ps.length->R (.ok (.ret .none)) { s with heap:=h',toks:=tk }) :
  wpAny (model prog w) A.in1 (Builtin.List.listExtendWith (.ref S) (.ref d) .none) (fun fin s'=>match fin with| .done f=>R (.ok f) s'| .again c'=>c'.quiet=true/\codeAny (model prog w) A c' R s') (fun e s'=>R (.error e) s') s:=by
 obtain⟨o,es,ho,hc,hq,hk,hp,hnd⟩:=id hm;have T:s.TypeIs (.ref d) "dict" :=⟨o,ho,hc.1⟩
 have lS:S<s.heap.objs.size:=Heap.lt_size hS;have ld:d<s.heap.objs.size:=Heap.lt_size ho;have hsz:es.size=ps.length:=by rw[←hp.length];simp
 have W:=(Walks.dictKeys (prog:=prog) (w:=w) (knd:=knd) (A:=A.in1) hh s.heap.objs.size d (Nat.ne_of_lt ld) ps ep).toS;have run:∀(h:Heap) (c1 tk:Nat),h.IsKeyIter s.heap.objs.size d 0 ps.length ep->(∀b u,b≠S->s.heap.get? b=some u->h.get? b=some u)->h.get? S=some { cls:= .type "list",data:= .seq #[] c1 } →
   codeAny (model prog w) A (.builtin "list.extend.loop" ⟨[.ref S,.ref s.heap.objs.size,.none],[]⟩) R { s with heap:=h,toks:=tk }:=by
  intro h c1 tk hit kp hS1;refine codeAny_extend_loopS W hn S (by simp only[List.mem_cons,List.not_mem_nil,or_false,not_or];exact⟨Nat.ne_of_lt lS,hSd⟩) .none ps.length 0 _ #[] c1 rfl (Nat.zero_le _) ⟨hit,o,es,kp d o (Ne.symm hSd) ho,hc,hq,hk,hp,hnd⟩ hS1 (ItemsOf.nil _) fun s' acc c' mv hS2 hacc=> ?_;rw[Moved.eq_with mv];refine k s'.heap s'.toks acc c' (fun b u hb e=>mv.heap b u (fun z=> ?_) (kp b u hb e)) hS2 hacc;rcases List.mem_cons.mp z with z|z
  ·exact hb z
  ·have:=Heap.lt_size e;rw[List.mem_singleton.mp z]at this;exact Nat.lt_irrefl _ this
 unfold Builtin.List.listExtendWith;refine wpAny_bind (wpAny_typeOf (T:= "dict") T ?_);simp only[show Builtin.List.listSameRef (.ref S) (.ref d)=false by simp[Builtin.List.listSameRef,hSd],show (Value.type "dict" ==Value.type "list")=false by decide,show (Value.type "dict" ==Value.type "tuple")=false by decide,Bool.or_false,Bool.false_eq_true,if_false];refine wpAny_bind (IY hd0 ho hc hq ?_);have hS1:=Heap.get?_push_of_some { cls:= .type "dict_keyiterator",data:= .fields #[.ref d,.int 0 0,.int es.size 0,.int ep 0] } hS;refine wpAny_bind (wpAny_holding (SN ⟨o,Heap.get?_push_of_some _ ho,hc.1⟩ ?_));have hit:(s.heap.push { cls:= .type "dict_keyiterator",data:= .fields #[.ref d,.int 0 0,.int es.size 0,.int ep 0] }).IsKeyIter s.heap.objs.size d 0 ps.length ep:=⟨_,Heap.get?_push_size _ rfl,rfl,by rw[hsz];rfl⟩
 refine wpAny_ite_split (fun z=> ?_) (fun _=>wpAny_pure ⟨plainId_quiet F.plain_extend_loop _,run _ c0 _ hit (fun b u _ e=>Heap.get?_push_of_some _ e) hS1⟩);refine wpAny_bind (wpAny_rule (wpAny_bind ?_));show wpAny _ A.in1 (updateSeq S (·.push .none) >>= fun _=>updateSeq S (·.pop)) _ _ _;have u1:=Heap.get?_update_self (Obj.mapSeq (·.push Value.none)) hS1 rfl;have u2:=Heap.get?_update_self (Obj.mapSeq (·.pop)) u1 rfl;refine wpAny_bind (wpAny_updateSeq hS1 rfl (wpAny_updateSeq (hz:=by seq_fits) u1 rfl (wpAny_pure ⟨plainId_quiet F.plain_extend_loop _,run _ _ _ ?_ (fun b u hb e=> ?_) u2⟩)))
 ·exact hit.at fun u e=>(Heap.get?_update_other _ _ (Nat.ne_of_lt lS)).trans ((Heap.get?_update_other _ _ (Nat.ne_of_lt lS)).trans e)
 ·exact(Heap.get?_update_other _ _ (Ne.symm hb)).trans ((Heap.get?_update_other _ _ (Ne.symm hb)).trans (Heap.get?_push_of_some _ e))
theorem RI {Q:Value->Shared->Prop}(hh:A.handled=none)(hm:s.heap.DictAt knd d ps ep)(hd0:(d==sysModules)=false)(hn:ps.length<=sizeLine)
  (k:∀h' tk acc c,(∀b o,s.heap.get? b=some o->h'.get? b=some o)->h'.get? s.heap.objs.size=some { cls:= .type "list",dict:=none,data:= .seq acc c,slots:= #[] }->ItemsOf (fun i v=>∃k x,ps[i]? =some (k,x)/\knd.is k v=true) acc ps.length->Q (.ref s.heap.objs.size) { s with heap:=h',toks:=tk }) :
  wpAny (model prog w) A (call (.type "list") [.ref d]) Q E s:=by
 refine callType_codes (Q₁:=fun x s1=>x= .ref s.heap.objs.size/\s1={ s with heap:=s.heap.push { cls:= .type "list",data:= .seq #[] } }) F.called_list (F.typeCall_list_1 _) F.entry_list_init (code_list_new _ ⟨rfl,rfl⟩) ?_;rintro x s1 ⟨rfl,rfl⟩;have hS:(s.heap.push { cls:= .type "list",data:= .seq #[] }).get? s.heap.objs.size=some { cls:= .type "list",data:= .seq #[] }:=Heap.get?_push_size _ rfl;have hm1:(s.heap.push { cls:= .type "list",data:= .seq #[] }).DictAt knd d ps ep:=hm.at' fun o e=>Heap.get?_push_of_some _ e;have hdS:s.heap.objs.size≠d:=fun z=>by
  obtain⟨o,_,ho,_⟩:=hm;have:=Heap.lt_size ho;rw[←z]at this;exact Nat.lt_irrefl _ this
 refine⟨⟨_,hS,rfl⟩,F.args_list_init_2 _ _,?_⟩;show wpAny _ A.in1.in1 (Builtin.List.listItems (.ref s.heap.objs.size) >>= fun old=>Builtin.List.listUpdate (.ref s.heap.objs.size) (fun _=> #[]) >>= fun _=>letGo old.toList.reverse >>= fun _=>Builtin.List.listExtendWith (.ref s.heap.objs.size) (.ref d) .none) _ _ _;refine wpAny_bind ?_;unfold Builtin.List.listItems;refine wpAny_bind (wpAny_seqItems hS rfl (wpAny_pure ?_));show wpAny _ A.in1.in1 (updateSeq s.heap.objs.size (fun _=> #[]) >>= fun _=>letGo (#[]:Array Value).toList.reverse >>= fun _=>Builtin.List.listExtendWith (.ref s.heap.objs.size) (.ref d) .none) _ _ _;have u1:=Heap.get?_update_self (Obj.mapSeq (fun _=>(#[]:Array Value))) hS rfl;have kp:∀b o,b≠s.heap.objs.size->(s.heap.push { cls:= .type "list",data:= .seq #[] }).get? b=some o->((s.heap.push { cls:= .type "list",data:= .seq #[] }).update s.heap.objs.size (Obj.mapSeq (fun _=>(#[]:Array Value)))).get? b=some o:=fun b o hb e=>(Heap.get?_update_other _ _ (Ne.symm hb)).trans e;refine wpAny_bind (wpAny_updateSeq hS rfl (wpAny_bind (wpAny_letGo ?_)));refine MG (A:=A.in1) hh (hm1.at' fun o e=>kp d o (Ne.symm hdS) e) hd0 _ hdS _ u1 hn fun h' tk acc c kk hS' hacc=> ?_;exact⟨rfl,k h' tk acc c (fun b o e=>kk b o (Nat.ne_of_lt (Heap.lt_size e)) (kp b o (Nat.ne_of_lt (Heap.lt_size e)) (Heap.get?_push_of_some _ e))) hS' hacc⟩
end
section
variable {X:Cx}
def RT:List V->Hp->VK->Prop:=fun xs H Q=>∃p kvs,xs=[.ref p]/\Rd H p (.dK kvs)/\∀l,H l=none->Q (.ref l) (upd H l (.lst (kvs.map fun e=>kV e.1)))
theorem GM {P:Program}{w:World}{kvs:List (Key×V)}{rs:List (Key×Value)} (r:KV kvs rs) {acc:Array Value} (h:ItemsOf (fun i v=>∃k x,rs[i]? =some (k,x)/\(bY P w).is k v=true) acc rs.length):Vals (kvs.map fun e=>kV e.1) acc.toList:=by
 have e0:acc.toList.length=rs.length:=by rw[Array.length_toList];exact h.1
 refine IN (by rw[List.length_map,e0];exact r.length) fun i x u h1 h2=> ?_;obtain⟨k,y,e1,e2⟩:=h.2 i u (by simpa using h2);rw[List.getElem?_map]at h1;obtain⟨e,he,rfl⟩:=Option.map_eq_some_iff.mp h1;have hi:i<kvs.length:=(List.getElem?_eq_some_iff.mp he).1;obtain⟨k',v',u',f1,f2,f3⟩:=IS r hi;rw[he]at f1;cases f1;rw[e1]at f2;cases f2;exact ND e2
theorem C4 (hc:X.calm=true):dS X (.type "list") RT:=by
 intro pins s σ H xs us Q I r h;obtain⟨p,kvs,rfl,hq,q⟩:=h;obtain⟨u,rfl,rx⟩:=nG r;cases rx;obtain⟨z,y,rs,kv,o,es,ep,h1,h2,h3,h4,h5,h6⟩:=nF I.hok hq;have hl:=kv.length;refine RI (knd:=bY X.prog X.w) (ps:=rs) (ep:=ep) (I.ok.hd hc) ⟨o,es,h1,h2,h3,h4,h5,h6⟩ y (by lia) fun h' tk acc c kp hS hacc=> ?_;exact⟨.ref _,_,I.laid (t':=tk) kp (Nat.le_refl _) (show ObjOk X.prog X.w _ h' _ (.lst (kvs.map fun e=>kV e.1)) from⟨by rw[List.length_map];exact z,acc.toList,c,GM kv hacc,by rw[Array.toArray_toList];exact hS⟩),rfl,q _ (I.hok.fresh (Nat.le_refl _))⟩
end
def zN (v d:Addr):HO:= .ext fun h=>h.IsValuesView v d
def QB (Q:VK):VK:=fun x H1=>∃a kvs,x= .ref a/\Rd H1 a (.dK kvs)/\∀v,H1 v=none->Q (.ref v) (upd H1 v (zN v a))
def XV (td:TE):TE:=fun σ H Q=>td σ H (QB Q)
section
variable {X:Cx}
theorem PB {l:Expr}{td:TE}{apos cpos:Pos} (hl:PE X l td) (hbase:attributeBase l "values" X.env (eval l X.env)=eval l X.env:=by rfl) (hline:(apos.endLine==cpos.line)=true:=by rfl) :
  PE X (.Call (.Attribute l "values" apos) [] [] cpos) (XV td):=by
 intro pins s σ H Q I h;refine wpAny_Call_method0_late hbase hline (thn (hl pins s σ H _ I h) fun v s1 ⟨x,H1,I1,r1,q1⟩=> ?_);obtain⟨a,kvs,rfl,hq,q⟩:=q1;cases r1;obtain⟨t1,t2,_⟩:=JG I1 (.inl ⟨kvs,hq⟩);refine⟨"dict","dict.values",F.plainAttrs_dict,F.slot_dict_values,F.type_dict_values,t1,t2,Calls.callWith_builtin rfl (PySem.evalArgs_none ?_)⟩;obtain⟨z,y,vs,r,o,es,ep,h1,h2,h3,h4,h5,h6⟩:=nF I1.hok hq;refine call_meetsIn F.slot_dict_values t1 F.entry_dict_values (F.args_dict_values_1 _) (meets_dict_values (bY X.prog X.w) a y) ⟨⟨vs,o,es,ep,h1,h2,h3,h4,h5,h6⟩,?_⟩;have hv:(s1.heap.push { cls:= .type "dict_values",data:= .fields #[.ref a] }).IsValuesView s1.heap.objs.size a:=⟨_,Heap.get?_push_size _ rfl,rfl,rfl⟩
 refine⟨.ref s1.heap.objs.size,_,I1.laid (t':=s1.toks) (fun b u e=>Heap.get?_push_of_some _ e) (Nat.le_refl _) (show ObjOk X.prog X.w _ _ _ (zN s1.heap.objs.size a) from⟨hv,⟨_,Heap.get?_push_size _ rfl⟩,fun g1 g2 p k=> ?_⟩),rfl,q _ (I1.hok.fresh (Nat.le_refl _))⟩;obtain⟨o,e,c⟩:=p;exact⟨o,k o e,c⟩
theorem IJ (ns:List Int):∀j,j<=ns.length->preSum (fun i=>ns.getD i 0) j=(ns.take j).sum
 | 0,_=>by simp[preSum]
 | j+1,h=>by
  rw[preSum,IJ ns j (by lia),List.take_succ,List.getElem?_eq_getElem (by lia),List.sum_append];rw[List.getD_eq_getElem?_getD,List.getElem?_eq_getElem (by lia)];simp
theorem ZY (ns:List Int):preSum (fun i=>ns.getD i 0) ns.length=ns.sum:=by rw[IJ ns _ (Nat.le_refl _),List.take_length]
def X2:List V->Hp->VK->Prop:=fun xs H Q=>∃(v d:Addr) (kvs:List (Key×V)) (ns:List Int),xs=[.ref v]/\H v=some (zN v d)/\Rd H d (.dK kvs)/\kvs.map (·.2)=ns.map V.int/\Q (.int ns.sum) H
theorem RV (hc:X.calm=true):dS X (.builtin "sum") X2:=by
 intro pins s σ H xs us Q I r h;obtain⟨v,d,kvs,ns,rfl,hv,hq,hns,q⟩:=h;obtain⟨u,rfl,rx⟩:=nG r;cases rx;obtain⟨hview,_,_⟩:=(show ObjOk X.prog X.w H s.heap v (zN v d) from I.hok v _ hv)
 have hview:s.heap.IsValuesView v d:=hview;obtain⟨z,y,rs,kv,o,es,ep,h1,h2,h3,h4,h5,h6⟩:=nF I.hok hq;have hl:=kv.length;have hln:kvs.length=ns.length:=by have:=congrArg List.length hns;rwa [List.length_map,List.length_map]at this
 have ld:d<s.heap.objs.size:=Heap.lt_size h1;have hm:s.heap.DictAt (bY X.prog X.w) d rs ep:=⟨o,es,h1,h2,h3,h4,h5,h6⟩
 refine call_sum_walkG (wpAny_pyIter_values hview hm ?_);refine⟨s.heap.objs.size,_,_,rs.length,_,_,fun i=>ns.getD i 0,rfl,Walks.dictValues (knd:=bY X.prog X.w) (show X.A.in1.handled=none from I.ok.hd hc) s.heap.objs.size d (Nat.ne_of_lt ld) rs ep,⟨⟨_,Heap.get?_push_size _ rfl,rfl,rfl⟩,hm.at' fun o e=>Heap.get?_push_of_some _ e⟩,?_,?_,?_⟩
 ·intro b hb;simp only[List.mem_cons,List.not_mem_nil,or_false]at hb;have hsz:(s.heap.push { cls:= .type "dict_valueiterator",data:= .fields #[.ref d,.int 0 0,.int rs.length 0,.int ep 0] }).objs.size=s.heap.objs.size+1:=by simp[Heap.push]
  rcases hb with rfl|rfl
  ·show s.heap.objs.size<_;rw[hsz];exact Nat.lt_succ_self _
  ·show b<_;rw[hsz];exact Nat.lt_succ_of_lt ld
 ·rintro i u ⟨kk,hk⟩;have hi:i<kvs.length:=by rw[hl];exact(List.getElem?_eq_some_iff.mp hk).1
  obtain⟨k',v',u',f1,f2,f3⟩:=IS kv hi;rw[hk]at f2;cases f2;have e1:(kvs.map (·.2))[i]? =some v':=by rw[List.getElem?_map,f1];rfl
  rw[hns,List.getElem?_map]at e1;obtain⟨n,hn,rfl⟩:=Option.map_eq_some_iff.mp e1;obtain⟨t,rfl⟩:=f3;refine⟨t,?_⟩;show Value.int n t=Value.int (ns.getD i 0) t;rw[List.getD_eq_getElem?_getD,hn];rfl
 ·intro h' tk t' hk;have e2:preSum (fun i=>ns.getD i 0) rs.length=ns.sum:=by
   rw[←hl,hln];exact ZY ns
  rw[e2];have I1:Inv X pins σ H { s with heap:=s.heap.push { cls:= .type "dict_valueiterator",data:= .fields #[.ref d,.int 0 0,.int rs.length 0,.int ep 0] },toks:=s.toks }:=I.kept fun b u e=>Heap.get?_push_of_some _ e;obtain⟨f0,f1,f2,f3,f4,f5⟩:=I.fpOk (Nat.le_refl _) (I.hok.fresh (Nat.le_refl _));exact⟨.int ns.sum,H,I1.turned (fun b o hb e=>hk b o (by simpa using hb) e) f0 f1 f3 f4 f5,⟨t',rfl⟩,q⟩
end
section
variable {X:Cx}{pins:List (Addr×Obj)}{σ:St}{H:Hp}{s:Shared}{h':Heap}
end
section
variable {X:Cx}
end
def aBA (σ:St)(tv:TE)(rd:V->V->Hp->VK->Prop)(nx:St->Hp->Prop)(x:V):VK:=fun y H2=>∃a v,x= .ref a/\DGet H2 a y (some v)/\tv σ H2 fun y2 H3=>rd v y2 H3 fun z H4=>∃H5,DPut H4 a y z H5/\nx σ H5
def aBI (σ:St)(p:Addr)(k:V)(nx:St->Hp->Prop):VK:=fun z H4=>∃H5,DPut H4 p k z H5/\nx σ H5
section
variable {K:W.Frag}{H:Hp}{Q:VK}{σ:St}{nx:St->Hp->Prop}{td ty tv:TE}{rd:V->V->Hp->VK->Prop}{rt:VK}{bk ct:St->Hp->Prop}{R:It->Hp->Prop}
theorem Y0 (h:td σ H fun x H1=>ty σ H1 (aBA σ tv rd nx x)):X5 td ty tv rd ⟨nx,rt,bk,ct⟩ σ H:=h
theorem U7 {p:Addr}{z:Str}{kvs:List (Key×V)}{v:V} (e:Rd H p (.dK kvs)) (hv:aY kvs (.inr z)=some v) (h:tv σ H fun y2 H3=>rd v y2 H3 (aBI σ p (.str z) nx)):aBA σ tv rd nx (.ref p) (.str z) H:=⟨p,v,rfl,.inl ⟨kvs,.inr z,e,rfl,hv.symm⟩,h⟩
theorem zI {p:Addr}{z:Str}{kvs:List (Key×V)}{v:V} (e:H p=some (.dK kvs)) (hl:kvs.length<sizeLine) (h:∀H',SameBut p H H'->H' p=some (.dK (cC kvs (.inr z) v))->nx σ H'):aBI σ p (.str z) nx v H:=⟨_,DPut.k (k:= .inr z) e hl,h _ SameBut.upd aQ⟩
theorem IL {p:Addr}{kvs:List (Key×V)} (e:Rd H p (.dK kvs)) (h:∀l H',H l=none->Same H H'->H' l=some (.lst (kvs.map fun e=>kV e.1))->Q (.ref l) H'):RT [.ref p] H Q:=⟨p,kvs,rfl,e,gN h⟩
theorem GB {l b:Addr}{xs zs:List V} (e:H l=some (.lst xs)) (e2:H b=some (.lst zs)) (hz:xs.length+zs.length<=sizeLine) (h:∀H',SameBut l H H'->H' l=some (.lst (xs++zs))->Q .non H'):NE (.ref l) [.ref b] H Q:=⟨l,b,xs,zs,rfl,rfl,e,e2,hz,h _ SameBut.upd aQ⟩
theorem aAh (h:td σ H (QB Q)):XV td σ H Q:=h
theorem U4 {a:Addr}{kvs:List (Key×V)} (e:Rd H a (.dK kvs)) (h:∀v H',H v=none->Same H H'->H' v=some (zN v a)->Q (.ref v) H'):QB Q (.ref a) H :=
 ⟨a,kvs,rfl,e,fun v hv=>h v _ hv (same_upd hv) aQ⟩
theorem aAv {v d:Addr}{kvs:List (Key×V)}{ns:List Int} (e:H v=some (zN v d)) (e2:Rd H d (.dK kvs)) (hn:kvs.map (·.2)=ns.map V.int) (h:Q (.int ns.sum) H):X2 [.ref v] H Q:=⟨v,d,kvs,ns,rfl,e,e2,hn,h⟩
end
def dD (ps:List (Str×Int))(z:Str):Int:=((ps.filter fun p=>decide (p.1=z)).map (·.2)).sum
theorem TB (ps:List (Str×Int))(p:Str×Int)(z:Str):dD (ps++[p]) z=dD ps z+if p.1=z then p.2 else 0:=by
 unfold dD;rw[List.filter_append,List.map_append,List.sum_append]
 congr 1
 by_cases h:p.1=z
 ·rw[if_pos h];simp[h]
 ·rw[if_neg h];simp[h]
theorem SX {te:TE}{σ:St}{ci:List Nat}{rest:St}{fin:List V->Hp->Prop}{H:Hp}{lo:Int}{n:Nat} (P:Nat->V->Hp->Prop) (hm:∀x y H1 H2,P x y H1->Same H1 H2->P x y H2) (hn:n<=sizeLine) (hr:ci.map (fun i=>(σ[i]?).join)=rest)
  (he:∀(i:Nat) H1,i<n->Same H H1->∀R:VK,(∀y H2,P i y H2->Same H1 H2->R y H2)->te (some (.int (lo+i))::rest) H1 R)
  (hf:∀ys H1,Same H H1->Paired (fun x y=>P x y H1) (List.range n) ys->fin ys H1):dI (Itr lo n) (bZ 0) BQ te (b9 1 ci σ) fin H:=by
 rw[xB hr];refine mU (List.range n) (fun _=>true) P hm (by rw[List.length_range];exact hn) (fun i H1 s hi=>by rw[List.length_range]at hi;exact hi) (fun H1 s=>by rw[List.length_range];exact Nat.le_refl _) (fun i x H1 hx s1 v H' y=> ?_) (fun ys H1 s1 h=>hf ys H1 s1 (by rw[d6]at h;exact h));obtain⟨rfl,rfl⟩:=y;obtain⟨hi,e⟩:=List.getElem?_eq_some_iff.mp hx;rw[List.length_range]at hi;rw[List.getElem_range]at e;subst e;refine⟨Same.refl _,some (.int (lo+(i:Nat)))::rest,rfl,fun j v hv=> ?_,fun R h=>h,fun R h=>h _ (Same.refl _),fun hc H2 s2 R h=>he i H2 hi (s1.trans s2) R h⟩;cases j with
 | zero=>cases hv
 | succ j=>exact hv
end L2
namespace L2
open PySem PySem.W PyProof.Rows PySem.Calls
section
variable {prog:Program}{w:World}{A:Around}{E:Value->Shared->Prop}{s:Shared}{d v:Addr}{o:Obj}{es:Array DictEntry}{ep:Nat}
end
section
variable {X:Cx}
theorem BO {K:W.Frag}(h:X.K=K:=by rfl):IxR X (xQ K):=by subst h;exact bL
end
section
variable {K:W.Frag}{H:Hp}{Q:VK}{σ:St}{td:TE}
end
end L2
namespace L2
open PySem PySem.W PyProof.Rows
section
variable {X:Cx}
end
section
variable {X:Cx}{P:Program}{w:World}{K:W.Frag}{mg:Str->Option Value}{base:Heap}{k':Nat}{o e:Expr}{es:List Expr}{m:Str}{ta:TE}{t:TA}{apos pos:Pos}
theorem R0 (k:Nat){pl:Sem Bool}(hr:Room k' X.A)(ho:PE X o ta)(ha:PA X (e::es) t)(hk:k<=k':=by decide)(hst:starEach (e::es) X.env=(false,eval e X.env)::starEach es X.env:=by rfl)(hpl:(backTo pos (starEach es X.env)).any (·.1)=false:=by rfl)
  (ht:eval (.Call (.Attribute o m apos) (e::es) [] pos) X.env=(do let ov ←eval o X.env;standAt apos.atName;let (f,first) ←holding [ov] (getMethod ov m pl);callWith pos f first (backTo pos (starEach (e::es) X.env)) (backToKw pos (keywordEach [] X.env))):=by rfl)
  (h1:X.prog=P:=by rfl)(h2:X.w=w:=by rfl)(h3:X.K=K:=by rfl)(h4:X.mg=mg:=by rfl)(h5:X.base=base:=by rfl):PE X (.Call (.Attribute o m apos) (e::es) [] pos) (tMD (fun C sp=>Mc P w K mg base C m k sp) m ta t):=by
 subst h1 h2 h3 h4 h5;exact cO k hr ho ha hk hst hpl ht
theorem aAo (k:Nat){pl:Sem Bool}(hr:Room k' X.A)(ho:PE X o ta)(hk:k<=k':=by decide)
  (ht:eval (.Call (.Attribute o m apos) [] [] pos) X.env=(do let ov ←eval o X.env;standAt apos.atName;let (f,first) ←holding [ov] (getMethod ov m pl);callWith pos f first (backTo pos (starEach [] X.env)) (backToKw pos (keywordEach [] X.env))):=by rfl)
  (h1:X.prog=P:=by rfl)(h2:X.w=w:=by rfl)(h3:X.K=K:=by rfl)(h4:X.mg=mg:=by rfl)(h5:X.base=base:=by rfl):PE X (.Call (.Attribute o m apos) [] [] pos) (tMD (fun C sp=>Mc P w K mg base C m k sp) m ta EU):=by
 subst h1 h2 h3 h4 h5;exact cB k hr ho hk ht
end
theorem aCL {v:V}{H:Hp}{Q:VK}{a0 a1 a2 a3 a4 a5 a6 a7 a8 a9 a10 a11 a12:Option V}{l:St} (h:Q v H):gT 13 (a0::a1::a2::a3::a4::a5::a6::a7::a8::a9::a10::a11::a12::some v::l) H Q:=⟨v,rfl,h⟩
theorem aBs {v:V}{H:Hp}{q:St->Hp->Prop}{a0 a1 a2 a3 a4 a5 a6 a7 a8 a9 a10 a11 a12 a:Option V}{l:St} (h:q (a0::a1::a2::a3::a4::a5::a6::a7::a8::a9::a10::a11::a12::some v::l) H):bZ 13 v (a0::a1::a2::a3::a4::a5::a6::a7::a8::a9::a10::a11::a12::a::l) H q:=h
theorem Room.units9 {k:Nat}{A:Around} (r:Room k A):A.units+9<cLine:=by have:=r.un;have:cLine=9900:=rfl;lia
section
variable {X:Cx}{pins:List (Addr×Obj)}{σ:St}{H:Hp}{s:Shared}
end
section
variable {X:Cx}
end
section
variable {K:W.Frag}{H H':Hp}{Q:VK}
end
section
variable {H:Hp}{Q:VK}{σ:St}{ty tx:TE}
end
section
variable {H:Hp}{Q:VK}
end
end L2
namespace L2
open PySem PySem.Spec PyProof.Rows
def SameT (H H':Hp):Prop:=∀b u,H b=some u->(∀ps,u≠ .tbl ps)->H' b=some u
theorem SameT.refl (H:Hp):SameT H H:=fun _ _ e _=>e
theorem Same.t {H H':Hp}(s:Same H H'):SameT H H':=fun b u e _=>s b u e
theorem SameT.trans {H H1 H2:Hp}(s:SameT H H1)(t:SameT H1 H2):SameT H H2:=fun b u e n=>t b u (s b u e n) n
theorem SameT.snoc {H H1 H2:Hp}(s:SameT H H1)(a:Same H1 H2):SameT H H2:=fun b u e n=>a b u (s b u e n)
theorem SameT.seq {K:W.Frag}{H H':Hp}{a:Addr}{xs:List V} (T:SameT H H') (h:SqL K H a xs):SqL K H' a xs:=by
 rcases h with (h|⟨o,h⟩)|h
 ·exact .inl (.inl (T _ _ h fun ps z=>by cases z))
 ·exact .inl (.inr ⟨o,T _ _ h fun ps z=>by cases z⟩)
 ·exact .inr h
theorem SameT.tup {H H':Hp}{a:Addr}{xs:List V} (T:SameT H H') (h:H a=some (.tup xs)):H' a=some (.tup xs):=T _ _ h fun ps z=>by cases z
theorem SameT.lst {H H':Hp}{a:Addr}{xs:List V} (T:SameT H H') (h:H a=some (.lst xs)):H' a=some (.lst xs):=T _ _ h fun ps z=>by cases z
def TabS (H:Hp)(PL:Addr)(pos:Pos)(qual:Str):Prop:=H PL=some (.tbl #[])∨∃(c':Addr) (oc:Obj) (fv:Array Value) (t:Tok),H PL=some (.tbl #[rawInt pos.line,rawInt pos.col,.ref c'])/\H c'=some (kn oc)/\oc.data= .fields fv/\fv[1]? =some (.str qual t)
theorem TabS.same {H H':Hp}{PL:Addr}{pos:Pos}{qual:Str} (x:TabS H PL pos qual) (s:Same H H'):TabS H' PL pos qual:=by
 rcases x with h|⟨c',oc,fv,t,h1,h2,h3⟩
 ·exact .inl (s _ _ h)
 ·exact .inr ⟨c',oc,fv,t,s _ _ h1,s _ _ h2,h3⟩
section
variable {X:Cx}{args:Arguments}{body:Expr}{lsc:Scope}{pos:Pos}{y:Str}{c cL PL:Addr}
def aDG (qual:Str)(args:Arguments)(body:Expr)(lsc:Scope)(y:Str)(c PL:Addr)(pos:Pos):TE:=fun _ H Q=>TabS H PL pos qual ∧
 ∀F fd H',H F=none->LamAt H' F fd qual args body lsc y c->SameT H H'->TabS H' PL pos qual->Q (.ref F) H'
theorem aAj (hcode:X.env.code= .ref cL)(C:W.CodeHd X.base cL PL)(B:X.base.BuiltinsAt X.mg PL)(hcl:closureFor lsc X.env=pure [(y,c)])(hdef:defaultsOf args X.env=([],[]):=by rfl) :
  PE X (.Lambda args body lsc pos) (aDG (X.env.qual++ "<lambda>") args body lsc y c PL pos):=by
 intro pins s σ H Q I h;obtain⟨hT,h⟩:=h;refine W.kla_eval hdef ?_;have hg:s.heap.Ns mainGlobals X.mg:=I.mod.glob.keeps I.bk;obtain⟨bm,ob,b1,b2,b3,b4,b5,b6⟩:=B;rcases hT with hP|⟨c',oc,fv,t,hP,hc',hd,hv⟩
 ·have gP:s.heap.get? PL=some (W.tabObj #[]):=I.hok PL _ hP;have hgP:mainGlobals≠PL:=fun q=>by
   obtain⟨o,es,ep,e,hd,_⟩:=hg;rw[q,gP]at e;cases e;cases hd
  refine W.kla_makeFunction (mg:=X.mg) (ps:= #[]) hcl I.ok.glob hg hcode (C.keeps I.bk) gP trivial rfl hgP ⟨bm,ob,b1,b2,b3,b4,I.bk _ _ b5,b6⟩ fun c' ctv h' tk hx hge hlt hrec htb=> ?_;obtain⟨c₂,oc,fv,t,e2,hoc,hd,hv⟩:=hrec;cases e2;have hps:(#[]++ #[rawInt pos.line,rawInt pos.col,Value.ref c']:Array Value)= #[rawInt pos.line,rawInt pos.col,Value.ref c']:=Array.empty_append;rw[hps]at htb;generalize hps2:(#[rawInt pos.line,rawInt pos.col,Value.ref c']:Array Value)=ps' at htb;generalize hoF:W.kla_obj "<lambda>" (X.env.qual++ "<lambda>") args body lsc [(y,c)] ((X.mg "__name__").getD .none) c' ctv=oF;have pu:∀b o,h'.get? b=some o->(h'.push oF).get? b=some o:=fun b o e=>Heap.get?_push_of_some _ e;have gF:(h'.push oF).get? h'.objs.size=some oF:=Heap.get?_push_size _ (by subst hoF;rfl);have nPc:PL≠c':=Nat.ne_of_lt (Nat.lt_of_lt_of_le (Heap.lt_size gP) hge);have ncF:c'≠h'.objs.size:=Nat.ne_of_lt hlt;have nPF:PL≠h'.objs.size:=Nat.ne_of_lt (Heap.lt_size htb);have ltc:∀b u,H b=some u->b≠c':=fun b u e=>Nat.ne_of_lt (Nat.lt_of_lt_of_le (I.hok.lt e) hge);have ltF:∀b u,H b=some u->b≠h'.objs.size:=fun b u e=>Nat.ne_of_lt (Nat.lt_trans (Nat.lt_of_lt_of_le (I.hok.lt e) hge) hlt);have at0:∀b,b≠PL->b≠c'->b≠h'.objs.size->upd (upd (upd H PL (.tbl ps')) c' (kn oc)) h'.objs.size (kn oF) b=H b:=fun b n1 n2 n3=>by rw[aH n3,aH n2,aH n1]
  have atP:upd (upd (upd H PL (.tbl ps')) c' (kn oc)) h'.objs.size (kn oF) PL=some (.tbl ps'):=by rw[aH nPF,aH nPc,aQ]
  have atc:upd (upd (upd H PL (.tbl ps')) c' (kn oc)) h'.objs.size (kn oF) c'=some (kn oc):=by rw[aH ncF,aQ]
  have atF:upd (upd (upd H PL (.tbl ps')) c' (kn oc)) h'.objs.size (kn oF) h'.objs.size=some (kn oF):=aQ;generalize upd (upd (upd H PL (.tbl ps')) c' (kn oc)) h'.objs.size (kn oF)=H3 at at0 atP atc atF;have keepH:∀b u,H b=some u->(∀ps,u≠ .tbl ps)->H3 b=some u:=fun b u e nt=>by
   rw[at0 b (fun z=>by rw[z,hP]at e;cases e;exact nt _ rfl) (ltc b u e) (ltF b u e)];exact e
  have sz:∀b o,s.heap.get? b=some o->b≠c'/\b≠h'.objs.size:=fun b o e =>
   ⟨Nat.ne_of_lt (Nat.lt_of_lt_of_le (Heap.lt_size e) hge),Nat.ne_of_lt (Nat.lt_trans (Nat.lt_of_lt_of_le (Heap.lt_size e) hge) hlt)⟩
  have nP:∀b,H b=none->b≠PL:=fun b n z=>by rw[z,hP]at n;cases n
  have I':Inv X pins σ H3 { s with heap:=h'.push oF,toks:=tk }:=by
   refine I.un ⟨fun b o e n _ _=>pu b o (hx b o (nP b n) e),fun b o e n _ _=>⟨o.slots,pu b o (hx b o (nP b n) e)⟩,fun b o e n _=> ?_,fun b o e _=> ?_,fun b xs e=>keepH b _ e (fun ps z=>by cases z),fun b o u e=>keepH b _ e (fun ps z=>by cases z),fun b ps e=> ?_⟩ fun b o e=> ?_
   ·rw[at0 b (nP b n) (sz b o e).1 (sz b o e).2];exact n
   ·by_cases hb:b=PL
    ·subst hb;exact⟨_,pu _ _ htb⟩
    ·exact⟨o,pu b o (hx b o hb e)⟩
   ·by_cases hb:b=PL
    ·subst hb;rw[hP]at e;cases e;exact⟨ps',by rw[atP,Array.empty_append]⟩
    ·refine⟨#[],?_⟩;rw[at0 b hb (ltc b _ e) (ltF b _ e),e,Array.append_empty]
   ·by_cases hF:b=h'.objs.size
    ·subst hF;rw[atF]at e;cases e;exact HQ gF
    by_cases hc':b=c'
    ·subst hc';rw[atc]at e;cases e;exact HQ (pu _ _ hoc)
    by_cases hb:b=PL
    ·subst hb;rw[atP]at e;cases e;exact pu _ _ htb
    rw[at0 b hb hc' hF]at e;refine(I.hok b o e).stay (fun d u hd' q=>pu d u (hx d u ?_ q)) (fun d q=>keepH d _ q fun ps z=>by cases z) fun d xs q=>keepH d _ q fun ps z=>by cases z
    rcases hd' with z|z
    ·rw[z];exact hb
    ·intro z2;rw[z2,hP]at z;cases z
  refine⟨.ref h'.objs.size,H3,I',rfl,h _ _ H3 ?_ ⟨c',_,ctv,oc,fv,t,rfl,by rw[hoF];exact atF,atc,hd,hv⟩ keepH (.inr ⟨c',oc,fv,t,by rw[atP,hps2],atc,hd,hv⟩)⟩;exact I.hok.fresh (Nat.le_trans hge (Nat.le_of_lt hlt))
 ·have gP:s.heap.get? PL=some (W.tabObj #[rawInt pos.line,rawInt pos.col,.ref c']):=I.hok PL _ hP;refine W.kla_makeFunctionHit (mg:=X.mg) (ps:= #[rawInt pos.line,rawInt pos.col,.ref c']) (cv:= .ref c') hcl I.ok.glob hg hcode (C.keeps I.bk) gP (by simp[TriplesOk,rawInt]) (by simp[codeAmong,rawInt]) ⟨bm,ob,b1,b2,b3,b4,I.bk _ _ b5,b6⟩ fun ctv h' tk hx hge=> ?_;generalize hoF:W.kla_obj "<lambda>" (X.env.qual++ "<lambda>") args body lsc [(y,c)] ((X.mg "__name__").getD .none) c' ctv=oF;have hoF':=hoF;unfold W.kla_obj at hoF';rw[hoF'];have pu:∀b o,h'.get? b=some o->(h'.push oF).get? b=some o:=fun b o e=>Heap.get?_push_of_some _ e;have gF:(h'.push oF).get? h'.objs.size=some oF:=Heap.get?_push_size _ (by subst hoF;rfl);have ltF:∀b u,H b=some u->b≠h'.objs.size:=fun b u e=>Nat.ne_of_lt (Nat.lt_of_lt_of_le (I.hok.lt e) hge);have sF:Same H (upd H h'.objs.size (kn oF)):=fun b u e=>by rw[aH (ltF b u e)];exact e
  have I':Inv X pins σ (upd H h'.objs.size (kn oF)) { s with heap:=h'.push oF,toks:=tk }:=by
   refine I.un ⟨fun b o e n _ _=>pu b o (hx b o e),fun b o e n _ _=>⟨o.slots,pu b o (hx b o e)⟩,fun b o e n _=> ?_,fun b o e _=>⟨o,pu b o (hx b o e)⟩,fun b xs e=>sF _ _ e,fun b o u e=>sF _ _ e,fun b ps e=>⟨#[],by rw[Array.append_empty];exact sF _ _ e⟩⟩ fun b o e=> ?_
   ·rw[aH (Nat.ne_of_lt (Nat.lt_of_lt_of_le (Heap.lt_size e) hge))];exact n
   ·by_cases hF:b=h'.objs.size
    ·subst hF;rw[aQ]at e;cases e;exact HQ gF
    ·rw[aH hF]at e;exact(I.hok b o e).stay (fun d u hd' q=>pu d u (hx d u q)) (fun d q=>sF _ _ q) fun d xs q=>sF _ _ q
  refine⟨.ref h'.objs.size,_,I',rfl,h _ _ _ (I.hok.fresh hge) ⟨c',_,ctv,oc,fv,t,rfl,by rw[hoF];exact aQ,sF _ _ hc',hd,hv⟩ (Same.t sF) (.inr ⟨c',oc,fv,t,sF _ _ hP,sF _ _ hc',hd,hv⟩)⟩
end
theorem SE {α:Type}{J:It}{g:TG}{ti:TT}{te:TE}{σ0:St}{fin:List V->Hp->Prop}{H:Hp} (S:Hp->Hp->Prop) (sr:∀H,S H H) (st:∀H1 H2 H3,S H1 H2->S H2 H3->S H1 H3) (xs:List α) (c:α->Bool) (P:α->V->Hp->Prop) (hm:∀x y H1 H2,P x y H1->S H1 H2->P x y H2) (hn:xs.length<=sizeLine)
  (hgo:∀i H1,S H H1->i<xs.length->J.go i H1)(hst:∀H1,S H H1->J.stop xs.length H1)
  (hb:∀i x H1,xs[i]? =some x->S H H1->∀v H',J.yld i H1 v H'->S H1 H'/\∃σ2:St,σ2.length=σ0.length/\(∀(j:Nat) v,σ0[j]? =some (some v)->σ2[j]? =some (some v))/\(∀R:St->Hp->Prop,R σ2 H'->g v σ0 H' R) ∧
   (∀R:Bool->Hp->Prop,(∀H2,S H' H2->R (c x) H2)->ti σ2 H' R)/\(c x=true->∀H2,S H' H2->∀R:VK,(∀y H3,P x y H3->S H2 H3->R y H3)->te σ2 H2 R))
  (hf:∀ys H1,S H H1->Paired (fun x y=>P x y H1) (xs.filter c) ys->fin ys H1):dI J g ti te σ0 fin H:=by
 refine⟨fun i m ys H1=>i+m=xs.length/\S H H1/\Paired (fun x y=>P x y H1) ((xs.take i).filter c) ys,⟨xs.length,by lia,sr _,.nil⟩,?_⟩;rintro i m ys H1 ⟨e1,s1,pr⟩;cases m with
 | zero =>
  have ei:i=xs.length:=by lia
  subst ei;rw[List.take_length]at pr;exact .inl ⟨hst H1 s1,hf ys H1 s1 pr⟩
 | succ m =>
  have hi:i<xs.length:=by lia
  refine .inr ⟨hgo i H1 s1 hi,fun v H' y=> ?_⟩;have ex:xs[i]? =some xs[i]:=List.getElem?_eq_getElem hi;have etake:xs.take (i+1)=xs.take i++[xs[i]]:=by rw[List.take_succ,ex];rfl
  have hlen:ys.length<=i:=by
   rw[←Paired.length pr];exact Nat.le_trans (List.length_filter_le _ _) (by rw[List.length_take];lia)
  obtain⟨s2,σ2,l2,c2,hg,ht,he⟩:=hb i xs[i] H1 ex s1 v H' y;refine hg _ ⟨⟨l2,c2⟩,ht _ fun H2 s3=> ?_⟩;have s13:=st _ _ _ s2 s3;cases hc:c xs[i] with
  | true =>
   show te σ2 H2 _;refine he hc H2 s3 _ fun y H3 py s4=>⟨by lia,m,by lia,by lia,st _ _ _ s1 (st _ _ _ s13 s4),?_⟩
   rw[etake,List.filter_append,List.filter_cons_of_pos hc];exact Paired.snoc (Paired.imp' (fun a b h=>hm a b _ _ h (st _ _ _ s13 s4)) pr) py
  | false =>
   show ∃m',_;refine⟨m,by lia,by lia,st _ _ _ s1 s13,?_⟩;rw[etake,List.filter_append,List.filter_cons_of_neg (by rw[hc];exact Bool.false_ne_true),List.filter_nil,List.append_nil];exact Paired.imp' (fun a b h=>hm a b _ _ h s13) pr
section
variable {K:W.Frag}{ti:TT}{te:TE}{σ:St}{ci:List Nat}{rest:St}{fin:List V->Hp->Prop}{H:Hp}{a:Addr}{α:Type}
theorem aAC {vs:List V}{xs:List α} (S:Hp->Hp->Prop) (sr:∀H,S H H) (st:∀H1 H2 H3,S H1 H2->S H2 H3->S H1 H3) (F:V->α->Prop) (P:α->V->Hp->Prop) (hm:∀x y H1 H2,P x y H1->S H1 H2->P x y H2) (hn:xs.length<=sizeLine) (hr:ci.map (fun i=>(σ[i]?).join)=rest) (hl:∀H1,S H H1->SqL K H1 a vs) (hv:Paired F vs xs)
  (ht:∀v x H1,F v x->x∈xs->S H H1->∀R:Bool->Hp->Prop,(∀H2,S H1 H2->R true H2)->ti (some v::rest) H1 R)
  (he:∀v x H1,F v x->x∈xs->S H H1->∀R:VK,(∀y H2,P x y H2->S H1 H2->R y H2)->te (some v::rest) H1 R)
  (hf:∀ys H1,S H H1->Paired (fun x y=>P x y H1) xs ys->fin ys H1):dI (Itl K a) (bZ 0) ti te (b9 1 ci σ) fin H:=by
 rw[xB hr];have hlen:vs.length=xs.length:=Paired.length hv;refine SE S sr st xs (fun _=>true) P hm hn (fun i H1 s hi=>⟨vs,vs[i],hl _ s,List.getElem?_eq_getElem (by lia)⟩) (fun H1 s=>⟨vs,hl _ s,by lia⟩) (fun i x H1 hx s1 v H' y=> ?_) (fun ys H1 s h=>hf ys H1 s (by rw[d6]at h;exact h));obtain⟨rfl,e2⟩:=y;have ev:=e2 vs (hl _ s1);have hF:=Paired.at2 hv ev hx;have hmem:=List.mem_of_getElem? hx;refine⟨sr _,some v::rest,rfl,fun j v hv=> ?_,fun R h=>h,fun R h=>ht v x _ hF hmem s1 R h,fun hc H2 s2 R h=>he v x H2 hF hmem (st _ _ _ s1 s2) R h⟩;cases j with
 | zero=>cases hv
 | succ j=>exact hv
end
end L2
namespace L2
open PySem PySem.W PyProof.Rows
section
variable {X:Cx}{pins:List (Addr×Obj)}{σ:St}{H:Hp}{s:Shared}
end
open Classical in
section
variable {X:Cx}{K:W.Frag}
open Classical in
open Classical in
open Classical in
end
section
variable {K:W.Frag}{ti:TT}{te:TE}{σ:St}{ci:List Nat}{rest:St}{fin:List V->Hp->Prop}{H:Hp}{a:Addr}
end
section
variable {X:Cx}
end
section
variable {X:Cx}{ek ev:Expr}{tk tv:TE}{pos:Pos}
def D1P (p:Addr)(Q:VK)(y:V):VK:=fun v H2=>∃k,y=kV k/\H2 p=some (.dK [])/\Q (.ref p) (upd H2 p (.dK [(k,v)]))
def tD1 (tk tv:TE):TE:=fun σ H Q=>∀p,H p=none->tk σ (upd H p (.dK [])) fun y H1=>tv σ H1 (D1P p Q y)
theorem aDC (hk:PE X ek tk)(hv:PE X ev tv):PE X (.Dict [some ek] [ev] pos) (tD1 tk tv):=by
 intro pins s σ H Q I h;have I0:=I.laid (a:=s.heap.objs.size) (o:= .dK []) (t':=s.toks) (fun _ _ q=>Heap.get?_push_of_some _ q) (Nat.le_refl _) (J6 s.heap I.big);have h0:=h s.heap.objs.size (I.hok.fresh (Nat.le_refl _));refine wpAny_Dict_walk (knd:=bY X.prog X.w) rfl rfl (by simp) (by show 1<=15;decide) (pairTrees_cons_walk ?_);refine thn (hk pins _ σ _ _ I0 h0) fun u s1 x1=> ?_;obtain⟨y,H1,I1,ry,q1⟩:=x1;refine thn (hv pins s1 σ H1 _ I1 q1) fun r s2 x2=>pairTrees_nil_walk ?_;obtain⟨v,H2,I2,rv,k,ey,e,q⟩:=x2;subst ey;obtain⟨z,hd,vs,rel,dd⟩:=XY I2.hok e;have hvs:vs=[]:=by cases rel;rfl
 subst hvs;refine⟨[(k,r)],⟨sP ry,rfl,trivial⟩,dd,fun h' dd' hs=> ?_⟩;have he:∃q,h'.get? s.heap.objs.size=some q:=let ⟨q,_,_,hq,_⟩:=dd';⟨q,hq⟩;exact⟨.ref _,_,E8 I2 (by rw[e];exact True.intro) hs he (xC (by rw[sizeLine_eq];show 1<=16777216;decide) hd (.cons ⟨rfl,rv⟩ .nil) dd'),rfl,q⟩
theorem aDQ {σ:St}{H:Hp}{Q:VK} (h:∀p H',H p=none->Same H H'->H' p=some (.dK [])->tk σ H' fun y H1=>tv σ H1 (D1P p Q y)):tD1 tk tv σ H Q:=fun p hp=>h p _ hp (same_upd hp) aQ
theorem aCh {H:Hp}{Q:VK}{p:Addr}{i:Int}{v:V} (e:H p=some (.dK [])) (h:∀H',SameBut p H H'->H' p=some (.dK [(.inl i,v)])->Q (.ref p) H'):D1P p Q (.int i) v H:=⟨.inl i,rfl,e,h _ SameBut.upd aQ⟩
def XF (K:W.Frag):V->V->Hp->VK->Prop:=fun o i H Q=>∃(p:Addr) (xs:List V) (j:Nat) (v:V),o= .ref p/\i= .int (j:Int)/\SqL K H p xs/\xs[j]? =some v/\Q v H
theorem KI:aBq X (XF X.K):=by
 intro pins s σ H o i ov iv Q I ro ri h;obtain⟨p,xs,j,v,rfl,rfl,hq,he,q⟩:=h;cases ro;obtain⟨t,rfl⟩:=ri;obtain⟨its,r,pl,hz⟩:=I.list hq;obtain⟨w,ew,rw'⟩:=r.get he;have hl:=r.length;have hn:=qD;have hj:=(List.getElem?_eq_some_iff.mp he).1;have fin:EP X pins σ Q w s:=⟨v,H,I,rw',q⟩
 exact wpAny_getItem_list pl.isList (by lia) (by lia) (by rw[Int.toNat_natCast];simpa using ew) fin
theorem NJ {K:W.Frag}{H:Hp}{Q:VK}{p:Addr}{xs:List V}{j:Nat}{v:V} (e:SqL K H p xs) (l:xs[j]? =some v) (h:Q v H):XF K (.ref p) (.int (j:Int)) H Q:=⟨p,xs,j,v,rfl,rfl,e,l,h⟩
end
structure FX (K:Frag)(nm qual:Str)(st:Stmt)(ps:List Str)(a:Addr) where
 d:FuncData
 F:FunV K nm qual st a d
 b:Binds K d ps []
inductive FnL (K:Frag)(nm qual:Str)(st:Stmt)(f:Addr):Prop
 | mk {oc:Value}{od an:Option Addr}{osl:Array (Option Value)}{kV doc pm cdv ct:Value} (l:K.lookup f=some ⟨oc,od,.func (fnOf nm qual (dP st) (c4 st) (aF st) .none kV doc pm an cdv ct),osl⟩) (c:codeIn K cdv qual=true) (k:keepIn K (.ref f)=true):FnL K nm qual st f
section
variable {K:Frag}{x qual:Str}{st:Stmt}{f:Addr}
abbrev fnB (x qual:Str)(st:Stmt)(kV doc pm cdv ct:Value)(an:Option Addr)(us:List Value):Sem (List (Str×Value)):=bindArgs (fnOf x qual (dP st) (c4 st) (aF st) .none kV doc pm an cdv ct) ⟨us,[]⟩
theorem FnL.ne {ps:List Str}(L:FnL K x qual st f)(h:∀kV doc pm cdv ct an (us:List Value),us.length=ps.length->fnB x qual st kV doc pm cdv ct an us=pure (ps.zip us)):Nonempty (FX K x qual st ps f):=by
 cases L with
 | mk l c k=>exact⟨⟨_,pS l c k,.all fun us hl=>h _ _ _ _ _ _ us hl⟩⟩
noncomputable def FnL.xn {ps:List Str} (L:FnL K x qual st f) (h:∀kV doc pm cdv ct an (us:List Value),us.length=ps.length->fnB x qual st kV doc pm cdv ct an us=pure (ps.zip us)):FX K x qual st ps f:=Classical.choice (L.ne h)
noncomputable def FnL.x1 {p1:Str} (L:FnL K x qual st f) (h:∀kV doc pm cdv ct an a,fnB x qual st kV doc pm cdv ct an [a]=pure [(p1,a)]):FX K x qual st [p1] f:=L.xn fun kV doc pm cdv ct an us hl=>by
 obtain _|⟨a,_|⟨b,us⟩⟩:=us
 ·cases hl
 ·exact h ..
 ·cases hl
noncomputable def FnL.x2 {p1 p2:Str} (L:FnL K x qual st f) (h:∀kV doc pm cdv ct an a b,fnB x qual st kV doc pm cdv ct an [a,b]=pure [(p1,a),(p2,b)]):FX K x qual st [p1,p2] f:=L.xn fun kV doc pm cdv ct an us hl=>by
 obtain _|⟨a,_|⟨b,_|⟨c,us⟩⟩⟩:=us
 ·cases hl
 ·cases hl
 ·exact h ..
 ·cases hl
noncomputable def FnL.x3 {p1 p2 p3:Str} (L:FnL K x qual st f) (h:∀kV doc pm cdv ct an a b c,fnB x qual st kV doc pm cdv ct an [a,b,c]=pure [(p1,a),(p2,b),(p3,c)]):FX K x qual st [p1,p2,p3] f:=L.xn fun kV doc pm cdv ct an us hl=>by
 obtain _|⟨a,_|⟨b,_|⟨c,_|⟨d,us⟩⟩⟩⟩:=us
 ·cases hl
 ·cases hl
 ·cases hl
 ·exact h ..
 ·cases hl
noncomputable def FnL.x4 {p1 p2 p3 p4:Str} (L:FnL K x qual st f) (h:∀kV doc pm cdv ct an a b c d,fnB x qual st kV doc pm cdv ct an [a,b,c,d]=pure [(p1,a),(p2,b),(p3,c),(p4,d)]):FX K x qual st [p1,p2,p3,p4] f:=L.xn fun kV doc pm cdv ct an us hl=>by
 obtain _|⟨a,_|⟨b,_|⟨c,_|⟨d,_|⟨e,us⟩⟩⟩⟩⟩:=us
 ·cases hl
 ·cases hl
 ·cases hl
 ·cases hl
 ·exact h ..
 ·cases hl
noncomputable def FnL.x5 {p1 p2 p3 p4 p5:Str} (L:FnL K x qual st f) (h:∀kV doc pm cdv ct an a b c d e,fnB x qual st kV doc pm cdv ct an [a,b,c,d,e]=pure [(p1,a),(p2,b),(p3,c),(p4,d),(p5,e)]):FX K x qual st [p1,p2,p3,p4,p5] f:=L.xn fun kV doc pm cdv ct an us hl=>by
 obtain _|⟨a,_|⟨b,_|⟨c,_|⟨d,_|⟨e,_|⟨g,us⟩⟩⟩⟩⟩⟩:=us
 ·cases hl
 ·cases hl
 ·cases hl
 ·cases hl
 ·cases hl
 ·exact h ..
 ·cases hl
noncomputable def FnL.x6 {p1 p2 p3 p4 p5 p6:Str} (L:FnL K x qual st f) (h:∀kV doc pm cdv ct an a b c d e g,fnB x qual st kV doc pm cdv ct an [a,b,c,d,e,g]=pure [(p1,a),(p2,b),(p3,c),(p4,d),(p5,e),(p6,g)]):FX K x qual st [p1,p2,p3,p4,p5,p6] f:=L.xn fun kV doc pm cdv ct an us hl=>by
 obtain _|⟨a,_|⟨b,_|⟨c,_|⟨d,_|⟨e,_|⟨g,_|⟨i,us⟩⟩⟩⟩⟩⟩⟩:=us
 ·cases hl
 ·cases hl
 ·cases hl
 ·cases hl
 ·cases hl
 ·cases hl
 ·exact h ..
 ·cases hl
def noF (K:Frag)(C:Addr)(fs:List Str):Bool:=fs.all fun x=>(findIn K (.ref C) x).any (·.isNone)
theorem cA {C:Addr}{fs:List Str} (h:noF K C fs=true) (i:Nat) {x:Str} (e:fs[i]? =some x):NoAttr K C x:=by
 have h2:=List.all_eq_true.mp h x (List.mem_of_getElem? e);unfold NoAttr;cases h3:findIn K (.ref C) x with
 | none=>rw[h3]at h2;cases h2
 | some o =>
  rw[h3]at h2;cases o with
  | none=>rfl
  | some v=>cases h2
end
end L2
namespace L2
def aBP {α:Type}:Nat->(List α->Prop)->Prop
 | 0,p=>p []
 | n+1,p=>∀a,aBP n (fun l=>p (a::l))
theorem MW {α:Type}:∀(n:Nat) (p:List α->Prop),aBP n p->∀us:List α,us.length=n->p us
 | 0,_,h,[],_=>h
 | n+1,_,h,a::us,e=>MW n _ (h a) us (by simpa using e)
 | 0,_,_,_::_,e=>by simp at e
 | _+1,_,_,[],e=>by simp at e
end L2
namespace Prf
open PySem L2
set_option hygiene false
local macro_rules| `(tactic| walk_at"fs")=> `(tactic| exact⟨rfl,rfl,rfl,by decide +kernel,rfl,by decide +kernel,by decide +kernel⟩)
local macro_rules| `(tactic| walk_at"hu")=> `(tactic| (have hu0:=Room.units0 hr;have hu1:=Room.units1 hr;have hu9:=Room.units9 hr))
set_option hygiene true
def top (i:Nat):Stmt:=PySem.Challenge.pw_firstout_k44_how_many_and_when.main.body.getD i (.Pass ⟨0,0,0,0⟩)
abbrev vM:Stmt:=top 10
theorem sc_added_up:aL ["plan","going","turn","name","number"] ["plan"] (aF vM):=by walk_at"fs"
abbrev yP:Stmt:=top 11
theorem sc_as_told:aL ["plan"] ["plan"] (aF yP):=by walk_at"fs"
abbrev iV:Stmt:=top 12
theorem sc_rows_that_count:aL ["house","plan","doors"] ["house","plan"] (aF iV):=by walk_at"fs"
abbrev A9:Stmt:=top 13
theorem sc_out_by:aL ["house","plan","turn","rows"] ["house","plan","turn"] (aF A9):=by walk_at"fs"
abbrev mV:Stmt:=bD (top 15) 0
theorem sc_Net___init__:aL ["self"] ["self"] (aF mV):=by walk_at"fs"
abbrev mH:Stmt:=bD (top 15) 1
theorem sc_Net_new_node:aL ["self"] ["self"] (aF mH):=by walk_at"fs"
abbrev oA:Stmt:=bD (top 15) 2
theorem sc_Net_new_arc:aL ["self","start","target","most","arc"] ["self","start","target","most"] (aF oA):=by walk_at"fs"
abbrev vD:Stmt:=bD (top 15) 3
theorem sc_Net_sent:aL ["self","arc"] ["self","arc"] (aF vD):=by walk_at"fs"
abbrev lA:Stmt:=bD (top 15) 4
theorem sc_Net_ways_from:aL ["self","source","ways","reached","at","node","arc","target"] ["self","source"] (aF lA):=by walk_at"fs"
abbrev oB:Stmt:=bD (top 15) 5
theorem sc_Net_path_to:aL ["self","ways","node","path","arc"] ["self","ways","node"] (aF oB):=by walk_at"fs"
abbrev jZ:Stmt:=bD (top 15) 6
theorem sc_Net_send_along:aL ["self","path","number","arc"] ["self","path"] (aF jZ):=by walk_at"fs"
abbrev mT:Stmt:=bD (top 15) 7
theorem sc_Net_send_all:aL ["self","source","sink","number","ways"] ["self","source","sink"] (aF mT):=by walk_at"fs"
abbrev gO:Stmt:=bD (top 16) 0
theorem sc_HouseNet___init__:aL ["self","house","room","node"] ["self","house"] (aF gO):=by walk_at"fs"
abbrev iZ:Stmt:=bD (top 16) 1
theorem sc_HouseNet_now_in:aL ["self","room"] ["self","room"] (aF iZ):=by walk_at"fs"
abbrev gR:Stmt:=bD (top 16) 2
theorem sc_HouseNet_add_door:aL ["self","door","target","number"] ["self","door","target"] (aF gR):=by walk_at"fs"
abbrev gS:Stmt:=bD (top 16) 3
theorem sc_HouseNet_send_out:aL ["self","outside","name","door"] ["self"] (aF gS):=by walk_at"fs"
abbrev dZ:Stmt:=bD (top 16) 4
theorem sc_HouseNet_reached_pairs:aL ["self","ways"] ["self"] (aF dZ):=by walk_at"fs"
abbrev eZ:Stmt:=bD (top 16) 5
theorem sc_HouseNet_new_entries:aL ["self","entries","room"] ["self"] (aF eZ):=by walk_at"fs"
abbrev jS:Stmt:=bD (top 16) 6
theorem sc_HouseNet_go_on:aL ["self","entries","name","door","room","node"] ["self"] (aF jS):=by walk_at"fs"
abbrev fA:Stmt:=bD (top 16) 7
theorem sc_HouseNet_keep_others:aL ["self","inside","room"] ["self"] (aF fA):=by walk_at"fs"
abbrev k8:Stmt:=bD (top 16) 8
theorem sc_HouseNet_rows:aL ["self"] ["self"] (aF k8):=by walk_at"fs"
abbrev qZ:Stmt:=top 17
theorem sc_filled_net:aL ["house","net"] ["house"] (aF qZ):=by walk_at"fs"
abbrev tI:Stmt:=top 19
theorem sc_first_out:aL ["house"] ["house"] (aF tI):=by walk_at"fs"
abbrev x9:Stmt:=top 20
theorem sc_most_by:aL ["house","turn"] ["house","turn"] (aF x9):=by walk_at"fs"
abbrev xI:Stmt:=top 21
theorem sc_all_out:aL ["house","outs","turn"] ["house"] (aF xI):=by walk_at"fs"
abbrev vI:Stmt:=top 23
theorem sc_is_whole:aL ["thing"] ["thing"] (aF vI):=by walk_at"fs"
abbrev yA:Stmt:=top 26
theorem sc_is_name:aL ["thing"] ["thing"] (aF yA):=by walk_at"fs"
abbrev tL:Stmt:=top 27
theorem sc_need_name:aL ["part","thing"] ["part","thing"] (aF tL):=by walk_at"fs"
abbrev qS:Stmt:=top 28
theorem sc_need_whole:aL ["part","thing","least"] ["part","thing","least"] (aF qS):=by walk_at"fs"
abbrev eO:Stmt:=bD (top 29) 0
theorem sc_Door___init__:aL ["self","name","start","end","wide"] ["self","name","start","end","wide"] (aF eO):=by walk_at"fs"
abbrev tO:Stmt:=bD (top 29) 1
theorem sc_Door_lets:aL ["self","turn"] ["self","turn"] (aF tO):=by walk_at"fs"
abbrev mL:Stmt:=bD (top 29) 2
theorem sc_Door_is_exit:aL ["self"] ["self"] (aF mL):=by walk_at"fs"
abbrev jT:Stmt:=bD (top 30) 0
theorem sc_Since___init__:aL ["self","name","start","end","wide","since"] ["self","name","start","end","wide","since"] (aF jT):=by walk_at"fs"
abbrev qU:Stmt:=bD (top 30) 1
theorem sc_Since_lets:aL ["self","turn"] ["self","turn"] (aF qU):=by walk_at"fs"
abbrev j7:Stmt:=bD (top 31) 0
theorem sc_Until___init__:aL ["self","name","start","end","wide","until"] ["self","name","start","end","wide","until"] (aF j7):=by walk_at"fs"
abbrev pZ:Stmt:=bD (top 31) 1
theorem sc_Until_lets:aL ["self","turn"] ["self","turn"] (aF pZ):=by walk_at"fs"
abbrev eR:Stmt:=bD (top 32) 0
theorem sc_Beat___init__:aL ["self","name","start","end","wide","every","since"] ["self","name","start","end","wide","every","since"] (aF eR):=by walk_at"fs"
abbrev tJ:Stmt:=bD (top 32) 1
theorem sc_Beat_lets:aL ["self","turn","waited"] ["self","turn"] (aF tJ):=by walk_at"fs"
abbrev iY:Stmt:=bD (top 33) 0
theorem sc_Marked___init__:aL ["self","name","start","end","wide","bits"] ["self","name","start","end","wide","bits"] (aF iY):=by walk_at"fs"
abbrev oI:Stmt:=bD (top 33) 1
theorem sc_Marked_lets:aL ["self","turn"] ["self","turn"] (aF oI):=by walk_at"fs"
abbrev kU:Stmt:=bD (top 34) 0
theorem sc_Told___init__:aL ["self","name","start","end","letting"] ["self","name","start","end","letting"] (aF kU):=by walk_at"fs"
abbrev tH:Stmt:=bD (top 34) 1
theorem sc_Told_lets:aL ["self","turn","letting"] ["self","turn"] (aF tH):=by walk_at"fs"
abbrev qG:Stmt:=top 36
theorem sc_need_turns:aL ["first","last"] ["first","last"] (aF qG):=by walk_at"fs"
abbrev j6:Stmt:=top 37
theorem sc_need_each_once:aL ["names","seen","name"] ["names"] (aF j6):=by walk_at"fs"
abbrev iX:Stmt:=top 38
theorem sc_rooms_spoken_of:aL ["doors","people","names","door"] ["doors","people"] (aF iX):=by walk_at"fs"
abbrev qC:Stmt:=top 39
theorem sc_need_rooms:aL ["names","sizes","name"] ["names","sizes"] (aF qC):=by walk_at"fs"
abbrev mF:Stmt:=top 40
theorem sc_added_people:aL ["sizes","people","inside","room","number"] ["sizes","people"] (aF mF):=by walk_at"fs"
abbrev qV:Stmt:=top 41
theorem sc_need_space:aL ["sizes","people","inside"] ["sizes","people"] (aF qV):=by walk_at"fs"
abbrev d0:Stmt:=bD (top 42) 0
theorem sc_House___init__:aL ["self","rooms","doors","people","last","first","sizes","door"] ["self","rooms","doors","people","last","first"] (aF d0):=by walk_at"fs"
abbrev nZ:Stmt:=bD (top 42) 1
theorem sc_House_rooms:aL ["self"] ["self"] (aF nZ):=by walk_at"fs"
abbrev oK:Stmt:=bD (top 42) 2
theorem sc_House_doors:aL ["self"] ["self"] (aF oK):=by walk_at"fs"
abbrev i6:Stmt:=bD (top 42) 3
theorem sc_House_need_room:aL ["self","room"] ["self","room"] (aF i6):=by walk_at"fs"
abbrev oJ:Stmt:=bD (top 42) 4
theorem sc_House_holds:aL ["self","room"] ["self","room"] (aF oJ):=by walk_at"fs"
abbrev oM:Stmt:=bD (top 42) 5
theorem sc_House_found:aL ["self","room"] ["self","room"] (aF oM):=by walk_at"fs"
abbrev qB:Stmt:=bD (top 42) 8
theorem sc_House_door:aL ["self","name"] ["self","name"] (aF qB):=by walk_at"fs"
abbrev qF:Stmt:=bD (top 42) 9
theorem sc_House_lets:aL ["self","name","turn","door"] ["self","name","turn"] (aF qF):=by walk_at"fs"
abbrev nY:Stmt:=bD (top 42) 10
theorem sc_House_total:aL ["self"] ["self"] (aF nY):=by walk_at"fs"
abbrev mX:Stmt:=top 44
theorem sc__law_cell_at:aL ["_law_script","_law_k"] ["_law_script","_law_k"] (aF mX):=by walk_at"fs"
abbrev qK:Stmt:=top 45
theorem sc__law_mixed:aL ["_law_cell","_law_k","_law_number"] ["_law_cell","_law_k"] (aF qK):=by walk_at"fs"
abbrev tF:Stmt:=top 46
theorem sc__law_name:aL ["_law_cell","_law_k","_law_number","_law_word"] ["_law_cell","_law_k"] (aF tF):=by walk_at"fs"
abbrev qY:Stmt:=top 47
theorem sc__law_rooms:aL ["_law_cells","_law_rooms_here","_law_k","_law_number","_law_holds","_law_found"] ["_law_cells"] (aF qY):=by walk_at"fs"
abbrev tM:Stmt:=top 48
theorem sc__law_spec:aL ["_law_cell","_law_k","_law_rooms_here","_law_turns","_law_number","_law_wide","_law_start","_law_end","_law_kind","_law_first","_law_more"] ["_law_cell","_law_k","_law_rooms_here","_law_turns"] (aF tM):=by walk_at"fs"
abbrev dW:Stmt:=top 50
theorem sc__law_door:aL ["_law_spec_here","_law_name_here","_law_start","_law_end","_law_kind","_law_wide","_law_first","_law_more"] ["_law_spec_here"] (aF dW):=by walk_at"fs"
abbrev oG:Stmt:=top 51
theorem sc__law_digits:aL ["_law_cell","_law_bases","_law_found","_law_base"] ["_law_cell","_law_bases"] (aF oG):=by walk_at"fs"
abbrev iT:Stmt:=top 52
theorem sc__law_rooms_told:aL ["_law_cells","_law_numbers","_law_rooms_here","_law_k"] ["_law_cells"] (aF iT):=by walk_at"fs"
abbrev jX:Stmt:=top 53
theorem sc__law_spec_told:aL ["_law_cell","_law_k","_law_rooms_here","_law_turns","_law_many","_law_kind","_law_start","_law_end","_law_wide","_law_first","_law_more","_law_into"] ["_law_cell","_law_k","_law_rooms_here","_law_turns"] (aF jX):=by walk_at"fs"
abbrev iU:Stmt:=top 54
theorem sc__law_drawn_told:aL ["_law_script","_law_cells","_law_rooms_here","_law_more","_law_first","_law_turns","_law_specs"] ["_law_script"] (aF iU):=by walk_at"fs"
abbrev qJ:Stmt:=top 55
theorem sc__law_drawn:aL ["_law_script","_law_cells","_law_rooms_here","_law_first","_law_turns","_law_specs"] ["_law_script"] (aF qJ):=by walk_at"fs"
abbrev qE:Stmt:=top 56
theorem sc__law_house:aL ["_law_rooms_here","_law_specs","_law_turns","_law_people","_law_doors"] ["_law_rooms_here","_law_specs","_law_turns"] (aF qE):=by walk_at"fs"
abbrev pX:Stmt:=top 57
theorem sc__law_whole:aL ["_law_found"] ["_law_found"] (aF pX):=by walk_at"fs"
abbrev wH:Stmt:=top 58
theorem sc__law_out:aL ["_law_plan","_law_specs","_law_turn","_law_exits"] ["_law_plan","_law_specs","_law_turn"] (aF wH):=by walk_at"fs"
abbrev sL:Stmt:=top 59
theorem sc_law:aL ["_law_script","_law_rooms_here","_law_specs","_law_turns","_law_house_here","_law_plan","_law_people","_law_due","_law_before","_law_turn","_law_many","_law_told","_law_empty","_law_found"] ["_law_script"] (aF sL):=by walk_at"fs"
theorem WM:("" :Str).length=0:=by rw[cK];rfl
theorem UP:("name" :Str).length=4:=by rw[cK];rfl
theorem VJ:("start" :Str).length=5:=by rw[cK];rfl
theorem U1:("wide" :Str).length=4:=by rw[cK];rfl
theorem U9:("since" :Str).length=5:=by rw[cK];rfl
theorem U2:("until" :Str).length=5:=by rw[cK];rfl
theorem W1:("every" :Str).length=5:=by rw[cK];rfl
theorem U5:("bits" :Str).length=4:=by rw[cK];rfl
theorem WU:("the first turn is below 0" :Str).length=25:=by rw[cK];rfl
theorem W0:("the last turn is below the first one" :Str).length=36:=by rw[cK];rfl
theorem PQ:("a row of people is below 0" :Str).length=26:=by rw[cK];rfl
theorem QC:("more are in a room than it holds" :Str).length=32:=by rw[cK];rfl
theorem OP:(" is no name" :Str).length=11:=by rw[cK];rfl
theorem OR:(" is no whole number from " :Str).length=25:=by rw[cK];rfl
theorem P3:(" on" :Str).length=3:=by rw[cK];rfl
theorem OT:("end" :Str).length=3:=by rw[cK];rfl
theorem PK:("abcdefghijklmnopqrstuvwxyz" :Str).length=26:=by rw[cK];rfl
theorem PZ:("a" :Str).length=1:=by rw[cK];rfl
theorem O6:("z" :Str).length=1:=by rw[cK];rfl
abbrev aEk:List Str:=["targets","spare","arcs","house","turn","outs","cuts","net","source","pair_nodes","door_arcs","plenty","name","start","end","wide","since","until","every","bits","letting","first","last","sizes","people","named_doors"]
structure DCls (K:W.Frag)(C:Addr):Prop where
 ic:ICls K C
 nf:noF K C aEk=true
theorem DCls.n_targets {K:W.Frag}{C:Addr} (d:DCls K C):NoAttr K C "targets" :=cA d.nf 0 rfl
theorem DCls.n_spare {K:W.Frag}{C:Addr} (d:DCls K C):NoAttr K C "spare" :=cA d.nf 1 rfl
theorem DCls.n_arcs {K:W.Frag}{C:Addr} (d:DCls K C):NoAttr K C "arcs" :=cA d.nf 2 rfl
theorem DCls.n_house {K:W.Frag}{C:Addr} (d:DCls K C):NoAttr K C "house" :=cA d.nf 3 rfl
theorem DCls.n_turn {K:W.Frag}{C:Addr} (d:DCls K C):NoAttr K C "turn" :=cA d.nf 4 rfl
theorem DCls.n_outs {K:W.Frag}{C:Addr} (d:DCls K C):NoAttr K C "outs" :=cA d.nf 5 rfl
theorem DCls.n_cuts {K:W.Frag}{C:Addr} (d:DCls K C):NoAttr K C "cuts" :=cA d.nf 6 rfl
theorem DCls.n_net {K:W.Frag}{C:Addr} (d:DCls K C):NoAttr K C "net" :=cA d.nf 7 rfl
theorem DCls.n_source {K:W.Frag}{C:Addr} (d:DCls K C):NoAttr K C "source" :=cA d.nf 8 rfl
theorem DCls.n_pair_nodes {K:W.Frag}{C:Addr} (d:DCls K C):NoAttr K C "pair_nodes" :=cA d.nf 9 rfl
theorem DCls.n_door_arcs {K:W.Frag}{C:Addr} (d:DCls K C):NoAttr K C "door_arcs" :=cA d.nf 10 rfl
theorem DCls.n_plenty {K:W.Frag}{C:Addr} (d:DCls K C):NoAttr K C "plenty" :=cA d.nf 11 rfl
theorem DCls.n_name {K:W.Frag}{C:Addr} (d:DCls K C):NoAttr K C "name" :=cA d.nf 12 rfl
theorem DCls.n_start {K:W.Frag}{C:Addr} (d:DCls K C):NoAttr K C "start" :=cA d.nf 13 rfl
theorem DCls.n_end {K:W.Frag}{C:Addr} (d:DCls K C):NoAttr K C "end" :=cA d.nf 14 rfl
theorem DCls.n_wide {K:W.Frag}{C:Addr} (d:DCls K C):NoAttr K C "wide" :=cA d.nf 15 rfl
theorem DCls.n_since {K:W.Frag}{C:Addr} (d:DCls K C):NoAttr K C "since" :=cA d.nf 16 rfl
theorem DCls.n_until {K:W.Frag}{C:Addr} (d:DCls K C):NoAttr K C "until" :=cA d.nf 17 rfl
theorem DCls.n_every {K:W.Frag}{C:Addr} (d:DCls K C):NoAttr K C "every" :=cA d.nf 18 rfl
theorem DCls.n_bits {K:W.Frag}{C:Addr} (d:DCls K C):NoAttr K C "bits" :=cA d.nf 19 rfl
theorem DCls.n_letting {K:W.Frag}{C:Addr} (d:DCls K C):NoAttr K C "letting" :=cA d.nf 20 rfl
theorem DCls.n_first {K:W.Frag}{C:Addr} (d:DCls K C):NoAttr K C "first" :=cA d.nf 21 rfl
theorem DCls.n_last {K:W.Frag}{C:Addr} (d:DCls K C):NoAttr K C "last" :=cA d.nf 22 rfl
theorem DCls.n_sizes {K:W.Frag}{C:Addr} (d:DCls K C):NoAttr K C "sizes" :=cA d.nf 23 rfl
theorem DCls.n_people {K:W.Frag}{C:Addr} (d:DCls K C):NoAttr K C "people" :=cA d.nf 24 rfl
theorem DCls.n_named_doors {K:W.Frag}{C:Addr} (d:DCls K C):NoAttr K C "named_doors" :=cA d.nf 25 rfl
set_option genInjectivity false in set_option genSizeOf false in structure M (K:W.Frag) (mg:Str->Option Value) where
 wT:Addr
 pN:FX K "added_up" "added_up" vM ["plan"] wT
 yW:Addr
 sY:FX K "as_told" "as_told" yP ["plan"] yW
 i7:Addr
 fG:FX K "rows_that_count" "rows_that_count" iV ["house","plan"] i7
 CD:Addr
 wU:FX K "out_by" "out_by" A9 ["house","plan","turn"] CD
 rM:Addr
 lL:FX K "filled_net" "filled_net" qZ ["house"] rM
 tR:Addr
 nN:FX K "first_out" "first_out" tI ["house"] tR
 yX:Addr
 sX:FX K "most_by" "most_by" x9 ["house","turn"] yX
 yY:Addr
 tE:FX K "all_out" "all_out" xI ["house"] yY
 wS:Addr
 pP:FX K "is_whole" "is_whole" vI ["thing"] wS
 zB:Addr
 sZ:FX K "is_name" "is_name" yA ["thing"] zB
 tT:Addr
 nL:FX K "need_name" "need_name" tL ["part","thing"] tT
 rJ:Addr
 lY:FX K "need_whole" "need_whole" qS ["part","thing","least"] rJ
 rR:Addr
 l8:FX K "need_turns" "need_turns" qG ["first","last"] rR
 kJ:Addr
 fZ:FX K "need_each_once" "need_each_once" j6 ["names"] kJ
 jG:Addr
 fH:FX K "rooms_spoken_of" "rooms_spoken_of" iX ["doors","people"] jG
 rN:Addr
 lQ:FX K "need_rooms" "need_rooms" qC ["names","sizes"] rN
 m3:Addr
 iP:FX K "added_people" "added_people" mF ["sizes","people"] m3
 rF:Addr
 lU:FX K "need_space" "need_space" qV ["sizes","people"] rF
 mZ:Addr
 iR:FX K "_law_cell_at" "_law_cell_at" mX ["_law_script","_law_k"] mZ
 rU:Addr
 lV:FX K "_law_mixed" "_law_mixed" qK ["_law_cell","_law_k"] rU
 tZ:Addr
 nM:FX K "_law_name" "_law_name" tF ["_law_cell","_law_k"] tZ
 rV:Addr
 lK:FX K "_law_rooms" "_law_rooms" qY ["_law_cells"] rV
 tP:Addr
 nK:FX K "_law_spec" "_law_spec" tM ["_law_cell","_law_k","_law_rooms_here","_law_turns"] tP
 tW:Addr
 dX:FuncData
 nO:FunV K "_law_door" "_law_door" dW tW dX
 MK:Binds K dX ["_law_spec_here"] []
 oP:Addr
 jR:FX K "_law_digits" "_law_digits" oG ["_law_cell","_law_bases"] oP
 jF:Addr
 fF:FX K "_law_rooms_told" "_law_rooms_told" iT ["_law_cells"] jF
 kB:Addr
 fY:FX K "_law_spec_told" "_law_spec_told" jX ["_law_cell","_law_k","_law_rooms_here","_law_turns"] kB
 jB:Addr
 fI:FX K "_law_drawn_told" "_law_drawn_told" iU ["_law_script"] jB
 rA:Addr
 lJ:FX K "_law_drawn" "_law_drawn" qJ ["_law_script"] rA
 rL:Addr
 lZ:FX K "_law_house" "_law_house" qE ["_law_rooms_here","_law_specs","_law_turns"] rL
 rG:Addr
 l9:FX K "_law_whole" "_law_whole" pX ["_law_found"] rG
 wR:Addr
 pO:FX K "_law_out" "_law_out" wH ["_law_plan","_law_specs","_law_turn"] wR
 QJ:Addr
 QL:FuncData
 aD1:FunV K "law" "law" sL QJ QL
 aEm:Binds K QL ["_law_script"] []
 m7:Addr
 nD:FX K "__init__" "Net.__init__" mV ["self"] m7
 nE:Addr
 m6:FX K "new_node" "Net.new_node" mH ["self"] nE
 oR:Addr
 oW:FX K "new_arc" "Net.new_arc" oA ["self","start","target","most"] oR
 wW:Addr
 wP:FX K "sent" "Net.sent" vD ["self","arc"] wW
 lM:Addr
 lO:FX K "ways_from" "Net.ways_from" lA ["self","source"] lM
 o0:Addr
 oU:FX K "path_to" "Net.path_to" oB ["self","ways","node"] o0
 kA:Addr
 kE:FX K "send_along" "Net.send_along" jZ ["self","path"] kA
 m8:Addr
 nB:FX K "send_all" "Net.send_all" mT ["self","source","sink"] m8
 gY:Addr
 gU:FX K "__init__" "HouseNet.__init__" gO ["self","house"] gY
 jC:Addr
 jE:FX K "now_in" "HouseNet.now_in" iZ ["self","room"] jC
 gW:Addr
 g6:FX K "add_door" "HouseNet.add_door" gR ["self","door","target"] gW
 gZ:Addr
 gX:FX K "send_out" "HouseNet.send_out" gS ["self"] gZ
 eF:Addr
 eE:FX K "reached_pairs" "HouseNet.reached_pairs" dZ ["self"] eF
 fB:Addr
 fD:FX K "new_entries" "HouseNet.new_entries" eZ ["self"] fB
 kC:Addr
 kI:FX K "go_on" "HouseNet.go_on" jS ["self"] kC
 fE:Addr
 fC:FX K "keep_others" "HouseNet.keep_others" fA ["self"] fE
 lX:Addr
 lN:FX K "rows" "HouseNet.rows" k8 ["self"] lX
 g9:Addr
 eW:FuncData
 lT:FunV K "__init__" "Door.__init__" eO g9 eW
 tD:Binds K eW ["self","name","start","end","wide"] []
 tU:Addr
 tQ:FX K "lets" "Door.lets" tO ["self","turn"] tU
 cV:Addr
 cW:FX K "is_exit" "Door.is_exit" mL ["self"] cV
 kF:Addr
 j9:FX K "__init__" "Since.__init__" jT ["self","name","start","end","wide","since"] kF
 rD:Addr
 rH:FX K "lets" "Since.lets" qU ["self","turn"] rD
 j8:Addr
 kG:FX K "__init__" "Until.__init__" j7 ["self","name","start","end","wide","until"] j8
 rQ:Addr
 rP:FX K "lets" "Until.lets" pZ ["self","turn"] rQ
 lP:Addr
 hJ:FuncData
 DX:FunV K "__init__" "Beat.__init__" eR lP hJ
 DY:Binds K hJ ["self","name","start","end","wide","every","since"] []
 tS:Addr
 tX:FX K "lets" "Beat.lets" tJ ["self","turn"] tS
 i9:Addr
 i8:FX K "__init__" "Marked.__init__" iY ["self","name","start","end","wide","bits"] i9
 oT:Addr
 oZ:FX K "lets" "Marked.lets" oI ["self","turn"] oT
 lW:Addr
 l6:FX K "__init__" "Told.__init__" kU ["self","name","start","end","letting"] lW
 tY:Addr
 tV:FX K "lets" "Told.lets" tH ["self","turn"] tY
 kH:Addr
 gA:FuncData
 CB:FunV K "__init__" "House.__init__" d0 kH gA
 CA:Binds K gA ["self","rooms","doors","people","last","first"] []
 oY:Addr
 o8:FX K "rooms" "House.rooms" nZ ["self"] oY
 oS:Addr
 oV:FX K "doors" "House.doors" oK ["self"] oS
 jD:Addr
 jA:FX K "need_room" "House.need_room" i6 ["self","room"] jD
 o6:Addr
 o7:FX K "holds" "House.holds" oJ ["self","room"] o6
 oQ:Addr
 oX:FX K "found" "House.found" oM ["self","room"] oQ
 rS:Addr
 rE:FX K "door" "House.door" qB ["self","name"] rS
 rK:Addr
 rT:FX K "lets" "House.lets" qF ["self","name","turn"] rK
 o9:Addr
 pB:FX K "total" "House.total" nY ["self"] o9
 QI:mg "added_up" =some (.ref wT)
 UI:mg "as_told" =some (.ref yW)
 AN:mg "rows_that_count" =some (.ref i7)
 W9:mg "out_by" =some (.ref CD)
 LE:mg "filled_net" =some (.ref rM)
 MM:mg "first_out" =some (.ref tR)
 UF:mg "most_by" =some (.ref yX)
 UL:mg "all_out" =some (.ref yY)
 QM:mg "is_whole" =some (.ref wS)
 UH:mg "is_name" =some (.ref zB)
 ML:mg "need_name" =some (.ref tT)
 LG:mg "need_whole" =some (.ref rJ)
 LL:mg "need_turns" =some (.ref rR)
 BZ:mg "need_each_once" =some (.ref kJ)
 AM:mg "rooms_spoken_of" =some (.ref jG)
 LH:mg "need_rooms" =some (.ref rN)
 FI:mg "added_people" =some (.ref m3)
 LC:mg "need_space" =some (.ref rF)
 FH:mg "_law_cell_at" =some (.ref mZ)
 LI:mg "_law_mixed" =some (.ref rU)
 MO:mg "_law_name" =some (.ref tZ)
 LF:mg "_law_rooms" =some (.ref rV)
 MQ:mg "_law_spec" =some (.ref tP)
 MN:mg "_law_door" =some (.ref tW)
 HD:mg "_law_digits" =some (.ref oP)
 AJ:mg "_law_rooms_told" =some (.ref jF)
 CI:mg "_law_spec_told" =some (.ref kB)
 AI:mg "_law_drawn_told" =some (.ref jB)
 K9:mg "_law_drawn" =some (.ref rA)
 LN:mg "_law_house" =some (.ref rL)
 LA:mg "_law_whole" =some (.ref rG)
 QK:mg "_law_out" =some (.ref wR)
 aEl:mg "law" =some (.ref QJ)
 yZ:∃ds,Vals [.int 1] ds/\Binds K eW ["self","name","start","end","wide"] ds
 UJ:∃ds,Vals [.non,.int 1] ds/\Binds K eW ["self","name","start","end","wide"] ds
 UK:∃ds,Vals [.int 0] ds/\Binds K hJ ["self","name","start","end","wide","every","since"] ds
 QO:∃ds,Vals [.int 0] ds/\Binds K gA ["self","rooms","doors","people","last","first"] ds
 aV:Addr
 aDZ:mg "Net" =some (.ref aV)
 aP:Addr
 QN:mg "HouseNet" =some (.ref aP)
 gM:Addr
 LM:mg "Door" =some (.ref gM)
 iS:Addr
 aBh:mg "Since" =some (.ref iS)
 iQ:Addr
 aBg:mg "Until" =some (.ref iQ)
 mB:Addr
 aDg:mg "Beat" =some (.ref mB)
 gB:Addr
 W7:mg "Marked" =some (.ref gB)
 lR:Addr
 aDe:mg "Told" =some (.ref lR)
 aM:Addr
 aBi:mg "House" =some (.ref aM)
 cE:DCls K aV
 aDf:Mk K aV m7
 DW:Meth K aV "new_node" nE
 FF:Meth K aV "new_arc" oR
 MP:Meth K aV "sent" wW
 CF:Meth K aV "ways_from" lM
 FJ:Meth K aV "path_to" o0
 AL:Meth K aV "send_along" kA
 DZ:Meth K aV "send_all" m8
 bJ:DCls K aP
 MJ:Mk K aP gY
 yV:Meth K aP "now_in" jC
 wV:Meth K aP "add_door" gW
 wQ:Meth K aP "send_out" gZ
 pQ:Meth K aP "reached_pairs" eF
 r9:Meth K aP "new_entries" fB
 AK:Meth K aP "go_on" kC
 r6:Meth K aP "keep_others" fE
 CC:Meth K aP "rows" lX
 uV:DCls K gM
 aBk:Mk K gM g9
 LD:Meth K gM "lets" tU
 D0:Meth K gM "is_exit" cV
 rB:DCls K iS
 W8:Mk K iS kF
 HE:Meth K iS "lets" rD
 B0:Meth K iS "is_exit" cV
 rO:DCls K iQ
 XA:Mk K iQ j8
 HH:Meth K iQ "lets" rQ
 CG:Meth K iQ "is_exit" cV
 uW:DCls K mB
 aBf:Mk K mB lP
 LJ:Meth K mB "lets" tS
 D2:Meth K mB "is_exit" cV
 nX:DCls K gB
 UM:Mk K gB i9
 FD:Meth K gB "lets" oT
 AH:Meth K gB "is_exit" cV
 uU:DCls K lR
 aBj:Mk K lR lW
 LO:Meth K lR "lets" tY
 D1:Meth K lR "is_exit" cV
 bI:DCls K aM
 XB:Mk K aM kH
 FE:Meth K aM "rooms" oY
 FM:Meth K aM "doors" oS
 zA:Meth K aM "need_room" jD
 FG:Meth K aM "holds" o6
 FN:Meth K aM "found" oQ
 HG:Meth K aM "door" rS
 HF:Meth K aM "lets" rK
 FK:Meth K aM "total" o9
 dF:W.specialIn K (.ref gM) "__getattribute__" =some (some (.builtin "type.__getattribute__"))/\W.readsIn K gM (.type "type")=true/\W.findCls K (.ref gM) (.type "type") "__init__" =some (.val (.ref g9))
 LB:mg "sorted" =none
 zY:mg "sum" =none
 kS:mg "range" =none
 YK:mg "any" =none
 nJ:mg "len" =none
 HW:mg "min" =none
 iH:mg "isinstance" =none
 YL:mg "int" =none
 aD0:mg "str" =none
 aD2:mg "all" =none
 aDd:mg "dict" =none
 UG:mg "list" =none
 UE:mg "bool" =none
 m9:∃t:Tok,mg "LONGEST_NAME" =some (.int 8 t)
theorem gl_ {G:Prop}(h:∀G':Prop,G'=G->G'):G:=h G rfl
set_option hygiene false
local macro_rules| `(tactic| walk_at"g1")=> `(tactic| (refine gl_ ?_;intro G_ hG_))
local macro_rules| `(tactic| walk_at"g2")=> `(tactic| subst hG_)
local macro_rules| `(tactic| walk_at"cx")=> `(tactic| try dsimp only[cxK,cxP,cxW,cxM,cxB])
set_option hygiene true
local macro_rules| `(tactic| walk_at"hp")=> `(tactic| first|assumption|(refine' Same.at ?s ?h;(case s=>assumption);(case h=>walk_at"hp"))|(refine' SqL.of ?h;(case h=>walk_at"hp"))|(refine' SqT.of ?h;(case h=>walk_at"hp"))|(refine' Same.seq ?s ?h;(case s=>assumption);(case h=>walk_at"hp"))|(refine' Same.sqT ?s ?h;(case s=>assumption);(case h=>walk_at"hp")))
local macro_rules| `(tactic| walk_at"sm")=> `(tactic| first|assumption|exact Same.refl _|(refine' Same.snoc ?s ?h;(case s=>assumption);(case h=>walk_at"sm")))
local macro_rules| `(tactic| walk_at"sb")=> `(tactic| first|assumption|exact SameBut.refl|(refine' SameBut.snoc ?s ?h;(case s=>assumption);(case h=>walk_at"sb"))|(refine' SameBut.snocS ?s ?h;(case s=>assumption);(case h=>walk_at"sb")))
local macro_rules| `(tactic| walk_at"lk")=> `(tactic| first|assumption|exact aCo|(with_reducible exact aAX)|(refine' aDS ?d ?h;(case d=>decide +kernel);(case h=>walk_at"lk")))
local macro_rules| `(tactic| walk_at"sz")=> `(tactic| first|assumption|lia|omega|(simp only[tG,EF,WM,UP,VJ,U1,U9,U2,W1,U5,WU,W0,PQ,QC,OP,OR,P3,OT,PK,PZ,O6,sizeLine_eq,List.length_cons,List.length_nil,List.length_append,List.length_map];done)|(simp only[tG,EF,WM,UP,VJ,U1,U9,U2,W1,U5,WU,W0,PQ,QC,OP,OR,P3,OT,PK,PZ,O6,sizeLine_eq,List.length_cons,List.length_nil,List.length_append,List.length_map];omega)|(simp only[tG,EF,WM,UP,VJ,U1,U9,U2,W1,U5,WU,W0,PQ,QC,OP,OR,P3,OT,PK,PZ,O6,sizeLine_eq,List.length_cons,List.length_nil,List.length_append,List.length_map]at *;omega))
local macro_rules| `(tactic| walk_at"sd")=> `(tactic| first|assumption|lia|omega|decide)
local macro_rules| `(tactic| walk_at"dc")=> `(tactic| first|((with_reducible refine ICls.cl (DCls.ic ?_));assumption)|((with_reducible refine DCls.ic ?_);assumption)|((with_reducible refine DCls.n_targets ?_);assumption)|((with_reducible refine DCls.n_spare ?_);assumption)|((with_reducible refine DCls.n_arcs ?_);assumption)|((with_reducible refine DCls.n_house ?_);assumption)|((with_reducible refine DCls.n_turn ?_);assumption)|((with_reducible refine DCls.n_outs ?_);assumption)|((with_reducible refine DCls.n_cuts ?_);assumption)|((with_reducible refine DCls.n_net ?_);assumption)|((with_reducible refine DCls.n_source ?_);assumption)|((with_reducible refine DCls.n_pair_nodes ?_);assumption)|((with_reducible refine DCls.n_door_arcs ?_);assumption)|((with_reducible refine DCls.n_plenty ?_);assumption)|((with_reducible refine DCls.n_name ?_);assumption)|((with_reducible refine DCls.n_start ?_);assumption)|((with_reducible refine DCls.n_end ?_);assumption)|((with_reducible refine DCls.n_wide ?_);assumption)|((with_reducible refine DCls.n_since ?_);assumption)|((with_reducible refine DCls.n_until ?_);assumption)|((with_reducible refine DCls.n_every ?_);assumption)|((with_reducible refine DCls.n_bits ?_);assumption)|((with_reducible refine DCls.n_letting ?_);assumption)|((with_reducible refine DCls.n_first ?_);assumption)|((with_reducible refine DCls.n_last ?_);assumption)|((with_reducible refine DCls.n_sizes ?_);assumption)|((with_reducible refine DCls.n_people ?_);assumption)|((with_reducible refine DCls.n_named_doors ?_);assumption))
local macro_rules| `(tactic| walk_at"rd1")=> `(tactic| first|(with_reducible first|refine aBJ ?_|refine aB0 ?_|refine aD5 ?_|refine aDH ?_|refine aDk ?_|refine aDJ ?_|refine aDu ?_|refine aDE ?_|refine aDn ?_|refine aDF ?_|refine aDj ?_|refine aDL ?_|refine aDr ?_|refine aDs ?_|refine aCw ?_|refine aC8 ?_|refine aCu ?_|refine aAe ?_|refine aBQ ?_|refine aDN ?_|refine aDK ?_|refine aAB ?_|refine aDV ?_|refine aCW ?_|refine Z6 ?_|refine aDo ?_|refine aBR ?_|refine aDp ?_|refine JN ?_|refine IW ?_|refine aBc ?_|refine aAZ ?_|refine aDB ?_|refine aDl ?_|refine aDt ?_|refine aDX ?_|refine aDI ?_|refine aDh ?_|refine aDA ?_|refine aDO ?_|refine aDW ?_|refine aDw ?_|refine aCZ ?_|refine aBl ?_|refine aBZ ?_|refine aBu ?_|refine aAk ?_|refine Z1 ?_|refine rd_retN ?_|refine aB1 ?_|refine aCS ?_|refine aDi ?_|refine aA9 ?_|refine rd_orV ?_|refine ZJ ?_|refine aCd ?_|refine WR ?_|refine rd_un ?_|refine rd_U ?_|refine aCF ?_|refine rd_eqB ?_|refine aCO ?_|refine rd_eqSN ?_|refine rd_eqNS ?_|refine rd_eqNN ?_|refine aBY ?_|refine rd_neB ?_|refine rd_neS ?_|refine rd_neNN ?_|refine aAY ?_|refine ZL ?_|refine aAa ?_|refine rd_isNR ?_|refine Y9 ?_|refine YY ?_|refine aAb ?_|refine rd_ntNR ?_|refine aAL ?_|refine rd_ntNV ?_|refine aCG ?_|refine aBX ?_|refine ZO ?_|refine ZI ?_|refine aAp ?_|refine aDP ?_|refine aDT ?_|refine aBr ?_|refine rd_bmS ?_|refine ZQ ?_|refine VE ?_|refine VX ?_|refine rd_isiBB ?_|refine rd_isiBI ?_|refine rd_isiSS ?_|refine rd_isiNS ?_|refine rd_max2 ?_|refine YQ ?_|refine rd_intB ?_|refine rd_intI ?_|refine R8 ?_|refine aAq ?_|refine aBU ?_|refine rd_gsub ?_|refine aAt ?_|refine UW ?_|refine aBm ?_|refine W2 ?_|refine rd_iTup ?_|refine WA ?_|refine WP ?_|refine rd_iStr ?_|refine rd_iStrV ?_|refine rd_break ?_|refine rd_cont ?_|refine aC2 ?_)|((with_reducible refine' aCn ?s ?_);(case s=>decide))|((with_reducible refine' YW ?s ?_);(case s=>walk_at"sd");intro h0' h1')|((with_reducible refine' rd_repL ?e ?a ?b ?s ?_);(case e=>walk_at"hp");(case a=>decide);(case b=>decide);(case s=>first|(simp;done)|(simp[sizeLine_eq];done)|walk_at"sz");intro p' H' n' S' e')|((with_reducible refine' aBL ?s ?r ?_);(case s=>walk_at"sd");(case r=>walk_at"sd"))|((with_reducible refine' YN ?s ?r ?_);(case s=>walk_at"sd");(case r=>walk_at"sd"))|((with_reducible refine' aA3 ?s ?r ?_);(case s=>walk_at"sd");(case r=>walk_at"sd"))|((with_reducible refine' aAR ?s ?_);(case s=>walk_at"sz");intro p' H' n' S' e')|((with_reducible refine' aAy ?s ?_);(case s=>walk_at"sz");intro p' H' n' S' e')|((with_reducible refine Y1 ?_);intro p' H' n' S' e')|((with_reducible refine' aAK ?e ?c ?n ?l ?_);(case e=>walk_at"hp");(case c=>walk_at"dc");(case n=>walk_at"dc");(case l=>walk_at"lk"))|((with_reducible refine' V8 ?e ?c ?n ?l ?_);(case e=>walk_at"hp");(case c=>walk_at"dc");(case n=>walk_at"dc");(case l=>kernel_rfl);intro H' B' e')|((with_reducible refine' aCE ?e ?l ?F ?_);(case e=>walk_at"hp");(case l=>walk_at"lk");(case F=>assumption))|((with_reducible refine' rd_isiC ?e ?i ?k ?_);(case e=>walk_at"hp");(case i=>walk_at"dc");(case k=>assumption))|((with_reducible refine' aB7 ?e ?l ?_);(case e=>walk_at"hp");(case l=>rfl))|((with_reducible refine' Z7 ?e ?s ?r ?_);(case e=>walk_at"hp");(case s=>walk_at"sd");(case r=>walk_at"sd");intro v' hv')|((with_reducible refine' rd_ix3i ?e ?s ?r ?_);(case e=>walk_at"hp");(case s=>walk_at"sd");(case r=>walk_at"sd");intro v' hv')|((with_reducible refine' A4 ?e ?l ?_);(case e=>walk_at"hp");(case l=>rfl);intro H' B' e')|((with_reducible refine' aA6 ?e ?_);(case e=>walk_at"hp"))|((with_reducible refine' rd_lenS ?e ?_);(case e=>walk_at"sz"))|((with_reducible refine' YR ?e ?_);(case e=>walk_at"sz"))|((with_reducible refine' rd_slS ?e ?_);(case e=>walk_at"sz");intro hl')|((with_reducible refine' aCB ?e ?_);(case e=>walk_at"hp");intro p' H' n' S' e')|((with_reducible refine' T5 ?e ?_);(case e=>walk_at"hp");intro p' H' n' S' e')|((with_reducible refine' aA7 ?e ?f ?s ?_);(case e=>walk_at"hp");(case f=>walk_at"hp");(case s=>walk_at"sz");intro p' H' n' S' e')|((with_reducible refine' rd_listOf ?e ?_);(case e=>walk_at"hp");intro p' H' n' S' e')|((with_reducible refine' aCc ?e ?_);(case e=>walk_at"hp"))|((with_reducible refine' F5 ?e ?_);(case e=>walk_at"hp"))|((with_reducible refine' R7 ?s ?r ?_);(case s=>walk_at"sd");(case r=>walk_at"sd"))|((with_reducible refine' RW ?s ?r ?t ?u ?_);(case s=>walk_at"sd");(case r=>walk_at"sd");(case t=>walk_at"sd");(case u=>walk_at"sd"))|((with_reducible refine' rd_str ?s ?r ?_);(case s=>walk_at"sd");(case r=>walk_at"sd");intro hl')|((with_reducible refine' U3 ?e ?l ?_);(case e=>walk_at"hp");(case l=>rfl))|((with_reducible refine' Z9 ?e ?l ?_);(case e=>walk_at"hp");(case l=>rfl))|((with_reducible refine' rd_ifP ?s ?_);(case s=>walk_at"sd"))|((with_reducible refine' aCA ?s ?_);(case s=>walk_at"sd"))|((with_reducible refine' Z0 ?s ?_);(case s=>walk_at"sd"))|((with_reducible refine' Y3 ?s ?_);(case s=>walk_at"sd")))
local macro_rules| `(tactic| walk_at"go")=> `(tactic| repeat walk_at"rd1")
local macro_rules| `(tactic| walk_at"gs")=> `(tactic| repeat ((fail_if_success (with_reducible refine UQ ?_));walk_at"rd1"))
local macro_rules| `(tactic| walk_at"nn")=> `(tactic| repeat first|exact nn_nil|refine nn_app ?_ ?_|refine nn_cons (by omega) ?_|exact nn_map (fun n=>by omega))
section
variable {P:Program}{w:World}{K:W.Frag}{mg:Str->Option Value}{base:Heap}
def aCj:V->Bool
 | .int _=>true
 | _=>false
def BE (K:W.Frag):Sp:=fun vs H Q _=>∃x n,vs=[x]/\BTy K H x n/\Q (.bl (aCj x)) H
theorem UT {H:Hp}{Q:VK}{E:XK}{i:Int} (h:Q (.bl true) H):BE K [.int i] H Q E:=⟨_,_,rfl,.int i,h⟩
theorem LP (m:M K mg):FnOk P w K mg base CX0 1 m.wS m.pP.d ["thing"] (BE K):=by
 refine m.pP.F.ok sc_is_whole (fun vs H Q E h=> ?_) (fun cdv A outer s H vs Q E hr h=> ?_)
 ·walk_at"g1";obtain⟨x,n,rfl,b,k⟩:=h;walk_at"g2";rfl
 ·walk_at"g1";obtain⟨x,n,rfl,b,k⟩:=h;walk_at"g2";have nd:=sc_is_whole.nd;walk_at"hu";refine⟨_,(aE (aR (DK (bH qW rfl m.iH gL (aA (pv 0) (aA (DP rfl m.YL QY) aC))) (C1 (QZ (bH qW rfl m.iH gL (aA (pv 0) (aA (DP rfl m.UE OF) aC)))))))),?_⟩;refine aJ (σ:=[some (x)]) rfl ?_;walk_at"cx";refine⟨_,rfl,_,_,_,_,_,rfl,b.ty,rfl,HJ b "int" (.inl rfl),_,rfl,?_⟩;refine EV (fun h1=>⟨_,rfl,_,_,_,_,_,rfl,b.ty,rfl,HJ b "bool" (.inr (.inl rfl)),_,rfl,?_⟩) (fun h1=> ?_)
  ·cases b<;>first|exact k|exact absurd h1 (by decide)
  ·cases b<;>first|exact k|exact absurd (by decide) h1
theorem LT (m:M K mg):Fc P w K mg base "is_whole" 1 ["thing"] (BE K):=⟨_,_,m.QM,m.pP.F.kp,m.pP.b,LP m⟩
def nmB:V->Bool
 | .str z=>bC z
 | _=>false
def D3 (K:W.Frag):Sp:=fun vs H Q _=>∃x n,vs=[x]/\BTy K H x n/\(∀z,x= .str z->z.length<=1000)/\∀H',Same H H'->Q (.bl (nmB x)) H'
theorem ZF {H:Hp}{Q:VK}{E:XK}{z:Str} (hz:bC z=true) (h:∀H',Same H H'->Q (.bl true) H'):D3 K [.str z] H Q E :=
 ⟨_,_,rfl,.str z,fun y e=>by cases e;exact Nat.le_trans (RS hz) (by decide),fun H' s=>by rw[show nmB (.str z)=true from hz];exact h H' s⟩
theorem le1 (a c:Nat):(!decide ([c]<[a]))=decide (a<=c):=by
 have:([c]<[a])↔c<a:=by
  constructor
  ·intro h;cases h with
   | rel h=>exact h
   | cons h=>cases h
  ·exact fun h=> .rel h
 by_cases h:c<a
 ·rw[decide_eq_true (this.mpr h),decide_eq_false (by lia)];rfl
 ·rw[decide_eq_false (fun z=>h (this.mp z)),decide_eq_true (by lia)];rfl
theorem aDU:("a" :Str).cps.toList=[97]:=by decide +kernel
theorem aDR:("z" :Str).cps.toList=[122]:=by decide +kernel
theorem FU {α:Type}(p:α->Bool)(d:α):∀l:List α,((List.range l.length).map fun i=>p (l.getD i d)).all id=l.all p
 | []=>rfl
 | a::l=>by
  rw[List.length_cons,List.range_succ_eq_map,List.map_cons,List.all_cons,List.map_map,List.all_cons,←FU p d l];rfl
theorem UY {H:Hp}{p:Addr}{o:HO} (h:H p=none):Same H (upd H p o):=fun b u e=>by rw[aH (bA e h)];exact e
theorem OY (m:M K mg):FnOk P w K mg base CX0 1 m.zB m.sZ.d ["thing"] (D3 K):=by
 refine m.sZ.F.ok sc_is_name (fun vs H Q E h=> ?_) (fun cdv A outer s H vs Q E hr h=> ?_)
 ·walk_at"g1";obtain⟨x,n,rfl,b,hz,k⟩:=h;walk_at"g2";rfl
 ·walk_at"g1";obtain⟨x,n,rfl,b,hz,k⟩:=h;walk_at"g2";have nd:=sc_is_name.nd;walk_at"hu";obtain⟨tok_LONGEST_NAME,m9⟩:=m.m9;refine⟨_,(aB (bV (uA (jM (bH qW rfl m.iH gL (aA (pv 0) (aA (DP rfl m.aD0 aCk) aC))))) (aE (aR CK)) bE)
   (aE (aR (DK (JS O7 O7 aD (bH SK rfl m.nJ jJ (aA (pv 0) aC)) (aAV rfl m9)) (C1 (bH (V0 rfl) rfl m.aD2 aCQ (aA (c6 (N:=["sign"]) (nl:=1) (ci:=[]) rfl (blk (s.heap.objs.size+1) rfl rfl rfl (by kernel_rfl)) (aCC (pv 0)) (fun _ _ _ _=>(aN (i:=0) (show (["sign"]:List Str).Nodup by decide +kernel) rfl (by walk_at"oi"))) (fun _ _ _ _=>d9) (fun _ _ _ _=>(JS SL SL eM (pv 0) eM))) aC))))))),?_⟩
  refine aJ (σ:=[some (x)]) rfl ?_;walk_at"cx";refine⟨_,rfl,_,_,_,_,_,rfl,b.ty,rfl,HJ b "str" (.inr (.inr rfl)),_,rfl,?_⟩;refine EV (fun h1=> ?_) (fun h1=> ?_)
  ·show Q (.bl false) H;cases b<;>first|exact k H (Same.refl H)|exact absurd h1 (by decide)
  ·have hs:∃z,x= .str z:=by
    cases b<;>first|exact⟨_,rfl⟩|exact absurd (by decide) h1
   obtain⟨z,rfl⟩:=hs;have hl:=hz z rfl;have hl':z.length<=sizeLine:=Nat.le_of_lt (RK hl);refine⟨_,rfl,z,rfl,hl',_,_,rfl,rfl,_,rfl,?_⟩;refine EV (fun h2=>⟨_,_,rfl,rfl,_,rfl,?_⟩) (fun h2=>⟨_,rfl,?_⟩)
   ·refine EV (fun h3=> ?_) (fun h3=> ?_)
    ·refine⟨_,rfl,z,rfl,?_⟩;refine ZE z.cps.size (fun i=> .bl (sgB (z.cps.toList.getD i 0))) hl' (fun H'=>H'=H) rfl (fun _ _=>rfl) (fun i _ hi _=>hi) ?_ ?_ ?_ ?_ ?_
     ·rintro i _ x H' hi rfl hq_;walk_at"g1";obtain⟨rfl,c,hc,rfl⟩:=hq_;walk_at"g2";refine⟨⟨rfl,fun j v hv=> ?_⟩,rfl,?_⟩
      ·match j,hv with
       | 0,hv=>cases hv
       | j+1,hv=>cases hv
      ·have hc':z.cps.toList.getD i 0=c:=by
        rw[List.getD_eq_getElem?_getD,Array.getElem?_toList,hc];rfl
       refine⟨_,rfl,_,_,rfl,rfl,_,rfl,?_⟩;rw[aDU,hc'];refine EV (fun h4=>⟨_,_,rfl,rfl,?_,rfl⟩) (fun h4=>⟨?_,rfl⟩)
       ·have h4':97<=c:=by rw[show (⟨#[c]⟩:Str).cps.toList=[c] from rfl,le1]at h4;exact of_decide_eq_true h4
        rw[aDR,show (⟨#[c]⟩:Str).cps.toList=[c] from rfl,le1];unfold sgB;rw[decide_eq_true h4',Bool.true_and]
       ·have h4':¬97<=c:=by rw[show (⟨#[c]⟩:Str).cps.toList=[c] from rfl,le1]at h4;exact fun z=>h4 (decide_eq_true z)
        unfold sgB;rw[decide_eq_false h4',Bool.false_and]
     ·exact fun _ _ _ _ f q=>f _ _ q
     ·rintro σ H Q Q' f hq_;walk_at"g1";obtain⟨v,e,i,j,e1,e2,k,e3,q⟩:=hq_;walk_at"g2";refine⟨v,e,i,j,e1,e2,k,e3,?_⟩;revert q
      split
      ·rintro hq_;walk_at"g1";obtain⟨i,j,e1,e2,q⟩:=hq_;walk_at"g2";exact⟨i,j,e1,e2,f _ _ q⟩
      ·exact fun q=>f _ _ q
     ·exact fun _ _ _ _ _ f q=>f _ _ q
     ·rintro _ rfl p hp;refine⟨p,(List.range z.cps.size).map (fun i=>sgB (z.cps.toList.getD i 0)),rfl,SqL.of ?_,?_⟩
      ·rw[aQ,List.map_map];rfl
      ·have e:=FU sgB 0 z.cps.toList;rw[Array.length_toList]at e;rw[e];have e2:nmB (.str z)=z.cps.toList.all sgB:=by
        show bC z=_;unfold bC;rw[show decide (1<=(z.length:Int))=true from h2,show decide ((z.length:Int)<=8)=true from h3];rfl
       rw[←e2];exact k _ (UY hp)
    ·have e2:nmB (.str z)=false:=by
      show bC z=_;unfold bC;rw[show decide ((z.length:Int)<=8)=false from by simpa using h3];simp
     have:=k H (Same.refl H);rw[e2]at this;exact this
   ·have e2:nmB (.str z)=false:=by
     show bC z=_;unfold bC;rw[show decide (1<=(z.length:Int))=false from by simpa using h2];simp
    have:=k H (Same.refl H);rw[e2]at this;exact this
theorem OS (m:M K mg):Fc P w K mg base "is_name" 1 ["thing"] (D3 K):=⟨_,_,m.UH,m.sZ.F.kp,m.sZ.b,OY m⟩
local macro_rules| `(tactic| walk_at"rd1")=> `(tactic| first|(with_reducible refine UT ?_)|((with_reducible refine' ZF ?s ?_);(case s=>assumption);intro H' S'))
inductive kX (K:W.Frag)(vs:List V)(H:Hp)(Q:VK)(E:XK):Prop
 | mk (part z:Str) (_:vs=[.str part,.str z]) (_:bC z=true) (_:∀H',Same H H'->Q .non H'):kX K vs H Q E
theorem MC {H:Hp}{Q:VK}{E:XK}{part z:Str} (hz:bC z=true) (h:∀H',Same H H'->Q .non H'):kX K [.str part,.str z] H Q E:=⟨_,_,rfl,hz,h⟩
theorem IO (m:M K mg):FnOk P w K mg base CX0 2 m.tT m.nL.d ["part","thing"] (kX K):=by
 refine m.nL.F.ok sc_need_name (fun vs H Q E h=> ?_) (fun cdv A outer s H vs Q E hr h=> ?_)
 ·walk_at"g1";obtain⟨part,z,rfl,hz,k⟩:=h;walk_at"g2";rfl
 ·walk_at"g1";obtain⟨part,z,rfl,hz,k⟩:=h;walk_at"g2";have nd:=sc_need_name.nd;walk_at"hu";have F_is_name:= @OS P w K mg base m;refine⟨_,(aE (bV (uA (jM (bK F_is_name hr (aA (pv 1) aC)))) (aE fW) bE)),?_⟩;refine aJ (σ:=[some (.str part),some (.str z)]) rfl ?_;walk_at"cx";walk_at"go";exact k _ (by walk_at"sm")
theorem KN (m:M K mg):Fc P w K mg base "need_name" 2 ["part","thing"] (kX K):=⟨_,_,m.ML,m.nL.F.kp,m.nL.b,IO m⟩
inductive jO (K:W.Frag)(vs:List V)(H:Hp)(Q:VK)(E:XK):Prop
 | mk (part:Str) (i l:Int) (_:vs=[.str part,.int i,.int l]) (_:l<=i) (_:Q .non H):jO K vs H Q E
theorem K0 {H:Hp}{Q:VK}{E:XK}{part:Str}{i l:Int} (hz:l<=i) (h:Q .non H):jO K [.str part,.int i,.int l] H Q E:=⟨_,_,_,rfl,hz,h⟩
theorem GP (m:M K mg):FnOk P w K mg base CX0 2 m.rJ m.lY.d ["part","thing","least"] (jO K):=by
 refine m.lY.F.ok sc_need_whole (fun vs H Q E h=> ?_) (fun cdv A outer s H vs Q E hr h=> ?_)
 ·walk_at"g1";obtain⟨part,i,l,rfl,hz,k⟩:=h;walk_at"g2";rfl
 ·walk_at"g1";obtain⟨part,i,l,rfl,hz,k⟩:=h;walk_at"g2";have nd:=sc_need_whole.nd;walk_at"hu";have F_is_whole:= @LT P w K mg base m;refine⟨_,(aE (bV (PW.pt (v9 (uA (jM (bK F_is_whole hr (aA (pv 1) aC)))) (uF (aU g7 (pv 1) (pv 2) (bB _))))) (aE fW) bE)),?_⟩;refine aJ (σ:=[some (.str part),some (.int i),some (.int l)]) rfl ?_;walk_at"cx";walk_at"go";exact k
theorem gD (m:M K mg):Fc P w K mg base "need_whole" 2 ["part","thing","least"] (jO K):=⟨_,_,m.LG,m.lY.F.kp,m.lY.b,GP m⟩
local macro_rules| `(tactic| walk_at"rd1")=> `(tactic| first|((with_reducible refine' MC ?s ?_);(case s=>assumption);intro H' S')|((with_reducible refine' K0 ?s ?_);(case s=>walk_at"sd")))
abbrev lD (n s e w:V):List (Str×V):=bQ "wide" w (bQ "end" e (bQ "start" s (bQ "name" n [])))
def dG (e:V):Prop:=e= .non∨∃z,e= .str z/\bC z=true
inductive dL (K:W.Frag)(vs:List V)(H:Hp)(Q:VK)(E:XK):Prop
 | mk (p C dx:Addr) (n s:Str) (e:V) (wd:Int) (_:vs=[.ref p,.str n,.str s,e,.int wd]) (_:DCls K C) (_:H p=some (.ins C dx [])) (_:bC n=true) (_:bC s=true) (_:dG e) (_:0<=wd) (_:∀H',SameBut p H H'->H' p=some (.ins C dx (lD (.str n) (.str s) e (.int wd)))->Q .non H'):dL K vs H Q E
theorem AT {H:Hp}{Q:VK}{E:XK}{p C dx:Addr}{n s:Str}{e:V}{wd:Int} (dc:DCls K C) (hp:H p=some (.ins C dx [])) (hn:bC n=true) (hs:bC s=true) (he:dG e) (hw:0<=wd)
  (k:∀H',SameBut p H H'->H' p=some (.ins C dx (lD (.str n) (.str s) e (.int wd)))->Q .non H'):dL K [.ref p,.str n,.str s,e,.int wd] H Q E:=⟨_,_,_,_,_,_,_,rfl,dc,hp,hn,hs,he,hw,k⟩
theorem jV (m:M K mg):FnOk P w K mg base CX0 3 m.g9 m.eW ["self","name","start","end","wide"] (dL K):=by
 refine m.lT.ok sc_Door___init__ (fun vs H Q E h=> ?_) (fun cdv A outer s H vs Q E hr h=> ?_)
 ·walk_at"g1";obtain⟨p,C,dx,n,st,e,wd,rfl,dc,hp,hn,hs,he,hw,k⟩:=h;walk_at"g2";rfl
 ·walk_at"g1";obtain⟨p,C,dx,n,st,e,wd,rfl,dc,hp,hn,hs,he,hw,k⟩:=h;walk_at"g2";have nd:=sc_Door___init__.nd;walk_at"hu";have F_need_name:= @KN P w K mg base m;have F_need_whole:= @gD P w K mg base m;refine⟨_,(aB (aZ (bK F_need_name hr (aA eM (aA (pv 1) aC))))
   (aB (aZ (bK F_need_name hr (aA eM (aA (pv 2) aC))))
   (aB (bV (aU MX (pv 3) gE (bB _)) (aE (aZ (bK F_need_name hr (aA eM (aA (pv 3) aC))))) bE)
   (aB (aZ (bK F_need_whole hr (aA eM (aA (pv 4) (aA aD aC)))))
   (aB (b8 (pv 0) (pv 1) rfl)
   (aB (b8 (pv 0) (pv 2) rfl)
   (aB (b8 (pv 0) (pv 3) rfl)
   (aE (b8 (pv 0) (pv 4) rfl))))))))),?_⟩
  refine aJ (σ:=[some (.ref p),some (.str n),some (.str st),some (e),some (.int wd)]) rfl ?_;walk_at"cx";rcases he with rfl|⟨z,rfl,hz⟩
  ·walk_at"go";exact k _ (by walk_at"sb") (by assumption)
  ·walk_at"go";exact k _ (by walk_at"sb") (by assumption)
theorem TF (m:M K mg):Kc P w K mg base "Door" m.gM 3 [] (dL K):=⟨_,_,_,_,m.LM,m.aBk,.nil,m.tD,jV m⟩
theorem eG (m:M K mg):Dc P w K mg base "Door" "__init__" 3 (dL K):=⟨_,_,_,_,m.LM,m.dF.1,m.dF.2.1,m.dF.2.2,m.lT.kp,m.tD,jV m⟩
theorem tK (m:M K mg):DcD P w K mg base "Door" "__init__" 3 [.int 1] (dL K):=by
 obtain⟨ds,h1,h2⟩:=m.yZ;exact⟨_,_,_,_,_,m.LM,m.dF.1,m.dF.2.1,m.dF.2.2,m.lT.kp,h1,h2,jV m⟩
theorem WV {H:Hp}{Q:VK}{E:XK}{C:Addr}{vs dvs:List V}{n s:Str}{e:V}{wd:Int} (ev:vs++dvs=[.str n,.str s,e,.int wd]) (dc:DCls K C) (hn:bC n=true) (hs:bC s=true) (he:dG e) (hw:0<=wd)
  (k:∀p dx H',H p=none->Same H H'->H' p=some (.ins C dx (lD (.str n) (.str s) e (.int wd)))->Q (.ref p) H'):kW C (dL K) dvs E Q vs H :=
 mQ (fun p dx H0 Q' h k' s0=>by rw[ev];exact AT dc h hn hs he hw k') k
local macro_rules| `(tactic| walk_at"rd1")=> `(tactic| ((with_reducible refine' WV ?v ?d ?hn ?hs ?he ?hw ?_);(case v=>rfl);(case d=>assumption);(case hn=>assumption);(case hs=>assumption);(case he=>first|assumption|exact .inl rfl|exact .inr ⟨_,rfl,by assumption⟩);(case hw=>walk_at"sd");intro p' dx' H' n' S' e'))
inductive eJ (K:W.Frag)(vs:List V)(H:Hp)(Q:VK)(E:XK):Prop
 | mk (p C dx:Addr) (fs:List (Str×V)) (e:V) (_:vs=[.ref p]) (_:DCls K C) (_:H p=some (.ins C dx fs)) (_:fs.lookup ("end" :Str)=some e) (_:Q (.bl (decide (e= .non))) H):eJ K vs H Q E
theorem aAA {H:Hp}{Q:VK}{E:XK}{p C dx:Addr}{fs:List (Str×V)} (hp:H p=some (.ins C dx fs)) (dc:DCls K C) (l:fs.lookup ("end" :Str)=some .non) (k:Q (.bl true) H):eJ K [.ref p] H Q E:=⟨_,_,_,_,_,rfl,dc,hp,l,k⟩
theorem aAH {H:Hp}{Q:VK}{E:XK}{p C dx:Addr}{fs:List (Str×V)}{z:Str} (hp:H p=some (.ins C dx fs)) (dc:DCls K C) (l:fs.lookup ("end" :Str)=some (.str z)) (k:Q (.bl false) H):eJ K [.ref p] H Q E :=
 ⟨_,_,_,_,_,rfl,dc,hp,l,by rw[decide_eq_false (fun z=>by cases z)];exact k⟩
theorem dN (m:M K mg):FnOk P w K mg base CX0 1 m.cV m.cW.d ["self"] (eJ K):=by
 refine m.cW.F.ok sc_Door_is_exit (fun vs H Q E h=> ?_) (fun cdv A outer s H vs Q E hr h=> ?_)
 ·walk_at"g1";obtain⟨p,C,dx,fs,e,rfl,dc,hp,l,k⟩:=h;walk_at"g2";rfl
 ·walk_at"g1";obtain⟨p,C,dx,fs,e,rfl,dc,hp,l,k⟩:=h;walk_at"g2";have nd:=sc_Door_is_exit.nd;walk_at"hu";refine⟨_,(aE (aR (uJ yT (aI (pv 0) rfl) gE (bB _)))),?_⟩;refine aJ (σ:=[some (.ref p)]) rfl ?_;walk_at"cx";walk_at"go";exact k
theorem CM (m:M K mg):Mc P w K mg base m.gM "is_exit" 1 (eJ K):=⟨_,_,_,m.uV.ic.cl,m.D0,m.cW.b,dN m⟩
theorem BH (m:M K mg):Mc P w K mg base m.iS "is_exit" 1 (eJ K):=⟨_,_,_,m.rB.ic.cl,m.B0,m.cW.b,dN m⟩
theorem BV (m:M K mg):Mc P w K mg base m.iQ "is_exit" 1 (eJ K):=⟨_,_,_,m.rO.ic.cl,m.CG,m.cW.b,dN m⟩
theorem DV (m:M K mg):Mc P w K mg base m.mB "is_exit" 1 (eJ K):=⟨_,_,_,m.uW.ic.cl,m.D2,m.cW.b,dN m⟩
theorem z5 (m:M K mg):Mc P w K mg base m.gB "is_exit" 1 (eJ K):=⟨_,_,_,m.nX.ic.cl,m.AH,m.cW.b,dN m⟩
theorem DH (m:M K mg):Mc P w K mg base m.lR "is_exit" 1 (eJ K):=⟨_,_,_,m.uU.ic.cl,m.D1,m.cW.b,dN m⟩
local macro_rules| `(tactic| walk_at"rd1")=> `(tactic| first|((with_reducible refine' aAA ?e ?d ?l ?_);(case e=>walk_at"hp");(case d=>assumption);(case l=>walk_at"lk"))|((with_reducible refine' aAH ?e ?d ?l ?_);(case e=>walk_at"hp");(case d=>assumption);(case l=>walk_at"lk")))
inductive lH (K:W.Frag)(vs:List V)(H:Hp)(Q:VK)(E:XK):Prop
 | mk (p C dx:Addr) (fs:List (Str×V)) (t wd:Int) (_:vs=[.ref p,.int t]) (_:DCls K C) (_:H p=some (.ins C dx fs)) (_:fs.lookup ("wide" :Str)=some (.int wd)) (_:Q (.int wd) H):lH K vs H Q E
theorem L8 {H:Hp}{Q:VK}{E:XK}{p C dx:Addr}{fs:List (Str×V)}{t wd:Int} (hp:H p=some (.ins C dx fs)) (dc:DCls K C) (l:fs.lookup ("wide" :Str)=some (.int wd)) (k:Q (.int wd) H):lH K [.ref p,.int t] H Q E:=⟨_,_,_,_,_,_,rfl,dc,hp,l,k⟩
theorem KL (m:M K mg):FnOk P w K mg base CX0 1 m.tU m.tQ.d ["self","turn"] (lH K):=by
 refine m.tQ.F.ok sc_Door_lets (fun vs H Q E h=> ?_) (fun cdv A outer s H vs Q E hr h=> ?_)
 ·walk_at"g1";obtain⟨p,C,dx,fs,t,wd,rfl,dc,hp,l,k⟩:=h;walk_at"g2";rfl
 ·walk_at"g1";obtain⟨p,C,dx,fs,t,wd,rfl,dc,hp,l,k⟩:=h;walk_at"g2";have nd:=sc_Door_lets.nd;walk_at"hu";refine⟨_,(aE (aR (aI (pv 0) rfl))),?_⟩;refine aJ (σ:=[some (.ref p),some (.int t)]) rfl ?_;walk_at"cx";walk_at"go";exact k
theorem JX (m:M K mg):Mc P w K mg base m.gM "lets" 1 (lH K):=⟨_,_,_,m.uV.ic.cl,m.LD,m.tQ.b,KL m⟩
local macro_rules| `(tactic| walk_at"rd1")=> `(tactic| ((with_reducible refine' AT ?d ?e ?hn ?hs ?he ?hw ?_);(case d=>assumption);(case e=>walk_at"hp");(case hn=>assumption);(case hs=>assumption);(case he=>assumption);(case hw=>walk_at"sd");intro H' B' e'))
abbrev zJ (n s e w i0:V):List (Str×V):=bQ "since" i0 (lD n s e w)
inductive gJ (K:W.Frag)(vs:List V)(H:Hp)(Q:VK)(E:XK):Prop
 | mk (p C dx:Addr) (n s:Str) (e:V) (wd i0:Int) (_:vs=[.ref p,.str n,.str s,e,.int wd,.int i0]) (_:DCls K C) (_:H p=some (.ins C dx [])) (_:bC n=true) (_:bC s=true) (_:dG e) (_:0<=wd) (_:0<=i0) (_:∀H',SameBut p H H'->H' p=some (.ins C dx (zJ (.str n) (.str s) e (.int wd) (.int i0)))->Q .non H'):gJ K vs H Q E
theorem JO {H:Hp}{Q:VK}{E:XK}{p C dx:Addr}{n s:Str}{e:V}{wd i0:Int} (dc:DCls K C) (hp:H p=some (.ins C dx [])) (hn:bC n=true) (hs:bC s=true) (he:dG e) (hw:0<=wd) (b0:0<=i0)
  (k:∀H',SameBut p H H'->H' p=some (.ins C dx (zJ (.str n) (.str s) e (.int wd) (.int i0)))->Q .non H'):gJ K [.ref p,.str n,.str s,e,.int wd,.int i0] H Q E:=⟨_,_,_,_,_,_,_,_,rfl,dc,hp,hn,hs,he,hw,b0,k⟩
theorem AF (m:M K mg):FnOk P w K mg base CX0 4 m.kF m.j9.d ["self","name","start","end","wide","since"] (gJ K):=by
 refine m.j9.F.ok sc_Since___init__ (fun vs H Q E h=> ?_) (fun cdv A outer s H vs Q E hr h=> ?_)
 ·walk_at"g1";obtain⟨p,C,dx,n,st,e,wd,i0,rfl,dc,hp,hn,hs,he,hw,b0,k⟩:=h;walk_at"g2";rfl
 ·walk_at"g1";obtain⟨p,C,dx,n,st,e,wd,i0,rfl,dc,hp,hn,hs,he,hw,b0,k⟩:=h;walk_at"g2";have nd:=sc_Since___init__.nd;walk_at"hu";have D_Door___init__:= @eG P w K mg base m;have F_need_whole:= @gD P w K mg base m;refine⟨_,(aB (aZ (HP D_Door___init__ hr (aA (pv 0) (aA (pv 1) (aA (pv 2) (aA (pv 3) (aA (pv 4) aC)))))))
   (aB (aZ (bK F_need_whole hr (aA eM (aA (pv 5) (aA aD aC)))))
   (aE (b8 (pv 0) (pv 5) rfl)))),?_⟩
  refine aJ (σ:=[some (.ref p),some (.str n),some (.str st),some (e),some (.int wd),some (.int i0)]) rfl ?_;walk_at"cx";walk_at"go";exact k _ (by walk_at"sb") (by assumption)
theorem PX (m:M K mg):Kc P w K mg base "Since" m.iS 4 [] (gJ K):=⟨_,_,_,_,m.aBh,m.W8,.nil,m.j9.b,AF m⟩
theorem RD {H:Hp}{Q:VK}{E:XK}{C:Addr}{vs dvs:List V}{n s:Str}{e:V}{wd i0:Int} (ev:vs++dvs=[.str n,.str s,e,.int wd,.int i0]) (dc:DCls K C) (hn:bC n=true) (hs:bC s=true) (he:dG e) (hw:0<=wd) (b0:0<=i0)
  (k:∀p dx H',H p=none->Same H H'->H' p=some (.ins C dx (zJ (.str n) (.str s) e (.int wd) (.int i0)))->Q (.ref p) H'):kW C (gJ K) dvs E Q vs H :=
 mQ (fun p dx H0 Q' h k' s0=>by rw[ev];exact JO dc h hn hs he hw b0 k') k
local macro_rules| `(tactic| walk_at"rd1")=> `(tactic| ((with_reducible refine' RD ?v ?d ?hn ?hs ?he ?hw ?b0 ?_);(case v=>rfl);(case d=>assumption);(case hn=>assumption);(case hs=>assumption);(case he=>first|assumption|exact .inl rfl|exact .inr ⟨_,rfl,by assumption⟩);(case hw=>walk_at"sd");(case b0=>walk_at"sd");intro p' dx' H' n' S' e'))
def t7 (wd i0 t:Int):Int:=if i0<=t then wd else 0
inductive jP (K:W.Frag)(vs:List V)(H:Hp)(Q:VK)(E:XK):Prop
 | mk (p C dx:Addr) (fs:List (Str×V)) (t wd i0:Int) (_:vs=[.ref p,.int t]) (_:DCls K C) (_:H p=some (.ins C dx fs)) (_:fs.lookup ("wide" :Str)=some (.int wd)) (_:fs.lookup ("since" :Str)=some (.int i0)) (_:0<=t) (_:0<=i0) (_:Q (.int (t7 wd i0 t)) H):jP K vs H Q E
theorem xH {H:Hp}{Q:VK}{E:XK}{p C dx:Addr}{fs:List (Str×V)}{t wd i0:Int} (hp:H p=some (.ins C dx fs)) (dc:DCls K C) (l:fs.lookup ("wide" :Str)=some (.int wd)) (m0:fs.lookup ("since" :Str)=some (.int i0)) (ht:0<=t) (b0:0<=i0) (k:Q (.int (t7 wd i0 t)) H):jP K [.ref p,.int t] H Q E:=⟨_,_,_,_,_,_,_,rfl,dc,hp,l,m0,ht,b0,k⟩
theorem GS (m:M K mg):FnOk P w K mg base CX0 1 m.rD m.rH.d ["self","turn"] (jP K):=by
 refine m.rH.F.ok sc_Since_lets (fun vs H Q E h=> ?_) (fun cdv A outer s H vs Q E hr h=> ?_)
 ·walk_at"g1";obtain⟨p,C,dx,fs,t,wd,i0,rfl,dc,hp,l,m0,ht,b0,k⟩:=h;walk_at"g2";rfl
 ·walk_at"g1";obtain⟨p,C,dx,fs,t,wd,i0,rfl,dc,hp,l,m0,ht,b0,k⟩:=h;walk_at"g2";have nd:=sc_Since_lets.nd;walk_at"hu";refine⟨_,(aE (aR (wF (aU HU (pv 1) (aI (pv 0) rfl) (bB _)) (aI (pv 0) rfl) aD))),?_⟩;refine aJ (σ:=[some (.ref p),some (.int t)]) rfl ?_;walk_at"cx";unfold t7 at k;walk_at"go";refine bM (fun hw=> ?_) (fun hw=> ?_)
  ·walk_at"go";rw[if_pos hw]at k;exact k
  ·walk_at"go";rw[if_neg hw]at k;exact k
theorem GX (m:M K mg):Mc P w K mg base m.iS "lets" 1 (jP K):=⟨_,_,_,m.rB.ic.cl,m.HE,m.rH.b,GS m⟩
local macro_rules| `(tactic| walk_at"rd1")=> `(tactic| ((with_reducible refine' xH ?e ?d ?l ?m0 ?ht ?b0 ?_);(case e=>walk_at"hp");(case d=>assumption);(case l=>walk_at"lk");(case m0=>walk_at"lk");(case ht=>walk_at"sd");(case b0=>walk_at"sd")))
abbrev zE (n s e w i0:V):List (Str×V):=bQ "until" i0 (lD n s e w)
inductive gG (K:W.Frag)(vs:List V)(H:Hp)(Q:VK)(E:XK):Prop
 | mk (p C dx:Addr) (n s:Str) (e:V) (wd i0:Int) (_:vs=[.ref p,.str n,.str s,e,.int wd,.int i0]) (_:DCls K C) (_:H p=some (.ins C dx [])) (_:bC n=true) (_:bC s=true) (_:dG e) (_:0<=wd) (_:0<=i0) (_:∀H',SameBut p H H'->H' p=some (.ins C dx (zE (.str n) (.str s) e (.int wd) (.int i0)))->Q .non H'):gG K vs H Q E
theorem K4 {H:Hp}{Q:VK}{E:XK}{p C dx:Addr}{n s:Str}{e:V}{wd i0:Int} (dc:DCls K C) (hp:H p=some (.ins C dx [])) (hn:bC n=true) (hs:bC s=true) (he:dG e) (hw:0<=wd) (b0:0<=i0)
  (k:∀H',SameBut p H H'->H' p=some (.ins C dx (zE (.str n) (.str s) e (.int wd) (.int i0)))->Q .non H'):gG K [.ref p,.str n,.str s,e,.int wd,.int i0] H Q E:=⟨_,_,_,_,_,_,_,_,rfl,dc,hp,hn,hs,he,hw,b0,k⟩
theorem AD (m:M K mg):FnOk P w K mg base CX0 4 m.j8 m.kG.d ["self","name","start","end","wide","until"] (gG K):=by
 refine m.kG.F.ok sc_Until___init__ (fun vs H Q E h=> ?_) (fun cdv A outer s H vs Q E hr h=> ?_)
 ·walk_at"g1";obtain⟨p,C,dx,n,st,e,wd,i0,rfl,dc,hp,hn,hs,he,hw,b0,k⟩:=h;walk_at"g2";rfl
 ·walk_at"g1";obtain⟨p,C,dx,n,st,e,wd,i0,rfl,dc,hp,hn,hs,he,hw,b0,k⟩:=h;walk_at"g2";have nd:=sc_Until___init__.nd;walk_at"hu";have D_Door___init__:= @eG P w K mg base m;have F_need_whole:= @gD P w K mg base m;refine⟨_,(aB (aZ (HP D_Door___init__ hr (aA (pv 0) (aA (pv 1) (aA (pv 2) (aA (pv 3) (aA (pv 4) aC)))))))
   (aB (aZ (bK F_need_whole hr (aA eM (aA (pv 5) (aA aD aC)))))
   (aE (b8 (pv 0) (pv 5) rfl)))),?_⟩
  refine aJ (σ:=[some (.ref p),some (.str n),some (.str st),some (e),some (.int wd),some (.int i0)]) rfl ?_;walk_at"cx";walk_at"go";exact k _ (by walk_at"sb") (by assumption)
theorem PM (m:M K mg):Kc P w K mg base "Until" m.iQ 4 [] (gG K):=⟨_,_,_,_,m.aBg,m.XA,.nil,m.kG.b,AD m⟩
theorem RY {H:Hp}{Q:VK}{E:XK}{C:Addr}{vs dvs:List V}{n s:Str}{e:V}{wd i0:Int} (ev:vs++dvs=[.str n,.str s,e,.int wd,.int i0]) (dc:DCls K C) (hn:bC n=true) (hs:bC s=true) (he:dG e) (hw:0<=wd) (b0:0<=i0)
  (k:∀p dx H',H p=none->Same H H'->H' p=some (.ins C dx (zE (.str n) (.str s) e (.int wd) (.int i0)))->Q (.ref p) H'):kW C (gG K) dvs E Q vs H :=
 mQ (fun p dx H0 Q' h k' s0=>by rw[ev];exact K4 dc h hn hs he hw b0 k') k
local macro_rules| `(tactic| walk_at"rd1")=> `(tactic| ((with_reducible refine' RY ?v ?d ?hn ?hs ?he ?hw ?b0 ?_);(case v=>rfl);(case d=>assumption);(case hn=>assumption);(case hs=>assumption);(case he=>first|assumption|exact .inl rfl|exact .inr ⟨_,rfl,by assumption⟩);(case hw=>walk_at"sd");(case b0=>walk_at"sd");intro p' dx' H' n' S' e'))
def uR (wd i0 t:Int):Int:=if t<i0 then wd else 0
inductive jQ (K:W.Frag)(vs:List V)(H:Hp)(Q:VK)(E:XK):Prop
 | mk (p C dx:Addr) (fs:List (Str×V)) (t wd i0:Int) (_:vs=[.ref p,.int t]) (_:DCls K C) (_:H p=some (.ins C dx fs)) (_:fs.lookup ("wide" :Str)=some (.int wd)) (_:fs.lookup ("until" :Str)=some (.int i0)) (_:0<=t) (_:0<=i0) (_:Q (.int (uR wd i0 t)) H):jQ K vs H Q E
theorem xJ {H:Hp}{Q:VK}{E:XK}{p C dx:Addr}{fs:List (Str×V)}{t wd i0:Int} (hp:H p=some (.ins C dx fs)) (dc:DCls K C) (l:fs.lookup ("wide" :Str)=some (.int wd)) (m0:fs.lookup ("until" :Str)=some (.int i0)) (ht:0<=t) (b0:0<=i0) (k:Q (.int (uR wd i0 t)) H):jQ K [.ref p,.int t] H Q E:=⟨_,_,_,_,_,_,_,rfl,dc,hp,l,m0,ht,b0,k⟩
theorem G1 (m:M K mg):FnOk P w K mg base CX0 1 m.rQ m.rP.d ["self","turn"] (jQ K):=by
 refine m.rP.F.ok sc_Until_lets (fun vs H Q E h=> ?_) (fun cdv A outer s H vs Q E hr h=> ?_)
 ·walk_at"g1";obtain⟨p,C,dx,fs,t,wd,i0,rfl,dc,hp,l,m0,ht,b0,k⟩:=h;walk_at"g2";rfl
 ·walk_at"g1";obtain⟨p,C,dx,fs,t,wd,i0,rfl,dc,hp,l,m0,ht,b0,k⟩:=h;walk_at"g2";have nd:=sc_Until_lets.nd;walk_at"hu";refine⟨_,(aE (aR (wF (aU g7 (pv 1) (aI (pv 0) rfl) (bB _)) (aI (pv 0) rfl) aD))),?_⟩;refine aJ (σ:=[some (.ref p),some (.int t)]) rfl ?_;walk_at"cx";unfold uR at k;walk_at"go";refine bM (fun hw=> ?_) (fun hw=> ?_)
  ·walk_at"go";rw[if_pos hw]at k;exact k
  ·walk_at"go";rw[if_neg hw]at k;exact k
theorem G8 (m:M K mg):Mc P w K mg base m.iQ "lets" 1 (jQ K):=⟨_,_,_,m.rO.ic.cl,m.HH,m.rP.b,G1 m⟩
local macro_rules| `(tactic| walk_at"rd1")=> `(tactic| ((with_reducible refine' xJ ?e ?d ?l ?m0 ?ht ?b0 ?_);(case e=>walk_at"hp");(case d=>assumption);(case l=>walk_at"lk");(case m0=>walk_at"lk");(case ht=>walk_at"sd");(case b0=>walk_at"sd")))
abbrev C5 (n s e w i0 i1:V):List (Str×V):=bQ "since" i1 (bQ "every" i0 (lD n s e w))
inductive hZ (K:W.Frag)(vs:List V)(H:Hp)(Q:VK)(E:XK):Prop
 | mk (p C dx:Addr) (n s:Str) (e:V) (wd i0 i1:Int) (_:vs=[.ref p,.str n,.str s,e,.int wd,.int i0,.int i1]) (_:DCls K C) (_:H p=some (.ins C dx [])) (_:bC n=true) (_:bC s=true) (_:dG e) (_:0<=wd) (_:1<=i0) (_:0<=i1) (_:∀H',SameBut p H H'->H' p=some (.ins C dx (C5 (.str n) (.str s) e (.int wd) (.int i0) (.int i1)))->Q .non H'):hZ K vs H Q E
theorem L3 {H:Hp}{Q:VK}{E:XK}{p C dx:Addr}{n s:Str}{e:V}{wd i0 i1:Int} (dc:DCls K C) (hp:H p=some (.ins C dx [])) (hn:bC n=true) (hs:bC s=true) (he:dG e) (hw:0<=wd) (b0:1<=i0) (b1:0<=i1)
  (k:∀H',SameBut p H H'->H' p=some (.ins C dx (C5 (.str n) (.str s) e (.int wd) (.int i0) (.int i1)))->Q .non H'):hZ K [.ref p,.str n,.str s,e,.int wd,.int i0,.int i1] H Q E:=⟨_,_,_,_,_,_,_,_,_,rfl,dc,hp,hn,hs,he,hw,b0,b1,k⟩
theorem A7 (m:M K mg):FnOk P w K mg base CX0 4 m.lP m.hJ ["self","name","start","end","wide","every","since"] (hZ K):=by
 refine m.DX.ok sc_Beat___init__ (fun vs H Q E h=> ?_) (fun cdv A outer s H vs Q E hr h=> ?_)
 ·walk_at"g1";obtain⟨p,C,dx,n,st,e,wd,i0,i1,rfl,dc,hp,hn,hs,he,hw,b0,b1,k⟩:=h;walk_at"g2";rfl
 ·walk_at"g1";obtain⟨p,C,dx,n,st,e,wd,i0,i1,rfl,dc,hp,hn,hs,he,hw,b0,b1,k⟩:=h;walk_at"g2";have nd:=sc_Beat___init__.nd;walk_at"hu";have D_Door___init__:= @eG P w K mg base m;have F_need_whole:= @gD P w K mg base m;refine⟨_,(aB (aZ (HP D_Door___init__ hr (aA (pv 0) (aA (pv 1) (aA (pv 2) (aA (pv 3) (aA (pv 4) aC)))))))
   (aB (aZ (bK F_need_whole hr (aA eM (aA (pv 5) (aA aD aC)))))
   (aB (aZ (bK F_need_whole hr (aA eM (aA (pv 6) (aA aD aC)))))
   (aB (b8 (pv 0) (pv 5) rfl)
   (aE (b8 (pv 0) (pv 6) rfl)))))),?_⟩
  refine aJ (σ:=[some (.ref p),some (.str n),some (.str st),some (e),some (.int wd),some (.int i0),some (.int i1)]) rfl ?_;walk_at"cx";walk_at"go";exact k _ (by walk_at"sb") (by assumption)
theorem RG (m:M K mg):Kc P w K mg base "Beat" m.mB 4 [] (hZ K):=⟨_,_,_,_,m.aDg,m.aBf,.nil,m.DY,A7 m⟩
theorem V6 {H:Hp}{Q:VK}{E:XK}{C:Addr}{vs dvs:List V}{n s:Str}{e:V}{wd i0 i1:Int} (ev:vs++dvs=[.str n,.str s,e,.int wd,.int i0,.int i1]) (dc:DCls K C) (hn:bC n=true) (hs:bC s=true) (he:dG e) (hw:0<=wd) (b0:1<=i0) (b1:0<=i1)
  (k:∀p dx H',H p=none->Same H H'->H' p=some (.ins C dx (C5 (.str n) (.str s) e (.int wd) (.int i0) (.int i1)))->Q (.ref p) H'):kW C (hZ K) dvs E Q vs H :=
 mQ (fun p dx H0 Q' h k' s0=>by rw[ev];exact L3 dc h hn hs he hw b0 b1 k') k
local macro_rules| `(tactic| walk_at"rd1")=> `(tactic| ((with_reducible refine' V6 ?v ?d ?hn ?hs ?he ?hw ?b0 ?b1 ?_);(case v=>rfl);(case d=>assumption);(case hn=>assumption);(case hs=>assumption);(case he=>first|assumption|exact .inl rfl|exact .inr ⟨_,rfl,by assumption⟩);(case hw=>walk_at"sd");(case b0=>walk_at"sd");(case b1=>walk_at"sd");intro p' dx' H' n' S' e'))
def zT (wd i0 i1 t:Int):Int:=if 0<=t - i1/\(t - i1)%i0=0 then wd else 0
inductive k5 (K:W.Frag)(vs:List V)(H:Hp)(Q:VK)(E:XK):Prop
 | mk (p C dx:Addr) (fs:List (Str×V)) (t wd i0 i1:Int) (_:vs=[.ref p,.int t]) (_:DCls K C) (_:H p=some (.ins C dx fs)) (_:fs.lookup ("wide" :Str)=some (.int wd)) (_:fs.lookup ("every" :Str)=some (.int i0)) (_:fs.lookup ("since" :Str)=some (.int i1)) (_:0<=t) (_:1<=i0) (_:0<=i1) (_:Q (.int (zT wd i0 i1 t)) H):k5 K vs H Q E
theorem AW {H:Hp}{Q:VK}{E:XK}{p C dx:Addr}{fs:List (Str×V)}{t wd i0 i1:Int} (hp:H p=some (.ins C dx fs)) (dc:DCls K C) (l:fs.lookup ("wide" :Str)=some (.int wd)) (m0:fs.lookup ("every" :Str)=some (.int i0)) (m1:fs.lookup ("since" :Str)=some (.int i1)) (ht:0<=t) (b0:1<=i0) (b1:0<=i1) (k:Q (.int (zT wd i0 i1 t)) H):k5 K [.ref p,.int t] H Q E:=⟨_,_,_,_,_,_,_,_,rfl,dc,hp,l,m0,m1,ht,b0,b1,k⟩
theorem JL (m:M K mg):FnOk P w K mg base CX0 1 m.tS m.tX.d ["self","turn"] (k5 K):=by
 refine m.tX.F.ok sc_Beat_lets (fun vs H Q E h=> ?_) (fun cdv A outer s H vs Q E hr h=> ?_)
 ·walk_at"g1";obtain⟨p,C,dx,fs,t,wd,i0,i1,rfl,dc,hp,l,m0,m1,ht,b0,b1,k⟩:=h;walk_at"g2";rfl
 ·walk_at"g1";obtain⟨p,C,dx,fs,t,wd,i0,i1,rfl,dc,hp,l,m0,m1,ht,b0,b1,k⟩:=h;walk_at"g2";have nd:=sc_Beat_lets.nd;walk_at"hu";refine⟨_,(aB (aO (i:=2) nd rfl (by walk_at"oi") (aK uI (pv 1) (aI (pv 0) rfl)))
   (aE (aR (wF (PW.pt (uT (aU HU (pv 2) aD (bB _)) (pR (aU eV (aK bP (pv 2) (aI (pv 0) rfl)) aD (bB _))))) (aI (pv 0) rfl) aD)))),?_⟩
  refine aJ (σ:=[some (.ref p),some (.int t),none]) rfl ?_;walk_at"cx";unfold zT at k;walk_at"go";refine bM (fun hw=> ?_) (fun hw=> ?_)
  ·walk_at"go";refine bM (fun hv=> ?_) (fun hv=> ?_)
   ·walk_at"go";rw[if_pos ⟨hw,hv⟩]at k;exact k
   ·walk_at"go";rw[if_neg (fun z=>hv z.2)]at k;exact k
  ·walk_at"go";rw[if_neg (fun z=>hw z.1)]at k;exact k
theorem HZ (m:M K mg):Mc P w K mg base m.mB "lets" 1 (k5 K):=⟨_,_,_,m.uW.ic.cl,m.LJ,m.tX.b,JL m⟩
local macro_rules| `(tactic| walk_at"rd1")=> `(tactic| ((with_reducible refine' AW ?e ?d ?l ?m0 ?m1 ?ht ?b0 ?b1 ?_);(case e=>walk_at"hp");(case d=>assumption);(case l=>walk_at"lk");(case m0=>walk_at"lk");(case m1=>walk_at"lk");(case ht=>walk_at"sd");(case b0=>walk_at"sd");(case b1=>walk_at"sd")))
local macro_rules| `(tactic| walk_at"rd1")=> `(tactic| first|(with_reducible refine TU ?_)|((with_reducible refine' RH ?s ?_);(case s=>walk_at"sd"))|((with_reducible refine' rd_pow ?s ?r ?u ?_);(case s=>walk_at"sd");(case r=>walk_at"sd");(case u=>decide)))
abbrev wO (n s e w i0:V):List (Str×V):=bQ "bits" i0 (lD n s e w)
inductive fM (K:W.Frag)(vs:List V)(H:Hp)(Q:VK)(E:XK):Prop
 | mk (p C dx:Addr) (n s:Str) (e:V) (wd i0:Int) (_:vs=[.ref p,.str n,.str s,e,.int wd,.int i0]) (_:DCls K C) (_:H p=some (.ins C dx [])) (_:bC n=true) (_:bC s=true) (_:dG e) (_:0<=wd) (_:0<=i0) (_:∀H',SameBut p H H'->H' p=some (.ins C dx (wO (.str n) (.str s) e (.int wd) (.int i0)))->Q .non H'):fM K vs H Q E
theorem G9 {H:Hp}{Q:VK}{E:XK}{p C dx:Addr}{n s:Str}{e:V}{wd i0:Int} (dc:DCls K C) (hp:H p=some (.ins C dx [])) (hn:bC n=true) (hs:bC s=true) (he:dG e) (hw:0<=wd) (b0:0<=i0)
  (k:∀H',SameBut p H H'->H' p=some (.ins C dx (wO (.str n) (.str s) e (.int wd) (.int i0)))->Q .non H'):fM K [.ref p,.str n,.str s,e,.int wd,.int i0] H Q E:=⟨_,_,_,_,_,_,_,_,rfl,dc,hp,hn,hs,he,hw,b0,k⟩
theorem xU (m:M K mg):FnOk P w K mg base CX0 4 m.i9 m.i8.d ["self","name","start","end","wide","bits"] (fM K):=by
 refine m.i8.F.ok sc_Marked___init__ (fun vs H Q E h=> ?_) (fun cdv A outer s H vs Q E hr h=> ?_)
 ·walk_at"g1";obtain⟨p,C,dx,n,st,e,wd,i0,rfl,dc,hp,hn,hs,he,hw,b0,k⟩:=h;walk_at"g2";rfl
 ·walk_at"g1";obtain⟨p,C,dx,n,st,e,wd,i0,rfl,dc,hp,hn,hs,he,hw,b0,k⟩:=h;walk_at"g2";have nd:=sc_Marked___init__.nd;walk_at"hu";have D_Door___init__:= @eG P w K mg base m;have F_need_whole:= @gD P w K mg base m;refine⟨_,(aB (aZ (HP D_Door___init__ hr (aA (pv 0) (aA (pv 1) (aA (pv 2) (aA (pv 3) (aA (pv 4) aC)))))))
   (aB (aZ (bK F_need_whole hr (aA eM (aA (pv 5) (aA aD aC)))))
   (aE (b8 (pv 0) (pv 5) rfl)))),?_⟩
  refine aJ (σ:=[some (.ref p),some (.str n),some (.str st),some (e),some (.int wd),some (.int i0)]) rfl ?_;walk_at"cx";walk_at"go";exact k _ (by walk_at"sb") (by assumption)
theorem LR (m:M K mg):Kc P w K mg base "Marked" m.gB 4 [] (fM K):=⟨_,_,_,_,m.W7,m.UM,.nil,m.i8.b,xU m⟩
theorem P2 {H:Hp}{Q:VK}{E:XK}{C:Addr}{vs dvs:List V}{n s:Str}{e:V}{wd i0:Int} (ev:vs++dvs=[.str n,.str s,e,.int wd,.int i0]) (dc:DCls K C) (hn:bC n=true) (hs:bC s=true) (he:dG e) (hw:0<=wd) (b0:0<=i0)
  (k:∀p dx H',H p=none->Same H H'->H' p=some (.ins C dx (wO (.str n) (.str s) e (.int wd) (.int i0)))->Q (.ref p) H'):kW C (fM K) dvs E Q vs H :=
 mQ (fun p dx H0 Q' h k' s0=>by rw[ev];exact G9 dc h hn hs he hw b0 k') k
local macro_rules| `(tactic| walk_at"rd1")=> `(tactic| ((with_reducible refine' P2 ?v ?d ?hn ?hs ?he ?hw ?b0 ?_);(case v=>rfl);(case d=>assumption);(case hn=>assumption);(case hs=>assumption);(case he=>first|assumption|exact .inl rfl|exact .inr ⟨_,rfl,by assumption⟩);(case hw=>walk_at"sd");(case b0=>walk_at"sd");intro p' dx' H' n' S' e'))
def pT (wd i0 t:Int):Int:=if i0/2^t.toNat%2=1 then wd else 0
inductive iL (K:W.Frag)(vs:List V)(H:Hp)(Q:VK)(E:XK):Prop
 | mk (p C dx:Addr) (fs:List (Str×V)) (t wd i0:Int) (_:vs=[.ref p,.int t]) (_:DCls K C) (_:H p=some (.ins C dx fs)) (_:fs.lookup ("wide" :Str)=some (.int wd)) (_:fs.lookup ("bits" :Str)=some (.int i0)) (_:0<=t) (_:0<=i0) (_:Q (.int (pT wd i0 t)) H):iL K vs H Q E
theorem wX {H:Hp}{Q:VK}{E:XK}{p C dx:Addr}{fs:List (Str×V)}{t wd i0:Int} (hp:H p=some (.ins C dx fs)) (dc:DCls K C) (l:fs.lookup ("wide" :Str)=some (.int wd)) (m0:fs.lookup ("bits" :Str)=some (.int i0)) (ht:0<=t) (b0:0<=i0) (k:Q (.int (pT wd i0 t)) H):iL K [.ref p,.int t] H Q E:=⟨_,_,_,_,_,_,_,rfl,dc,hp,l,m0,ht,b0,k⟩
theorem E6 (m:M K mg):FnOk P w K mg base CX0 1 m.oT m.oZ.d ["self","turn"] (iL K):=by
 refine m.oZ.F.ok sc_Marked_lets (fun vs H Q E h=> ?_) (fun cdv A outer s H vs Q E hr h=> ?_)
 ·walk_at"g1";obtain⟨p,C,dx,fs,t,wd,i0,rfl,dc,hp,l,m0,ht,b0,k⟩:=h;walk_at"g2";rfl
 ·walk_at"g1";obtain⟨p,C,dx,fs,t,wd,i0,rfl,dc,hp,l,m0,ht,b0,k⟩:=h;walk_at"g2";have nd:=sc_Marked_lets.nd;walk_at"hu";refine⟨_,(aB (bV (aU HU (pv 1) (aC9 PySem.F.plainAttrs_int PySem.F.slot_int_bit_length PySem.F.type_int_bit_length UB (aI (pv 0) rfl)) (bB _)) (aE (aR aD)) bE)
   (aE (aR (wF (aU eV (aK bP (aK aCP (aI (pv 0) rfl) (pv 1)) aD) aD (bB _)) (aI (pv 0) rfl) aD)))),?_⟩
  refine aJ (σ:=[some (.ref p),some (.int t)]) rfl ?_;walk_at"cx";unfold pT at k;walk_at"go";refine bM (fun hw=> ?_) (fun hw=> ?_)
  ·walk_at"go";rw[if_neg (by rw[QU b0 hw];decide)]at k;exact k
  ·walk_at"go";refine bM (fun hv=> ?_) (fun hv=> ?_)
   ·walk_at"go";rw[if_pos hv]at k;exact k
   ·walk_at"go";rw[if_neg hv]at k;exact k
theorem EO (m:M K mg):Mc P w K mg base m.gB "lets" 1 (iL K):=⟨_,_,_,m.nX.ic.cl,m.FD,m.oZ.b,E6 m⟩
local macro_rules| `(tactic| walk_at"rd1")=> `(tactic| ((with_reducible refine' wX ?e ?d ?l ?m0 ?ht ?b0 ?_);(case e=>walk_at"hp");(case d=>assumption);(case l=>walk_at"lk");(case m0=>walk_at"lk");(case ht=>walk_at"sd");(case b0=>walk_at"sd")))
abbrev aG:=Str×Str×V×(Int->Int)
def WC:HO->Prop
 | .lst _=>True
 | .dK _=>True
 | .dT _=>True
 | .tbl _=>True
 | .ins _ _ fs=>fs=[]
 | _=>False
structure bF where
 at':Hp->V->aG->Prop
 same:∀{H H' v d},at' H v d->Same H H'->at' H' v d
 but:∀{H H' v d p o},at' H v d->H p=some o->WC o->SameBut p H H'->at' H' v d
def X4 (P:Program)(w:World)(K:W.Frag)(mg:Str->Option Value)(base:Heap)(kL:Option Nat)(p C dx:Addr)(fs:List (Str×V))(fp:List (Addr×HO))(lt:Int->Int):Prop:=∀kl,kL=some kl →
 ∃sp,Mc P w K mg base C "lets" kl sp/\∀(H':Hp) (t:Int) (Q:VK),H' p=some (.ins C dx fs)->(∀x∈fp,H' x.1=some x.2)->0<=t->(∀H'',Same H' H''->Q (.int (lt t)) H'')->sp [.ref p,.int t] H' Q E0
inductive DoorAt (P:Program)(w:World)(K:W.Frag)(mg:Str->Option Value)(base:Heap)(kL:Option Nat)(H:Hp)(v:V)(d:aG):Prop
 | mk (p C dx:Addr) (fs:List (Str×V)) (fp:List (Addr×HO)) (_:v= .ref p) (_:H p=some (.ins C dx fs)) (_:DCls K C) (_:fs.lookup ("name" :Str)=some (.str d.1)) (_:fs.lookup ("start" :Str)=some (.str d.2.1)) (_:fs.lookup ("end" :Str)=some d.2.2.1) (_:fs.lookup ("is_exit" :Str)=none) (_:fs.lookup ("lets" :Str)=none) (_:Mc P w K mg base C "is_exit" 1 (eJ K)) (_:∀x∈fp,H x.1=some x.2/\¬WC x.2) (_:X4 P w K mg base kL p C dx fs fp d.2.2.2):DoorAt P w K mg base kL H v d
inductive XR (P:Program)(w:World)(K:W.Frag)(mg:Str->Option Value)(base:Heap)(kL:Option Nat)(H:Hp)(v:V)(n st:Str)(e:V)(lt:Int->Int):Prop
 | mk (p C dx:Addr) (fs:List (Str×V)) (fp:List (Addr×HO)) (_:v= .ref p) (_:H p=some (.ins C dx fs)) (_:DCls K C) (_:fs.lookup ("name" :Str)=some (.str n)) (_:fs.lookup ("start" :Str)=some (.str st)) (_:fs.lookup ("end" :Str)=some e) (_:fs.lookup ("is_exit" :Str)=none) (_:fs.lookup ("lets" :Str)=none) (_:Mc P w K mg base C "is_exit" 1 (eJ K)) (_:∀x∈fp,H x.1=some x.2/\¬WC x.2) (_:X4 P w K mg base kL p C dx fs fp lt):XR P w K mg base kL H v n st e lt
theorem DoorAt.ex {kL:Option Nat}{H:Hp}{v:V}{n st:Str}{e:V}{lt:Int->Int} (h:DoorAt P w K mg base kL H v (n,st,e,lt)):XR P w K mg base kL H v n st e lt:=by
 walk_at"g1";obtain⟨p,C,dx,fs,fp,h1,h2,h3,h4,h5,h6,h7,h8,h9,h10,h11⟩:=h;walk_at"g2";exact⟨p,C,dx,fs,fp,h1,h2,h3,h4,h5,h6,h7,h8,h9,h10,h11⟩
def aS (P:Program)(w:World)(K:W.Frag)(mg:Str->Option Value)(base:Heap)(kL:Option Nat):bF where
 at':=DoorAt P w K mg base kL
 same:=fun⟨p,C,dx,fs,fp,e,hp,dc,l1,l2,l3,l4,l5,mc,hf,lt⟩ s=>⟨p,C,dx,fs,fp,e,s _ _ hp,dc,l1,l2,l3,l4,l5,mc,fun x hx=>⟨s _ _ (hf x hx).1,(hf x hx).2⟩,lt⟩
 but:=fun {H H' v d q o} ⟨p,C,dx,fs,fp,e,hp,dc,l1,l2,l3,l4,l5,mc,hf,lt⟩ ho so sb=>⟨p,C,dx,fs,fp,e,sb _ _ hp (fun z=>by
   rw[z,ho]at hp;cases hp;have h:fs=[]:=so;rw[h]at l1;cases l1),dc,l1,l2,l3,l4,l5,mc,fun x hx=>⟨sb _ _ (hf x hx).1 (fun z=>by
   have h:=(hf x hx).1;rw[z,ho]at h;cases h;exact(hf x hx).2 so),(hf x hx).2⟩,lt⟩
local macro_rules| `(tactic| walk_at"rd1")=> `(tactic| first|(with_reducible refine YX ?_)|(with_reducible refine aAM ?_)|(with_reducible refine aCV ?_)|(with_reducible refine RZ ?_)|(with_reducible refine SW ?_)|(with_reducible refine rd_iItemsK ?_)|(with_reducible refine OI ?_)|(with_reducible refine WL ?_)|((with_reducible refine VH ?_);intro p' H' n' S' e')|((with_reducible refine W4 ?_);intro p' H' n' S' e'))
theorem cU {H:Hp}{Q:VK}{l:Addr}{xs:List V}{y:V} (e:H l=some (.lst xs)) (hz:xs.length<sizeLine) (h:∀H',SameBut l H H'->H' l=some (.lst (xs++[y]))->Q .non H'):N6 (.ref l) [y] H Q :=
 ⟨l,xs,y,rfl,rfl,e,hz,h _ SameBut.upd aQ⟩
inductive v8 (vs:List V)(H:Hp)(Q:VK)(E:XK):Prop
 | mk (f l:Int) (_:vs=[.int f,.int l]) (_:0<=f) (_:f<=l) (_:Q .non H):v8 vs H Q E
theorem YV {H:Hp}{Q:VK}{E:XK}{f l:Int} (h0:0<=f) (h1:f<=l) (h:Q .non H):v8 [.int f,.int l] H Q E:=⟨_,_,rfl,h0,h1,h⟩
theorem G6 (m:M K mg):FnOk P w K mg base CX0 1 m.rR m.l8.d ["first","last"] (v8):=by
 refine m.l8.F.ok sc_need_turns (fun vs H Q E h=> ?_) (fun cdv A outer s H vs Q E hr h=> ?_)
 ·walk_at"g1";obtain⟨f,l,rfl,h0,h1,k⟩:=h;walk_at"g2";rfl
 ·walk_at"g1";obtain⟨f,l,rfl,h0,h1,k⟩:=h;walk_at"g2";have nd:=sc_need_turns.nd;walk_at"hu";refine⟨_,(aB (bV (aU g7 (pv 0) aD (bB _)) (aE fW) bE)
   (aE (bV (aU g7 (pv 1) (pv 0) (bB _)) (aE fW) bE))),?_⟩
  refine aJ (σ:=[some (.int f),some (.int l)]) rfl ?_;walk_at"cx";walk_at"go";exact k
theorem GV (m:M K mg):Fc P w K mg base "need_turns" 1 ["first","last"] (v8):=⟨_,_,m.LL,m.l8.F.kp,m.l8.b,G6 m⟩
inductive zX (K:W.Frag)(vs:List V)(H:Hp)(Q:VK)(E:XK):Prop
 | mk (a:Addr) (ss:List Str) (_:vs=[.ref a]) (_:SqL K H a (ss.map V.str)) (_:ss.Nodup) (_:ss.length<=100) (_:∀H',Same H H'->Q .non H'):zX K vs H Q E
theorem SV {H:Hp}{Q:VK}{E:XK}{a:Addr}{ss:List Str} (hS:SqL K H a (ss.map V.str)) (nd:ss.Nodup) (hl:ss.length<=100) (h:∀H',Same H H'->Q .non H'):zX K [.ref a] H Q E:=⟨_,_,rfl,hS,nd,hl,h⟩
theorem AZ {α:Type}{ss:List α} (nd:ss.Nodup) {i:Nat}{z:α} (hz:ss[i]? =some z):z∉ss.take i:=fun h=>by
 obtain⟨hi,e⟩:=List.getElem?_eq_some_iff.mp hz;obtain⟨j,hj,ej⟩:=List.getElem_of_mem h;rw[List.length_take]at hj;rw[List.getElem_take]at ej;exact(List.pairwise_iff_getElem.mp nd) j i (by lia) hi (by lia) (ej.trans e.symm)
theorem aT {α:Type}{ss:List α}{i:Nat}{z:α} (hz:ss[i]? =some z):ss.take (i+1)=ss.take i++[z]:=by rw[List.take_succ,hz];rfl
theorem z8 (m:M K mg):FnOk P w K mg base CX0 1 m.kJ m.fZ.d ["names"] (zX K):=by
 refine m.fZ.F.ok sc_need_each_once (fun vs H Q E h=> ?_) (fun cdv A outer s H vs Q E hr h=> ?_)
 ·walk_at"g1";obtain⟨a,ss,rfl,hS,hnd,hlen,k⟩:=h;walk_at"g2";rfl
 ·walk_at"g1";obtain⟨a,ss,rfl,hS,hnd,hlen,k⟩:=h;walk_at"g2";have nd:=sc_need_each_once.nd;walk_at"hu";refine⟨_,(aB (aO (i:=1) nd rfl (by walk_at"oi") wG)
   (aE (cT PassesOwn.never rfl (bR (pv 0)) (aN (i:=2) nd rfl (by walk_at"oi")) (aB (bV (uO (KH hu1 (pv 2) (pv 1)) (by with_unfolding_all rfl)) (aE fW) bE)
   (aE (iN hu1 (pv 1) (pv 2) CK rfl)))))),?_⟩
  refine aJ (σ:=[some (.ref a),none,none]) rfl ?_;walk_at"cx";walk_at"go";rename_i p H1 n1 S1 e1;let Pv1:Nat->St->Hp->Prop:=fun i σ' H'=>SameBut p H1 H'/\∃kvs,H' p=some (.dK kvs)/\kvs.length<=i/\(∀z,(aY kvs (.inr z)).isSome=true->z∈ss.take i)/\∃x,σ'=[some (.ref a),some (.ref p),x];refine dC (ss.map V.str) Pv1 ⟨SameBut.refl,[],e1,Nat.le_refl _,(fun z h=>by cases h),_,rfl⟩ (fun i σ' H' _ q=>(SameBut.same n1 S1 q.1).seq hS) ?_ ?_
  ·rintro i x _ H' hx hq_;walk_at"g1";obtain⟨sb,kvs,ek,hk,hin,y,rfl⟩:=hq_;walk_at"g2";rw[List.getElem?_map]at hx;obtain⟨z,hz,rfl⟩:=Option.map_eq_some_iff.mp hx;have hi:i<ss.length:=(List.getElem?_eq_some_iff.mp hz).1;have hno:(aY kvs (.inr z)).isSome=false:=by
    cases e:(aY kvs (.inr z)).isSome with
    | false=>rfl
    | true=>exact absurd (hin z e) (AZ hnd hz)
   walk_at"go";refine aAn (.inl ek) ?_;rw[hno];walk_at"go";refine vU ek (by rw[sizeLine_eq];lia) fun H9 B9 e9=> ?_;refine⟨by walk_at"sb",_,e9,Nat.le_trans (jL _ _ _) (by lia),fun y hy=> ?_,_,rfl⟩;rw[BS]at hy;rw[aT hz]
   by_cases e:(Sum.inr y:Key)= .inr z
   ·cases e;exact List.mem_append_right _ (.head _)
   ·rw[if_neg e]at hy;exact List.mem_append_left _ (hin y hy)
  ·rintro _ H' hq_;walk_at"g1";obtain⟨sb,kvs,ek,hk,hin,y,rfl⟩:=hq_;walk_at"g2";exact k _ (SameBut.same n1 S1 sb)
theorem z6 (m:M K mg):Fc P w K mg base "need_each_once" 1 ["names"] (zX K):=⟨_,_,m.BZ,m.fZ.F.kp,m.fZ.b,z8 m⟩
def iA (rs:List Str)(d:aG):Prop:=d.2.1∈rs/\(d.2.2.1= .non∨∃z,d.2.2.1= .str z/\z∈rs)
def cY (H:Hp)(v:V)(p:Str×Int):Prop:=∃q,v= .ref q/\H q=some (.tup [.str p.1,.int p.2])
theorem qA {H H':Hp}{vs:List V}{ps:List (Str×Int)} (h:Paired (cY H) vs ps) (s:Same H H'):Paired (cY H') vs ps:=Paired.imp' (fun v z ⟨q,e,h⟩=>⟨q,e,s _ _ h⟩) h
inductive sS (K:W.Frag)(D:bF)(vs:List V)(H:Hp)(Q:VK)(E:XK):Prop
 | mk (a b:Addr) (us:List V) (ds:List aG) (rs:List Str) (ws:List V) (ps:List (Str×Int)) (_:vs=[.ref a,.ref b]) (_:SqL K H a us) (_:Paired (D.at' H) us ds) (_:(∀d∈ds,iA rs d)) (_:ds.length<=20) (_:SqL K H b ws) (_:Paired (cY H) ws ps) (_:(∀p∈ps,p.1∈rs)) (_:ps.length<=40) (_:∀p (ss:List Str) H',Same H H'->H' p=some (.lst (ss.map V.str))->(∀z∈ss,z∈rs)->ss.length<=80->Q (.ref p) H'):sS K D vs H Q E
theorem US {D:bF}{H:Hp}{Q:VK}{E:XK}{a b:Addr}{us:List V}{ds:List aG}{rs:List Str}{ws:List V}{ps:List (Str×Int)} (hS:SqL K H a us) (hd:Paired (D.at' H) us ds) (hr:∀d∈ds,iA rs d) (hl:ds.length<=20) (hb:SqL K H b ws) (hw:Paired (cY H) ws ps) (hwr:∀p∈ps,p.1∈rs) (hwl:ps.length<=40) (h:∀p (ss:List Str) H',Same H H'->H' p=some (.lst (ss.map V.str))->(∀z∈ss,z∈rs)->ss.length<=80->Q (.ref p) H'):sS K D [.ref a,.ref b] H Q E:=⟨_,_,_,_,_,_,_,rfl,hS,hd,hr,hl,hb,hw,hwr,hwl,h⟩
theorem xS (m:M K mg):FnOk P w K mg base CX0 2 m.jG m.fH.d ["doors","people"] (sS K (aS P w K mg base (some 4))):=by
 refine m.fH.F.ok sc_rooms_spoken_of (fun vs H Q E h=> ?_) (fun cdv A outer s H vs Q E hr h=> ?_)
 ·walk_at"g1";obtain⟨a,b,us,ds,rs,ws,ps,rfl,hS,hd,hr',hlen,hb,hw,hwr,hwl,k⟩:=h;walk_at"g2";rfl
 ·walk_at"g1";obtain⟨a,b,us,ds,rs,ws,ps,rfl,hS,hd,hr',hlen,hb,hw,hwr,hwl,k⟩:=h;walk_at"g2";have nd:=sc_rooms_spoken_of.nd;walk_at"hu";refine⟨_,(aB (aO (i:=2) nd rfl (by walk_at"oi") (b7 aC))
   (aB (cT PassesOwn.never rfl (bR (pv 0)) (aN (i:=3) nd rfl (by walk_at"oi")) (aB (aZ (g8 PySem.F.plainAttrs_list PySem.F.slot_list_append PySem.F.type_list_append cS (pv 2) (aA (aI (pv 3) rfl) aC)))
   (aE (bV (uA (jM (cB 1 hr (pv 3)))) (aE (aZ (g8 PySem.F.plainAttrs_list PySem.F.slot_list_append PySem.F.type_list_append cS (pv 2) (aA (aI (pv 3) rfl) aC)))) bE))))
   (aE (aR (aK aBK (pv 2) (c6 (N:=["room","number"]) (nl:=2) (ci:=[]) rfl (blk (s.heap.objs.size+1) rfl rfl rfl (by kernel_rfl)) (bR (pv 1)) (fun _ _ _ _=>(kM (K:=K) (n:=2) rfl (aX (aN (i:=0) (show (["room","number"]:List Str).Nodup by decide +kernel) rfl (by walk_at"oi")) (aX (aN (i:=1) (show (["room","number"]:List Str).Nodup by decide +kernel) rfl (by walk_at"oi")) dR)))) (fun _ _ _ _=>d9) (fun _ _ _ _=>(pv 0)))))))),?_⟩
  refine aJ (σ:=[some (.ref a),some (.ref b),none,none]) rfl ?_;walk_at"cx";have hul:us.length=ds.length:=Paired.length hd;walk_at"go";rename_i p H1 n1 S1 e1;let Pv2:Nat->St->Hp->Prop:=fun i σ' H'=>SameBut p H1 H'/\(∃ss:List Str,H' p=some (.lst (ss.map V.str))/\(∀z∈ss,z∈rs)/\ss.length<=2 * i)/\∃x,σ'=[some (.ref a),some (.ref b),some (.ref p),x];refine dC us Pv2 ⟨SameBut.refl,⟨[],e1,(fun _ z=>nomatch z),Nat.le_refl _⟩,_,rfl⟩ (fun i σ' H' _ q=>(SameBut.same n1 S1 q.1).seq hS) ?_ ?_
  ·rintro i x _ H' hx hq_;walk_at"g1";obtain⟨sb,⟨ss,es,hin,hsl⟩,y,rfl⟩:=hq_;walk_at"g2";have hi:i<us.length:=(List.getElem?_eq_some_iff.mp hx).1;obtain⟨d,hdx⟩:∃d,ds[i]? =some d:=⟨_,List.getElem?_eq_getElem (by lia)⟩
   walk_at"g1";obtain⟨n,st,e,lt⟩:=d;walk_at"g2";walk_at"g1";obtain⟨q,C9,dx,fs,fp,rfl,hq,dcC,l1,l2,l3,l4,l5,mcE,hfp,hlt⟩:=DoorAt.ex (Paired.at2 hd hx hdx);walk_at"g2";obtain⟨r1,r2⟩:=hr' _ (List.mem_of_getElem? hdx);have hqp:q≠p:=fun z=>by rw[z,n1]at hq;cases hq
   have hq':H' q=some (.ins C9 dx fs):=sb _ _ (S1 _ _ hq) hqp;rcases r2 with r2|⟨z,r2,r3⟩
   ·have r2:e= .non:=r2;subst r2;walk_at"go";refine cU es (by rw[sizeLine_eq,List.length_map];lia) fun H8 B8 e8=> ?_;have hq8:=B8 _ _ hq' hqp;walk_at"go";exact⟨by walk_at"sb",⟨ss++[st],by rw[e8,List.map_append];rfl,fun z hz=>(List.mem_append.mp hz).elim (hin z) (fun w=>by cases List.mem_singleton.mp w;exact r1),by rw[List.length_append];show ss.length+1<=_;lia⟩,_,rfl⟩
   ·have r2:e= .str z:=r2;subst r2;walk_at"go";refine cU es (by rw[sizeLine_eq,List.length_map];lia) fun H8 B8 e8=> ?_;have hq8:=B8 _ _ hq' hqp;walk_at"go";refine cU e8 (by rw[sizeLine_eq,List.length_append,List.length_map];show ss.length+1<_;lia) fun H9 B9 e9=> ?_;walk_at"go";refine⟨by walk_at"sb",⟨ss++[st]++[z],by rw[e9,List.map_append,List.map_append];rfl,fun z hz=> ?_,by rw[List.length_append,List.length_append];show ss.length+1+1<=_;lia⟩,_,rfl⟩;rcases List.mem_append.mp hz with hz|hz
    ·exact(List.mem_append.mp hz).elim (hin z) (fun w=>by cases List.mem_singleton.mp w;exact r1)
    ·cases List.mem_singleton.mp hz;exact r3
  ·rintro _ H' hq_;walk_at"g1";obtain⟨sb,⟨ss,es,hin,hsl⟩,y,rfl⟩:=hq_;walk_at"g2";have sH:Same H H':=SameBut.same n1 S1 sb;have hb':=sH.seq hb;walk_at"go";refine EG (α:=Str×Int) (xs:=ps) (vs:=ws) (fun p=> .str p.1) (fun p=> .int p.2) (fun _=>true) (fun p y _=>y= .str p.1) (fun _ _ _ _ h _=>h) (by rw[sizeLine_eq];lia) (rest:=[]) (by rfl) hb' (qA hw sH) (fun x H1 hx s1 R hR=>hR _ (Same.refl _)) (fun x H1 hx _ s1 R hR=> ?_) ?_
   ·walk_at"go";exact hR _ _ rfl (Same.refl _)
   intro ys H2 s2 hys;rw[d6]at hys;obtain rfl:=fQ hys;walk_at"go";rename_i q3 H3 n3 S3 e3 q4 H4 n4 S4 e4;refine k _ (ss++ps.map (·.1)) _ (by walk_at"sm") (by rw[e4,List.map_append,List.map_map];rfl) (fun z hz=> ?_) (by rw[List.length_append,List.length_map];lia);rcases List.mem_append.mp hz with hz|hz
   ·exact hin z hz
   ·obtain⟨p,hp,rfl⟩:=List.mem_map.mp hz;exact hwr p hp
theorem xM (m:M K mg):Fc P w K mg base "rooms_spoken_of" 2 ["doors","people"] (sS K (aS P w K mg base (some 4))):=⟨_,_,m.AM,m.fH.F.kp,m.fH.b,xS m⟩
inductive wB (K:W.Frag)(vs:List V)(H:Hp)(Q:VK)(E:XK):Prop
 | mk (a b:Addr) (ss:List Str) (kvs:List (Key×V)) (_:vs=[.ref a,.ref b]) (_:SqL K H a (ss.map V.str)) (_:Rd H b (.dK kvs)) (_:(∀z∈ss,(aY kvs (.inr z)).isSome=true)) (_:∀H',Same H H'->Q .non H'):wB K vs H Q E
theorem MR {H:Hp}{Q:VK}{E:XK}{a b:Addr}{ss:List Str}{kvs:List (Key×V)} (hS:SqL K H a (ss.map V.str)) (hb:Rd H b (.dK kvs)) (hk:∀z∈ss,(aY kvs (.inr z)).isSome=true) (h:∀H',Same H H'->Q .non H'):wB K [.ref a,.ref b] H Q E:=⟨_,_,_,_,rfl,hS,hb,hk,h⟩
theorem ZM {H H':Hp}{a:Addr}{u:HO} (s:Same H H') (r:Rd H a u):Rd H' a u:=r.elim (fun e=> .inl (s _ _ e)) fun⟨o,e⟩=> .inr ⟨o,s _ _ e⟩
theorem GW (m:M K mg):FnOk P w K mg base CX0 1 m.rN m.lQ.d ["names","sizes"] (wB K):=by
 refine m.lQ.F.ok sc_need_rooms (fun vs H Q E h=> ?_) (fun cdv A outer s H vs Q E hr h=> ?_)
 ·walk_at"g1";obtain⟨a,b,ss,kvs,rfl,hS,hb,hk,k⟩:=h;walk_at"g2";rfl
 ·walk_at"g1";obtain⟨a,b,ss,kvs,rfl,hS,hb,hk,k⟩:=h;walk_at"g2";have nd:=sc_need_rooms.nd;walk_at"hu";refine⟨_,(aE (cT PassesOwn.never rfl (bR (pv 0)) (aN (i:=2) nd rfl (by walk_at"oi")) (aE (bV (uO (xL hu1 (pv 2) (pv 1)) (by with_unfolding_all rfl)) (aE fW) bE)))),?_⟩;refine aJ (σ:=[some (.ref a),some (.ref b),none]) rfl ?_;walk_at"cx";walk_at"go";let Pv3:Nat->St->Hp->Prop:=fun i σ' H'=>Same H H'/\∃x,σ'=[some (.ref a),some (.ref b),x];refine dC (ss.map V.str) Pv3 ⟨Same.refl _,_,rfl⟩ (fun i σ' H' _ q=>q.1.seq hS) ?_ ?_
  ·rintro i x _ H' hx ⟨s1,y,rfl⟩;rw[List.getElem?_map]at hx;obtain⟨z,hz,rfl⟩:=Option.map_eq_some_iff.mp hx;have hz':=hk z (List.mem_of_getElem? hz);walk_at"go";refine DF (ZM s1 hb) ?_;rw[hz'];walk_at"go";exact⟨s1,_,rfl⟩
  ·rintro _ H' ⟨s1,y,rfl⟩;exact k _ s1
theorem wY (m:M K mg):Fc P w K mg base "need_rooms" 1 ["names","sizes"] (wB K):=⟨_,_,m.LH,m.lQ.F.kp,m.lQ.b,GW m⟩
theorem V4 {H:Hp}{Q:VK}{i j:Int} (h:Q (.int (i+j)) H):aCt (.int i) (.int j) H Q:=by
 first|exact h|exact⟨_,_,rfl,rfl,h⟩|exact .inl ⟨_,_,rfl,rfl,h⟩
theorem JI {H H':Hp}{p c:Addr}{kvs:List (Key×V)}{xs:List V} (h:SqL K H c xs) (hp:H p=some (.dK kvs)) (sb:SameBut p H H'):SqL K H' c xs:=by
 rcases h with (h|⟨o,h⟩)|h
 ·exact .inl (.inl (sb _ _ h fun z=>by rw[z,hp]at h;cases h))
 ·exact .inl (.inr ⟨o,sb _ _ h fun z=>by rw[z,hp]at h;cases h⟩)
 ·exact .inr h
def szK (rz:List (Str×Int)):List (Key×V):=rz.map fun e=>((.inr e.1:Key),V.int e.2)
theorem NM (rz:List (Str×Int)):(szK rz).map (·.1)=(rz.map (·.1)).map (Sum.inr:Str->Key):=by unfold szK;rw[List.map_map,List.map_map];rfl
theorem nV {rs:List Str}(nd:rs.Nodup):(rs.map (Sum.inr:Str->Key)).Nodup:=by
 rw[List.Nodup,List.pairwise_map];exact List.Pairwise.imp (fun h z=>h (Sum.inr.inj z)) nd
theorem BP {rz:List (Str×Int)}(nd:(rz.map (·.1)).Nodup):((szK rz).map (·.1)).Nodup:=by rw[NM];exact nV nd
theorem EQ {rz:List (Str×Int)}(nd:(rz.map (·.1)).Nodup){e:Str×Int}(h:e∈rz):aY (szK rz) (.inr e.1)=some (.int e.2) :=
 fJ (e:=((.inr e.1:Key),V.int e.2)) (BP nd) (List.mem_map.mpr ⟨e,h,rfl⟩)
theorem J2 {rz:List (Str×Int)}(nd:(rz.map (·.1)).Nodup){z:Str}(h:z∈rz.map (·.1)):∃i,(z,i)∈rz/\aY (szK rz) (.inr z)=some (.int i):=by
 obtain⟨e,he,rfl⟩:=List.mem_map.mp h;exact⟨e.2,he,EQ nd he⟩
theorem yD {kvs:List (Key×V)}{k:Key} (h:∀e∈kvs,e.1≠k):aY kvs k=none:=by
 induction kvs with
 | nil=>rfl
 | cons a l ih =>
  rw[dB (h a (.head _))];exact ih fun e he=>h e (List.mem_cons_of_mem _ he)
theorem F8:∀(ps kvs:List (Key×V)),(ps.map (·.1)).Nodup->(∀e∈kvs,∀q∈ps,e.1≠q.1)->k6 kvs ps=kvs++ps
 | [],kvs,_,_=>(List.append_nil _).symm
 | (k,v)::ps,kvs,nd,h=>by
  have nd':=List.pairwise_cons.mp nd;show k6 (cC kvs k v) ps=_;rw[d7 v (yD fun e he=>h e he _ (.head _)),F8 ps _ nd'.2,List.append_assoc]
  ·rfl
  ·intro e he q hq;rcases List.mem_append.mp he with he|he
   ·exact h e he q (List.mem_cons_of_mem _ hq)
   ·cases List.mem_singleton.mp he;exact nd'.1 q.1 (List.mem_map.mpr ⟨q,hq,rfl⟩)
theorem WO {rz:List (Str×Int)}(nd:(rz.map (·.1)).Nodup):k6 [] (szK rz)=szK rz:=by
 rw[F8 _ _ (BP nd) (fun e he=>absurd he (List.not_mem_nil))];rfl
theorem X7 {kvs:List (Key×V)}:∀(o:Obj) (x:HO),HO.dK kvs≠ .frz o x:=fun _ _ z=>by cases z
def CQ (rz:List (Str×Int))(ps:List (Str×Int))(kvs:List (Key×V)):Prop:=∀z∈rz.map (·.1),aY kvs (.inr z)=some (.int (dD ps z))
inductive vE (K:W.Frag)(vs:List V)(H:Hp)(Q:VK)(E:XK):Prop
 | mk (a b:Addr) (rz:List (Str×Int)) (ws:List V) (ps:List (Str×Int)) (_:vs=[.ref a,.ref b]) (_:H a=some (.dK (szK rz))) (_:SqL K H b ws) (_:Paired (cY H) ws ps) (_:(∀p∈ps,p.1∈rz.map (·.1))) (_:(rz.map (·.1)).Nodup) (_:rz.length<=100) (_:∀p H' kvs,H p=none->Same H H'->H' p=some (.dK kvs)->kvs.map (·.1)=(szK rz).map (·.1)->CQ rz ps kvs->Q (.ref p) H'):vE K vs H Q E
theorem N4 {H:Hp}{Q:VK}{E:XK}{a b:Addr}{rz:List (Str×Int)}{ws:List V}{ps:List (Str×Int)} (ha:H a=some (.dK (szK rz))) (hb:SqL K H b ws) (hw:Paired (cY H) ws ps) (hwr:∀p∈ps,p.1∈rz.map (·.1)) (nd:(rz.map (·.1)).Nodup) (hl:rz.length<=100) (h:∀p H' kvs,H p=none->Same H H'->H' p=some (.dK kvs)->kvs.map (·.1)=(szK rz).map (·.1)->CQ rz ps kvs->Q (.ref p) H'):vE K [.ref a,.ref b] H Q E:=⟨_,_,_,_,_,rfl,ha,hb,hw,hwr,nd,hl,h⟩
theorem VW {kvs:List (Key×V)}{k:Key}{v:V} (h:(aY kvs k).isSome=true):(cC kvs k v).map (·.1)=kvs.map (·.1):=by
 unfold cC;rw[mW,if_pos h,List.map_map]
 apply List.map_congr_left
 intro x _;show (if x.1=k then (x.1,v) else x).1=x.1
 split<;>rfl
theorem CL (m:M K mg):FnOk P w K mg base CX0 1 m.m3 m.iP.d ["sizes","people"] (vE K):=by
 refine m.iP.F.ok sc_added_people (fun vs H Q E h=> ?_) (fun cdv A outer s H vs Q E hr h=> ?_)
 ·walk_at"g1";obtain⟨a,b,rz,ws,ps,rfl,ha,hb,hw,hwr,ndz,hlen,k⟩:=h;walk_at"g2";rfl
 ·walk_at"g1";obtain⟨a,b,rz,ws,ps,rfl,ha,hb,hw,hwr,ndz,hlen,k⟩:=h;walk_at"g2";have nd:=sc_added_people.nd;walk_at"hu";refine⟨_,(aB (aO (i:=2) nd rfl (by walk_at"oi") wG)
   (aB (ZS (cT PassesOwn.never rfl (JR (pv 0)) (aN (i:=3) nd rfl (by walk_at"oi")) (aE (iN hu1 (pv 2) (pv 3) aD rfl))))
   (aB (cT PassesOwn.never rfl (bR (pv 1)) (yG (n:=2) rfl (aX (aN (i:=3) nd rfl (by walk_at"oi")) (aX (aN (i:=4) nd rfl (by walk_at"oi")) dR))) (aE (aAl hu1 (pv 2) (pv 3) (pv 4) SZ (fun _ _ _=>rfl))))
   (aE (aR (pv 2)))))),?_⟩
  refine aJ (σ:=[some (.ref a),some (.ref b),none,none,none]) rfl ?_;walk_at"cx";walk_at"go";rename_i p H1 n1 S1 e1;have hap:a≠p:=fun z=>by rw[z,n1]at ha;cases ha
  have ha1:=S1 _ _ ha;have hl2:(szK rz).length=rz.length:=by unfold szK;rw[List.length_map]
  refine UX ha1 X7 ?_;walk_at"go";refine II ha1 fun o H2 B2 e2=> ?_;have ep2:H2 p=some (.dK []):=B2 _ _ e1 (Ne.symm hap);have hwl:ws.length=ps.length:=Paired.length hw;let Pv4:Nat->St->Hp->Prop:=fun i σ' H'=>SameBut p H2 H'/\H' p=some (.dK ((rz.take i).map fun e=>((.inr e.1:Key),V.int 0)))/\∃x,σ'=[some (.ref a),some (.ref b),some (.ref p),x,none];refine VS (szK rz) Pv4 ⟨SameBut.refl,ep2,_,rfl⟩ (fun i σ' H' q=>q.1 _ _ e2 hap) ?_ ?_
  ·rintro i kk v _ H' hx hq_;walk_at"g1";obtain⟨sb,ek,y,rfl⟩:=hq_;walk_at"g2";unfold szK at hx;rw[List.getElem?_map]at hx;walk_at"g1";obtain⟨⟨z,sz⟩,hz,ez⟩:=Option.map_eq_some_iff.mp hx;walk_at"g2";cases ez;have hi:i<rz.length:=(List.getElem?_eq_some_iff.mp hz).1;have hnone:aY ((rz.take i).map fun e=>((.inr e.1:Key),V.int 0)) (.inr z)=none:=yD fun e he=>by
    obtain⟨d,hd,rfl⟩:=List.mem_map.mp he;intro zz;have hn:z∉(rz.map (·.1)).take i:=AZ ndz (by rw[List.getElem?_map,hz];rfl)
    apply hn
    rw[←List.map_take];exact List.mem_map.mpr ⟨d,hd,Sum.inr.inj zz⟩
   show (_:TG) (.str z) _ _ _;walk_at"go";refine vU ek (by rw[sizeLine_eq,List.length_map,List.length_take];lia) fun H9 B9 e9=> ?_;refine⟨by walk_at"sb",?_,_,rfl⟩;rw[e9,d7 _ hnone,aT hz,List.map_append];rfl
  ·rintro _ H' hq_;walk_at"g1";obtain⟨sb,ek,y,rfl⟩:=hq_;walk_at"g2";rw[hl2,List.take_length]at ek;refine sM (sb _ _ e2 hap) fun H3 B3 e3=> ?_;have ep3:=B3 _ _ ek (Ne.symm hap);have sH:Same H H3:=fun x u hx=>by
    by_cases ex:x=a
    ·subst ex;rw[ha]at hx;cases hx;exact e3
    ·have hxp:x≠p:=fun z=>by rw[z,n1]at hx;cases hx
     exact B3 _ _ (sb _ _ (B2 _ _ (S1 _ _ hx) ex) hxp) ex
   have hb3:=sH.seq hb;have hw3:=qA hw sH;have hnb:∀{H':Hp}{v:V}{r:Str×Int},SameBut p H3 H'->cY H3 v r->cY H' v r:=fun sb ⟨q,e,hq⟩=>⟨q,e,sb _ _ hq fun z=>by rw[z,ep3]at hq;cases hq⟩
   walk_at"go";let Pv5:Nat->St->Hp->Prop:=fun i σ' H'=>SameBut p H3 H'/\(∃kvs,H' p=some (.dK kvs)/\kvs.map (·.1)=(szK rz).map (·.1)/\CQ rz (ps.take i) kvs)/\∃x y,σ'=[some (.ref a),some (.ref b),some (.ref p),x,y];refine dC ws Pv5 ⟨SameBut.refl,⟨_,ep3,?_,?_⟩,_,_,rfl⟩ (fun i σ' H' _ q=>JI hb3 ep3 q.1) ?_ ?_
   ·unfold szK;rw[List.map_map,List.map_map];rfl
   ·intro z hz;obtain⟨e,he,rfl⟩:=List.mem_map.mp hz;exact fJ (e:=((.inr e.1:Key),V.int 0)) (by rw[show (rz.map fun e=>((.inr e.1:Key),V.int 0)).map (·.1)=(szK rz).map (·.1) from by unfold szK;rw[List.map_map,List.map_map];rfl];exact BP ndz) (List.mem_map.mpr ⟨e,he,rfl⟩)
   ·rintro i x _ H' hx hq_;walk_at"g1";obtain⟨sb',⟨kvs,ek',hkk,hin⟩,x1,x2,rfl⟩:=hq_;walk_at"g2";have hi:i<ws.length:=(List.getElem?_eq_some_iff.mp hx).1;obtain⟨⟨z,nn⟩,hpx⟩:∃d,ps[i]? =some d:=⟨_,List.getElem?_eq_getElem (by lia)⟩
    obtain⟨q,rfl,hq⟩:=Paired.at2 hw3 hx hpx;have hq':H' q=some (.tup [.str z,.int nn]):=sb' _ _ hq fun zz=>by rw[zz,ep3]at hq;cases hq
    have hzr:z∈rz.map (·.1):=hwr _ (List.mem_of_getElem? hpx);have hkl:kvs.length=rz.length:=by rw[←List.length_map (f:=fun e:Key×V=>e.1),hkk,List.length_map,hl2]
    walk_at"go";refine Y0 ?_;walk_at"go";refine U7 (.inl ek') (hin z hzr) ?_;walk_at"go";refine V4 ?_;refine zI ek' (by rw[sizeLine_eq];lia) fun H9 B9 e9=> ?_;refine⟨by walk_at"sb",⟨_,e9,?_,fun y hy=> ?_⟩,_,_,rfl⟩
    ·rw[VW (by rw[hin z hzr];rfl)];exact hkk
    ·rw[BS,aT hpx,TB]
     by_cases e:(Sum.inr y:Key)= .inr z
     ·cases e;rw[if_pos rfl,if_pos rfl]
     ·rw[if_neg e,if_neg (fun zz=>e (by rw[show z=y from zz])),Int.add_zero];exact hin y hy
   ·rintro _ H' hq_;walk_at"g1";obtain⟨sb',⟨kvs,ek',hkk,hin⟩,x1,x2,rfl⟩:=hq_;walk_at"g2";rw[hwl,List.take_length]at hin;walk_at"go";exact k _ _ _ n1 (SameBut.same n1 (fun x u hx=>sH x u hx) sb') ek' hkk hin
theorem sN (m:M K mg):Fc P w K mg base "added_people" 1 ["sizes","people"] (vE K):=⟨_,_,m.FI,m.iP.F.kp,m.iP.b,CL m⟩
def ED (rz ps:List (Str×Int)):Prop:=(∀p∈ps,0<=p.2)/\∀e∈rz,dD ps e.1<=e.2
inductive u9 (K:W.Frag)(vs:List V)(H:Hp)(Q:VK)(E:XK):Prop
 | mk (a b:Addr) (rz:List (Str×Int)) (ws:List V) (ps:List (Str×Int)) (_:vs=[.ref a,.ref b]) (_:H a=some (.dK (szK rz))) (_:SqL K H b ws) (_:Paired (cY H) ws ps) (_:(∀p∈ps,p.1∈rz.map (·.1))) (_:(rz.map (·.1)).Nodup) (_:rz.length<=100) (_:ps.length<=100) (_:ED rz ps) (_:∀H',Same H H'->Q .non H'):u9 K vs H Q E
theorem Y5 {H:Hp}{Q:VK}{E:XK}{a b:Addr}{rz:List (Str×Int)}{ws:List V}{ps:List (Str×Int)} (ha:H a=some (.dK (szK rz))) (hb:SqL K H b ws) (hw:Paired (cY H) ws ps) (hwr:∀p∈ps,p.1∈rz.map (·.1)) (nd:(rz.map (·.1)).Nodup) (hl:rz.length<=100) (hpl:ps.length<=100) (hf:ED rz ps) (h:∀H',Same H H'->Q .non H'):u9 K [.ref a,.ref b] H Q E:=⟨_,_,_,_,_,rfl,ha,hb,hw,hwr,nd,hl,hpl,hf,h⟩
theorem yK {α:Type}:∀{l:List α}{ys:List V},Paired (fun _ y=>y=V.bl false) l ys->ys=(l.map fun _=>false).map V.bl
 | _,_,.nil=>rfl
 | _,_,.cons h t=>by rw[h,yK t];rfl
theorem F1 {α:Type}(l:List α):(l.map fun _=>false).any id=false:=by simp
theorem GZ (m:M K mg):FnOk P w K mg base CX0 2 m.rF m.lU.d ["sizes","people"] (u9 K):=by
 refine m.lU.F.ok sc_need_space (fun vs H Q E h=> ?_) (fun cdv A outer s H vs Q E hr h=> ?_)
 ·walk_at"g1";obtain⟨a,b,rz,ws,ps,rfl,ha,hb,hw,hwr,ndz,hlen,hpl,hf,k⟩:=h;walk_at"g2";rfl
 ·walk_at"g1";obtain⟨a,b,rz,ws,ps,rfl,ha,hb,hw,hwr,ndz,hlen,hpl,hf,k⟩:=h;walk_at"g2";have nd:=sc_need_space.nd;walk_at"hu";have F_added_people:= @sN P w K mg base m;refine⟨_,(aB (bV (jM (bH (FT rfl) rfl m.YK UC (aA (c6 (N:=["room","number"]) (nl:=2) (ci:=[]) rfl (blk (s.heap.objs.size+1) rfl rfl rfl (by kernel_rfl)) (bR (pv 1)) (fun _ _ _ _=>(kM (K:=K) (n:=2) rfl (aX (aN (i:=0) (show (["room","number"]:List Str).Nodup by decide +kernel) rfl (by walk_at"oi")) (aX (aN (i:=1) (show (["room","number"]:List Str).Nodup by decide +kernel) rfl (by walk_at"oi")) dR)))) (fun _ _ _ _=>d9) (fun _ _ _ _=>(uJ g7 (pv 1) aD (bB _)))) aC))) (aE fW) bE)
   (aB (aO (i:=2) nd rfl (by walk_at"oi") (bK F_added_people hr (aA (pv 0) (aA (pv 1) aC))))
   (aE (bV (jM (bH (FT rfl) rfl m.YK UC (aA (EK (c6 (N:=["room","inside","sizes"]) (nl:=1) (ci:=[2,0]) rfl (blk (s.heap.objs.size+1) rfl rfl rfl (by kernel_rfl)) (JR (pv 0)) (fun _ _ _ _=>(aN (i:=0) (show (["room","inside","sizes"]:List Str).Nodup by decide +kernel) rfl (by walk_at"oi"))) (fun _ _ _ _=>d9) (fun _ _ _ _=>(uJ zG (fK hu1 (pv 1) (pv 0) (fun _ _=>rfl)) (fK hu1 (pv 2) (pv 0) (fun _ _=>rfl)) (bB _))))) aC))) (aE fW) bE)))),?_⟩
  refine aJ (σ:=[some (.ref a),some (.ref b),none]) rfl ?_;walk_at"cx";walk_at"go";refine EG (α:=Str×Int) (xs:=ps) (vs:=ws) (fun p=> .str p.1) (fun p=> .int p.2) (fun _=>true) (fun p y _=>y= .bl false) (fun _ _ _ _ h _=>h) (by rw[sizeLine_eq];lia) (rest:=[]) (by rfl) hb hw (fun x H1 hx s1 R hR=>hR _ (Same.refl _)) (fun x H1 hx _ s1 R hR=> ?_) ?_
  ·have h0:=hf.1 x hx;walk_at"go";exact hR _ _ (by rw[decide_eq_false (by lia)]) (Same.refl _)
  intro ys H2 s2 hys;rw[d6]at hys;obtain rfl:=yK hys;walk_at"go";rename_i q H3 n3 S3 e3;refine TC (SqL.of e3) ?_;rw[F1];walk_at"go";have sA:Same H H3:=s2.trans S3;refine N4 (sA _ _ ha) (sA.seq hb) (qA hw sA) hwr ndz hlen fun p H4 kvs n4 S4 e4 hkk hv=> ?_;have ha4:=S4 _ _ (sA _ _ ha);walk_at"go";refine BC ha4 X7 ?_;walk_at"go";refine II ha4 fun o H5 B5 e5=> ?_;have hpa:p≠a:=fun z=>by rw[z,sA _ _ ha]at n4;cases n4
  have ep5:=B5 _ _ e4 hpa;refine aCq (fun _=>true) (fun _ y _=>y= .bl false) (fun _ _ _ _ h _=>h) (by rw[sizeLine_eq];unfold szK;rw[List.length_map];lia) (rest:=[some (.ref p),some (.ref a)]) (by rfl) e5 (fun x H6 hx s6 R hR=>hR _ (Same.refl _)) ?_ ?_
  ·rintro x H6 hx - s6 R hR;obtain⟨e,he,rfl⟩:=List.mem_map.mp hx;have hfe:=hf.2 e he;show (_:TE) (some (V.str e.1)::[some (.ref p),some (.ref a)]) H6 R;walk_at"go";refine hU (.inl (s6 _ _ ep5)) (hv e.1 (List.mem_map.mpr ⟨e,he,rfl⟩)) ?_;walk_at"go";refine hU (.inr ⟨o,s6 _ _ e5⟩) (EQ ndz he) ?_;walk_at"go";exact hR _ _ (by rw[decide_eq_false (by lia)]) (Same.refl _)
  intro ys H6 s6 hys;rw[d6]at hys;obtain rfl:=yK hys;walk_at"go";rename_i q7 H7 n7 S7 e7;refine sM (S7 _ _ (s6 _ _ e5)) fun H8 B8 e8=> ?_;have hq7:q7≠a:=fun z=>by rw[z,s6 _ _ e5]at n7;cases n7
  have e78:=B8 _ _ e7 hq7;walk_at"go";refine TC (SqL.of e78) ?_;rw[F1];walk_at"go";exact k _ (QR (ha) (fun x u hx hxa=>B5 _ _ (S4 _ _ (sA _ _ hx)) hxa) (Same.but (s6.trans S7)) B8 e8)
theorem GL (m:M K mg):Fc P w K mg base "need_space" 2 ["sizes","people"] (u9 K):=⟨_,_,m.LC,m.lU.F.kp,m.lU.b,GZ m⟩
def RoomsAt (H:Hp)(vs:List V)(rz:List (Str×Int)):Prop:=Paired (cY H) vs rz
theorem RoomsAt.sm {H H':Hp}{vs:List V}{rs:List (Str×Int)} (h:RoomsAt H vs rs) (s:Same H H'):RoomsAt H' vs rs:=Paired.imp' (fun v z ⟨q,e,h⟩=>⟨q,e,s _ _ h⟩) h
theorem AR {H:Hp}:∀{vs:List V}{rs:List (Str×Int)},RoomsAt H vs rs->HS H vs (szK rs)
 | _,_,.nil=> .nil
 | _,_,.cons h t=> .cons h (AR t)
theorem u7 {D:bF}{H H':Hp}{us:List V}{ds:List aG} (h:Paired (D.at' H) us ds) (s:Same H H'):Paired (D.at' H') us ds:=Paired.imp' (fun v d h=>D.same h s) h
abbrev MT (f l:Int)(qs qp qd:Addr):List (Str×V):=bQ "named_doors" (.ref qd) (bQ "people" (.ref qp) (bQ "sizes" (.ref qs) (bQ "last" (.int l) (bQ "first" (.int f) []))))
def wK (D:bF)(H:Hp)(nk:List (Key×V))(ds:List aG):Prop:=Paired (fun e d=>e.1= .inr d.1/\D.at' H e.2 d) nk ds
theorem UO {D:bF}{H H':Hp}{nk:List (Key×V)}{ds:List aG} (h:wK D H nk ds) (s:Same H H'):wK D H' nk ds:=Paired.imp' (fun e d h=>⟨h.1,D.same h.2 s⟩) h
structure bO (C:Addr)(D:bF)(H:Hp)(h:Addr)(f l:Int)(rz ps:List (Str×Int))(ds:List aG):Prop where
 ex:∃dx qs qp qd nk kvs,H h=some (.ins C dx (MT f l qs qp qd))/\H qs=some (.dK (szK rz))/\H qp=some (.dK kvs)/\kvs.map (·.1)=(szK rz).map (·.1)/\CQ rz ps kvs/\H qd=some (.dK nk)/\wK D H nk ds
theorem vH {C:Addr}{D:bF}{H H':Hp}{h:Addr}{f l:Int}{rz ps:List (Str×Int)}{ds:List aG} (x:bO C D H h f l rz ps ds) (s:Same H H'):bO C D H' h f l rz ps ds:=by
 walk_at"g1";obtain⟨dx,qs,qp,qd,nk,kvs,e1,e2,e3,e4,e5,e6,e7⟩:=x.ex;walk_at"g2";exact⟨dx,qs,qp,qd,nk,kvs,s _ _ e1,s _ _ e2,s _ _ e3,e4,e5,s _ _ e6,UO e7 s⟩
theorem N5 {H H':Hp}{p c C dx:Addr}{fs:List (Str×V)}{xs:List V} (h:SqL K H c xs) (hp:H p=some (.ins C dx fs)) (sb:SameBut p H H'):SqL K H' c xs:=by
 rcases h with (h|⟨o,h⟩)|h
 ·exact .inl (.inl (sb _ _ h fun z=>by rw[z,hp]at h;cases h))
 ·exact .inl (.inr ⟨o,sb _ _ h fun z=>by rw[z,hp]at h;cases h⟩)
 ·exact .inr h
theorem fS {α β:Type}{F:α->β->Prop}:∀{l:List α}{m:List β}{x:α},Paired F l m->x∈l->∃y∈m,F x y
 | _,_,_,.cons r t,h=>by
  rcases List.mem_cons.mp h with rfl|h
  ·exact⟨_,.head _,r⟩
  ·obtain⟨y,hy,f⟩:=fS t h;exact⟨y,List.mem_cons_of_mem _ hy,f⟩
 | _,_,_,.nil,h=>nomatch h
inductive gH (K:W.Frag)(D:bF)(vs:List V)(H:Hp)(Q:VK)(E:XK):Prop
 | mk (p C dx a b c:Addr) (ws us cs:List V) (rz ps:List (Str×Int)) (ds:List aG) (f l:Int) (_:vs=[.ref p,.ref a,.ref b,.ref c,.int l,.int f]) (_:DCls K C) (_:H p=some (.ins C dx [])) (_:H a=some (.lst ws)) (_:RoomsAt H ws rz) (_:SqL K H b us) (_:Paired (D.at' H) us ds) (_:SqL K H c cs) (_:Paired (cY H) cs ps) (_:(rz.map (·.1)).Nodup) (_:(ds.map (·.1)).Nodup) (_:(∀d∈ds,iA (rz.map (·.1)) d)) (_:(∀p∈ps,p.1∈rz.map (·.1))) (_:ED rz ps) (_:rz.length<=20) (_:ds.length<=20) (_:ps.length<=40) (_:0<=f) (_:f<=l) (_:∀H',SameBut p H H'->bO C D H' p f l rz ps ds->Q .non H'):gH K D vs H Q E
theorem KJ {D:bF}{H:Hp}{Q:VK}{E:XK}{p C dx a b c:Addr}{ws us cs:List V}{rz ps:List (Str×Int)}{ds:List aG}{f l:Int} (dc:DCls K C) (hp:H p=some (.ins C dx [])) (ha:H a=some (.lst ws)) (hr:RoomsAt H ws rz) (hb:SqL K H b us) (hd:Paired (D.at' H) us ds) (hc:SqL K H c cs) (hcp:Paired (cY H) cs ps) (nr:(rz.map (·.1)).Nodup) (nd:(ds.map (·.1)).Nodup) (hin:∀d∈ds,iA (rz.map (·.1)) d) (hpr:∀p∈ps,p.1∈rz.map (·.1)) (hf:ED rz ps) (lr:rz.length<=20) (ld:ds.length<=20) (lp:ps.length<=40) (h0:0<=f) (h1:f<=l)
  (k:∀H',SameBut p H H'->bO C D H' p f l rz ps ds->Q .non H'):gH K D [.ref p,.ref a,.ref b,.ref c,.int l,.int f] H Q E:=⟨_,_,_,_,_,_,_,_,_,_,_,_,_,_,rfl,dc,hp,ha,hr,hb,hd,hc,hcp,nr,nd,hin,hpr,hf,lr,ld,lp,h0,h1,k⟩
theorem AA (m:M K mg):FnOk P w K mg base CX0 4 m.kH m.gA ["self","rooms","doors","people","last","first"] (gH K (aS P w K mg base (some 4))):=by
 refine m.CB.ok sc_House___init__ (fun vs H Q E h=> ?_) (fun cdv A outer s H vs Q E hr h=> ?_)
 ·walk_at"g1";obtain⟨p,C,dx,a,b,c,ws,us,cs,rz,ps,ds,f,l,rfl,dc,hp,ha,hra,hb,hd,hc,hcp,nr,nd',hin,hpr,hf,lr,ld,lp,h0,h1,k⟩:=h;walk_at"g2";rfl
 ·walk_at"g1";obtain⟨p,C,dx,a,b,c,ws,us,cs,rz,ps,ds,f,l,rfl,dc,hp,ha,hra,hb,hd,hc,hcp,nr,nd',hin,hpr,hf,lr,ld,lp,h0,h1,k⟩:=h;walk_at"g2";have nd:=sc_House___init__.nd;walk_at"hu";have F_added_people:= @sN P w K mg base m;have F_need_each_once:= @z6 P w K mg base m;have F_need_rooms:= @wY P w K mg base m;have F_need_space:= @GL P w K mg base m;have F_need_turns:= @GV P w K mg base m;have F_rooms_spoken_of:= @xM P w K mg base m;refine⟨_,(aB (aZ (bK F_need_turns hr (aA (pv 5) (aA (pv 4) aC))))
   (aB (aZ (bK F_need_each_once hr (aA (c6 (N:=["name","size"]) (nl:=2) (ci:=[]) rfl (blk (s.heap.objs.size+1) rfl rfl rfl (by kernel_rfl)) (bR (pv 1)) (fun _ _ _ _=>(kM (K:=K) (n:=2) rfl (aX (aN (i:=0) (show (["name","size"]:List Str).Nodup by decide +kernel) rfl (by walk_at"oi")) (aX (aN (i:=1) (show (["name","size"]:List Str).Nodup by decide +kernel) rfl (by walk_at"oi")) dR)))) (fun _ _ _ _=>d9) (fun _ _ _ _=>(pv 0))) aC)))
   (aB (aZ (bK F_need_each_once hr (aA (c6 (N:=["door"]) (nl:=1) (ci:=[]) rfl (blk (s.heap.objs.size+1) rfl rfl rfl (by kernel_rfl)) (bR (pv 2)) (fun _ _ _ _=>(aN (i:=0) (show (["door"]:List Str).Nodup by decide +kernel) rfl (by walk_at"oi"))) (fun _ _ _ _=>d9) (fun _ _ _ _=>(uB (K:=K) (pv 0) rfl))) aC)))
   (aB (aO (i:=6) nd rfl (by walk_at"oi") (xE (PN rfl) rfl m.aDd ZV (aA (pv 1) aC)))
   (aB (aZ (bK F_need_rooms hr (aA (bK F_rooms_spoken_of hr (aA (pv 2) (aA (pv 3) aC))) (aA (pv 6) aC))))
   (aB (aZ (bK F_need_space hr (aA (pv 6) (aA (pv 3) aC))))
   (aB (b8 (pv 0) (pv 5) rfl)
   (aB (b8 (pv 0) (pv 4) rfl)
   (aB (b8 (pv 0) (pv 6) rfl)
   (aB (b8 (pv 0) (bK F_added_people hr (aA (pv 6) (aA (pv 3) aC))) rfl)
   (aB (b8 (pv 0) wG rfl)
   (aE (cT PassesOwn.never rfl (bR (pv 2)) (aN (i:=7) nd rfl (by walk_at"oi")) (aE (iN hu1 (aI (pv 0) rfl) (aI (pv 7) rfl) (pv 7) rfl))))))))))))))),?_⟩
  refine aJ (σ:=[some (.ref p),some (.ref a),some (.ref b),some (.ref c),some (.int l),some (.int f),none,none]) rfl ?_;walk_at"cx";have hul:us.length=ds.length:=Paired.length hd;have hwl:ws.length=rz.length:=Paired.length hra;walk_at"go";refine YV h0 h1 ?_;walk_at"go";refine EG (α:=Str×Int) (xs:=rz) (vs:=ws) (fun e=> .str e.1) (fun e=> .int e.2) (fun _=>true) (fun z y _=>y= .str z.1) (fun _ _ _ _ h _=>h) (by rw[sizeLine_eq];lia) (rest:=[]) (by rfl) (SqL.of ha) hra (fun x H1 hx s1 R hR=>hR _ (Same.refl _)) (fun x H1 hx _ s1 R hR=> ?_) ?_
  ·walk_at"go";exact hR _ _ rfl (Same.refl _)
  intro ys H1 s1 hys;rw[d6]at hys;obtain rfl:=fQ hys;walk_at"go";rename_i q1 H2 n2 S2 e2;refine SV (ss:=rz.map (·.1)) (SqL.of (by rw[e2,List.map_map];rfl)) nr (by rw[List.length_map];lia) fun H3 S3=> ?_;have sA:Same H H3:=(s1.trans S2).trans S3;walk_at"go";refine mG (α:=aG) (xs:=ds) (vs:=us) ((aS P w K mg base (some 4)).at' H3) (fun _=>true) (fun d y _=>y= .str d.1) (fun _ _ _ _ h _=>h) (by rw[sizeLine_eq];lia) (rest:=[]) (by rfl) (sA.seq hb) (u7 hd sA) (fun v x H1 _ hx s1 R hR=>hR _ (Same.refl _)) ?_ ?_
  ·rintro v ⟨n,st,e,lt⟩ H4 hv hm - s4 R hR;walk_at"g1";obtain⟨q,C9,dx',fs,fp,rfl,hq,dcC,l1,l2,l3,l4,l5,mcE,hfp,hlt⟩:=DoorAt.ex hv;walk_at"g2";have hq':=s4 _ _ hq;walk_at"go";exact hR _ _ rfl (Same.refl _)
  intro ys H4 s4 hys;rw[d6]at hys;obtain rfl:=fQ hys;walk_at"go";rename_i q5 H5 n5 S5 e5;refine SV (ss:=ds.map (·.1)) (SqL.of (by rw[e5,List.map_map];rfl)) nd' (by rw[List.length_map];lia) fun H6 S6=> ?_;have sB:Same H H6:=((sA.trans s4).trans S5).trans S6;walk_at"go";refine WZ (sB _ _ ha) (AR (hra.sm sB)) fun qs H7 n7 S7 e7=> ?_;rw[WO nr]at e7;have sC:Same H H7:=sB.trans S7;walk_at"go";refine US (sC.seq hb) (u7 hd sC) hin ld (sC.seq hc) (qA hcp sC) hpr lp fun q8 ss H8 S8 e8 hss lss=> ?_;walk_at"go";refine MR (SqL.of e8) (.inl (S8 _ _ e7)) (fun z hz=>by obtain⟨i,_,e⟩:=J2 nr (hss z hz);rw[e];rfl) fun H9 S9=> ?_;have sD:Same H7 H9:=S8.trans S9;walk_at"go";refine Y5 (sD _ _ e7) ((sC.trans sD).seq hc) (qA hcp (sC.trans sD)) hpr nr (by lia) (by lia) hf fun H10 S10=> ?_;have sE:Same H H10:=(sC.trans sD).trans S10;have es:H10 qs=some (.dK (szK rz)):=S10 _ _ (sD _ _ e7);have hp10:=sE _ _ hp;have hqp:qs≠p:=fun z=>by rw[z,hp10]at es;cases es
  walk_at"go";rename_i H11 B11 e11 H12 B12 e12 H13 B13 e13;have sb13:SameBut p H10 H13:=by walk_at"sb"
  have es13:=sb13 _ _ es hqp;have hc13:SqL K H13 c cs:=N5 (sE.seq hc) hp10 sb13;have hcp13:Paired (cY H13) cs ps:=Paired.imp' (fun v r ⟨q,e,hq⟩=>⟨q,e,sb13 _ _ (sE _ _ hq) fun z=>by rw[z,hp]at hq;cases hq⟩) hcp;refine N4 es13 hc13 hcp13 hpr nr (by lia) fun qp H14 kvs n14 S14 e14 hkk hv14=> ?_;have hp14:=S14 _ _ e13;walk_at"go";rename_i H15 B15 e15 qd H16 n16 S16 e16 H17 B17 e17;have hqd:qd≠p:=fun z=>by rw[z,e15]at n16;cases n16
  have sb17:SameBut p H10 H17:=((((sb13.trans S14.but).trans B15).trans S16.but).trans B17)
  have es17:=sb17 _ _ es hqp;have ed17:=B17 _ _ e16 hqd;have hqpp:qp≠p:=fun z=>by rw[z,e13]at n14;cases n14
  have eq17:H17 qp=some (.dK kvs):=B17 _ _ (S16 _ _ (B15 _ _ e14 hqpp)) hqpp;have hqpd:qp≠qd:=fun z=>by rw[←z,B15 _ _ e14 hqpp]at n16;cases n16
  have fresh:∀x u,H10 x=some u->x≠p->x≠qd:=fun x u hx hxp z=>by
   have h15:H15 x=some u:=B15 _ _ (S14 _ _ (sb13 _ _ hx hxp)) hxp;rw[z,n16]at h15;cases h15
  have hb17:SqL K H17 b us:=N5 (sE.seq hb) hp10 sb17;have hd17:Paired ((aS P w K mg base (some 4)).at' H17) us ds:=Paired.imp' (fun v d h=>(aS P w K mg base (some 4)).but ((aS P w K mg base (some 4)).same h sE) hp10 rfl sb17) hd;have ddq:∀{H':Hp}{v:V}{d:aG},SameBut qd H17 H'->(aS P w K mg base (some 4)).at' H17 v d->(aS P w K mg base (some 4)).at' H' v d:=fun sb h=>(aS P w K mg base (some 4)).but h ed17 trivial sb;refine F5 hb17 ?_;let Pv1:Nat->St->Hp->Prop:=fun i σ' H'=>SameBut qd H17 H'/\(∃nk,H' qd=some (.dK nk)/\nk.length<=i/\Paired (fun e d=>e.1= .inr d.1/\(aS P w K mg base (some 4)).at' H17 e.2 d) nk (ds.take i))/\∃x,σ'=[some (.ref p),some (.ref a),some (.ref b),some (.ref c),some (.int l),some (.int f),some (.ref qs),x];refine dC us Pv1 ⟨SameBut.refl,⟨[],ed17,Nat.le_refl _,.nil⟩,_,rfl⟩ (fun i σ' H' _ q=>JI hb17 ed17 q.1) ?_ ?_
  ·rintro i x _ H' hx hq_;walk_at"g1";obtain⟨sb,⟨nk,ek,hk,pr⟩,y,rfl⟩:=hq_;walk_at"g2";have hi:i<us.length:=(List.getElem?_eq_some_iff.mp hx).1;obtain⟨d,hdx⟩:∃d,ds[i]? =some d:=⟨_,List.getElem?_eq_getElem (by lia)⟩
   have hD:=Paired.at2 hd17 hx hdx;walk_at"g1";obtain⟨n,st,e,lt⟩:=d;walk_at"g2";have hD':=ddq sb hD;walk_at"g1";obtain⟨q,C9,dx',fs,fp,rfl,hq',dcC,l1,l2,l3,l4,l5,mcE,hfp,hlt⟩:=DoorAt.ex hD';walk_at"g2";have hpp:H' p=some (.ins C dx (MT f l qs qp qd)):=sb _ _ e17 (Ne.symm hqd);have hnone:aY nk (.inr n)=none:=yD fun e he=>by
    walk_at"g1";obtain⟨d',hd',h1,_⟩:=fS pr he;walk_at"g2";rw[h1];intro z;have hn:n∉(ds.map (·.1)).take i:=AZ nd' (by rw[List.getElem?_map,hdx];rfl)
    apply hn
    rw[←List.map_take];exact List.mem_map.mpr ⟨d',hd',Sum.inr.inj z⟩
   walk_at"go";refine vU ek (by rw[sizeLine_eq];lia) fun H9' B9' e9'=> ?_;rw[d7 _ hnone]at e9';refine⟨by walk_at"sb",⟨_,e9',by rw[List.length_append];show nk.length+1<=_;lia,?_⟩,_,rfl⟩;rw[aT hdx];exact L2.Paired.snoc pr ⟨rfl,hD⟩
  ·rintro _ H' hq_;walk_at"g1";obtain⟨sb,⟨nk,ek,hk,pr⟩,y,rfl⟩:=hq_;walk_at"g2";rw[hul,List.take_length]at pr;refine k _ (fun x u hx hxp=>sb _ _ (sb17 _ _ (sE _ _ hx) hxp) (fresh x u (sE _ _ hx) hxp)) ⟨dx,qs,qp,qd,nk,kvs,sb _ _ e17 (Ne.symm hqd),sb _ _ es17 (fresh _ _ es hqp),sb _ _ eq17 hqpd,hkk,hv14,ek,?_⟩;exact Paired.imp' (fun e d h=>⟨h.1,ddq sb h.2⟩) pr
theorem DE (m:M K mg):Kc P w K mg base "House" m.aM 4 [] (gH K (aS P w K mg base (some 4))):=⟨_,_,_,_,m.aBi,m.XB,.nil,m.CA,AA m⟩
theorem F3 {C:Addr}{D:bF}{H:Hp}{Q:VK}{E:XK}{dvs vs:List V}{a b c:Addr}{ws us cs:List V}{rz ps:List (Str×Int)}{ds:List aG}{f l:Int} (ev:vs++dvs=[.ref a,.ref b,.ref c,.int l,.int f]) (dc:DCls K C) (ha:H a=some (.lst ws)) (hr:RoomsAt H ws rz) (hb:SqL K H b us) (hd:Paired (D.at' H) us ds) (hc:SqL K H c cs) (hcp:Paired (cY H) cs ps) (nr:(rz.map (·.1)).Nodup) (nd:(ds.map (·.1)).Nodup) (hin:∀d∈ds,iA (rz.map (·.1)) d) (hpr:∀p∈ps,p.1∈rz.map (·.1)) (hf:ED rz ps) (lr:rz.length<=20) (ld:ds.length<=20) (lp:ps.length<=40) (h0:0<=f) (h1:f<=l)
  (k:∀p H',H p=none->Same H H'->bO C D H' p f l rz ps ds->Q (.ref p) H'):kW C (gH K D) dvs E Q vs H:=by
 intro x dx nx nd0 ne;have s0:Same H (upd (upd H dx (.own x)) x (.ins C dx [])):=fun b o e=>by
  rw[aH (bA e nx),aH (bA e nd0)];exact e
 rw[ev];exact KJ dc aQ (s0 _ _ ha) (hr.sm s0) (s0.seq hb) (u7 hd s0) (s0.seq hc) (qA hcp s0) nr nd hin hpr hf lr ld lp h0 h1 fun H' sb hh=>⟨rfl,k x H' nx (fun b o q=>sb b o (s0 b o q) (bA q nx)) hh⟩
theorem aA1 (rz:List (Str×Int)):((szK rz).map fun e=>kV e.1)=(rz.map (·.1)).map V.str:=by unfold szK;rw[List.map_map,List.map_map];rfl
theorem C7 {D:bF}{H:Hp}:∀{nk:List (Key×V)}{ds:List aG},wK D H nk ds->(nk.map fun e=>kV e.1)=(ds.map (·.1)).map V.str
 | _,_,.nil=>rfl
 | (k,v)::_,_,.cons h t=>by
  rw[List.map_cons,C7 t,List.map_cons,List.map_cons];have:k= .inr _:=h.1;rw[this];rfl
theorem DJ {D:bF}{H:Hp}:∀{nk:List (Key×V)}{ds:List aG},wK D H nk ds->nk.map (·.1)=(ds.map (·.1)).map (Sum.inr:Str->Key)
 | _,_,.nil=>rfl
 | (k,v)::_,_,.cons h t=>by
  rw[List.map_cons,DJ t,List.map_cons,List.map_cons];have:k= .inr _:=h.1;rw[this]
theorem SH {D:bF}{H:Hp}{nk:List (Key×V)}{ds:List aG} (h:wK D H nk ds):nk.length=ds.length:=Paired.length h
theorem WN {D:bF}{H:Hp}{nk:List (Key×V)}{ds:List aG} (h:wK D H nk ds) (nd:(ds.map (·.1)).Nodup) {d:aG} (hd:d∈ds):∃v,aY nk (.inr d.1)=some v/\D.at' H v d:=by
 obtain⟨i,hi,e⟩:=List.getElem_of_mem hd;have hl:=SH h;have hx:nk[i]? =some nk[i]:=List.getElem?_eq_getElem (by lia);obtain⟨h1,h2⟩:=Paired.at2 h hx (show ds[i]? =some d by rw[List.getElem?_eq_getElem hi,e]);refine⟨_,?_,h2⟩;rw[←h1];exact fJ (by rw[DJ h];exact nV nd) (List.mem_of_getElem? hx)
inductive mE (C:Addr)(D:bF)(g:List (Str×Int)->List aG->List Str)(vs:List V)(H:Hp)(Q:VK)(E:XK):Prop
 | mk (h:Addr) (f l:Int) (rz ps:List (Str×Int)) (ds:List aG) (_:vs=[.ref h]) (_:bO C D H h f l rz ps ds) (_:∀p H',H p=none->Same H H'->H' p=some (.lst ((g rz ds).map V.str))->Q (.ref p) H'):mE C D g vs H Q E
theorem mI {C:Addr}{D:bF}{g:List (Str×Int)->List aG->List Str}{H:Hp}{Q:VK}{E:XK}{h:Addr}{f l:Int}{rz ps:List (Str×Int)}{ds:List aG} (hh:bO C D H h f l rz ps ds) (k:∀p H',H p=none->Same H H'->H' p=some (.lst ((g rz ds).map V.str))->Q (.ref p) H'):mE C D g [.ref h] H Q E:=⟨_,_,_,_,_,_,rfl,hh,k⟩
theorem E7 (m:M K mg):FnOk P w K mg base CX0 1 m.oY m.o8.d ["self"] (mE m.aM (aS P w K mg base (some 4)) fun rz _=>rz.map (·.1)):=by
 refine m.o8.F.ok sc_House_rooms (fun vs H Q E h=> ?_) (fun cdv A outer s H vs Q E hr h=> ?_)
 ·walk_at"g1";obtain⟨h,f,l,rz,ps,ds,rfl,hh,k⟩:=h;walk_at"g2";rfl
 ·walk_at"g1";obtain⟨h,f,l,rz,ps,ds,rfl,hh,k⟩:=h;walk_at"g2";have nd:=sc_House_rooms.nd;walk_at"hu";have w_dc_House:=m.bI;refine⟨_,(aE (aR (xE (C4 rfl) rfl m.UG NT (aA (aI (pv 0) rfl) aC)))),?_⟩;refine aJ (σ:=[some (.ref h)]) rfl ?_;walk_at"cx";walk_at"g1";obtain⟨dx,qs,qp,qd,nk,kvs,e1,e2,e3,e4,e5,e6,e7⟩:=hh.ex;walk_at"g2";walk_at"go";refine IL (.inl e2) fun p H1 n1 S1 e8=> ?_;rw[aA1]at e8;walk_at"go";exact k _ _ n1 S1 e8
theorem iK (m:M K mg):Mc P w K mg base m.aM "rooms" 1 (mE m.aM (aS P w K mg base (some 4)) fun rz _=>rz.map (·.1)):=⟨_,_,_,m.bI.ic.cl,m.FE,m.o8.b,E7 m⟩
theorem EE (m:M K mg):FnOk P w K mg base CX0 1 m.oS m.oV.d ["self"] (mE m.aM (aS P w K mg base (some 4)) fun _ ds=>ds.map (·.1)):=by
 refine m.oV.F.ok sc_House_doors (fun vs H Q E h=> ?_) (fun cdv A outer s H vs Q E hr h=> ?_)
 ·walk_at"g1";obtain⟨h,f,l,rz,ps,ds,rfl,hh,k⟩:=h;walk_at"g2";rfl
 ·walk_at"g1";obtain⟨h,f,l,rz,ps,ds,rfl,hh,k⟩:=h;walk_at"g2";have nd:=sc_House_doors.nd;walk_at"hu";have w_dc_House:=m.bI;refine⟨_,(aE (aR (xE (C4 rfl) rfl m.UG NT (aA (aI (pv 0) rfl) aC)))),?_⟩;refine aJ (σ:=[some (.ref h)]) rfl ?_;walk_at"cx";walk_at"g1";obtain⟨dx,qs,qp,qd,nk,kvs,e1,e2,e3,e4,e5,e6,e7⟩:=hh.ex;walk_at"g2";walk_at"go";refine IL (.inl e6) fun p H1 n1 S1 e8=> ?_;rw[C7 e7]at e8;walk_at"go";exact k _ _ n1 S1 e8
theorem mR (m:M K mg):Mc P w K mg base m.aM "doors" 1 (mE m.aM (aS P w K mg base (some 4)) fun _ ds=>ds.map (·.1)):=⟨_,_,_,m.bI.ic.cl,m.FM,m.oV.b,EE m⟩
inductive kT (C:Addr)(D:bF)(vs:List V)(H:Hp)(Q:VK)(E:XK):Prop
 | mk (h:Addr) (z:Str) (f l:Int) (rz ps:List (Str×Int)) (ds:List aG) (_:vs=[.ref h,.str z]) (_:bO C D H h f l rz ps ds) (_:(rz.map (·.1)).Nodup) (_:z∈rz.map (·.1)) (_:∀H',Same H H'->Q .non H'):kT C D vs H Q E
theorem AV {C:Addr}{D:bF}{H:Hp}{Q:VK}{E:XK}{h:Addr}{z:Str}{f l:Int}{rz ps:List (Str×Int)}{ds:List aG} (hh:bO C D H h f l rz ps ds) (nr:(rz.map (·.1)).Nodup) (hz:z∈rz.map (·.1)) (k:∀H',Same H H'->Q .non H'):kT C D [.ref h,.str z] H Q E:=⟨_,_,_,_,_,_,_,rfl,hh,nr,hz,k⟩
theorem yR (m:M K mg):FnOk P w K mg base CX0 2 m.jD m.jA.d ["self","room"] (kT m.aM (aS P w K mg base (some 4))):=by
 refine m.jA.F.ok sc_House_need_room (fun vs H Q E h=> ?_) (fun cdv A outer s H vs Q E hr h=> ?_)
 ·walk_at"g1";obtain⟨h,z,f,l,rz,ps,ds,rfl,hh,nr,hz,k⟩:=h;walk_at"g2";rfl
 ·walk_at"g1";obtain⟨h,z,f,l,rz,ps,ds,rfl,hh,nr,hz,k⟩:=h;walk_at"g2";have nd:=sc_House_need_room.nd;walk_at"hu";have F_need_rooms:= @wY P w K mg base m;have w_dc_House:=m.bI;refine⟨_,(aE (aZ (bK F_need_rooms hr (aA (b7 (aA (pv 1) aC)) (aA (aI (pv 0) rfl) aC))))),?_⟩;refine aJ (σ:=[some (.ref h),some (.str z)]) rfl ?_;walk_at"cx";walk_at"g1";obtain⟨dx,qs,qp,qd,nk,kvs,e1,e2,e3,e4,e5,e6,e7⟩:=hh.ex;walk_at"g2";obtain⟨i,hi,ev⟩:=J2 nr hz;walk_at"go";rename_i p H1 n1 S1 e8;refine MR (ss:=[z]) (SqL.of e8) (.inl (S1 _ _ e2)) (fun y hy=>by cases List.mem_singleton.mp hy;rw[ev];rfl) fun H2 S2=> ?_;walk_at"go";exact k _ (S1.trans S2)
theorem nW (m:M K mg):Mc P w K mg base m.aM "need_room" 2 (kT m.aM (aS P w K mg base (some 4))):=⟨_,_,_,m.bI.ic.cl,m.zA,m.jA.b,yR m⟩
inductive uX (C:Addr)(D:bF)(vs:List V)(H:Hp)(Q:VK)(E:XK):Prop
 | mk (h:Addr) (z:Str) (i f l:Int) (rz ps:List (Str×Int)) (ds:List aG) (_:vs=[.ref h,.str z]) (_:bO C D H h f l rz ps ds) (_:(rz.map (·.1)).Nodup) (_:(z,i)∈rz) (_:∀H',Same H H'->Q (.int i) H'):uX C D vs H Q E
theorem ZU {C:Addr}{D:bF}{H:Hp}{Q:VK}{E:XK}{h:Addr}{z:Str}{i f l:Int}{rz ps:List (Str×Int)}{ds:List aG} (hh:bO C D H h f l rz ps ds) (nr:(rz.map (·.1)).Nodup) (hz:(z,i)∈rz) (k:∀H',Same H H'->Q (.int i) H'):uX C D [.ref h,.str z] H Q E:=⟨_,_,_,_,_,_,_,_,rfl,hh,nr,hz,k⟩
theorem E4 (m:M K mg):FnOk P w K mg base CX0 3 m.o6 m.o7.d ["self","room"] (uX m.aM (aS P w K mg base (some 4))):=by
 refine m.o7.F.ok sc_House_holds (fun vs H Q E h=> ?_) (fun cdv A outer s H vs Q E hr h=> ?_)
 ·walk_at"g1";obtain⟨h,z,i,f,l,rz,ps,ds,rfl,hh,nr,hz,k⟩:=h;walk_at"g2";rfl
 ·walk_at"g1";obtain⟨h,z,i,f,l,rz,ps,ds,rfl,hh,nr,hz,k⟩:=h;walk_at"g2";have nd:=sc_House_holds.nd;walk_at"hu";have w_dc_House:=m.bI;have w_mc_House_need_room:= @nW P w K mg base m;refine⟨_,(aB (aZ (cO 2 hr (pv 0) (aA (pv 1) aC)))
   (aE (aR (fK hu1 (aI (pv 0) rfl) (pv 1) (fun _ _=>rfl))))),?_⟩
  refine aJ (σ:=[some (.ref h),some (.str z)]) rfl ?_;walk_at"cx";walk_at"g1";obtain⟨dx,qs,qp,qd,nk,kvs,e1,e2,e3,e4,e5,e6,e7⟩:=hh.ex;walk_at"g2";walk_at"go";refine AV hh nr (List.mem_map.mpr ⟨_,hz,rfl⟩) fun H1 S1=> ?_;have e11:=S1 _ _ e1;walk_at"go";refine hU (.inl (S1 _ _ e2)) (EQ nr hz) ?_;walk_at"go";exact k _ S1
theorem E5 (m:M K mg):Mc P w K mg base m.aM "holds" 3 (uX m.aM (aS P w K mg base (some 4))):=⟨_,_,_,m.bI.ic.cl,m.FG,m.o7.b,E4 m⟩
inductive u8 (C:Addr)(D:bF)(vs:List V)(H:Hp)(Q:VK)(E:XK):Prop
 | mk (h:Addr) (z:Str) (f l:Int) (rz ps:List (Str×Int)) (ds:List aG) (_:vs=[.ref h,.str z]) (_:bO C D H h f l rz ps ds) (_:(rz.map (·.1)).Nodup) (_:z∈rz.map (·.1)) (_:∀H',Same H H'->Q (.int (dD ps z)) H'):u8 C D vs H Q E
theorem ZA {C:Addr}{D:bF}{H:Hp}{Q:VK}{E:XK}{h:Addr}{z:Str}{f l:Int}{rz ps:List (Str×Int)}{ds:List aG} (hh:bO C D H h f l rz ps ds) (nr:(rz.map (·.1)).Nodup) (hz:z∈rz.map (·.1)) (k:∀H',Same H H'->Q (.int (dD ps z)) H'):u8 C D [.ref h,.str z] H Q E:=⟨_,_,_,_,_,_,_,rfl,hh,nr,hz,k⟩
theorem E9 (m:M K mg):FnOk P w K mg base CX0 3 m.oQ m.oX.d ["self","room"] (u8 m.aM (aS P w K mg base (some 4))):=by
 refine m.oX.F.ok sc_House_found (fun vs H Q E h=> ?_) (fun cdv A outer s H vs Q E hr h=> ?_)
 ·walk_at"g1";obtain⟨h,z,f,l,rz,ps,ds,rfl,hh,nr,hz,k⟩:=h;walk_at"g2";rfl
 ·walk_at"g1";obtain⟨h,z,f,l,rz,ps,ds,rfl,hh,nr,hz,k⟩:=h;walk_at"g2";have nd:=sc_House_found.nd;walk_at"hu";have w_dc_House:=m.bI;have w_mc_House_need_room:= @nW P w K mg base m;refine⟨_,(aB (aZ (cO 2 hr (pv 0) (aA (pv 1) aC)))
   (aE (aR (fK hu1 (aI (pv 0) rfl) (pv 1) (fun _ _=>rfl))))),?_⟩
  refine aJ (σ:=[some (.ref h),some (.str z)]) rfl ?_;walk_at"cx";walk_at"g1";obtain⟨dx,qs,qp,qd,nk,kvs,e1,e2,e3,e4,e5,e6,e7⟩:=hh.ex;walk_at"g2";walk_at"go";refine AV hh nr hz fun H1 S1=> ?_;have e11:=S1 _ _ e1;walk_at"go";refine hU (.inl (S1 _ _ e3)) (e5 z hz) ?_;walk_at"go";exact k _ S1
theorem D8 (m:M K mg):Mc P w K mg base m.aM "found" 3 (u8 m.aM (aS P w K mg base (some 4))):=⟨_,_,_,m.bI.ic.cl,m.FN,m.oX.b,E9 m⟩
inductive zF (C:Addr)(D:bF)(vs:List V)(H:Hp)(Q:VK)(E:XK):Prop
 | mk (h:Addr) (d:aG) (f l:Int) (rz ps:List (Str×Int)) (ds:List aG) (_:vs=[.ref h,.str d.1]) (_:bO C D H h f l rz ps ds) (_:(ds.map (·.1)).Nodup) (_:d∈ds) (_:∀v,D.at' H v d->Q v H):zF C D vs H Q E
theorem CW {C:Addr}{D:bF}{H:Hp}{Q:VK}{E:XK}{h:Addr}{d:aG}{f l:Int}{rz ps:List (Str×Int)}{ds:List aG} (hh:bO C D H h f l rz ps ds) (nd:(ds.map (·.1)).Nodup) (hd:d∈ds) (k:∀v,D.at' H v d->Q v H):zF C D [.ref h,.str d.1] H Q E:=⟨_,_,_,_,_,_,_,rfl,hh,nd,hd,k⟩
theorem HB (m:M K mg):FnOk P w K mg base CX0 1 m.rS m.rE.d ["self","name"] (zF m.aM (aS P w K mg base (some 4))):=by
 refine m.rE.F.ok sc_House_door (fun vs H Q E h=> ?_) (fun cdv A outer s H vs Q E hr h=> ?_)
 ·walk_at"g1";obtain⟨h,d,f,l,rz,ps,ds,rfl,hh,ndd,hd,k⟩:=h;walk_at"g2";rfl
 ·walk_at"g1";obtain⟨h,d,f,l,rz,ps,ds,rfl,hh,ndd,hd,k⟩:=h;walk_at"g2";have nd:=sc_House_door.nd;walk_at"hu";have w_dc_House:=m.bI;refine⟨_,(aB (bV (uO (xL hu1 (pv 1) (aI (pv 0) rfl)) (by with_unfolding_all rfl)) (aE fW) bE)
   (aE (aR (fK hu1 (aI (pv 0) rfl) (pv 1) (fun _ _=>rfl))))),?_⟩
  refine aJ (σ:=[some (.ref h),some (.str d.1)]) rfl ?_;walk_at"cx";walk_at"g1";obtain⟨dx,qs,qp,qd,nk,kvs,e1,e2,e3,e4,e5,e6,e7⟩:=hh.ex;walk_at"g2";obtain⟨v,ev,hv⟩:=WN e7 ndd hd;walk_at"go";refine DF (.inl e6) ?_;rw[show (aY nk (.inr d.1)).isSome=true by rw[ev];rfl];walk_at"go";refine hU (.inl e6) ev ?_;walk_at"go";exact k _ hv
theorem jN (m:M K mg):Mc P w K mg base m.aM "door" 1 (zF m.aM (aS P w K mg base (some 4))):=⟨_,_,_,m.bI.ic.cl,m.HG,m.rE.b,HB m⟩
local macro_rules| `(tactic| walk_at"rd1")=> `(tactic| first|(with_reducible refine aAh ?_)|(with_reducible refine aCL ?_)|(with_reducible refine aBs ?_)|(with_reducible refine rd_v14 ?_)|(with_reducible refine rd_s14 ?_)|(with_reducible refine rd_v15 ?_)|(with_reducible refine rd_s15 ?_)|(with_reducible refine rd_v16 ?_)|(with_reducible refine rd_s16 ?_)|(with_reducible refine rd_v17 ?_)|(with_reducible refine rd_s17 ?_)|(with_reducible refine rd_v18 ?_)|(with_reducible refine rd_s18 ?_)|(with_reducible refine rd_iEnum ?_)|((with_reducible refine' rd_iEnumV ?e ?_);(case e=>walk_at"hp"))|((with_reducible refine' rd_repS ?a ?b ?c ?_);(case a=>walk_at"sd");(case b=>walk_at"sd");(case c=>walk_at"sz")))
def bG (rz ps:List (Str×Int)):Int:=(rz.map fun e=>dD ps e.1).sum
theorem AQ {rz ps:List (Str×Int)}:∀{kvs:List (Key×V)}{l:List (Str×Int)},(kvs.map (·.1)).Nodup->kvs.map (·.1)=(szK l).map (·.1)->(∀e∈l,∀v,(Sum.inr e.1,v)∈kvs->v= .int (dD ps e.1))->kvs.map (·.2)=(l.map fun e=>dD ps e.1).map V.int
 | [],[],_,_,_=>rfl
 | [],_::_,_,h,_=>by cases h
 | _::_,[],_,h,_=>by cases h
 | (k,v)::kvs,e::l,nd,h,hv=>by
  have h1:=(List.cons.inj h).1;have h2:=(List.cons.inj h).2;have nd2:=(List.nodup_cons.mp nd).2;have ih:=AQ (rz:=rz) (ps:=ps) (kvs:=kvs) (l:=l) nd2 h2 fun e' he' v' hv'=>hv e' (List.mem_cons_of_mem _ he') v' (List.mem_cons_of_mem _ hv');have hk:k= .inr e.1:=h1;rw[List.map_cons,List.map_cons,List.map_cons,ih]
  congr 1
  exact hv e (.head _) v (by rw[hk];exact .head _)
inductive u5 (C:Addr)(D:bF)(vs:List V)(H:Hp)(Q:VK)(E:XK):Prop
 | mk (h:Addr) (f l:Int) (rz ps:List (Str×Int)) (ds:List aG) (_:vs=[.ref h]) (_:bO C D H h f l rz ps ds) (_:(rz.map (·.1)).Nodup) (_:∀H',Same H H'->Q (.int (bG rz ps)) H'):u5 C D vs H Q E
theorem OB {C:Addr}{D:bF}{H:Hp}{Q:VK}{E:XK}{h:Addr}{f l:Int}{rz ps:List (Str×Int)}{ds:List aG} (hh:bO C D H h f l rz ps ds) (nr:(rz.map (·.1)).Nodup) (k:∀H',Same H H'->Q (.int (bG rz ps)) H'):u5 C D [.ref h] H Q E:=⟨_,_,_,_,_,_,rfl,hh,nr,k⟩
theorem EC (m:M K mg):FnOk P w K mg base CX0 1 m.o9 m.pB.d ["self"] (u5 m.aM (aS P w K mg base (some 4))):=by
 refine m.pB.F.ok sc_House_total (fun vs H Q E h=> ?_) (fun cdv A outer s H vs Q E hr h=> ?_)
 ·walk_at"g1";obtain⟨h,f,l,rz,ps,ds,rfl,hh,nr,k⟩:=h;walk_at"g2";rfl
 ·walk_at"g1";obtain⟨h,f,l,rz,ps,ds,rfl,hh,nr,k⟩:=h;walk_at"g2";have nd:=sc_House_total.nd;walk_at"hu";have w_dc_House:=m.bI;refine⟨_,(aE (aR (bH (RV rfl) rfl m.zY uQ (aA (PB (aI (pv 0) rfl)) aC)))),?_⟩;refine aJ (σ:=[some (.ref h)]) rfl ?_;walk_at"cx";walk_at"g1";obtain⟨dx,qs,qp,qd,nk,kvs,e1,e2,e3,e4,e5,e6,e7⟩:=hh.ex;walk_at"g2";have ndk:(kvs.map (·.1)).Nodup:=by rw[e4,NM];exact nV nr
  have hv:kvs.map (·.2)=(rz.map fun e=>dD ps e.1).map V.int:=AQ (rz:=rz) ndk e4 fun e he v hm=>by
   have h1:=fJ ndk hm;have h2:=e5 e.1 (List.mem_map.mpr ⟨e,he,rfl⟩);have h3:aY kvs (.inr e.1)=some v:=h1;rw[h2]at h3;exact(Option.some.inj h3).symm
  walk_at"go";refine U4 (.inl e3) fun v H1 n1 S1 ev=> ?_;walk_at"go";refine aAv ev (.inl (S1 _ _ e3)) hv ?_;exact k _ S1
theorem uN (m:M K mg):Mc P w K mg base m.aM "total" 1 (u5 m.aM (aS P w K mg base (some 4))):=⟨_,_,_,m.bI.ic.cl,m.FK,m.pB.b,EC m⟩
def c7 (f l:Int)(d:aG)(t:Int):Int:=if f<=t/\t<l then d.2.2.2 t else 0
inductive vR (C:Addr)(D:bF)(vs:List V)(H:Hp)(Q:VK)(E:XK):Prop
 | mk (h:Addr) (d:aG) (t f l:Int) (rz ps:List (Str×Int)) (ds:List aG) (_:vs=[.ref h,.str d.1,.int t]) (_:bO C D H h f l rz ps ds) (_:(ds.map (·.1)).Nodup) (_:d∈ds) (_:0<=f) (_:∀H',Same H H'->Q (.int (c7 f l d t)) H'):vR C D vs H Q E
theorem aAP {C:Addr}{D:bF}{H:Hp}{Q:VK}{E:XK}{h:Addr}{d:aG}{t f l:Int}{rz ps:List (Str×Int)}{ds:List aG} (hh:bO C D H h f l rz ps ds) (nd:(ds.map (·.1)).Nodup) (hd:d∈ds) (hf:0<=f) (k:∀H',Same H H'->Q (.int (c7 f l d t)) H'):vR C D [.ref h,.str d.1,.int t] H Q E:=⟨_,_,_,_,_,_,_,_,rfl,hh,nd,hd,hf,k⟩
theorem GT (m:M K mg):FnOk P w K mg base CX0 6 m.rK m.rT.d ["self","name","turn"] (vR m.aM (aS P w K mg base (some 4))):=by
 refine m.rT.F.ok sc_House_lets (fun vs H Q E h=> ?_) (fun cdv A outer s H vs Q E hr h=> ?_)
 ·walk_at"g1";obtain⟨h,d,t,f,l,rz,ps,ds,rfl,hh,ndd,hd,hf,k⟩:=h;walk_at"g2";rfl
 ·walk_at"g1";obtain⟨h,d,t,f,l,rz,ps,ds,rfl,hh,ndd,hd,hf,k⟩:=h;walk_at"g2";have nd:=sc_House_lets.nd;walk_at"hu";have w_dc_House:=m.bI;have w_mc_House_door:= @jN P w K mg base m;refine⟨_,(aB (aO (i:=3) nd rfl (by walk_at"oi") (cO 1 hr (pv 0) (aA (pv 1) aC)))
   (aB (bV (PW.pt (v9 (aU g7 (pv 2) (aI (pv 0) rfl) (bB _)) (uF (aU HU (pv 2) (aI (pv 0) rfl) (bB _))))) (aE (aR aD)) bE)
   (aE (aR (cO 4 hr (pv 3) (aA (pv 2) aC)))))),?_⟩
  refine aJ (σ:=[some (.ref h),some (.str d.1),some (.int t),none]) rfl ?_;walk_at"cx";walk_at"g1";obtain⟨dx,qs,qp,qd,nk,kvs,e1,_⟩:=hh.ex;walk_at"g2";walk_at"g1";obtain⟨n,st,e,lt⟩:=d;walk_at"g2";walk_at"go";refine CW (d:=(n,st,e,lt)) hh ndd hd fun v hv=> ?_;walk_at"g1";obtain⟨q2,C2,dx2,fs2,fp2,rfl,hq2,dcC,l1,l2,l3,l4,l5,mcE,hfp,hlt⟩:=DoorAt.ex hv;walk_at"g2";obtain⟨sp,mcL,hsp⟩:=hlt _ rfl;walk_at"go";refine bM (fun hc=> ?_) (fun hc=> ?_)
  ·have hk:c7 f l (n,st,e,lt) t=0:=by unfold c7;rw[if_neg (by lia)]
   rw[hk]at k;walk_at"go";exact k _ (Same.refl _)
  ·walk_at"go";refine bM (fun hc2=> ?_) (fun hc2=> ?_)
   ·have hk:c7 f l (n,st,e,lt) t=0:=by unfold c7;rw[if_neg (by lia)]
    rw[hk]at k;walk_at"go";exact k _ (Same.refl _)
   ·have hk:c7 f l (n,st,e,lt) t=lt t:=by unfold c7;rw[if_pos (by lia)]
    rw[hk]at k;walk_at"go";exact hsp _ _ _ hq2 (fun x hx=>(hfp x hx).1) (by lia) k
theorem G3 (m:M K mg):Mc P w K mg base m.aM "lets" 6 (vR m.aM (aS P w K mg base (some 4))):=⟨_,_,_,m.bI.ic.cl,m.HF,m.rT.b,GT m⟩
def xZ (H:Hp)(v:V)(r:bN):Prop:=∃q,v= .ref q/\H q=some (.tup [.int r.1,.str r.2.1,.int r.2.2])
abbrev cN (H:Hp)(vs:List V)(rows:List bN):Prop:=Paired (xZ H) vs rows
theorem uK {H H':Hp}{vs:List V}{rows:List bN} (h:cN H vs rows) (s:Same H H'):cN H' vs rows:=Paired.imp' (fun v r ⟨q,e,h⟩=>⟨q,e,s _ _ h⟩) h
theorem AX {α β:Type}{F:α->β->Prop}:∀{l:List α}{m:List β},Paired F l m->Paired (fun b a=>F a b) m l
 | _,_,.nil=> .nil
 | _,_,.cons h t=> .cons h (AX t)
def cnt (ns:List Str)(f l:Int)(r:bN):Bool:=decide (r.2.1∈ns)&&(decide (f<=r.1)&&decide (r.1<l))
inductive vV (K:W.Frag)(C:Addr)(D:bF)(vs:List V)(H:Hp)(Q:VK)(E:XK):Prop
 | mk (h a:Addr) (f l:Int) (rz ps:List (Str×Int)) (ds:List aG) (us:List V) (rows:List bN) (_:vs=[.ref h,.ref a]) (_:bO C D H h f l rz ps ds) (_:SqL K H a us) (_:cN H us rows) (_:rows.length<=200) (_:∀p ys H',H p=none->Same H H'->H' p=some (.lst ys)->cN H' ys (rows.filter (cnt (ds.map (·.1)) f l))->Q (.ref p) H'):vV K C D vs H Q E
theorem ZT {C:Addr}{D:bF}{H:Hp}{Q:VK}{E:XK}{h a:Addr}{f l:Int}{rz ps:List (Str×Int)}{ds:List aG}{us:List V}{rows:List bN} (hh:bO C D H h f l rz ps ds) (hS:SqL K H a us) (hp:cN H us rows) (hl:rows.length<=200) (k:∀p ys H',H p=none->Same H H'->H' p=some (.lst ys)->cN H' ys (rows.filter (cnt (ds.map (·.1)) f l))->Q (.ref p) H'):vV K C D [.ref h,.ref a] H Q E:=⟨_,_,_,_,_,_,_,_,_,rfl,hh,hS,hp,hl,k⟩
theorem xP (m:M K mg):FnOk P w K mg base CX0 2 m.i7 m.fG.d ["house","plan"] (vV K m.aM (aS P w K mg base (some 4))):=by
 refine m.fG.F.ok sc_rows_that_count (fun vs H Q E h=> ?_) (fun cdv A outer s H vs Q E hr h=> ?_)
 ·walk_at"g1";obtain⟨h,a,f,l,rz,ps,ds,us,rows,rfl,hh,hS,hpl,hlen,k⟩:=h;walk_at"g2";rfl
 ·walk_at"g1";obtain⟨h,a,f,l,rz,ps,ds,us,rows,rfl,hh,hS,hpl,hlen,k⟩:=h;walk_at"g2";have nd:=sc_rows_that_count.nd;walk_at"hu";have w_dc_House:=m.bI;have w_mc_House_doors:= @mR P w K mg base m;refine⟨_,(aB (aO (i:=2) nd rfl (by walk_at"oi") (cB 1 hr (pv 0)))
   (aE (aR (c6 (N:=["row","doors","house"]) (nl:=1) (ci:=[2,0]) rfl (blk (s.heap.objs.size+1) rfl rfl rfl (by kernel_rfl)) (bR (pv 1)) (fun _ _ _ _=>(aN (i:=0) (show (["row","doors","house"]:List Str).Nodup by decide +kernel) rfl (by walk_at"oi"))) (fun _ _ _ _=>(qP (PW.pt (uT (aU (C0 (K:=K)) (aW (dQ (K:=K)) (pv 0) aD (fun _ _=>rfl)) (pv 1) (by with_unfolding_all rfl)) (pR (VF O7 g7 (uB (K:=K) (pv 2) rfl) (aW (dQ (K:=K)) (pv 0) aD (fun _ _=>rfl)) (uB (K:=K) (pv 2) rfl))))))) (fun _ _ _ _=>(pv 0)))))),?_⟩
  refine aJ (σ:=[some (.ref h),some (.ref a),none]) rfl ?_;walk_at"cx";walk_at"g1";obtain⟨dx,qs,qp,qd,nk,kvs,e1,e2,e3,e4,e5,e6,e7⟩:=hh.ex;walk_at"g2";walk_at"go";refine mI hh fun p1 H1 n1 S1 e8=> ?_;have e11:=S1 _ _ e1;walk_at"go";refine mG (α:=bN) (xs:=rows) (vs:=us) (xZ H1) (cnt (ds.map (·.1)) f l) (fun r y H=>xZ H y r) (fun _ _ _ _ ⟨q,h1,h2⟩ s=>⟨q,h1,s _ _ h2⟩) (by rw[sizeLine_eq];lia) (rest:=[some (.ref p1),some (.ref h)]) (by rfl) (S1.seq hS) (uK hpl S1) ?_ ?_ ?_
  ·rintro v ⟨t0,n0,j0⟩ H2 ⟨q,rfl,hq⟩ hm s2 R hR;have hq':H2 q=some (.tup [.int t0,.str n0,.int j0]):=s2 _ _ hq;have ep:=s2 _ _ e8;have eh:=s2 _ _ e11;walk_at"go";refine⟨q,_,1,_,rfl,rfl,SqT.of hq',rfl,?_⟩;walk_at"go";refine R5 (SqL.of ep) ?_;have hR':=hR _ (Same.refl _);unfold cnt at hR';walk_at"go";refine bM (fun hc=> ?_) (fun hc=> ?_)
   ·rw[decide_eq_true hc,Bool.true_and]at hR';walk_at"go";refine⟨q,_,0,_,rfl,rfl,SqT.of hq',rfl,?_⟩;walk_at"go";refine bM (fun hc2=> ?_) (fun hc2=> ?_)
    ·rw[decide_eq_true hc2,Bool.true_and]at hR';walk_at"go";exact hR'
    ·rw[decide_eq_false hc2,Bool.false_and]at hR';exact⟨false,rfl,hR'⟩
   ·rw[decide_eq_false hc,Bool.false_and]at hR';exact hR'
  ·rintro v ⟨t0,n0,j0⟩ H2 ⟨q,rfl,hq⟩ hm - s2 R hR;walk_at"go";exact hR _ _ ⟨q,rfl,s2 _ _ hq⟩ (Same.refl _)
  intro ys H2 s2 hys;have hpl2:=AX hys;walk_at"go";rename_i p3 H3 n3 S3 e33;refine k _ _ _ ?_ ((S1.trans s2).trans S3) e33 (uK hpl2 S3);cases hq:H p3 with
  | none=>rfl
  | some u=>rw[s2 _ _ (S1 _ _ hq)]at n3;cases n3
theorem xG (m:M K mg):Fc P w K mg base "rows_that_count" 2 ["house","plan"] (vV K m.aM (aS P w K mg base (some 4))):=⟨_,_,m.AN,m.fG.F.kp,m.fG.b,xP m⟩
def J9 (ds:List aG)(n:Str):Option aG:=ds.find? fun d=>decide (d.1=n)
theorem DI {ds:List aG}{n:Str} (h:n∈ds.map (·.1)):∃d∈ds,d.1=n/\J9 ds n=some d:=by
 obtain⟨d,hd,e⟩:=List.mem_map.mp h;cases hf:J9 ds n with
 | none =>
  have:=List.find?_eq_none.mp hf d hd;exact absurd (decide_eq_true e) this
 | some d2 =>
  have h1:decide (d2.1=n)=true:=List.find?_some (p:=fun d:aG=>decide (d.1=n)) hf;exact⟨d2,List.mem_of_find?_eq_some hf,of_decide_eq_true h1,rfl⟩
def wM (ds:List aG)(n:Str):Bool:=match J9 ds n with
 | some d=>decide (d.2.2.1= .non)
 | none=>false
def JY (ds:List aG)(f l:Int)(rows:List bN)(t:Int):Int:=(((rows.filter (cnt (ds.map (·.1)) f l)).filter fun r=>decide (r.1<t)&&wM ds r.2.1).map (·.2.2)).sum
inductive u4 (K:W.Frag)(C:Addr)(D:bF)(vs:List V)(H:Hp)(Q:VK)(E:XK):Prop
 | mk (h a:Addr) (t f l:Int) (rz ps:List (Str×Int)) (ds:List aG) (us:List V) (rows:List bN) (_:vs=[.ref h,.ref a,.int t]) (_:bO C D H h f l rz ps ds) (_:(ds.map (·.1)).Nodup) (_:(∀d∈ds,iA (rz.map (·.1)) d)) (_:SqL K H a us) (_:cN H us rows) (_:rows.length<=200) (_:∀H',Same H H'->Q (.int (JY ds f l rows t)) H'):u4 K C D vs H Q E
theorem Y2 {C:Addr}{D:bF}{H:Hp}{Q:VK}{E:XK}{h a:Addr}{t f l:Int}{rz ps:List (Str×Int)}{ds:List aG}{us:List V}{rows:List bN} (hh:bO C D H h f l rz ps ds) (nd:(ds.map (·.1)).Nodup) (hin:∀d∈ds,iA (rz.map (·.1)) d) (hS:SqL K H a us) (hp:cN H us rows) (hl:rows.length<=200) (k:∀H',Same H H'->Q (.int (JY ds f l rows t)) H'):u4 K C D [.ref h,.ref a,.int t] H Q E:=⟨_,_,_,_,_,_,_,_,_,_,rfl,hh,nd,hin,hS,hp,hl,k⟩
theorem Q3 (m:M K mg):FnOk P w K mg base CX0 3 m.CD m.wU.d ["house","plan","turn"] (u4 K m.aM (aS P w K mg base (some 4))):=by
 refine m.wU.F.ok sc_out_by (fun vs H Q E h=> ?_) (fun cdv A outer s H vs Q E hr h=> ?_)
 ·walk_at"g1";obtain⟨h,a,t,f,l,rz,ps,ds,us,rows,rfl,hh,ndd,hin,hS,hpl,hlen,k⟩:=h;walk_at"g2";rfl
 ·walk_at"g1";obtain⟨h,a,t,f,l,rz,ps,ds,us,rows,rfl,hh,ndd,hin,hS,hpl,hlen,k⟩:=h;walk_at"g2";have nd:=sc_out_by.nd;walk_at"hu";have F_rows_that_count:= @xG P w K mg base m;have w_dc_House:=m.bI;have w_mc_House_door:= @jN P w K mg base m;refine⟨_,(aB (aO (i:=3) nd rfl (by walk_at"oi") (bK F_rows_that_count hr (aA (pv 0) (aA (pv 1) aC))))
   (aE (aR (bH (nQ rfl) rfl m.zY uQ (aA (c6 (N:=["at","name","number","turn","house"]) (nl:=3) (ci:=[2,0]) rfl (blk (s.heap.objs.size+1) rfl rfl rfl (by kernel_rfl)) (bR (pv 3)) (fun _ _ _ _=>(kM (K:=K) (n:=3) rfl (aX (aN (i:=0) (show (["at","name","number","turn","house"]:List Str).Nodup by decide +kernel) rfl (by walk_at"oi")) (aX (aN (i:=1) (show (["at","name","number","turn","house"]:List Str).Nodup by decide +kernel) rfl (by walk_at"oi")) (aX (aN (i:=2) (show (["at","name","number","turn","house"]:List Str).Nodup by decide +kernel) rfl (by walk_at"oi")) dR))))) (fun _ _ _ _=>(qP (PW.pt (uT (aU g7 (pv 0) (pv 3) (bB _)) (pR (jM (aAo (P:=P) (w:=w) (K:=K) (mg:=mg) (base:=base) 1 hr (R0 (P:=P) (w:=w) (K:=K) (mg:=mg) (base:=base) 1 hr (pv 4) (aA (pv 1) aC))))))))) (fun _ _ _ _=>(pv 2))) aC))))),?_⟩
  refine aJ (σ:=[some (.ref h),some (.ref a),some (.int t),none]) rfl ?_;walk_at"cx";walk_at"go";refine ZT hh hS hpl hlen fun q ys H1 n1 S1 eq hcr=> ?_;unfold JY at k;generalize hce:rows.filter (cnt (ds.map (·.1)) f l)=cr at hcr k;have hcn:∀r∈cr,r.2.1∈ds.map (·.1):=fun r hr=>by
   rw[←hce]at hr;have:=(List.mem_filter.mp hr).2;unfold cnt at this;rw[Bool.and_eq_true]at this;exact of_decide_eq_true this.1
  have hcl:cr.length<=200:=by rw[←hce];exact Nat.le_trans (List.length_filter_le _ _) hlen
  have hyl:ys.length=cr.length:=Paired.length hcr;have hh1:=vH hh S1;walk_at"go";refine NH (α:=bN) (xs:=cr) (vs:=ys) (fun r=> .int r.1) (fun r=> .str r.2.1) (fun r=> .int r.2.2) (fun r=>decide (r.1<t)&&wM ds r.2.1) (fun r y _=>y= .int r.2.2) (fun _ _ _ _ h _=>h) (by rw[sizeLine_eq];lia) (rest:=[some (.int t),some (.ref h)]) (by rfl) (SqL.of eq) hcr ?_ ?_ ?_
  ·rintro ⟨t0,n0,j0⟩ H2 hm s2 R hR;have hR':=hR _ (Same.refl _);have hh2:=vH hh1 s2;walk_at"g1";obtain⟨dx,qs,qp,qd,nk,kvs,e1,_⟩:=hh2.ex;walk_at"g2";walk_at"g1";obtain⟨⟨dn,dst,de,lt⟩,hd,rfl,hdo⟩:=DI (hcn _ hm);walk_at"g2";have hend:=(hin _ hd).2;have hx:wM ds dn=decide (de= .non):=by unfold wM;rw[hdo]
   walk_at"go";refine bM (fun hc=> ?_) (fun hc=> ?_)
   ·rw[show (decide (((t0,dn,j0):bN).1<t))=true from decide_eq_true hc,Bool.true_and,hx]at hR';walk_at"go";refine CW (d:=(dn,dst,de,lt)) hh2 ndd hd fun v hv=> ?_;walk_at"g1";obtain⟨q2,C2,dx2,fs2,fp2,rfl,hq2,dcC,l1,l2,l3,l4,l5,mcE,hfp,hlt⟩:=DoorAt.ex hv;walk_at"g2";rcases hend with hend|⟨z,hend,hz⟩
    ·have hde:de= .non:=hend;subst hde;walk_at"go";exact hR'
    ·have hde:de= .str z:=hend;subst hde;rw[decide_eq_false (fun z=>nomatch z)]at hR';walk_at"go";exact hR'
   ·rw[show (decide (((t0,dn,j0):bN).1<t))=false from decide_eq_false hc,Bool.false_and]at hR';exact hR'
  ·rintro ⟨t0,n0,j0⟩ H2 hm - s2 R hR;walk_at"go";exact hR _ _ rfl (Same.refl _)
  intro ys2 H2 s2 hys2;have ey2:ys2=((cr.filter fun r=>decide (r.1<t)&&wM ds r.2.1).map (·.2.2)).map V.int:=by rw[fQ hys2,List.map_map];rfl
  subst ey2;walk_at"go";rename_i q3 H3 n3 S3 e3;refine xD (SqL.of e3) ?_;exact k _ ((S1.trans s2).trans S3)
theorem T0 (m:M K mg):Fc P w K mg base "out_by" 3 ["house","plan","turn"] (u4 K m.aM (aS P w K mg base (some 4))):=⟨_,_,m.W9,m.wU.F.kp,m.wU.b,Q3 m⟩
def yL:Sp:=fun vs H Q _=>∃i,vs=[.int i]/\Q (.bl true) H
theorem VI {H:Hp}{Q:VK}{E:XK}{i:Int} (h:Q (.bl true) H):yL [.int i] H Q E:=⟨_,rfl,h⟩
theorem GY (m:M K mg):FnOk P w K mg base CX0 1 m.rG m.l9.d ["_law_found"] (yL):=by
 refine m.l9.F.ok sc__law_whole (fun vs H Q E h=> ?_) (fun cdv A outer s H vs Q E hr h=> ?_)
 ·obtain⟨i,rfl,k⟩:=h;rfl
 ·obtain⟨i,rfl,k⟩:=h;have nd:=sc__law_whole.nd;walk_at"hu";refine⟨_,(aE (aR (DK (bH qW rfl m.iH gL (aA (pv 0) (aA (DP rfl m.YL QY) aC))) (C1 (QZ (bH qW rfl m.iH gL (aA (pv 0) (aA (DP rfl m.UE OF) aC)))))))),?_⟩;refine aJ (σ:=[some (.int i)]) rfl ?_;walk_at"cx";walk_at"go";exact k
theorem GQ (m:M K mg):Fc P w K mg base "_law_whole" 1 ["_law_found"] (yL):=⟨_,_,m.LA,m.l9.F.kp,m.l9.b,GY m⟩
def iJ (ns:List Int)(k:Int):Int:=ns.getD k.toNat 0
inductive zL (K:W.Frag)(vs:List V)(H:Hp)(Q:VK)(E:XK):Prop
 | mk (a:Addr) (ns:List Int) (k:Int) (_:vs=[.ref a,.int k]) (_:SqL K H a (ns.map V.int)) (_:0<=k) (_:Q (.int (iJ ns k)) H):zL K vs H Q E
theorem aC3 {H:Hp}{Q:VK}{E:XK}{a:Addr}{ns:List Int}{i:Int} (hS:SqL K H a (ns.map V.int)) (hi:0<=i) (h:Q (.int (iJ ns i)) H):zL K [.ref a,.int i] H Q E:=⟨_,_,_,rfl,hS,hi,h⟩
theorem DA (m:M K mg):FnOk P w K mg base CX0 1 m.mZ m.iR.d ["_law_script","_law_k"] (zL K):=by
 refine m.iR.F.ok sc__law_cell_at (fun vs H Q E h=> ?_) (fun cdv A outer s H vs Q E hr h=> ?_)
 ·walk_at"g1";obtain⟨a,ns,i,rfl,hS,hi,k⟩:=h;walk_at"g2";rfl
 ·walk_at"g1";obtain⟨a,ns,i,rfl,hS,hi,k⟩:=h;walk_at"g2";have nd:=sc__law_cell_at.nd;walk_at"hu";refine⟨_,(aB (bV (aU g7 (pv 1) (bH eN rfl m.nJ jJ (aA (pv 0) aC)) (bB _)) (aE (aR (aW bL (pv 0) (pv 1) (fun _ _=>rfl)))) bE)
   (aE (aR aD))),?_⟩
  refine aJ (σ:=[some (.ref a),some (.int i)]) rfl ?_;walk_at"cx";walk_at"go";rw[List.length_map];refine bM (fun h1=> ?_) (fun h1=> ?_)
  ·have hlt:i.toNat<ns.length:=by lia
   have e:=pU (xs:=ns.map V.int) (j:=i.toNat) (v:= .int (iJ ns i)) (by
    rw[List.getElem?_map,List.getElem?_eq_getElem hlt];unfold iJ;rw[List.getD_eq_getElem?_getD,List.getElem?_eq_getElem hlt];rfl)
   rw[show ((i.toNat:Nat):Int)=i by lia]at e;exact⟨_,rfl,_,rfl,a,_,i,_,rfl,rfl,hS,e,k⟩
  ·have e:iJ ns i=0:=by
    unfold iJ;rw[List.getD_eq_getElem?_getD,List.getElem?_eq_none (by lia)];rfl
   rw[e]at k;exact k
theorem sI (m:M K mg):Fc P w K mg base "_law_cell_at" 1 ["_law_script","_law_k"] (zL K):=⟨_,_,m.FH,m.iR.F.kp,m.iR.b,DA m⟩
local macro_rules| `(tactic| walk_at"rd1")=> `(tactic| first|(with_reducible refine VI ?_)|((with_reducible refine' aC3 ?e ?s ?_);(case e=>walk_at"hp");(case s=>walk_at"sd")))
inductive wA (vs:List V)(H:Hp)(Q:VK)(E:XK):Prop
 | mk (c k:Int) (_:vs=[.int c,.int k]) (_:∀n,0<=n->n<2147483648->Q (.int n) H):wA vs H Q E
theorem aAW {H:Hp}{Q:VK}{E:XK}{c k:Int} (h:∀n,0<=n->n<2147483648->Q (.int n) H):wA [.int c,.int k] H Q E:=⟨_,_,rfl,h⟩
theorem GU (m:M K mg):FnOk P w K mg base CX0 1 m.rU m.lV.d ["_law_cell","_law_k"] (wA):=by
 refine m.lV.F.ok sc__law_mixed (fun vs H Q E h=> ?_) (fun cdv A outer s H vs Q E hr h=> ?_)
 ·walk_at"g1";obtain⟨c,j,rfl,k⟩:=h;walk_at"g2";rfl
 ·walk_at"g1";obtain⟨c,j,rfl,k⟩:=h;walk_at"g2";have nd:=sc__law_mixed.nd;walk_at"hu";refine⟨_,(aB (aO (i:=2) nd rfl (by walk_at"oi") (aK bP (aK jK (aK bW (aK bW (pv 0) (aK jK aD (pv 1))) aD) aD) aD))
   (aB (aO (i:=2) nd rfl (by walk_at"oi") (aK bP (aK jK (pv 2) (aK bW (aK cM (pv 2) aD) aD)) aD))
   (aE (aR (aK bP (aK jK (pv 2) (aK bW (aK cM (pv 2) aD) aD)) aD))))),?_⟩
  refine aJ (σ:=[some (.int c),some (.int j),none]) rfl ?_;walk_at"cx";walk_at"go";refine k _ ?_ ?_
  ·exact Int.emod_nonneg _ (by decide)
  ·exact Int.lt_trans (Int.emod_lt_of_pos _ (by decide)) (by decide)
theorem oH (m:M K mg):Fc P w K mg base "_law_mixed" 1 ["_law_cell","_law_k"] (wA):=⟨_,_,m.LI,m.lV.F.kp,m.lV.b,GU m⟩
local macro_rules| `(tactic| walk_at"rd1")=> `(tactic| ((with_reducible refine aAW ?_);intro n' h0' h1'))
theorem QX {x:Str}{b n:Nat} (hx:x.cps.toList=List.range' b n) {i:Int} (h0:0<=i) (h1:i<n):atI x.cps.toList i=some (b+i.toNat):=by
 have e:=pU (xs:=x.cps.toList) (j:=i.toNat) (v:=b+i.toNat) (by rw[hx,List.getElem?_range' (by lia)];simp);rw[show ((i.toNat:Nat):Int)=i by lia]at e;exact e
theorem vZ {α β γ:Type}{F:α->γ->Prop} (g:β->γ):∀{l:List β}{m:List α},Paired (fun x y=>F y (g x)) l m->Paired F m (l.map g)
 | _,_,.nil=> .nil
 | _,_,.cons r t=> .cons r (vZ g t)
theorem KW {H:Hp}{Q:VK}{p:Addr}{xs:List V}{j:Nat}{v:V} (e:SqL K H p xs) (hx:xs[j]? =some v) (h:Q v H):xQ K (.ref p) (.int (j:Int)) H Q:=⟨p,xs,_,v,rfl,rfl,e,pU hx,h⟩
def wdL (n:Nat):List Nat:=if n<26 then [97+n] else wdL (n/26)++[97+n%26]
termination_by n
decreasing_by lia
def wdV (l:List Nat):Nat:=l.foldl (fun a x=>a * 26+(x - 97)) 0
theorem Q7 (n:Nat):wdV (wdL n)=n:=by
 induction n using Nat.strongRecOn with
 | _ n ih =>
  rw[wdL]
  by_cases h:n<26
  ·rw[if_pos h];show 0 * 26+(97+n - 97)=n;lia
  ·rw[if_neg h];have:=ih (n/26) (by lia);unfold wdV at this ⊢;rw[List.foldl_append,this];show n/26 * 26+(97+n%26 - 97)=n
   lia
theorem aAd {a b:Nat}(h:wdL a=wdL b):a=b:=by rw[←Q7 a,←Q7 b,h]
theorem Z8 (n:Nat):∀x∈wdL n,97<=x/\x<123:=by
 induction n using Nat.strongRecOn with
 | _ n ih =>
  rw[wdL]
  by_cases h:n<26
  ·rw[if_pos h];intro x hx;rw[List.mem_singleton.mp hx];lia
  ·rw[if_neg h];intro x hx;rcases List.mem_append.mp hx with hx|hx
   ·exact ih (n/26) (by lia) x hx
   ·rw[List.mem_singleton.mp hx];lia
theorem OA (k:Nat):∀n:Nat,n<26^(k+1)->(wdL n).length<=k+1:=by
 induction k with
 | zero=>intro n h;rw[wdL,if_pos (by simpa using h)];exact Nat.le_refl _
 | succ k ih =>
  intro n h;rw[wdL]
  by_cases h2:n<26
  ·rw[if_pos h2];show 1<=_;lia
  ·rw[if_neg h2,List.length_append];have:=ih (n/26) (by rw[Nat.div_lt_iff_lt_mul (by decide)];rw[←Nat.pow_succ];exact h);show _+1<=_;lia
theorem aAu (n:Nat):0<(wdL n).length:=by
 rw[wdL]
 by_cases h:n<26
 ·rw[if_pos h];exact Nat.one_pos
 ·rw[if_neg h,List.length_append];show 0<_+1;lia
def wdS (n:Nat):Str:=⟨⟨wdL n⟩⟩
theorem aCR {n:Nat}(h:n<26^8):bC (wdS n)=true:=by
 refine UV ?_ ?_ ?_
 ·exact aAu n
 ·exact OA 7 n h
 ·show (wdL n).all sgB=true;rw[List.all_eq_true];intro x hx;have:=Z8 n x hx;unfold sgB;simp only[Bool.and_eq_true,decide_eq_true_eq]
  lia
theorem aAJ {a b:Nat}(h:wdS a=wdS b):a=b:=aAd (congrArg (fun z:Str=>z.cps.toList) h)
def wnF (c k:Int):Str:=wdS (c%3000000007 * 61+k).toNat
theorem DB {c k:Int}(h0:0<=k)(h1:k<61):bC (wnF c k)=true:=aCR (by
 have:=Int.emod_nonneg c (show (3000000007:Int)≠0 by decide);have:=Int.emod_lt_of_pos c (show (0:Int)<3000000007 by decide);have:(26:Nat)^8=208827064576:=by decide
 lia)
theorem NC {c d k j:Int}(h0:0<=k)(h1:k<61)(h2:0<=j)(h3:j<61)(h:wnF c k=wnF d j):k=j:=by
 have h':=aAJ h;have:=Int.emod_nonneg c (show (3000000007:Int)≠0 by decide);have:=Int.emod_nonneg d (show (3000000007:Int)≠0 by decide)
 lia
theorem JB:("abcdefghijklmnopqrstuvwxyz" :Str).cps.toList=List.range' 97 26:=by decide +kernel
theorem aBe:("abcdefghijklmnopqrstuvwxyz" :Str).length=26:=by rw[cK];decide
inductive wL (vs:List V)(H:Hp)(Q:VK)(E:XK):Prop
 | mk (c k:Int) (_:vs=[.int c,.int k]) (_:0<=k) (_:k<61) (_:Q (.str (wnF c k)) H):wL vs H Q E
theorem aAN {H:Hp}{Q:VK}{E:XK}{c k:Int} (h0:0<=k) (h1:k<61) (h:Q (.str (wnF c k)) H):wL [.int c,.int k] H Q E:=⟨_,_,rfl,h0,h1,h⟩
theorem A8 (a:Nat)(z:Str):(⟨#[a]⟩++z:Str)≠ "" :=fun h=>by
 have h':=congrArg (fun z:Str=>z.cps.toList) h;simp only[AY]at h';rw[show ("" :Str).cps.toList=[] by decide +kernel]at h';cases h'
def WdI (N0:Nat)(nu:Int)(z:Str):Prop:=(nu=0/\z≠ "" /\z.cps.toList=wdL N0)∨((0<nu∨z= "")/\wdL N0=wdL nu.toNat++z.cps.toList)
theorem N8 {N0:Nat}{nu:Int}{z:Str} (hnu:0<=nu) (hor:WdI N0 nu z) (hc:0<nu∨z= ""):0<=nu/26/\(nu/26).toNat+0<nu.toNat+(if z= "" then 1 else 0)/\WdI N0 (nu/26) (⟨#[97+(nu%26).toNat]⟩++z):=by
 have h2:wdL N0=wdL nu.toNat++z.cps.toList:=by
  rcases hor with⟨h1,h2,_⟩|⟨_,h⟩
  ·exact absurd hc (by rintro (h|h);lia;exact h2 h)
  ·exact h
 have hl:(⟨#[97+(nu%26).toNat]⟩++z:Str).cps.toList=(97+(nu%26).toNat)::z.cps.toList:=by rw[AY];rfl
 refine⟨by lia,?_,?_⟩
 ·rcases hc with hc|hc
  ·have:(nu/26).toNat<nu.toNat:=by lia
   lia
  ·rw[if_pos hc];lia
 ·by_cases h26:nu.toNat<26
  ·refine .inl ⟨by lia,A8 _ _,?_⟩;rw[hl,h2,wdL,if_pos h26,show (nu%26).toNat=nu.toNat by lia];rfl
  ·refine .inr ⟨.inl (by lia),?_⟩;rw[hl,h2,wdL,if_neg h26,show (nu/26).toNat=nu.toNat/26 by lia,show (nu%26).toNat=nu.toNat%26 by lia,List.append_assoc];rfl
theorem KK (m:M K mg):FnOk P w K mg base CX0 1 m.tZ m.nM.d ["_law_cell","_law_k"] (wL):=by
 refine m.nM.F.ok sc__law_name (fun vs H Q E h=> ?_) (fun cdv A outer s H vs Q E hr h=> ?_)
 ·walk_at"g1";obtain⟨c,j,rfl,h0,h1,k⟩:=h;walk_at"g2";rfl
 ·walk_at"g1";obtain⟨c,j,rfl,h0,h1,k⟩:=h;walk_at"g2";have nd:=sc__law_name.nd;walk_at"hu";refine⟨_,(aB (aO (i:=2) nd rfl (by walk_at"oi") (aK bW (aK jK (aK bP (pv 0) aD) aD) (pv 1)))
   (aB (aO (i:=3) nd rfl (by walk_at"oi") eM)
   (aB (qX PassesOwn.never (PW.pt (v9 (aU zG (pv 2) aD (bB _)) (uF (aU eV (pv 3) eM (bB _))))) (aB (aO (i:=3) nd rfl (by walk_at"oi") (aK ZG (aW aBF eM (aK bP (pv 2) aD) (fun _ _=>rfl)) (pv 3)))
   (aE (aO (i:=2) nd rfl (by walk_at"oi") (aK cM (pv 2) aD)))))
   (aE (aR (pv 3)))))),?_⟩
  refine aJ (σ:=[some (.int c),some (.int j),none,none]) rfl ?_;walk_at"cx";have hla:=aBe;have hc0:=Int.emod_nonneg c (show (3000000007:Int)≠0 by decide);have hc1:=Int.emod_lt_of_pos c (show (0:Int)<3000000007 by decide);unfold wnF at k;walk_at"go";have hN:(c%3000000007 * 61+j).toNat<26^8:=by
   have:(26:Nat)^8=208827064576:=by decide
   lia
  have hNl:=OA 7 _ hN;have hn0:0<=c%3000000007 * 61+j:=by lia
  generalize c%3000000007 * 61+j=N0 at k hNl hn0;have hem:("" :Str).cps.toList=[]:=by decide +kernel
  have hbody:∀(nu:Int) (z:Str) (mm:Nat),0<=nu->mm=nu.toNat+(if z= "" then 1 else 0)->WdI N0.toNat nu z->(0<nu∨z= "")->z.length<=8:=fun nu z mm h1 h2 h3 h4=>by
   rcases h3 with⟨h5,h6,_⟩|⟨_,h⟩
   ·exact absurd h4 (by rintro (h|h);lia;exact h6 h)
   ·have:=congrArg List.length h;rw[List.length_append]at this;show z.cps.size<=8;rw[←Array.length_toList];lia
  refine⟨fun mm σ' H'=>H'=H/\∃(nu:Int) (z:Str),0<=nu/\mm=nu.toNat+(if z= "" then 1 else 0)/\WdI N0.toNat nu z/\σ'=[some (.int c),some (.int j),some (.int nu),some (.str z)],⟨_,rfl,N0,"",hn0,rfl,.inr ⟨.inr rfl,by rw[hem,List.append_nil]⟩,rfl⟩,?_⟩;rintro mm _ H0 hq_;walk_at"g1";obtain⟨hH0,nu,z,hnu,hmm,hor,rfl⟩:=hq_;walk_at"g2";subst hH0;walk_at"go";refine bM (fun hc=> ?_) (fun hc=> ?_)
  ·have hs:=N8 hnu hor (.inl hc);have hzl:=hbody nu z mm hnu hmm hor (.inl hc);rw[if_pos rfl];refine⟨fun σ' H'=>H'=H0/\σ'=[some (.int c),some (.int j),some (.int (nu/26)),some (.str (⟨#[97+(nu%26).toNat]⟩++z))],?_,?_⟩
   ·rintro _ _ ⟨rfl,rfl⟩;exact⟨(nu/26).toNat+0,by rw[hmm];exact hs.2.1,rfl,_,_,hs.1,by rw[if_neg (A8 _ _)],hs.2.2,rfl⟩
   ·walk_at"go";refine⟨_,_,_,rfl,rfl,(by walk_at"sz"),QX JB (by lia) (by lia),?_⟩;have h1':(⟨#[97+(nu%26).toNat]⟩:Str).length=1:=rfl;walk_at"go";exact⟨rfl,rfl⟩
  ·walk_at"go";refine bM (fun hc2=> ?_) (fun hc2=> ?_)
   ·have hs:=N8 hnu hor (.inr hc2);have hzl:=hbody nu z mm hnu hmm hor (.inr hc2);refine⟨fun σ' H'=>H'=H0/\σ'=[some (.int c),some (.int j),some (.int (nu/26)),some (.str (⟨#[97+(nu%26).toNat]⟩++z))],?_,?_⟩
    ·rintro _ _ ⟨rfl,rfl⟩;exact⟨(nu/26).toNat+0,by rw[hmm];exact hs.2.1,rfl,_,_,hs.1,by rw[if_neg (A8 _ _)],hs.2.2,rfl⟩
    ·walk_at"go";refine⟨_,_,_,rfl,rfl,(by walk_at"sz"),QX JB (by lia) (by lia),?_⟩;have h1':(⟨#[97+(nu%26).toNat]⟩:Str).length=1:=rfl;walk_at"go";exact⟨rfl,rfl⟩
   ·have he:z=wdS N0.toNat:=by
     rcases hor with⟨_,_,h⟩|⟨h,_⟩
     ·exact Y8 h
     ·exact absurd h (by rintro (h|h);exact hc h;exact hc2 h)
    walk_at"go";rw[he];exact k
theorem lI (m:M K mg):Fc P w K mg base "_law_name" 1 ["_law_cell","_law_k"] (wL):=⟨_,_,m.MO,m.nM.F.kp,m.nM.b,KK m⟩
local macro_rules| `(tactic| walk_at"rd1")=> `(tactic| ((with_reducible refine' aAN ?a ?b ?_);(case a=>walk_at"sd");(case b=>walk_at"sd")))
abbrev cI:=Str×Int×Int
def d8 (H:Hp)(v:V)(r:cI):Prop:=∃q,v= .ref q/\H q=some (.tup [.str r.1,.int r.2.1,.int r.2.2])
theorem kP {H H':Hp}{us:List V}{rs:List cI} (h:Paired (d8 H) us rs) (s:Same H H'):Paired (d8 H') us rs:=Paired.imp' (fun v d ⟨q,e,h⟩=>⟨q,e,s _ _ h⟩) h
structure qI (rs:List cI):Prop where
 nd:(rs.map (·.1)).Nodup
 nm:∀r∈rs,bC r.1=true
 ok:∀r∈rs,0<=r.2.2/\r.2.2<=r.2.1
 l0:0<rs.length
 l1:rs.length<=4
 wn:∀r∈rs,∃c k:Int,0<=k/\k<20/\r.1=wnF c k
theorem KZ (c:Int)(n:Nat)(h:n<=61):((List.range n).map fun i:Nat=>wnF c (i:Int)).Nodup:=by
 rw[List.Nodup,List.pairwise_map];refine List.Pairwise.imp_of_mem ?_ (List.nodup_range (n:=n));intro i j hi hj hne z;have hi':=List.mem_range.mp hi;have hj':=List.mem_range.mp hj;have:=NC (by lia) (by lia) (by lia) (by lia) z
 lia
inductive kK (vs:List V)(H:Hp)(Q:VK)(E:XK):Prop
 | mk (a:Addr) (c0 c1 c2 c3:Int) (_:vs=[.ref a]) (_:H a=some (.lst [.int c0,.int c1,.int c2,.int c3])) (_:∀p us rs H',H p=none->Same H H'->H' p=some (.lst us)->Paired (d8 H') us rs->qI rs->Q (.ref p) H'):kK vs H Q E
theorem KA {H:Hp}{Q:VK}{E:XK}{a:Addr}{c0 c1 c2 c3:Int} (ea:H a=some (.lst [.int c0,.int c1,.int c2,.int c3])) (k:∀p us rs H',H p=none->Same H H'->H' p=some (.lst us)->Paired (d8 H') us rs->qI rs->Q (.ref p) H'):kK [.ref a] H Q E:=⟨_,_,_,_,_,rfl,ea,k⟩
theorem GH (m:M K mg):FnOk P w K mg base CX0 2 m.rV m.lK.d ["_law_cells"] (kK):=by
 refine m.lK.F.ok sc__law_rooms (fun vs H Q E h=> ?_) (fun cdv A outer s H vs Q E hr h=> ?_)
 ·walk_at"g1";obtain⟨a,c0,c1,c2,c3,rfl,ea,k⟩:=h;walk_at"g2";rfl
 ·walk_at"g1";obtain⟨a,c0,c1,c2,c3,rfl,ea,k⟩:=h;walk_at"g2";have nd:=sc__law_rooms.nd;walk_at"hu";have F__law_mixed:= @oH P w K mg base m;have F__law_name:= @lI P w K mg base m;refine⟨_,(aB (aO (i:=1) nd rfl (by walk_at"oi") (b7 aC))
   (aB (cT PassesOwn.never rfl (kN rfl m.kS (aA (aK bW aD (aK bP (bK F__law_mixed hr (aA (aW bL (pv 0) aD (fun _ _=>rfl)) (aA aD aC))) aD)) aC)) (aN (i:=2) nd rfl (by walk_at"oi")) (aB (aO (i:=3) nd rfl (by walk_at"oi") (bK F__law_mixed hr (aA (aW bL (pv 0) aD (fun _ _=>rfl)) (aA (pv 2) aC))))
   (aB (aO (i:=4) nd rfl (by walk_at"oi") (aK bW aD (aK bP (pv 3) aD)))
   (aB (bV (aU eV (aK bP (aK cM (pv 3) aD) aD) aD (bB _)) (aE (aO (i:=4) nd rfl (by walk_at"oi") (aK bW aD (aK bP (aK bW (aW bL (pv 0) aD (fun _ _=>rfl)) (aK jK aD (pv 2))) (dY 100000000000 (by decide) ⟨by decide,by decide,by decide⟩))))) bE)
   (aB (bV (aU eV (aK bP (aK cM (pv 3) aD) aD) aD (bB _)) (aE (aO (i:=4) nd rfl (by walk_at"oi") aD)) bE)
   (aB (aO (i:=5) nd rfl (by walk_at"oi") (aW bL (b7 (aA aD (aA (pv 4) (aA (aK bP (aK cM (pv 3) aD) (aK bW (pv 4) aD)) (aA (aK cM (aK bW (pv 4) aD) aD) aC))))) (aK bP (aK cM (pv 3) aD) aD) (fun _ _=>rfl)))
   (aE (aZ (g8 PySem.F.plainAttrs_list PySem.F.slot_list_append PySem.F.type_list_append cS (pv 1) (aA (c9 (aA (bK F__law_name hr (aA (aW bL (pv 0) aD (fun _ _=>rfl)) (aA (pv 2) aC))) (aA (pv 4) (aA (pv 5) aC)))) aC))))))))))
   (aE (aR (pv 1))))),?_⟩
  refine aJ (σ:=[some (.ref a),none,none,none,none,none]) rfl ?_;walk_at"cx";walk_at"go";rename_i p H1 n1 S1 e1 nn hn0 hn1;have fr:∀x u,H x=some u->x≠p:=fun x u hx z=>by rw[z,n1]at hx;cases hx
  let Pv1:Nat->St->Hp->Prop:=fun i σ' H'=>SameBut p H1 H'/\(∃us rs,H' p=some (.lst us)/\Paired (d8 H') us rs/\rs.map (·.1)=(List.range i).map (fun i:Nat=>wnF c2 (i:Int))/\∀r∈rs,0<=r.2.2/\r.2.2<=r.2.1)/\∃x y z u,σ'=[some (.ref a),some (.ref p),x,y,z,u];refine zW Pv1 ⟨SameBut.refl,⟨[],[],e1,.nil,rfl,(fun _ z=>nomatch z)⟩,_,_,_,_,rfl⟩ ?_ ?_
  ·rintro i _ H' hi hq_;walk_at"g1";obtain⟨sb,⟨us,rs,eu,hrs,hnm,hok⟩,x1,x2,x3,x4,rfl⟩:=hq_;walk_at"g2";have hul:us.length=i:=by
    have h5:rs.length=i:=by rw[←List.length_map (f:=fun d:cI=>d.1),hnm,List.length_map,List.length_range]
    rw[Paired.length hrs];exact h5
   have ea':H' a=some (.lst [.int c0,.int c1,.int c2,.int c3]):=(SameBut.same n1 S1 sb) _ _ ea;walk_at"gs";rename_i nu hu0' hu1';refine mM (fun σ' G=>H'=G/\∃hh,0<=hh/\σ'=[some (.ref a),some (.ref p),some (.int (0+(i:Int))),some (.int nu),some (.int hh),x4]) ?_ ?_
   rotate_left
   ·intro nx' hnx;walk_at"go";refine bM (fun hc=> ?_) (fun hc=> ?_)
    ·walk_at"go";exact hnx _ _ ⟨rfl,_,by lia,rfl⟩
    ·walk_at"go";exact hnx _ _ ⟨rfl,_,by lia,rfl⟩
   rintro _ G hq_;walk_at"g1";obtain⟨hG,h1,hh1,rfl⟩:=hq_;walk_at"g2";subst hG;walk_at"gs";refine mM (fun σ' G=>H'=G/\∃hh,0<=hh/\σ'=[some (.ref a),some (.ref p),some (.int (0+(i:Int))),some (.int nu),some (.int hh),x4]) ?_ ?_
   rotate_left
   ·intro nx' hnx;walk_at"go";refine bM (fun hc=> ?_) (fun hc=> ?_)
    ·walk_at"go";exact hnx _ _ ⟨rfl,_,by lia,rfl⟩
    ·walk_at"go";exact hnx _ _ ⟨rfl,_,hh1,rfl⟩
   rintro _ G hq_;walk_at"g1";obtain⟨hG,h2,hh2,rfl⟩:=hq_;walk_at"g2";subst hG;walk_at"go";rename_i hr0 hr1 p5 H5 n5 S5 e5;refine qR (SqL.of e5) (by lia) (by show _<(4:Int);lia) fun v hv=> ?_;obtain⟨ff,rfl,hf0,hf1⟩:∃ff,v= .int ff/\0<=ff/\ff<=h2:=by
    simp only[List.mem_cons,List.not_mem_nil,or_false]at hv;rcases hv with rfl|rfl|rfl|rfl
    ·exact⟨_,rfl,by lia,by lia⟩
    ·exact⟨_,rfl,by lia,by lia⟩
    ·exact⟨_,rfl,hr0,by lia⟩
    ·exact⟨_,rfl,by lia,by lia⟩
   have ea5:=S5 _ _ ea';walk_at"go";rename_i q6 H6 n6 S6 e6;have eu6:H6 p=some (.lst us):=S6 _ _ (S5 _ _ eu);refine cU eu6 (by rw[sizeLine_eq];lia) fun H7 B7 e7=> ?_;have hq6:q6≠p:=fun z=>by rw[z,S5 _ _ eu]at n6;cases n6
   refine⟨(sb.trans (S5.trans S6).but).trans B7,⟨us++[.ref q6],rs++[(wnF c2 (0+(i:Int)),h2,ff)],e7,?_,?_,?_⟩,_,_,_,_,rfl⟩
   ·exact L2.Paired.snoc (Paired.imp' (fun w d ⟨q,e,h⟩=>⟨q,e,B7 _ _ (S6 _ _ (S5 _ _ h)) fun z=>by rw[z,eu]at h;cases h⟩) hrs) ⟨q6,rfl,B7 _ _ e6 hq6⟩
   ·rw[List.map_append,hnm,List.range_succ,List.map_append,Int.zero_add];rfl
   ·intro r hr;rcases List.mem_append.mp hr with hr|hr
    ·exact hok r hr
    ·cases List.mem_singleton.mp hr;exact⟨hf0,hf1⟩
  ·rintro _ H' hq_;walk_at"g1";obtain⟨sb,⟨us,rs,eu,hrs,hnm,hok⟩,x1,x2,x3,x4,rfl⟩:=hq_;walk_at"g2";have hrl:rs.length=(1+nn%4).toNat:=by rw[←List.length_map (f:=fun d:cI=>d.1),hnm,List.length_map,List.length_range]
   walk_at"go";have hwn:∀r∈rs,∃c k:Int,0<=k/\k<20/\r.1=wnF c k:=fun r hr=>by
    have hm:r.1∈rs.map (·.1):=List.mem_map.mpr ⟨r,hr,rfl⟩;rw[hnm]at hm;obtain⟨i,hi,e⟩:=List.mem_map.mp hm;have:=List.mem_range.mp hi;exact⟨c2,(i:Int),by lia,by lia,e.symm⟩
   refine k _ _ _ _ n1 (SameBut.same n1 S1 sb) eu hrs ⟨by rw[hnm];exact KZ _ _ (by lia),fun r hr=> ?_,hok,by lia,by lia,hwn⟩;have hm:r.1∈rs.map (·.1):=List.mem_map.mpr ⟨r,hr,rfl⟩;rw[hnm]at hm;obtain⟨i,hi,e⟩:=List.mem_map.mp hm;have:=List.mem_range.mp hi;rw[←e];exact DB (by lia) (by lia)
theorem GR (m:M K mg):Fc P w K mg base "_law_rooms" 2 ["_law_cells"] (kK):=⟨_,_,m.LF,m.lK.F.kp,m.lK.b,GH m⟩
inductive pM (K:W.Frag)(vs:List V)(H:Hp)(Q:VK)(E:XK):Prop
 | mk (c:Int) (b:Addr) (bs:List Int) (_:vs=[.int c,.ref b]) (_:SqL K H b (bs.map V.int)) (_:(∀x∈bs,0<x/\x<1000000000000)) (_:bs.length<=20) (_:∀p (ns:List Int) H',H p=none->Same H H'->H' p=some (.lst (ns.map V.int))->Paired (fun (n x:Int)=>0<=n/\n<x) ns bs->Q (.ref p) H'):pM K vs H Q E
theorem yC {H:Hp}{Q:VK}{E:XK}{c:Int}{b:Addr}{bs:List Int} (hS:SqL K H b (bs.map V.int)) (hb:∀x∈bs,0<x/\x<1000000000000) (hl:bs.length<=20) (k:∀p (ns:List Int) H',H p=none->Same H H'->H' p=some (.lst (ns.map V.int))->Paired (fun (n x:Int)=>0<=n/\n<x) ns bs->Q (.ref p) H'):pM K [.int c,.ref b] H Q E:=⟨_,_,_,rfl,hS,hb,hl,k⟩
theorem D7 (m:M K mg):FnOk P w K mg base CX0 1 m.oP m.jR.d ["_law_cell","_law_bases"] (pM K):=by
 refine m.jR.F.ok sc__law_digits (fun vs H Q E h=> ?_) (fun cdv A outer s H vs Q E hr h=> ?_)
 ·walk_at"g1";obtain⟨c,b,bs,rfl,hS,hb,hl,k⟩:=h;walk_at"g2";rfl
 ·walk_at"g1";obtain⟨c,b,bs,rfl,hS,hb,hl,k⟩:=h;walk_at"g2";have nd:=sc__law_digits.nd;walk_at"hu";refine⟨_,(aB (aO (i:=2) nd rfl (by walk_at"oi") (b7 aC))
   (aB (cT PassesOwn.never rfl (bR (pv 1)) (aN (i:=3) nd rfl (by walk_at"oi")) (aB (aZ (g8 PySem.F.plainAttrs_list PySem.F.slot_list_append PySem.F.type_list_append cS (pv 2) (aA (aK bP (pv 0) (pv 3)) aC)))
   (aE (aO (i:=0) nd rfl (by walk_at"oi") (aK VP (pv 0) (pv 3))))))
   (aE (aR (pv 2))))),?_⟩
  refine aJ (σ:=[some (.int c),some (.ref b),none,none]) rfl ?_;walk_at"cx";walk_at"go";rename_i p H1 n1 S1 e1;let Pv1:Nat->St->Hp->Prop:=fun i σ' H'=>SameBut p H1 H'/\(∃ns:List Int,H' p=some (.lst (ns.map V.int))/\Paired (fun (n x:Int)=>0<=n/\n<x) ns (bs.take i))/\∃c' x,σ'=[some (.int c'),some (.ref b),some (.ref p),x];refine dC (bs.map V.int) Pv1 ⟨SameBut.refl,⟨[],e1,.nil⟩,_,_,rfl⟩ (fun i σ' H' _ q=>(SameBut.same n1 S1 q.1).seq hS) ?_ ?_
  ·rintro i x _ H' hx hq_;walk_at"g1";obtain⟨sb,⟨ns,ek,hns⟩,c',y,rfl⟩:=hq_;walk_at"g2";rw[List.getElem?_map]at hx;obtain⟨d,hd,rfl⟩:=Option.map_eq_some_iff.mp hx;obtain⟨hd0,hd1⟩:=hb d (List.mem_of_getElem? hd);have hi:i<bs.length:=(List.getElem?_eq_some_iff.mp hd).1;have hnl:ns.length=i:=by rw[Paired.length hns,List.length_take];lia
   walk_at"go";rename_i hm0 hm1;refine cU ek (by rw[sizeLine_eq,List.length_map];lia) fun H2 B2 e2=> ?_;walk_at"go";refine aAT hd0 (Int.lt_trans hd1 (by decide)) ?_;walk_at"go";refine⟨sb.trans B2,⟨ns++[c'%d],by rw[e2,List.map_append];rfl,?_⟩,_,_,rfl⟩;rw[aT hd];exact L2.Paired.snoc hns ⟨hm0,hm1⟩
  ·rintro _ H' hq_;walk_at"g1";obtain⟨sb,⟨ns,ek,hns⟩,c',y,rfl⟩:=hq_;walk_at"g2";rw[List.length_map,List.take_length]at hns;walk_at"go";exact k _ _ _ n1 (SameBut.same n1 S1 sb) ek hns
theorem mK (m:M K mg):Fc P w K mg base "_law_digits" 1 ["_law_cell","_law_bases"] (pM K):=⟨_,_,m.HD,m.jR.F.kp,m.jR.b,D7 m⟩
theorem xA (m:M K mg):FnOk P w K mg base CX0 3 m.jF m.fF.d ["_law_cells"] (kK):=by
 refine m.fF.F.ok sc__law_rooms_told (fun vs H Q E h=> ?_) (fun cdv A outer s H vs Q E hr h=> ?_)
 ·walk_at"g1";obtain⟨a,c0,c1,c2,c3,rfl,ea,k⟩:=h;walk_at"g2";rfl
 ·walk_at"g1";obtain⟨a,c0,c1,c2,c3,rfl,ea,k⟩:=h;walk_at"g2";have nd:=sc__law_rooms_told.nd;walk_at"hu";have F__law_digits:= @mK P w K mg base m;have F__law_name:= @lI P w K mg base m;refine⟨_,(aB (aO (i:=1) nd rfl (by walk_at"oi") (bK F__law_digits hr (aA (aW bL (pv 0) aD (fun _ _=>rfl)) (aA (b7 (aA (dY 100000000000 (by decide) ⟨by decide,by decide,by decide⟩) (aA (dY 100000000000 (by decide) ⟨by decide,by decide,by decide⟩) (aA (dY 100000000000 (by decide) ⟨by decide,by decide,by decide⟩) (aA (dY 100000000000 (by decide) ⟨by decide,by decide,by decide⟩) (aA (dY 100000000000 (by decide) ⟨by decide,by decide,by decide⟩) (aA (dY 100000000000 (by decide) ⟨by decide,by decide,by decide⟩) (aA (dY 100000000000 (by decide) ⟨by decide,by decide,by decide⟩) (aA (dY 100000000000 (by decide) ⟨by decide,by decide,by decide⟩) aC))))))))) aC))))
   (aB (aO (i:=2) nd rfl (by walk_at"oi") (b7 aC))
   (aB (cT PassesOwn.never rfl (kN rfl m.kS (aA (aK bW aD (aK bP (aK cM (aW bL (pv 0) aD (fun _ _=>rfl)) aD) aD)) aC)) (aN (i:=3) nd rfl (by walk_at"oi")) (aE (aZ (g8 PySem.F.plainAttrs_list PySem.F.slot_list_append PySem.F.type_list_append cS (pv 2) (aA (c9 (aA (bK F__law_name hr (aA (aW bL (pv 0) aD (fun _ _=>rfl)) (aA (pv 3) aC))) (aA (aW bL (pv 1) (aK jK aD (pv 3)) (fun _ _=>rfl)) (aA (bH (xT rfl) rfl m.HW DG (aA (aW bL (pv 1) (aK jK aD (pv 3)) (fun _ _=>rfl)) (aA (aW bL (pv 1) (aK bW (aK jK aD (pv 3)) aD) (fun _ _=>rfl)) aC))) aC)))) aC)))))
   (aE (aR (pv 2)))))),?_⟩
  refine aJ (σ:=[some (.ref a),none,none,none]) rfl ?_;walk_at"cx";walk_at"go";rename_i b1 H1 n1 S1 f1;refine yC (bs:=List.replicate 8 100000000000) (SqL.of f1) (fun x hx=>by rw[List.eq_of_mem_replicate hx];decide) (by decide) fun p2 ns H2 n2 S2 f2 hns=> ?_;have hnl:ns.length=8:=Paired.length hns;have hnn:∀(i:Nat) (x:Int),ns[i]? =some x->0<=x:=fun i x hx=>by
   have hi:i<ns.length:=(List.getElem?_eq_some_iff.mp hx).1;exact(Paired.at2 hns hx (List.getElem?_eq_getElem (by rw[List.length_replicate];lia))).1
  have ea2:=S2 _ _ (S1 _ _ ea);walk_at"go";rename_i p H3 n3 S3 e3;have s03:Same H H3:=(S1.trans S2).trans S3;have fr:∀x u,H2 x=some u->x≠p:=fun x u hx z=>by rw[z,n3]at hx;cases hx
  let Pv2:Nat->St->Hp->Prop:=fun i σ' H'=>SameBut p H3 H'/\(∃us rs,H' p=some (.lst us)/\Paired (d8 H') us rs/\rs.map (·.1)=(List.range i).map (fun i:Nat=>wnF c2 (i:Int))/\∀r∈rs,0<=r.2.2/\r.2.2<=r.2.1)/\∃x,σ'=[some (.ref a),some (.ref p2),some (.ref p),x];refine zW Pv2 ⟨SameBut.refl,⟨[],[],e3,.nil,rfl,(fun _ z=>nomatch z)⟩,_,rfl⟩ ?_ ?_
  ·rintro i _ H' hi hq_;walk_at"g1";obtain⟨sb,⟨us,rs,eu,hrs,hnm,hok⟩,x1,rfl⟩:=hq_;walk_at"g2";have hul:us.length=i:=by
    have h5:rs.length=i:=by rw[←List.length_map (f:=fun d:cI=>d.1),hnm,List.length_map,List.length_range]
    rw[Paired.length hrs];exact h5
   have s2':Same H2 H':=SameBut.same n3 S3 sb;have ea':=s2' _ _ ea2;have f2':=s2' _ _ f2;have hA:ns[2 * i]? =some ns[2 * i]:=List.getElem?_eq_getElem (by lia);have hB:ns[2 * i+1]? =some ns[2 * i+1]:=List.getElem?_eq_getElem (by lia);have hA0:=hnn _ _ hA;have hB0:=hnn _ _ hB;have hA':(ns.map V.int)[2 * i]? =some (.int ns[2 * i]):=by rw[List.getElem?_map,hA];rfl
   have hB':(ns.map V.int)[2 * i+1]? =some (.int ns[2 * i+1]):=by rw[List.getElem?_map,hB];rfl
   generalize ns[2 * i]=xa at hA0 hA';generalize ns[2 * i+1]=xb at hB0 hB';walk_at"go";rw[Int.zero_add,show (2:Int) * (i:Int)=((2 * i:Nat):Int) by lia];refine KW (SqL.of f2') hA' ?_;walk_at"go";rw[show (2:Int) * (i:Int)=((2 * i:Nat):Int) by lia];refine KW (SqL.of f2') hA' ?_;walk_at"go";rw[show (2:Int) * (i:Int)+1=((2 * i+1:Nat):Int) by lia];refine KW (SqL.of f2') hB' ?_;walk_at"go";rename_i q6 H6 n6 S6 e6;have eu6:H6 p=some (.lst us):=S6 _ _ eu;refine cU eu6 (by rw[sizeLine_eq];lia) fun H7 B7 e7=> ?_;have hq6:q6≠p:=fun z=>by rw[z,eu]at n6;cases n6
   refine⟨(sb.trans S6.but).trans B7,⟨us++[.ref q6],rs++[(wnF c2 (i:Int),xa,min xa xb)],e7,?_,?_,?_⟩,_,rfl⟩
   ·exact L2.Paired.snoc (Paired.imp' (fun w d ⟨q,e,h⟩=>⟨q,e,B7 _ _ (S6 _ _ h) fun z=>by rw[z,eu]at h;cases h⟩) hrs) ⟨q6,rfl,B7 _ _ e6 hq6⟩
   ·rw[List.map_append,hnm,List.range_succ,List.map_append];rfl
   ·intro r hr;rcases List.mem_append.mp hr with hr|hr
    ·exact hok r hr
    ·cases List.mem_singleton.mp hr;show 0<=min xa xb/\min xa xb<=xa
     lia
  ·rintro _ H' hq_;walk_at"g1";obtain⟨sb,⟨us,rs,eu,hrs,hnm,hok⟩,x1,rfl⟩:=hq_;walk_at"g2";have hrl:rs.length=(1+c0/2%4).toNat:=by rw[←List.length_map (f:=fun d:cI=>d.1),hnm,List.length_map,List.length_range]
   have hp:H p=none:=by
    cases hq:H p with
    | none=>rfl
    | some u=>rw[S2 _ _ (S1 _ _ hq)]at n3;cases n3
   walk_at"go";have hwn:∀r∈rs,∃c k:Int,0<=k/\k<20/\r.1=wnF c k:=fun r hr=>by
    have hm:r.1∈rs.map (·.1):=List.mem_map.mpr ⟨r,hr,rfl⟩;rw[hnm]at hm;obtain⟨i,hi,e⟩:=List.mem_map.mp hm;have:=List.mem_range.mp hi;exact⟨c2,(i:Int),by lia,by lia,e.symm⟩
   refine k _ _ _ _ hp (fun x u hx=>(SameBut.same n3 S3 sb) _ _ (S2 _ _ (S1 _ _ hx))) eu hrs ⟨by rw[hnm];exact KZ _ _ (by lia),fun r hr=> ?_,hok,by lia,by lia,hwn⟩;have hm:r.1∈rs.map (·.1):=List.mem_map.mpr ⟨r,hr,rfl⟩;rw[hnm]at hm;obtain⟨i,hi,e⟩:=List.mem_map.mp hm;have:=List.mem_range.mp hi;rw[←e];exact DB (by lia) (by lia)
theorem yN (m:M K mg):Fc P w K mg base "_law_rooms_told" 3 ["_law_cells"] (kK):=⟨_,_,m.AJ,m.fF.F.kp,m.fF.b,xA m⟩
structure SpecD where
 n:Str
 st:Str
 e:V
 kd:Int
 wd:Int
 fi:Int
 mo:Int
def c8 (H:Hp)(v:V)(s:SpecD):Prop:=∃q,v= .ref q/\H q=some (.tup [.str s.n,.str s.st,s.e,.int s.kd,.int s.wd,.int s.fi,.int s.mo])
structure iE (rs:List cI)(f:Int)(s:SpecD):Prop where
 nm:bC s.n=true
 sm:bC s.st=true
 sin:s.st∈rs.map (·.1)
 eo:dG s.e
 ein:s.e= .non∨∃z,s.e= .str z/\z∈rs.map (·.1)
 k0:0<=s.kd
 k1:s.kd<6
 w0:0<=s.wd
 f0:f<=s.fi
 m0:0<=s.mo
 m1:s.kd=3->1<=s.mo
 w1:s.wd<1000000000000
theorem wJ {H:Hp}{us:List V}{rs:List cI} (hr:Paired (d8 H) us rs) {v:V} (hv:v∈us):∃z i j q,v= .ref q/\H q=some (.tup [.str z,.int i,.int j])/\(z,i,j)∈rs:=by
 walk_at"g1";obtain⟨e,he,q,rfl,hq⟩:=fS hr hv;walk_at"g2";exact⟨e.1,e.2.1,e.2.2,q,rfl,hq,he⟩
inductive mJ (K:W.Frag)(vs:List V)(H:Hp)(Q:VK)(E:XK):Prop
 | mk (c j f l:Int) (a b:Addr) (us:List V) (rs:List cI) (_:vs=[.int c,.int j,.ref a,.ref b]) (_:0<=j) (_:j<7) (_:SqL K H a us) (_:Paired (d8 H) us rs) (_:qI rs) (_:H b=some (.tup [.int f,.int l])) (_:∀q s H',Same H H'->c8 H' (.ref q) s->iE rs f s->s.n=wnF c (20+j)->Q (.ref q) H'):mJ K vs H Q E
theorem MV {H:Hp}{Q:VK}{E:XK}{c j f l:Int}{a b:Addr}{us:List V}{rs:List cI} (h0:0<=j) (h1:j<7) (hS:SqL K H a us) (hr:Paired (d8 H) us rs) (ro:qI rs) (eb:H b=some (.tup [.int f,.int l])) (k:∀q s H',Same H H'->c8 H' (.ref q) s->iE rs f s->s.n=wnF c (20+j)->Q (.ref q) H'):mJ K [.int c,.int j,.ref a,.ref b] H Q E:=⟨_,_,_,_,_,_,_,_,rfl,h0,h1,hS,hr,ro,eb,k⟩
theorem JW (m:M K mg):FnOk P w K mg base CX0 2 m.tP m.nK.d ["_law_cell","_law_k","_law_rooms_here","_law_turns"] (mJ K):=by
 refine m.nK.F.ok sc__law_spec (fun vs H Q E h=> ?_) (fun cdv A outer s H vs Q E hr h=> ?_)
 ·walk_at"g1";obtain⟨c,j,f,l,a,b,us,rs,rfl,h0,h1,hS,hr',ro,eb,k⟩:=h;walk_at"g2";rfl
 ·walk_at"g1";obtain⟨c,j,f,l,a,b,us,rs,rfl,h0,h1,hS,hr',ro,eb,k⟩:=h;walk_at"g2";have nd:=sc__law_spec.nd;walk_at"hu";have F__law_mixed:= @oH P w K mg base m;have F__law_name:= @lI P w K mg base m;refine⟨_,(aB (aO (i:=4) nd rfl (by walk_at"oi") (bK F__law_mixed hr (aA (pv 0) (aA (pv 1) aC))))
   (aB (aO (i:=5) nd rfl (by walk_at"oi") (aK bP (pv 4) aD))
   (aB (bV (aU eV (aK bP (aK cM (pv 4) aD) aD) aD (bB _)) (aE (aO (i:=5) nd rfl (by walk_at"oi") (aK bP (aK bW (pv 0) (aK jK aD (pv 1))) (dY 100000000000 (by decide) ⟨by decide,by decide,by decide⟩)))) bE)
   (aB (aO (i:=6) nd rfl (by walk_at"oi") (aW cZ (aW bL (pv 2) (aK bP (aK cM (pv 4) aD) (bH eN rfl m.nJ jJ (aA (pv 2) aC))) (fun _ _=>rfl)) aD (fun _ _=>rfl)))
   (aB (aO (i:=7) nd rfl (by walk_at"oi") gE)
   (aB (bV (aU zG (aK bP (aK cM (pv 4) aD) aD) aD (bB _)) (aE (aO (i:=7) nd rfl (by walk_at"oi") (aW cZ (aW bL (pv 2) (aK bP (aK cM (pv 4) aD) (bH eN rfl m.nJ jJ (aA (pv 2) aC))) (fun _ _=>rfl)) aD (fun _ _=>rfl)))) bE)
   (aB (aO (i:=8) nd rfl (by walk_at"oi") (aK bP (aK cM (pv 4) aD) aD))
   (aB (aO (i:=9) nd rfl (by walk_at"oi") (aK bW (aW cZ (pv 3) aD (fun _ _=>rfl)) (aK bP (aK cM (pv 4) aD) aD)))
   (aB (aO (i:=10) nd rfl (by walk_at"oi") (aW bL (b7 (aA (aK bW aD (aK bP (aK cM (pv 4) aD) aD)) (aA (aK bP (pv 0) aD) aC))) (aK bP (aK cM (pv 8) aD) aD) (fun _ _=>rfl)))
   (aE (aR (c9 (aA (bK F__law_name hr (aA (pv 0) (aA (aK bW aD (pv 1)) aC))) (aA (pv 6) (aA (pv 7) (aA (pv 8) (aA (pv 5) (aA (pv 9) (aA (pv 10) aC))))))))))))))))))),?_⟩
  refine aJ (σ:=[some (.int c),some (.int j),some (.ref a),some (.ref b),none,none,none,none,none,none,none]) rfl ?_;walk_at"cx";have hul:us.length=rs.length:=Paired.length hr';have hu0':0<us.length:=by have:=ro.l0;lia
  walk_at"gs";rename_i nu hn0 hn1;refine mM (fun σ' G=>H=G/\∃wd,0<=wd/\wd<1000000000000/\σ'=[some (.int c),some (.int j),some (.ref a),some (.ref b),some (.int nu),some (.int wd),none,none,none,none,none]) ?_ ?_
  rotate_left
  ·intro nx' hnx;walk_at"go";refine bM (fun hc=> ?_) (fun hc=> ?_)
   ·walk_at"go";exact hnx _ _ ⟨rfl,_,by lia,by lia,rfl⟩
   ·walk_at"go";exact hnx _ _ ⟨rfl,_,by lia,by lia,rfl⟩
  rintro _ G hq_;walk_at"g1";obtain⟨hG,wd,hwd,hwd1,rfl⟩:=hq_;walk_at"g2";subst hG;walk_at"gs";rename_i hm0 hm1;refine qR hS hm0 hm1 fun v1 hv1=> ?_;walk_at"g1";obtain⟨z1,i1,j1,q1,rfl,hq1,hz1⟩:=wJ hr' hv1;walk_at"g2";walk_at"gs";refine⟨q1,_,0,_,rfl,rfl,SqT.of hq1,rfl,?_⟩;walk_at"gs";refine mM (fun σ' G=>H=G/\∃e,dG e/\(e= .non∨∃z,e= .str z/\z∈rs.map (·.1))/\σ'=[some (.int c),some (.int j),some (.ref a),some (.ref b),some (.int nu),some (.int wd),some (.str z1),some e,none,none,none]) ?_ ?_
  rotate_left
  ·intro nx' hnx;walk_at"go";refine bM (fun hc=> ?_) (fun hc=> ?_)
   ·walk_at"go";rename_i ha0 ha1;refine qR hS ha0 ha1 fun v2 hv2=> ?_;walk_at"g1";obtain⟨z2,i2,j2,q2,rfl,hq2,hz2⟩:=wJ hr' hv2;walk_at"g2";walk_at"go";refine⟨q2,_,0,_,rfl,rfl,SqT.of hq2,rfl,?_⟩;walk_at"go";exact hnx _ _ ⟨rfl,_,.inr ⟨z2,rfl,ro.nm _ hz2⟩,.inr ⟨z2,rfl,List.mem_map.mpr ⟨_,hz2,rfl⟩⟩,rfl⟩
   ·walk_at"go";exact hnx _ _ ⟨rfl,_,.inl rfl,.inl rfl,rfl⟩
  rintro _ G hq_;walk_at"g1";obtain⟨hG,e,he,hei,rfl⟩:=hq_;walk_at"g2";subst hG;walk_at"go";refine⟨b,_,0,_,rfl,rfl,SqT.of eb,rfl,?_⟩;walk_at"go";rename_i p5 H5 n5 S5 e5 mo hmo q6 H6 n6 S6 e6;exact k q6 ⟨wnF c (20+j),z1,e,nu/2000%6,wd,f+nu/12000%4,mo⟩ _ (S5.trans S6) ⟨q6,rfl,e6⟩ ⟨DB (by lia) (by lia),ro.nm _ hz1,List.mem_map.mpr ⟨_,hz1,rfl⟩,he,hei,by show 0<=nu/2000%6;lia,by show nu/2000%6<6;lia,hwd,by show f<=f+nu/12000%4;lia,by show 0<=mo;lia,(fun h3=>by
   have h3:nu/2000%6=3:=h3;show 1<=mo
   lia),hwd1⟩ rfl
theorem IT (m:M K mg):Fc P w K mg base "_law_spec" 2 ["_law_cell","_law_k","_law_rooms_here","_law_turns"] (mJ K):=⟨_,_,m.MQ,m.nK.F.kp,m.nK.b,JW m⟩
theorem fP {α β:Type}{F:α->β->Prop}{l:List α}{b:β}{m:List β} (h:Paired F l (b::m)):∃a l',l=a::l'/\F a b/\Paired F l' m:=by
 cases h with
 | cons r t=>exact⟨_,_,rfl,r,t⟩
theorem IA {α β:Type}{F:α->β->Prop}{l:List α} (h:Paired F l ([]:List β)):l=[]:=by cases h;rfl
theorem AE (m:M K mg):FnOk P w K mg base CX0 3 m.kB m.fY.d ["_law_cell","_law_k","_law_rooms_here","_law_turns"] (mJ K):=by
 refine m.fY.F.ok sc__law_spec_told (fun vs H Q E h=> ?_) (fun cdv A outer s H vs Q E hr h=> ?_)
 ·walk_at"g1";obtain⟨c,j,f,l,a,b,us,rs,rfl,h0,h1,hS,hr',ro,eb,k⟩:=h;walk_at"g2";rfl
 ·walk_at"g1";obtain⟨c,j,f,l,a,b,us,rs,rfl,h0,h1,hS,hr',ro,eb,k⟩:=h;walk_at"g2";have nd:=sc__law_spec_told.nd;walk_at"hu";have F__law_digits:= @mK P w K mg base m;have F__law_name:= @lI P w K mg base m;refine⟨_,(aB (aO (i:=4) nd rfl (by walk_at"oi") (bH eN rfl m.nJ jJ (aA (pv 2) aC)))
   (aB (DT (bK F__law_digits hr (aA (pv 0) (aA (b7 (aA aD (aA (pv 4) (aA (aK bW (pv 4) aD) (aA (dY 100000000000 (by decide) ⟨by decide,by decide,by decide⟩) (aA aD (aA aD aC))))))) aC))) (MY (n:=6) rfl (aX (aN (i:=5) nd rfl (by walk_at"oi")) (aX (aN (i:=6) nd rfl (by walk_at"oi")) (aX (aN (i:=7) nd rfl (by walk_at"oi")) (aX (aN (i:=8) nd rfl (by walk_at"oi")) (aX (aN (i:=9) nd rfl (by walk_at"oi")) (aX (aN (i:=10) nd rfl (by walk_at"oi")) dR))))))))
   (aB (aO (i:=11) nd rfl (by walk_at"oi") gE)
   (aB (bV (aU g7 (pv 7) (pv 4) (bB _)) (aE (aO (i:=11) nd rfl (by walk_at"oi") (aW cZ (aW bL (pv 2) (pv 7) (fun _ _=>rfl)) aD (fun _ _=>rfl)))) bE)
   (aB (bV (aU eV (pv 5) aD (bB _)) (aE (aO (i:=10) nd rfl (by walk_at"oi") (aK bW aD (aK bP (pv 10) aD)))) bE)
   (aE (aR (c9 (aA (bK F__law_name hr (aA (pv 0) (aA (aK bW aD (pv 1)) aC))) (aA (aW cZ (aW bL (pv 2) (pv 6) (fun _ _=>rfl)) aD (fun _ _=>rfl)) (aA (pv 11) (aA (pv 5) (aA (pv 8) (aA (aK bW (aW cZ (pv 3) aD (fun _ _=>rfl)) (pv 9)) (aA (pv 10) aC))))))))))))))),?_⟩
  refine aJ (σ:=[some (.int c),some (.int j),some (.ref a),some (.ref b),none,none,none,none,none,none,none,none]) rfl ?_;walk_at"cx";have hul:us.length=rs.length:=Paired.length hr';have hu0':0<us.length:=by have:=ro.l0;lia
  have hu4:us.length<=4:=by have:=ro.l1;lia
  walk_at"gs";rename_i p1 H1 n1 S1 e1;refine yC (bs:=[6,(us.length:Int),(us.length:Int)+1,100000000000,30,4096]) (SqL.of e1) (fun x hx=>by
   simp only[List.mem_cons,List.not_mem_nil,or_false]at hx;rcases hx with rfl|rfl|rfl|rfl|rfl|rfl<;>lia) (show 6<=20 by decide) fun p2 ns H2 n2 S2 e2 hns=> ?_
  walk_at"g1";obtain⟨kd,t1,rfl,hk,hns⟩:=fP hns;walk_at"g2";walk_at"g1";obtain⟨sx,t2,rfl,hs,hns⟩:=fP hns;walk_at"g2";walk_at"g1";obtain⟨ex,t3,rfl,hx,hns⟩:=fP hns;walk_at"g2";walk_at"g1";obtain⟨wd,t4,rfl,hw,hns⟩:=fP hns;walk_at"g2";walk_at"g1";obtain⟨fi,t5,rfl,hfi,hns⟩:=fP hns;walk_at"g2";walk_at"g1";obtain⟨mo,t6,rfl,hmo,hns⟩:=fP hns;walk_at"g2";obtain rfl:=IA hns;have e2':H2 p2=some (.lst [.int kd,.int sx,.int ex,.int wd,.int fi,.int mo]):=e2;have s02:=S1.trans S2;have hS2:=s02.seq hS;have hr2:=kP hr' s02;have eb2:=s02 _ _ eb;walk_at"gs";refine mM (fun σ' G=>H2=G/\∃e,dG e/\(e= .non∨∃z,e= .str z/\z∈rs.map (·.1))/\σ'=[some (.int c),some (.int j),some (.ref a),some (.ref b),some (.int (us.length:Int)),some (.int kd),some (.int sx),some (.int ex),some (.int wd),some (.int fi),some (.int mo),some e]) ?_ ?_
  rotate_left
  ·intro nx' hnx;walk_at"go";refine bM (fun hc=> ?_) (fun hc=> ?_)
   ·walk_at"go";refine qR hS2 hx.1 hc fun v2 hv2=> ?_;walk_at"g1";obtain⟨z2,i2,j2,q2,rfl,hq2,hz2⟩:=wJ hr2 hv2;walk_at"g2";walk_at"go";refine⟨q2,_,0,_,rfl,rfl,SqT.of hq2,rfl,?_⟩;walk_at"go";exact hnx _ _ ⟨rfl,_,.inr ⟨z2,rfl,ro.nm _ hz2⟩,.inr ⟨z2,rfl,List.mem_map.mpr ⟨_,hz2,rfl⟩⟩,rfl⟩
   ·walk_at"go";exact hnx _ _ ⟨rfl,_,.inl rfl,.inl rfl,rfl⟩
  rintro _ G hq_;walk_at"g1";obtain⟨hG,e,he,hei,rfl⟩:=hq_;walk_at"g2";subst hG;walk_at"gs";refine mM (fun σ' G=>H2=G/\∃m2,0<=m2/\(kd=3->1<=m2)/\σ'=[some (.int c),some (.int j),some (.ref a),some (.ref b),some (.int (us.length:Int)),some (.int kd),some (.int sx),some (.int ex),some (.int wd),some (.int fi),some (.int m2),some e]) ?_ ?_
  rotate_left
  ·intro nx' hnx;walk_at"go";refine bM (fun hc=> ?_) (fun hc=> ?_)
   ·walk_at"go";exact hnx _ _ ⟨rfl,_,by lia,by lia,rfl⟩
   ·walk_at"go";exact hnx _ _ ⟨rfl,_,hmo.1,(fun h=>absurd h hc),rfl⟩
  rintro _ G hq_;walk_at"g1";obtain⟨hG,m2,hm2,hm3,rfl⟩:=hq_;walk_at"g2";subst hG;walk_at"go";refine qR hS2 hs.1 hs.2 fun v1 hv1=> ?_;walk_at"g1";obtain⟨z1,i1,j1,q1,rfl,hq1,hz1⟩:=wJ hr2 hv1;walk_at"g2";walk_at"go";refine⟨q1,_,0,_,rfl,rfl,SqT.of hq1,rfl,?_⟩;walk_at"go";refine⟨b,_,0,_,rfl,rfl,SqT.of eb2,rfl,?_⟩;walk_at"go";rename_i q6 H6 n6 S6 e6;exact k q6 ⟨wnF c (20+j),z1,e,kd,wd,f+fi,m2⟩ _ (s02.trans S6) ⟨q6,rfl,e6⟩ ⟨DB (by lia) (by lia),ro.nm _ hz1,List.mem_map.mpr ⟨_,hz1,rfl⟩,he,hei,hk.1,hk.2,hw.1,by have:=hfi.1;show f<=f+fi;lia,hm2,hm3,by have:=hw.2;show wd<_;lia⟩ rfl
theorem AB (m:M K mg):Fc P w K mg base "_law_spec_told" 3 ["_law_cell","_law_k","_law_rooms_here","_law_turns"] (mJ K):=⟨_,_,m.CI,m.fY.F.kp,m.fY.b,AE m⟩
def k7 (s:SpecD)(t:Int):Int:=if s.kd=1/\t<s.fi∨s.kd=2/\s.fi<=t then 0 else if s.kd=3/\(t<s.fi∨0<(t - s.fi)%s.mo) then 0 else if s.kd=4/\s.mo/2^t.toNat%2=0 then 0 else s.wd
theorem Mc.mono {C:Addr}{nm:Str}{j k:Nat}{sp:Sp} (F:Mc P w K mg base C nm j sp) (h:j<=k):Mc P w K mg base C nm k sp:=by
 walk_at"g1";obtain⟨f,fd,ps,h1,h2,h3,h4⟩:=F.ex;walk_at"g2";exact⟨f,fd,ps,h1,h2,h3,h4.mono h⟩
abbrev DL (n s e l:V):List (Str×V):=bQ "letting" l (lD n s e (.int 1))
inductive iF (K:W.Frag)(vs:List V)(H:Hp)(Q:VK)(E:XK):Prop
 | mk (p C dx:Addr) (n s:Str) (e l:V) (_:vs=[.ref p,.str n,.str s,e,l]) (_:DCls K C) (_:H p=some (.ins C dx [])) (_:bC n=true) (_:bC s=true) (_:dG e) (_:∀H',SameBut p H H'->H' p=some (.ins C dx (DL (.str n) (.str s) e l))->Q .non H'):iF K vs H Q E
theorem ME {H:Hp}{Q:VK}{E:XK}{p C dx:Addr}{n s:Str}{e l:V} (dc:DCls K C) (hp:H p=some (.ins C dx [])) (hn:bC n=true) (hs:bC s=true) (he:dG e)
  (k:∀H',SameBut p H H'->H' p=some (.ins C dx (DL (.str n) (.str s) e l))->Q .non H'):iF K [.ref p,.str n,.str s,e,l] H Q E:=⟨_,_,_,_,_,_,_,rfl,dc,hp,hn,hs,he,k⟩
theorem A2 (m:M K mg):FnOk P w K mg base CX0 4 m.lW m.l6.d ["self","name","start","end","letting"] (iF K):=by
 refine m.l6.F.ok sc_Told___init__ (fun vs H Q E h=> ?_) (fun cdv A outer s H vs Q E hr h=> ?_)
 ·walk_at"g1";obtain⟨p,C,dx,n,st,e,l,rfl,dc,hp,hn,hs,he,k⟩:=h;walk_at"g2";rfl
 ·walk_at"g1";obtain⟨p,C,dx,n,st,e,l,rfl,dc,hp,hn,hs,he,k⟩:=h;walk_at"g2";have nd:=sc_Told___init__.nd;walk_at"hu";have DD_Door___init___1:=tK (P:=P) (w:=w) (base:=base) m;refine⟨_,(aB (aZ (aCz DD_Door___init___1 hr (aA (pv 0) (aA (pv 1) (aA (pv 2) (aA (pv 3) aC))))))
   (aE (b8 (pv 0) (pv 4) rfl))),?_⟩
  refine aJ (σ:=[some (.ref p),some (.str n),some (.str st),some (e),some (l)]) rfl ?_;walk_at"cx";walk_at"go";refine WT ?_;walk_at"go";show dL K [.ref p,.str n,.str st,e,.int 1] _ _ _;walk_at"go";exact k _ (by walk_at"sb") (by assumption)
theorem RN (m:M K mg):Kc P w K mg base "Told" m.lR 4 [] (iF K):=⟨_,_,_,_,m.aDe,m.aBj,.nil,m.l6.b,A2 m⟩
theorem W6 {H:Hp}{Q:VK}{E:XK}{C:Addr}{vs dvs:List V}{n s:Str}{e l:V} (ev:vs++dvs=[.str n,.str s,e,l]) (dc:DCls K C) (hn:bC n=true) (hs:bC s=true) (he:dG e)
  (k:∀p dx H',H p=none->Same H H'->H' p=some (.ins C dx (DL (.str n) (.str s) e l))->Q (.ref p) H'):kW C (iF K) dvs E Q vs H :=
 mQ (fun p dx H0 Q' h k' s0=>by rw[ev];exact ME dc h hn hs he k') k
inductive lB (P:Program)(w:World)(K:W.Frag)(mg:Str->Option Value)(base:Heap)(vs:List V)(H:Hp)(Q:VK)(E:XK):Prop
 | mk (p C dx:Addr) (fs:List (Str×V)) (t:Int) (F:Addr) (o:Obj) (fd:FuncData) (ps:List Str) (sp:Sp) (_:vs=[.ref p,.int t]) (_:DCls K C) (_:H p=some (.ins C dx fs)) (_:fs.lookup ("letting" :Str)=some (.ref F)) (_:H F=some (kn o)) (_:o.data= .func fd) (_:Binds K fd ps []) (_:FnOk P w K mg base CX0 3 F fd ps sp) (_:sp [.int t] H Q E0):lB P w K mg base vs H Q E
theorem LU {H:Hp}{Q:VK}{E:XK}{p C dx:Addr}{fs:List (Str×V)}{t:Int}{F:Addr}{o:Obj}{fd:FuncData}{ps:List Str}{sp:Sp} (hp:H p=some (.ins C dx fs)) (dc:DCls K C) (l:fs.lookup ("letting" :Str)=some (.ref F)) (hF:H F=some (kn o)) (hd:o.data= .func fd)
  (hb:Binds K fd ps [])(hf:FnOk P w K mg base CX0 3 F fd ps sp)(k:sp [.int t] H Q E0):lB P w K mg base [.ref p,.int t] H Q E:=⟨_,_,_,_,_,_,_,_,_,_,rfl,dc,hp,l,hF,hd,hb,hf,k⟩
theorem HY (m:M K mg):FnOk P w K mg base CX0 4 m.tY m.tV.d ["self","turn"] (lB P w K mg base):=by
 refine m.tV.F.ok sc_Told_lets (fun vs H Q E h=> ?_) (fun cdv A outer s H vs Q E hr h=> ?_)
 ·walk_at"g1";obtain⟨p,C,dx,fs,t,F,o,fd,ps,sp,rfl,dc,hp,l,hF,hd,hb,hf,k⟩:=h;walk_at"g2";rfl
 ·walk_at"g1";obtain⟨p,C,dx,fs,t,F,o,fd,ps,sp,rfl,dc,hp,l,hF,hd,hb,hf,k⟩:=h;walk_at"g2";have nd:=sc_Told_lets.nd;walk_at"hu";refine⟨_,(aB (aO (i:=2) nd rfl (by walk_at"oi") (aI (pv 0) rfl))
   (aE (aR (VU 3 2 hr (aA (pv 1) aC))))),?_⟩
  refine aJ (σ:=[some (.ref p),some (.int t),none]) rfl ?_;walk_at"cx";walk_at"go";refine⟨F,o,fd,rfl,hF,hd,?_⟩;walk_at"go";exact⟨ps,sp,hF,hb,hf,k⟩
theorem IB (m:M K mg):Mc P w K mg base m.lR "lets" 4 (lB P w K mg base):=⟨_,_,_,m.uU.ic.cl,m.LO,m.tV.b,HY m⟩
theorem YO {H:Hp}{p dx:Addr}{n st:Str}{e:V}{wd:Int} (m:M K mg) (h:H p=some (.ins m.gM dx (lD (.str n) (.str st) e (.int wd)))):(aS P w K mg base (some 4)).at' H (.ref p) (n,st,e,fun _=>wd) :=
 ⟨p,_,dx,_,[],rfl,h,m.uV,by walk_at"lk",by walk_at"lk",by walk_at"lk",by walk_at"lk",by walk_at"lk",CM m,(fun _ z=>nomatch z),fun kl hk=>by
  cases hk;exact⟨_,Mc.mono (JX m) (by decide),fun H' t Q hp _ ht k=>L8 hp m.uV (by walk_at"lk") (k _ (Same.refl _))⟩⟩
theorem WW {H:Hp}{p dx:Addr}{n st:Str}{e:V}{wd i0:Int} (m:M K mg) (b0:0<=i0) (h:H p=some (.ins m.iS dx (zJ (.str n) (.str st) e (.int wd) (.int i0)))):(aS P w K mg base (some 4)).at' H (.ref p) (n,st,e,t7 wd i0) :=
 ⟨p,_,dx,_,[],rfl,h,m.rB,by walk_at"lk",by walk_at"lk",by walk_at"lk",by walk_at"lk",by walk_at"lk",BH m,(fun _ z=>nomatch z),fun kl hk=>by
  cases hk;exact⟨_,Mc.mono (GX m) (by decide),fun H' t Q hp _ ht k=>xH hp m.rB (by walk_at"lk") (by walk_at"lk") ht b0 (k _ (Same.refl _))⟩⟩
theorem W3 {H:Hp}{p dx:Addr}{n st:Str}{e:V}{wd i0:Int} (m:M K mg) (b0:0<=i0) (h:H p=some (.ins m.iQ dx (zE (.str n) (.str st) e (.int wd) (.int i0)))):(aS P w K mg base (some 4)).at' H (.ref p) (n,st,e,uR wd i0) :=
 ⟨p,_,dx,_,[],rfl,h,m.rO,by walk_at"lk",by walk_at"lk",by walk_at"lk",by walk_at"lk",by walk_at"lk",BV m,(fun _ z=>nomatch z),fun kl hk=>by
  cases hk;exact⟨_,Mc.mono (G8 m) (by decide),fun H' t Q hp _ ht k=>xJ hp m.rO (by walk_at"lk") (by walk_at"lk") ht b0 (k _ (Same.refl _))⟩⟩
theorem YM {H:Hp}{p dx:Addr}{n st:Str}{e:V}{wd i0 i1:Int} (m:M K mg) (b0:1<=i0) (b1:0<=i1) (h:H p=some (.ins m.mB dx (C5 (.str n) (.str st) e (.int wd) (.int i0) (.int i1)))):(aS P w K mg base (some 4)).at' H (.ref p) (n,st,e,zT wd i0 i1) :=
 ⟨p,_,dx,_,[],rfl,h,m.uW,by walk_at"lk",by walk_at"lk",by walk_at"lk",by walk_at"lk",by walk_at"lk",DV m,(fun _ z=>nomatch z),fun kl hk=>by
  cases hk;exact⟨_,Mc.mono (HZ m) (by decide),fun H' t Q hp _ ht k=>AW hp m.uW (by walk_at"lk") (by walk_at"lk") (by walk_at"lk") ht b0 b1 (k _ (Same.refl _))⟩⟩
theorem RQ {H:Hp}{p dx:Addr}{n st:Str}{e:V}{wd i0:Int} (m:M K mg) (b0:0<=i0) (h:H p=some (.ins m.gB dx (wO (.str n) (.str st) e (.int wd) (.int i0)))):(aS P w K mg base (some 4)).at' H (.ref p) (n,st,e,pT wd i0) :=
 ⟨p,_,dx,_,[],rfl,h,m.nX,by walk_at"lk",by walk_at"lk",by walk_at"lk",by walk_at"lk",by walk_at"lk",z5 m,(fun _ z=>nomatch z),fun kl hk=>by
  cases hk;exact⟨_,Mc.mono (EO m) (by decide),fun H' t Q hp _ ht k=>wX hp m.nX (by walk_at"lk") (by walk_at"lk") ht b0 (k _ (Same.refl _))⟩⟩
theorem aC4 {kL:Option Nat}{H H':Hp}{v:V}{d:aG} (h:DoorAt P w K mg base kL H v d) (T:SameT H H'):DoorAt P w K mg base kL H' v d:=by
 walk_at"g1";obtain⟨p,C,dx,fs,fp,e,hp,dc,l1,l2,l3,l4,l5,mc,hf,lt⟩:=h;walk_at"g2";exact⟨p,C,dx,fs,fp,e,T _ _ hp (fun ps z=>by cases z),dc,l1,l2,l3,l4,l5,mc,fun x hx=>⟨T _ _ (hf x hx).1 (fun ps z=>(hf x hx).2 (by rw[z];trivial)),(hf x hx).2⟩,lt⟩
theorem YU {sc:Scope}{y:Str} (h:∀q∈sc.names,q.2= .free->q.1=y):∀z,sc.names.lookup z=some .free->z=y:=fun z e=>h (z,.free) (PySem.mem_of_lookup e) rfl
inductive IC (F c:Addr)(fd:FuncData)(qual:Str)(args:Arguments)(body:Expr)(sc:Scope)(cell:Int)(vs:List V)(H:Hp)(Q:VK)(E:XK):Prop
 | mk (t:Int) (_:vs=[.int t]) (_:LamAt H F fd qual args body sc "_law_wide" c) (_:HM H c (.int cell)) (_:Q (.int cell) H):IC F c fd qual args body sc cell vs H Q E
theorem aCe {qual:Str}{args:Arguments}{body:Expr}{sc:Scope}{F c:Addr}{fd:FuncData}{cell:Int}{G:Hp} (hL:LamAt G F fd qual args body sc "_law_wide" c) (hk:sc.kind= .function) (hco:sc.isCoroutine=false) (hgen:sc.isGenerator=false) (hcell:∀z∈sc.names,z.2≠ .cell)
  (hx:sc.names.lookup ("_law_turn" :Str)=some .local)(hfree:∀z,sc.names.lookup z=some .free->z= "_law_wide")(hy:sc.names.lookup ("_law_wide" :Str)=some .free)
  (hb:∀(cdv:Value) (A:Around) (outer:List Env) (s:Shared) (H:Hp) (E:XK),PE (cxL CX0 P w K mg base ["_law_turn","_law_wide"] qual sc F cdv [("_law_wide",c)] A outer s H E).nox body (gT 1)) :
  FnOk P w K mg base CX0 3 F fd ["_law_turn"] (IC F c fd qual args body sc cell):=by
 refine Y7 (qual:=qual) (args:=args) (body:=body) (c:=c) (v:= .int cell) hk hco hgen hcell hx hfree hy (fun vs H Q E h=> ?_) fun cdv A outer s H a Q E hr h=> ?_
 ·walk_at"g1";obtain⟨t,e,L,kc,_⟩:=h;walk_at"g2";exact⟨.int t,e,L,kc⟩
 ·walk_at"g1";obtain⟨t,e,L,kc,k⟩:=h;walk_at"g2";cases e;refine⟨_,hb cdv A outer s (off H c) E,fun o ho=> ?_⟩;walk_at"go";rw[VD ho];exact k
theorem Z4 (m:M K mg){H:Hp}{p dx F c:Addr}{nm st:Str}{e:V}{fd:FuncData}{qual:Str}{args:Arguments}{body:Expr}{sc:Scope}{cell:Int} (hp:H p=some (.ins m.lR dx (DL (.str nm) (.str st) e (.ref F))))
  (hL:LamAt H F fd qual args body sc "_law_wide" c)(kc:HM H c (.int cell))(hbd:Binds K fd ["_law_turn"] [])(FL:FnOk P w K mg base CX0 3 F fd ["_law_turn"] (IC F c fd qual args body sc cell)) :
  (aS P w K mg base (some 4)).at' H (.ref p) (nm,st,e,fun _=>cell):=by
 walk_at"g1";obtain⟨c',pm,ctv,oc,fv,tt,hfd,hF,hc',hdc,hfv⟩:=id hL;walk_at"g2";walk_at"g1";obtain⟨oC,uC,hC,hdC,rC⟩:=id kc;walk_at"g2";refine⟨p,_,dx,_,[(F,kn (W.kla_obj "<lambda>" qual args body sc [("_law_wide",c)] pm c' ctv)),(c',kn oc),(c,kn oC)],rfl,hp,m.uU,by walk_at"lk",by walk_at"lk",by walk_at"lk",by walk_at"lk",by walk_at"lk",DH m,?_,fun kl hk=> ?_⟩
 ·intro x hx;simp only[List.mem_cons,List.not_mem_nil,or_false]at hx;rcases hx with rfl|rfl|rfl
  ·exact⟨hF,fun z=>z⟩
  ·exact⟨hc',fun z=>z⟩
  ·exact⟨hC,fun z=>z⟩
 ·cases hk;refine⟨_,Mc.mono (IB m) (by decide),fun H' t Q hp' hfp ht k=> ?_⟩;have gF:=hfp _ (.head _);have gc':=hfp _ (.tail _ (.head _));have gC:=hfp _ (.tail _ (.tail _ (.head _)));exact LU hp' m.uU (by walk_at"lk") gF (by rw[hfd]) hbd FL ⟨t,rfl,⟨c',pm,ctv,oc,fv,tt,hfd,gF,gc',hdc,hfv⟩,⟨oC,uC,gC,hdC,rC⟩,k _ (Same.refl _)⟩
theorem let0 {s:SpecD}(h:s.kd=0∨s.kd=5):k7 s=fun _=>s.wd:=funext fun t=>by
 unfold k7;rw[if_neg (by lia),if_neg (fun z=>by have:=z.1;lia),if_neg (fun z=>by have:=z.1;lia)]
theorem aEh {s:SpecD}(h:s.kd=1):k7 s=t7 s.wd s.fi:=funext fun t=>by
 unfold k7 t7
 by_cases c:t<s.fi
 ·rw[if_pos (.inl ⟨h,c⟩),if_neg (by lia)]
 ·rw[if_neg (by lia),if_neg (fun z=>by have:=z.1;lia),if_neg (fun z=>by have:=z.1;lia),if_pos (by lia)]
theorem aD3 {s:SpecD}(h:s.kd=2):k7 s=uR s.wd s.fi:=funext fun t=>by
 unfold k7 uR
 by_cases c:t<s.fi
 ·rw[if_neg (by lia),if_neg (fun z=>by have:=z.1;lia),if_neg (fun z=>by have:=z.1;lia),if_pos (by lia)]
 ·rw[if_pos (.inr ⟨h,by lia⟩),if_neg (by lia)]
theorem aEg {s:SpecD}(h:s.kd=3)(hm:1<=s.mo):k7 s=zT s.wd s.mo s.fi:=funext fun t=>by
 unfold k7 zT;have h0:=Int.emod_nonneg (t - s.fi) (show s.mo≠0 by lia);rw[if_neg (by lia)]
 by_cases c:t<s.fi∨0<(t - s.fi)%s.mo
 ·rw[if_pos ⟨h,c⟩,if_neg (by lia)]
 ·rw[if_neg (fun z=>c z.2),if_neg (fun z=>by have:=z.1;lia),if_pos (by lia)]
theorem aEj {s:SpecD}(h:s.kd=4):k7 s=pT s.wd s.mo:=funext fun t=>by
 unfold k7 pT;rw[if_neg (by lia),if_neg (fun z=>by have:=z.1;lia)]
 by_cases c:s.mo/2^t.toNat%2=0
 ·rw[if_pos ⟨h,c⟩,if_neg (by lia)]
 ·rw[if_neg (fun z=>c z.2),if_pos (by lia)]
def bX (s:SpecD):aG:=(s.n,s.st,s.e,k7 s)
abbrev qL:Str:=("_law_door" :Str)++ ".<locals>." ++ "<lambda>"
abbrev pL:Pos:=⟨435,54,435,81⟩
inductive vP (P:Program)(w:World)(K:W.Frag)(mg:Str->Option Value)(base:Heap)(PL:Addr)(vs:List V)(H:Hp)(Q:VK)(E:XK):Prop
 | mk (q:Addr) (s:SpecD) (rs:List cI) (f:Int) (_:vs=[.ref q]) (_:c8 H (.ref q) s) (_:iE rs f s) (_:0<=f) (_:TabS H PL pL qL) (_:∀v H',SameT H H'->TabS H' PL pL qL->(aS P w K mg base (some 4)).at' H' v (bX s)->Q v H'):vP P w K mg base PL vs H Q E
theorem ZH {PL:Addr}{H:Hp}{Q:VK}{E:XK}{q:Addr}{s:SpecD}{rs:List cI}{f:Int} (hs:c8 H (.ref q) s) (so:iE rs f s) (hf:0<=f) (ht:TabS H PL pL qL) (k:∀v H',SameT H H'->TabS H' PL pL qL->(aS P w K mg base (some 4)).at' H' v (bX s)->Q v H'):vP P w K mg base PL [.ref q] H Q E:=⟨_,_,_,_,rfl,hs,so,hf,ht,k⟩
local macro_rules| `(tactic| walk_at"rd1")=> `(tactic| first|(with_reducible refine ZW ?_)|(with_reducible refine aBa ?_))
theorem KC (m:M K mg){cL PL:Addr}(hcL:m.dX.code= .ref cL)(hCL:W.CodeHd base cL PL)(hBL:base.BuiltinsAt mg PL):FnOk P w K mg base CX0 6 m.tW m.dX ["_law_spec_here"] (vP P w K mg base PL):=by
 refine m.nO.okR sc__law_door (i:=5) (y:= "_law_wide") rfl (by kernel_rfl) (fun vs H Q E h=> ?_) (fun cdv A outer s H vs Q E c hcd hc hr h=> ?_)
 ·walk_at"g1";obtain⟨q,s',rs,f,rfl,hs,so,hf,hPL,k⟩:=h;walk_at"g2";rfl
 ·walk_at"g1";obtain⟨q,s',rs,f,rfl,hs,so,hf,hPL,k⟩:=h;walk_at"g2";have nd:=sc__law_door.nd;walk_at"hu";obtain rfl:=hcd.symm.trans hcL;obtain rfl:s.heap.objs.size+1=c:=Option.some.inj ((show _=some (s.heap.objs.size+1) from by kernel_rfl).symm.trans hc);have K_Beat_0:= @RG P w K mg base m;have K_Door_0:= @TF P w K mg base m;have K_Marked_0:= @LR P w K mg base m;have K_Since_0:= @PX P w K mg base m;have K_Told_0:= @RN P w K mg base m;have K_Until_0:= @PM P w K mg base m;have w_dc_Door:=m.uV;have w_dc_Since:=m.rB;have w_dc_Until:=m.rO;have w_dc_Beat:=m.uW;have w_dc_Marked:=m.nX;have w_dc_Told:=m.uU;refine⟨_,(mO (DT (pv 0) (yG (n:=7) rfl (aX (aN (i:=1) nd rfl (by walk_at"oi")) (aX (aN (i:=2) nd rfl (by walk_at"oi")) (aX (aN (i:=3) nd rfl (by walk_at"oi")) (aX (aN (i:=4) nd rfl (by walk_at"oi")) (aX (aN (i:=5) nd rfl (by walk_at"oi")) (aX (aN (i:=6) nd rfl (by walk_at"oi")) (aX (aN (i:=7) nd rfl (by walk_at"oi")) dR)))))))))
   (mO (bV (aU eV (pv 4) aD (bB _)) (aE (aR (pI K_Door_0 hr (aA (pv 1) (aA (pv 2) (aA (pv 3) (aA (pv 5) aC))))))) bE)
   (mO (bV (aU eV (pv 4) aD (bB _)) (aE (aR (pI K_Since_0 hr (aA (pv 1) (aA (pv 2) (aA (pv 3) (aA (pv 5) (aA (pv 6) aC)))))))) bE)
   (mO (bV (aU eV (pv 4) aD (bB _)) (aE (aR (pI K_Until_0 hr (aA (pv 1) (aA (pv 2) (aA (pv 3) (aA (pv 5) (aA (pv 6) aC)))))))) bE)
   (mO (bV (aU eV (pv 4) aD (bB _)) (aE (aR (pI K_Beat_0 hr (aA (pv 1) (aA (pv 2) (aA (pv 3) (aA (pv 5) (aA (pv 7) (aA (pv 6) aC))))))))) bE)
   (mO (bV (aU eV (pv 4) aD (bB _)) (aE (aR (pI K_Marked_0 hr (aA (pv 1) (aA (pv 2) (aA (pv 3) (aA (pv 5) (aA (pv 7) aC)))))))) bE)
   (ZD (pI K_Told_0 hr (aA (pv 1) (aA (pv 2) (aA (pv 3) (aA (aAj (y:= "_law_wide") (c:=s.heap.objs.size+1) rfl hCL hBL rfl) aC)))))))))))),?_⟩
  refine T7 (σ:=[some (.ref q),none,none,none,none,none,none,none]) rfl ?_;walk_at"g1";obtain⟨hnm,hsm,-,heo,-,hk0,hk1,hw0,hf0,hm0,hm1,-⟩:=so;walk_at"g2";have fx0:=let0 (s:=s');have fx1:=aEh (s:=s');have fx2:=aD3 (s:=s');have fx3:=aEg (s:=s');have fx4:=aEj (s:=s');unfold bX at k;generalize k7 s'=LS at k fx0 fx1 fx2 fx3 fx4;walk_at"g1";obtain⟨n,st,e,kd,wd,fi,mo⟩:=s';walk_at"g2";obtain⟨q',hq',eq'⟩:=hs;cases hq';have eq:H q=some (.tup [.str n,.str st,e,.int kd,.int wd,.int fi,.int mo]):=eq';clear eq';simp only[]at hnm hsm heo hk0 hk1 hw0 hf0 hm0 hm1 k fx0 fx1 fx2 fx3 fx4;walk_at"go";refine bM (fun h0=> ?_) (fun h0=> ?_)
  ·rw[fx0 (.inl h0)]at k;walk_at"go";rename_i p dx H2 n2 S2 e2;exact k _ _ (Same.t S2) (hPL.same S2) (YO (P:=P) (w:=w) (base:=base) m e2)
  walk_at"go";refine bM (fun h1=> ?_) (fun h1=> ?_)
  ·rw[fx1 h1]at k;walk_at"go";rename_i p dx H2 n2 S2 e2;exact k _ _ (Same.t S2) (hPL.same S2) (WW (P:=P) (w:=w) (base:=base) m (by lia) e2)
  walk_at"go";refine bM (fun h2=> ?_) (fun h2=> ?_)
  ·rw[fx2 h2]at k;walk_at"go";rename_i p dx H2 n2 S2 e2;exact k _ _ (Same.t S2) (hPL.same S2) (W3 (P:=P) (w:=w) (base:=base) m (by lia) e2)
  walk_at"go";refine bM (fun h3=> ?_) (fun h3=> ?_)
  ·rw[fx3 h3 (hm1 h3)]at k;have hm1':=hm1 h3;walk_at"go";rename_i p dx H2 n2 S2 e2;exact k _ _ (Same.t S2) (hPL.same S2) (YM (P:=P) (w:=w) (base:=base) m (hm1 h3) (by lia) e2)
  walk_at"go";refine bM (fun h4=> ?_) (fun h4=> ?_)
  ·rw[fx4 h4]at k;walk_at"go";rename_i p dx H2 n2 S2 e2;exact k _ _ (Same.t S2) (hPL.same S2) (RQ (P:=P) (w:=w) (base:=base) m hm0 e2)
  walk_at"go";refine⟨hPL,fun F fd G4 hFn hL T hT4=> ?_⟩;have FL:=fun (cell:Int)=>aCe (P:=P) (w:=w) (K:=K) (mg:=mg) (base:=base) (cell:=cell) hL rfl rfl rfl (by decide +kernel) (by kernel_rfl) (YU (by decide +kernel)) (by kernel_rfl) (fun cdv A outer s H E=>pv 1);have hbd:Binds K fd ["_law_turn"] []:=by
   walk_at"g1";obtain⟨c',pm,ctv,oc,fv,tt,rfl,_⟩:=id hL;walk_at"g2";exact Binds.all<|MW 1 _ fun _=>rfl
  walk_at"go";refine W6 rfl w_dc_Told hnm hsm heo fun p5 dx5 G5 n5 S5 e5=> ?_;refine⟨_,rfl,fun H6 S6 nc kc=> ?_⟩;rw[fx0 (by lia)]at k;exact k _ _ ((T.snoc S5).snoc S6) ((hT4.same S5).same S6) (Z4 (P:=P) (w:=w) (base:=base) m (S6 _ _ e5) ((hL.same S5).same S6) kc hbd (FL wd))
theorem KM (m:M K mg){cL PL:Addr}(hcL:m.dX.code= .ref cL)(hCL:W.CodeHd base cL PL)(hBL:base.BuiltinsAt mg PL):Fc P w K mg base "_law_door" 6 ["_law_spec_here"] (vP P w K mg base PL):=⟨_,_,m.MN,m.nO.kp,m.MK,KC m hcL hCL hBL⟩
structure iO (H:Hp)(q p1 p2 p3:Addr)(us ws:List V)(rs:List cI)(ss:List SpecD)(f l:Int):Prop where
 eq:H q=some (.tup [.ref p1,.ref p2,.ref p3])
 e1:H p1=some (.lst us)
 e2:H p2=some (.lst ws)
 e3:H p3=some (.tup [.int f,.int l])
 ru:Paired (d8 H) us rs
 sw:Paired (c8 H) ws ss
 ro:qI rs
 so:∀s∈ss,iE rs f s
 nd:(ss.map (·.n)).Nodup
 l7:ss.length<=7
 f0:0<=f
 f1:f<100000000000
 fl:f<=l
 fl7:l<=f+7
theorem NA {H H':Hp}{us:List V}{ss:List SpecD} (h:Paired (c8 H) us ss) (s:Same H H'):Paired (c8 H') us ss:=Paired.imp' (fun v d ⟨q,e,h⟩=>⟨q,e,s _ _ h⟩) h
theorem aB6 {H H':Hp}{us:List V}{ss:List SpecD} (h:Paired (c8 H) us ss) (s:SameT H H'):Paired (c8 H') us ss:=Paired.imp' (fun v d ⟨q,e,h⟩=>⟨q,e,s.tup h⟩) h
theorem aCH {H H':Hp}{us:List V}{ss:List cI} (h:Paired (d8 H) us ss) (s:SameT H H'):Paired (d8 H') us ss:=Paired.imp' (fun v d ⟨q,e,h⟩=>⟨q,e,s.tup h⟩) h
theorem BN {H:Hp}{rs:List cI}{f:Int}:∀{l:List Nat}{ys:List V},Paired (fun i y=>∃s c,c8 H y s/\iE rs f s/\s.n=wnF c (20+(i:Nat))) l ys->(∀i∈l,i<7)->l.Nodup →
  ∃ss,Paired (c8 H) ys ss/\(∀s∈ss,iE rs f s)/\(ss.map (·.n)).Nodup/\(∀s∈ss,∃i∈l,∃c,s.n=wnF c (20+(i:Nat)))/\ss.length=l.length
 | _,_,.nil,_,_=>⟨[],.nil,(fun _ z=>nomatch z),List.nodup_nil,(fun _ z=>nomatch z),rfl⟩
 | i::l,_,.cons ⟨s,c,h1,h2,h3⟩ t,h7,nd=>by
  walk_at"g1";obtain⟨ss,g1,g2,g3,g4,g5⟩:=BN t (fun j hj=>h7 j (List.mem_cons_of_mem _ hj)) (List.nodup_cons.mp nd).2;walk_at"g2";refine⟨s::ss,.cons h1 g1,fun x hx=> ?_,?_,fun x hx=> ?_,by rw[List.length_cons,List.length_cons,g5]⟩
  ·rcases List.mem_cons.mp hx with rfl|hx
   ·exact h2
   ·exact g2 x hx
  ·rw[List.map_cons,List.nodup_cons];refine⟨fun z=> ?_,g3⟩;obtain⟨x,hx,e⟩:=List.mem_map.mp z;walk_at"g1";obtain⟨j,hj,c',e'⟩:=g4 x hx;walk_at"g2";have hi7:=h7 i (.head _);have hj7:=h7 j (List.mem_cons_of_mem _ hj);have e:=e'.symm.trans (e.trans h3);have:=NC (by lia) (by lia) (by lia) (by lia) e;have hij:i=j:=by lia
   exact(List.nodup_cons.mp nd).1 (hij▸hj)
  ·rcases List.mem_cons.mp hx with rfl|hx
   ·exact⟨i,.head _,c,h3⟩
   ·obtain⟨j,hj,r⟩:=g4 x hx;exact⟨j,List.mem_cons_of_mem _ hj,r⟩
inductive kR (K:W.Frag)(vs:List V)(H:Hp)(Q:VK)(E:XK):Prop
 | mk (a:Addr) (ns:List Int) (_:vs=[.ref a]) (_:SqL K H a (ns.map V.int)) (_:ns.length<=63) (_:∀q p1 p2 p3 us ws rs ss f l H',Same H H'->iO H' q p1 p2 p3 us ws rs ss f l->Q (.ref q) H'):kR K vs H Q E
theorem JE {H:Hp}{Q:VK}{E:XK}{a:Addr}{ns:List Int} (hS:SqL K H a (ns.map V.int)) (hl:ns.length<=63) (k:∀q p1 p2 p3 us ws rs ss f l H',Same H H'->iO H' q p1 p2 p3 us ws rs ss f l->Q (.ref q) H'):kR K [.ref a] H Q E:=⟨_,_,rfl,hS,hl,k⟩
theorem RX (ns:List Int):(List.range (Int.toNat 4)).map (fun i:Nat=>V.int (iJ ns (i:Int)))=[.int (iJ ns 0),.int (iJ ns 1),.int (iJ ns 2),.int (iJ ns 3)]:=rfl
theorem HV {ns:List Int}{i:Nat} (h:i<(min ((ns.length:Int) - 4) 7).toNat):4+i<ns.length/\i<7:=by lia
theorem yQ (m:M K mg):FnOk P w K mg base CX0 4 m.jB m.fI.d ["_law_script"] (kR K):=by
 refine m.fI.F.ok sc__law_drawn_told (fun vs H Q E h=> ?_) (fun cdv A outer s H vs Q E hr h=> ?_)
 ·walk_at"g1";obtain⟨a,ns,rfl,hS,hlen,k⟩:=h;walk_at"g2";rfl
 ·walk_at"g1";obtain⟨a,ns,rfl,hS,hlen,k⟩:=h;walk_at"g2";have nd:=sc__law_drawn_told.nd;walk_at"hu";have F__law_cell_at:= @sI P w K mg base m;have F__law_digits:= @mK P w K mg base m;have F__law_rooms_told:= @yN P w K mg base m;have F__law_spec_told:= @AB P w K mg base m;refine⟨_,(aB (iI (i:=1) nd rfl (by walk_at"oi") (N:=["_law_k","_law_script"]) (nl:=1) (ci:=[0]) rfl (blk (s.heap.objs.size+1) rfl rfl rfl (by kernel_rfl)) (kN rfl m.kS (aA aD aC)) (fun _ _ _ _=>(aN (i:=0) (show (["_law_k","_law_script"]:List Str).Nodup by decide +kernel) rfl (by walk_at"oi"))) (fun _ _ _ _=>d9) (fun _ _ _ _=>(bK F__law_cell_at hr (aA (pv 1) (aA (pv 0) aC)))))
   (aB (aO (i:=2) nd rfl (by walk_at"oi") (bK F__law_rooms_told hr (aA (pv 1) aC)))
   (aB (DT (bK F__law_digits hr (aA (aW bL (pv 1) aD (fun _ _=>rfl)) (aA (b7 (aA aD (aA (dY 100000000000 (by decide) ⟨by decide,by decide,by decide⟩) aC))) aC))) (MY (n:=2) rfl (aX (aN (i:=3) nd rfl (by walk_at"oi")) (aX (aN (i:=4) nd rfl (by walk_at"oi")) dR))))
   (aB (aO (i:=5) nd rfl (by walk_at"oi") (c9 (aA (pv 4) (aA (aK bW (pv 4) (pv 3)) aC))))
   (aB (iI (i:=6) nd rfl (by walk_at"oi") (N:=["_law_k","_law_rooms_here","_law_turns","_law_script"]) (nl:=1) (ci:=[2,5,0]) rfl (blk (s.heap.objs.size+1) rfl rfl rfl (by kernel_rfl)) (kN rfl m.kS (aA (bH (xT rfl) rfl m.HW DG (aA (aK uI (bH eN rfl m.nJ jJ (aA (pv 0) aC)) aD) (aA aD aC))) aC)) (fun _ _ _ _=>(aN (i:=0) (show (["_law_k","_law_rooms_here","_law_turns","_law_script"]:List Str).Nodup by decide +kernel) rfl (by walk_at"oi"))) (fun _ _ _ _=>d9) (fun _ _ _ _=>(bK F__law_spec_told hr (aA (aW (BO (K:=K)) (pv 3) (aK bW aD (pv 0)) (fun _ _=>rfl)) (aA (pv 0) (aA (pv 1) (aA (pv 2) aC)))))))
   (aE (aR (c9 (aA (pv 2) (aA (pv 6) (aA (pv 5) aC))))))))))),?_⟩
  refine aJ (σ:=[some (.ref a),none,none,none,none,none,none]) rfl ?_;walk_at"cx";walk_at"go";refine JU (fun i=> .int (iJ ns (i:Int))) (by decide) (rest:=[some (.ref a)]) (by rfl) ?_ ?_
  ·intro i H1 hi s1 R hR;walk_at"go";rw[Int.zero_add];exact hR _ (Same.refl _)
  intro H1 S1;rw[RX];walk_at"go";rename_i p2 H2 n2 S2 e2;refine KA e2 fun p4 us rs H4 n4 S4 e4 hr4 ro=> ?_;have e24:=S4 _ _ e2;walk_at"go";rename_i p5 H5 n5 S5 e5;refine yC (bs:=[8,100000000000]) (SqL.of e5) (fun x hx=>by
   simp only[List.mem_cons,List.not_mem_nil,or_false]at hx;rcases hx with rfl|rfl<;>lia) (show 2<=20 by decide) fun p6 ds H6 n6 S6 e6 hds=> ?_
  walk_at"g1";obtain⟨mo,t1,rfl,hm,hds⟩:=fP hds;walk_at"g2";walk_at"g1";obtain⟨fi,t2,rfl,hf,hds⟩:=fP hds;walk_at"g2";obtain rfl:=IA hds;have e6':H6 p6=some (.lst [.int mo,.int fi]):=e6;walk_at"go";rename_i p7 H7 n7 S7 e7;have s07:Same H H7:=(S1.trans S2).trans (S4.trans (S5.trans (S6.trans S7)));have s47:Same H4 H7:=S5.trans (S6.trans S7);have hS7:=s07.seq hS;have e47:=s47 _ _ e4;have hr7:=kP hr4 s47;walk_at"go";rw[List.length_map];refine SX (fun i y H=>∃s c,c8 H y s/\iE rs fi s/\s.n=wnF c (20+(i:Nat))) (fun _ _ _ _ ⟨s,c,⟨q,h1,h2⟩,h3⟩ s2=>⟨s,c,⟨q,h1,s2 _ _ h2⟩,h3⟩) (by rw[sizeLine_eq];lia) (rest:=[some (.ref p4),some (.ref p7),some (.ref a)]) (by rfl) ?_ ?_
  ·intro i H8 hi s8 R hR;have h47:=HV hi;have hS8:=s8.seq hS7;have e48:=s8 _ _ e47;have e78:=s8 _ _ e7;have hr8:=kP hr7 s8;walk_at"go";refine qR hS8 (by lia) (by rw[List.length_map];lia) fun v hv=> ?_;obtain⟨c,hc,rfl⟩:=List.mem_map.mp hv;walk_at"go";refine MV (by lia) (by lia) (SqL.of e48) hr8 ro e78 fun q s H9 S9 hs so hn=> ?_;rw[Int.zero_add]at hn;exact hR _ _ ⟨s,c,hs,so,hn⟩ S9
  intro ys H8 s8 hys;walk_at"g1";obtain⟨ss,g1,g2,g3,g4,g5⟩:=BN hys (fun i hi=>(HV (List.mem_range.mp hi)).2) List.nodup_range;walk_at"g2";rw[List.length_range]at g5;walk_at"go";rename_i p9 H9 n9 S9 e9 pA HA nA SA eA;have s79:Same H7 HA:=s8.trans (S9.trans SA);refine k _ _ _ _ _ _ _ _ _ _ _ (s07.trans s79) ⟨eA,s79 _ _ e47,SA _ _ e9,s79 _ _ e7,kP hr7 s79,NA g1 (S9.trans SA),ro,g2,g3,by lia,hf.1,hf.2,by lia,by lia⟩
theorem yU (m:M K mg):Fc P w K mg base "_law_drawn_told" 4 ["_law_script"] (kR K):=⟨_,_,m.AI,m.fI.F.kp,m.fI.b,yQ m⟩
theorem GK (m:M K mg):FnOk P w K mg base CX0 5 m.rA m.lJ.d ["_law_script"] (kR K):=by
 refine m.lJ.F.ok sc__law_drawn (fun vs H Q E h=> ?_) (fun cdv A outer s H vs Q E hr h=> ?_)
 ·walk_at"g1";obtain⟨a,ns,rfl,hS,hlen,k⟩:=h;walk_at"g2";rfl
 ·walk_at"g1";obtain⟨a,ns,rfl,hS,hlen,k⟩:=h;walk_at"g2";have nd:=sc__law_drawn.nd;walk_at"hu";have F__law_cell_at:= @sI P w K mg base m;have F__law_drawn_told:= @yU P w K mg base m;have F__law_mixed:= @oH P w K mg base m;have F__law_rooms:= @GR P w K mg base m;have F__law_spec:= @IT P w K mg base m;refine⟨_,(aB (bV (aU eV (aK bP (bK F__law_cell_at hr (aA (pv 0) (aA aD aC))) aD) aD (bB _)) (aE (aR (bK F__law_drawn_told hr (aA (pv 0) aC)))) bE)
   (aB (iI (i:=1) nd rfl (by walk_at"oi") (N:=["_law_k","_law_script"]) (nl:=1) (ci:=[0]) rfl (blk (s.heap.objs.size+1) rfl rfl rfl (by kernel_rfl)) (kN rfl m.kS (aA aD aC)) (fun _ _ _ _=>(aN (i:=0) (show (["_law_k","_law_script"]:List Str).Nodup by decide +kernel) rfl (by walk_at"oi"))) (fun _ _ _ _=>d9) (fun _ _ _ _=>(bK F__law_cell_at hr (aA (pv 1) (aA (pv 0) aC)))))
   (aB (aO (i:=2) nd rfl (by walk_at"oi") (bK F__law_rooms hr (aA (pv 1) aC)))
   (aB (aO (i:=3) nd rfl (by walk_at"oi") (aW bL (b7 (aA aD (aA (aK bP (bK F__law_mixed hr (aA (aW bL (pv 1) aD (fun _ _=>rfl)) (aA aD aC))) aD) aC))) (aK bP (aW bL (pv 1) aD (fun _ _=>rfl)) aD) (fun _ _=>rfl)))
   (aB (bV (aU eV (aK bP (aK cM (aW bL (pv 1) aD (fun _ _=>rfl)) aD) aD) aD (bB _)) (aE (aO (i:=3) nd rfl (by walk_at"oi") (aK bP (aK cM (aW bL (pv 1) aD (fun _ _=>rfl)) aD) (dY 100000000000 (by decide) ⟨by decide,by decide,by decide⟩)))) bE)
   (aB (aO (i:=4) nd rfl (by walk_at"oi") (c9 (aA (pv 3) (aA (aK bW (pv 3) (aK bP (bK F__law_mixed hr (aA (aW bL (pv 1) aD (fun _ _=>rfl)) (aA aD aC))) aD)) aC))))
   (aB (iI (i:=5) nd rfl (by walk_at"oi") (N:=["_law_k","_law_rooms_here","_law_turns","_law_script"]) (nl:=1) (ci:=[2,4,0]) rfl (blk (s.heap.objs.size+1) rfl rfl rfl (by kernel_rfl)) (kN rfl m.kS (aA (bH (xT rfl) rfl m.HW DG (aA (aK uI (bH eN rfl m.nJ jJ (aA (pv 0) aC)) aD) (aA aD aC))) aC)) (fun _ _ _ _=>(aN (i:=0) (show (["_law_k","_law_rooms_here","_law_turns","_law_script"]:List Str).Nodup by decide +kernel) rfl (by walk_at"oi"))) (fun _ _ _ _=>d9) (fun _ _ _ _=>(bK F__law_spec hr (aA (aW (BO (K:=K)) (pv 3) (aK bW aD (pv 0)) (fun _ _=>rfl)) (aA (pv 0) (aA (pv 1) (aA (pv 2) aC)))))))
   (aE (aR (c9 (aA (pv 2) (aA (pv 5) (aA (pv 4) aC))))))))))))),?_⟩
  refine aJ (σ:=[some (.ref a),none,none,none,none,none]) rfl ?_;walk_at"cx";walk_at"go";refine bM (fun hc=> ?_) (fun hc=> ?_)
  ·walk_at"go";refine JE hS hlen fun q p1 p2 p3 us ws rs ss f l H1 S1 dr=> ?_;exact k _ _ _ _ _ _ _ _ _ _ _ S1 dr
  walk_at"go";refine JU (fun i=> .int (iJ ns (i:Int))) (by decide) (rest:=[some (.ref a)]) (by rfl) ?_ ?_
  ·intro i H1 hi s1 R hR;walk_at"go";rw[Int.zero_add];exact hR _ (Same.refl _)
  intro H1 S1;rw[RX];walk_at"gs";rename_i p2 H2 n2 S2 e2;refine KA e2 fun p4 us rs H4 n4 S4 e4 hr4 ro=> ?_;have e24:=S4 _ _ e2;walk_at"gs";rename_i n5 h50 h51 p5 H5 m5 S5 e5 v5 hv5;refine mM (fun σ' G=>H5=G/\∃f6,0<=f6/\f6<100000000000/\σ'=[some (.ref a),some (.ref p2),some (.ref p4),some (.int f6),none,none]) ?_ ?_
  rotate_left
  ·intro nx' hnx;have e25:=S5 _ _ e24;walk_at"go";refine bM (fun hc=> ?_) (fun hc=> ?_)
   ·walk_at"go";exact hnx _ _ ⟨rfl,_,by lia,by lia,rfl⟩
   ·walk_at"go";exact hnx _ _ ⟨rfl,_,by lia,by lia,rfl⟩
  rintro _ G hq_;walk_at"g1";obtain⟨hG,f6,hf0,hf1,rfl⟩:=hq_;walk_at"g2";subst hG;have e25:=S5 _ _ e24;walk_at"go";rename_i n6 h60 h61 p7 H7 n7 S7 e7;have s07:Same H H7:=(S1.trans S2).trans (S4.trans (S5.trans S7));have s47:Same H4 H7:=S5.trans S7;have hS7:=s07.seq hS;have e47:=s47 _ _ e4;have hr7:=kP hr4 s47;walk_at"go";rw[List.length_map];refine SX (fun i y H=>∃s c,c8 H y s/\iE rs f6 s/\s.n=wnF c (20+(i:Nat))) (fun _ _ _ _ ⟨s,c,⟨q,h1,h2⟩,h3⟩ s2=>⟨s,c,⟨q,h1,s2 _ _ h2⟩,h3⟩) (by rw[sizeLine_eq];lia) (rest:=[some (.ref p4),some (.ref p7),some (.ref a)]) (by rfl) ?_ ?_
  ·intro i H8 hi s8 R hR;have h47:=HV hi;have hS8:=s8.seq hS7;have e48:=s8 _ _ e47;have e78:=s8 _ _ e7;have hr8:=kP hr7 s8;walk_at"go";refine qR hS8 (by lia) (by rw[List.length_map];lia) fun v hv=> ?_;obtain⟨c,hc,rfl⟩:=List.mem_map.mp hv;walk_at"go";refine MV (by lia) (by lia) (SqL.of e48) hr8 ro e78 fun q s H9 S9 hs so hn=> ?_;rw[Int.zero_add]at hn;exact hR _ _ ⟨s,c,hs,so,hn⟩ S9
  intro ys H8 s8 hys;walk_at"g1";obtain⟨ss,g1,g2,g3,g4,g5⟩:=BN hys (fun i hi=>(HV (List.mem_range.mp hi)).2) List.nodup_range;walk_at"g2";rw[List.length_range]at g5;walk_at"go";rename_i p9 H9 n9 S9 e9 pA HA nA SA eA;have s79:Same H7 HA:=s8.trans (S9.trans SA);refine k _ _ _ _ _ _ _ _ _ _ _ (s07.trans s79) ⟨eA,s79 _ _ e47,SA _ _ e9,s79 _ _ e7,kP hr7 s79,NA g1 (S9.trans SA),ro,g2,g3,by lia,hf0,hf1,by lia,by lia⟩
theorem GI (m:M K mg):Fc P w K mg base "_law_drawn" 5 ["_law_script"] (kR K):=⟨_,_,m.K9,m.lJ.F.kp,m.lJ.b,GK m⟩
def dM (rs:List cI):List (Str×Int):=rs.map fun r=>(r.1,r.2.1)
def cP (rs:List cI):List (Str×Int):=(rs.filter fun r=>decide (0<r.2.2)).map fun r=>(r.1,r.2.2)
theorem qT (rs:List cI):(dM rs).map (·.1)=rs.map (·.1):=by unfold dM;rw[List.map_map];rfl
theorem JA (ss:List SpecD):(ss.map bX).map (·.1)=ss.map (·.n):=by rw[List.map_map];rfl
theorem Q2 {rs:List cI}{z:Str} (h:z∉rs.map (·.1)):dD (cP rs) z=0:=by
 have e:(cP rs).filter (fun p=>decide (p.1=z))=[]:=by
  rw[List.filter_eq_nil_iff];intro p hp;unfold cP at hp;obtain⟨r,hr,rfl⟩:=List.mem_map.mp hp;have hr':=(List.mem_filter.mp hr).1;intro hz;exact h (List.mem_map.mpr ⟨r,hr',by simpa using hz⟩)
 unfold dD;rw[e];rfl
theorem ES {r:cI}:∀{rs:List cI},(rs.map (·.1)).Nodup->(∀r∈rs,0<=r.2.2)->r∈rs->dD (cP rs) r.1=r.2.2
 | a::rs,nd,h0,hm=>by
  have nd':=List.nodup_cons.mp nd;have ha:=h0 a (.head _);have hz:=Q2 nd'.1;rcases List.mem_cons.mp hm with rfl|hm
  ·by_cases hc:0<r.2.2
   ·unfold dD cP at hz ⊢;rw[List.filter_cons_of_pos (by simpa using hc),List.map_cons,List.filter_cons_of_pos (by simp),List.map_cons,List.sum_cons,hz];exact Int.add_zero _
   ·have:r.2.2=0:=by lia
    rw[this];unfold dD cP at hz ⊢;rw[List.filter_cons_of_neg (by simpa using hc)];exact hz
  ·have ih:=ES nd'.2 (fun x hx=>h0 x (List.mem_cons_of_mem _ hx)) hm;have hne:¬a.1=r.1:=fun z=>nd'.1 (show a.1∈_ by rw[z];exact List.mem_map.mpr ⟨r,hm,rfl⟩)
   by_cases hc:0<a.2.2
   ·unfold dD cP at ih ⊢;rw[List.filter_cons_of_pos (by simpa using hc),List.map_cons,List.filter_cons_of_neg (by simpa using hne)];exact ih
   ·unfold dD cP at ih ⊢;rw[List.filter_cons_of_neg (by simpa using hc)];exact ih
theorem aAf {rs:List cI}(ro:qI rs):ED (dM rs) (cP rs):=by
 refine⟨fun p hp=> ?_,fun e he=> ?_⟩
 ·unfold cP at hp;obtain⟨r,hr,rfl⟩:=List.mem_map.mp hp;exact(ro.ok r (List.mem_filter.mp hr).1).1
 ·unfold dM at he;obtain⟨r,hr,rfl⟩:=List.mem_map.mp he;rw[show ((r.1,r.2.1):Str×Int).1=r.1 from rfl,ES ro.nd (fun x hx=>(ro.ok x hx).1) hr];exact(ro.ok r hr).2
theorem EN {H H':Hp}{q p1 p2 p3:Addr}{us ws:List V}{rs:List cI}{ss:List SpecD}{f l:Int} (x:iO H q p1 p2 p3 us ws rs ss f l) (T:SameT H H'):iO H' q p1 p2 p3 us ws rs ss f l :=
 ⟨T.tup x.eq,T.lst x.e1,T.lst x.e2,T.tup x.e3,aCH x.ru T,aB6 x.sw T,x.ro,x.so,x.nd,x.l7,x.f0,x.f1,x.fl,x.fl7⟩
theorem mN {H H':Hp}{q p1 p2 p3:Addr}{us ws:List V}{rs:List cI}{ss:List SpecD}{f l:Int} (x:iO H q p1 p2 p3 us ws rs ss f l) (s:Same H H'):iO H' q p1 p2 p3 us ws rs ss f l:=EN x s.t
def TabR (PL:Addr)(A B:Hp):Prop:=SameT A B/\(TabS A PL pL qL->TabS B PL pL qL)
theorem TabR.refl (PL:Addr)(H:Hp):TabR PL H H:=⟨SameT.refl _,id⟩
theorem TabR.trans {PL:Addr}{A B C:Hp} (x:TabR PL A B) (y:TabR PL B C):TabR PL A C:=⟨x.1.trans y.1,fun h=>y.2 (x.2 h)⟩
theorem QV {j k:Nat}{H:Hp}{v:V}{d:aG} (h:DoorAt P w K mg base (some j) H v d) (hjk:j<=k):DoorAt P w K mg base (some k) H v d:=by
 walk_at"g1";obtain⟨p,C,dx,fs,fp,e,hp,dc,l1,l2,l3,l4,l5,mc,hf,lt⟩:=h;walk_at"g2";refine⟨p,C,dx,fs,fp,e,hp,dc,l1,l2,l3,l4,l5,mc,hf,fun kl hk=> ?_⟩;cases hk;obtain⟨sp,m1,m2⟩:=lt j rfl;exact⟨sp,Mc.mono m1 hjk,m2⟩
theorem aDq {H H':Hp}{us:List V}{ss:List (Str×Int)} (h:Paired (cY H) us ss) (s:SameT H H'):Paired (cY H') us ss:=Paired.imp' (fun v d ⟨q,e,h⟩=>⟨q,e,s.tup h⟩) h
inductive sT (P:Program)(w:World)(base:Heap)(m:M K mg)(PL:Addr)(vs:List V)(H:Hp)(Q:VK)(E:XK):Prop
 | mk (q p1 p2 p3:Addr) (us ws:List V) (rs:List cI) (ss:List SpecD) (f l:Int) (_:vs=[.ref p1,.ref p2,.ref p3]) (_:iO H q p1 p2 p3 us ws rs ss f l) (_:TabS H PL pL qL) (_:∀h H',SameT H H'->TabS H' PL pL qL->bO m.aM (aS P w K mg base (some 4)) H' h f l (dM rs) (cP rs) (ss.map bX)->Q (.ref h) H'):sT P w base m PL vs H Q E
theorem WI {m:M K mg}{PL:Addr}{H:Hp}{Q:VK}{E:XK}{q p1 p2 p3:Addr}{us ws:List V}{rs:List cI}{ss:List SpecD}{f l:Int} (x:iO H q p1 p2 p3 us ws rs ss f l) (ht:TabS H PL pL qL) (k:∀h H',SameT H H'->TabS H' PL pL qL->bO m.aM (aS P w K mg base (some 4)) H' h f l (dM rs) (cP rs) (ss.map bX)->Q (.ref h) H'):sT P w base m PL [.ref p1,.ref p2,.ref p3] H Q E:=⟨_,_,_,_,_,_,_,_,_,_,rfl,x,ht,k⟩
theorem G0 (m:M K mg){cL PL:Addr}(hcL:m.dX.code= .ref cL)(hCL:W.CodeHd base cL PL)(hBL:base.BuiltinsAt mg PL):FnOk P w K mg base CX0 7 m.rL m.lZ.d ["_law_rooms_here","_law_specs","_law_turns"] (sT P w base m PL):=by
 refine m.lZ.F.ok sc__law_house (fun vs H Q E h=> ?_) (fun cdv A outer s H vs Q E hr h=> ?_)
 ·walk_at"g1";obtain⟨q,p1,p2,p3,us,ws,rs,ss,f,l,rfl,dr,hPL,k⟩:=h;walk_at"g2";rfl
 ·walk_at"g1";obtain⟨q,p1,p2,p3,us,ws,rs,ss,f,l,rfl,dr,hPL,k⟩:=h;walk_at"g2";have nd:=sc__law_house.nd;walk_at"hu";have nO:=KM (P:=P) (w:=w) (base:=base) m hcL hCL hBL;have K_House_0:= @DE P w K mg base m;have w_dc_House:=m.bI;refine⟨_,(aB (iI (i:=3) nd rfl (by walk_at"oi") (N:=["_law_room"]) (nl:=1) (ci:=[]) rfl (blk (s.heap.objs.size+1) rfl rfl rfl (by kernel_rfl)) (bR (pv 0)) (fun _ _ _ _=>(aN (i:=0) (show (["_law_room"]:List Str).Nodup by decide +kernel) rfl (by walk_at"oi"))) (fun _ _ _ _=>(qP (aU zG (aW (dQ (K:=K)) (pv 0) aD (fun _ _=>rfl)) aD (bB _)))) (fun _ _ _ _=>(c9 (aA (aW (dQ (K:=K)) (pv 0) aD (fun _ _=>rfl)) (aA (aW (dQ (K:=K)) (pv 0) aD (fun _ _=>rfl)) aC)))))
   (aB (iI (i:=4) nd rfl (by walk_at"oi") (N:=["_law_spec_here"]) (nl:=1) (ci:=[]) rfl (blk (s.heap.objs.size+1) rfl rfl rfl (by kernel_rfl)) (bR (pv 1)) (fun _ _ _ _=>(aN (i:=0) (show (["_law_spec_here"]:List Str).Nodup by decide +kernel) rfl (by walk_at"oi"))) (fun _ _ _ _=>d9) (fun _ _ _ _=>(bK nO hr (aA (pv 0) aC))))
   (aE (aR (pI K_House_0 hr (aA (c6 (N:=["_law_room"]) (nl:=1) (ci:=[]) rfl (blk (s.heap.objs.size+1) rfl rfl rfl (by kernel_rfl)) (bR (pv 0)) (fun _ _ _ _=>(aN (i:=0) (show (["_law_room"]:List Str).Nodup by decide +kernel) rfl (by walk_at"oi"))) (fun _ _ _ _=>d9) (fun _ _ _ _=>(c9 (aA (aW (dQ (K:=K)) (pv 0) aD (fun _ _=>rfl)) (aA (aW (dQ (K:=K)) (pv 0) aD (fun _ _=>rfl)) aC))))) (aA (pv 4) (aA (pv 3) (aA (aW cZ (pv 2) aD (fun _ _=>rfl)) (aA (aW cZ (pv 2) aD (fun _ _=>rfl)) aC)))))))))),?_⟩
  refine aJ (σ:=[some (.ref p1),some (.ref p2),some (.ref p3),none,none]) rfl ?_;walk_at"cx";have ro:=dr.ro;have hrl:rs.length<=4:=ro.l1;have e1:=dr.e1;have e2:=dr.e2;have e3:=dr.e3;have hul:us.length=rs.length:=Paired.length dr.ru;have hwl:ws.length=ss.length:=Paired.length dr.sw;walk_at"go";refine mG (α:=cI) (xs:=rs) (vs:=us) (d8 H) (fun r=>decide (0<r.2.2)) (fun r y H=>cY H y (r.1,r.2.2)) (fun _ _ _ _ ⟨q,h1,h2⟩ s=>⟨q,h1,s _ _ h2⟩) (by rw[sizeLine_eq];lia) (rest:=[]) (by rfl) (SqL.of e1) dr.ru ?_ ?_ ?_
  ·rintro v ⟨z,i,j⟩ H2 ⟨q2,rfl,hq2⟩ hm s2 R hR;have hq2:H2 q2=some (.tup [.str z,.int i,.int j]):=s2 _ _ hq2;walk_at"go";refine⟨q2,_,2,_,rfl,rfl,SqT.of hq2,rfl,?_⟩;walk_at"go";exact hR _ (Same.refl _)
  ·rintro v ⟨z,i,j⟩ H2 ⟨q2,rfl,hq2⟩ hm - s2 R hR;have hq2:H2 q2=some (.tup [.str z,.int i,.int j]):=s2 _ _ hq2;walk_at"go";refine⟨q2,_,0,_,rfl,rfl,SqT.of hq2,rfl,?_⟩;walk_at"go";refine⟨q2,_,2,_,rfl,rfl,SqT.of hq2,rfl,?_⟩;walk_at"go";rename_i q3 H3 n3 S3 e3';exact hR _ _ ⟨q3,rfl,e3'⟩ S3
  intro ys H2 s2 hys;have hyp:Paired (cY H2) ys (cP rs):=vZ (F:=cY H2) (fun r:cI=>(r.1,r.2.2)) hys;walk_at"go";rename_i p4 H4 n4 S4 e4;have s04:=s2.trans S4;have dr4:=mN dr s04;have hPL4:=hPL.same s04;refine aAC (α:=SpecD) (xs:=ss) (vs:=ws) (TabR PL) (TabR.refl PL) (fun _ _ _=>TabR.trans) (c8 H4) (fun s y H=>(aS P w K mg base (some 4)).at' H y (bX s)) (fun _ _ _ _ h s=>aC4 h s.1) (by have:=dr.l7;rw[sizeLine_eq];lia) (rest:=[]) (by rfl) (fun H1 s=>s.1.seq (SqL.of dr4.e2)) dr4.sw (fun v x H1 _ _ _ R hR=>hR _ (TabR.refl _ _)) ?_ ?_
  ·rintro v s5 H5 ⟨q5,rfl,h5⟩ hm t5 R hR;have hs5:c8 H5 (.ref q5) s5:=⟨q5,rfl,t5.1.tup h5⟩
   walk_at"go";refine ZH hs5 (dr.so s5 hm) dr.f0 (t5.2 hPL4) fun v6 H6 T6 hT6 hd6=> ?_;exact hR _ _ hd6 ⟨T6,fun _=>hT6⟩
  intro zs H5 t5 hzs;have dr5:=EN dr4 t5.1;have hPL5:=t5.2 hPL4;have e45:=t5.1.lst e4;have e15:=dr5.e1;have e35:=dr5.e3;have hyp5:=aDq hyp ((Same.t S4).trans t5.1);have hzd:Paired ((aS P w K mg base (some 4)).at' H5) zs (ss.map bX):=vZ (F:=(aS P w K mg base (some 4)).at' H5) bX (Paired.imp' (fun s y h=>QV h (by decide)) hzs);walk_at"go";rename_i p6 H6 n6 S6 e6;have e16:=S6 _ _ e15;refine mG (α:=cI) (xs:=rs) (vs:=us) (d8 H6) (fun _=>true) (fun r y H=>cY H y (r.1,r.2.1)) (fun _ _ _ _ ⟨q,h1,h2⟩ s=>⟨q,h1,s _ _ h2⟩) (by rw[sizeLine_eq];lia) (rest:=[]) (by rfl) (SqL.of e16) (kP dr5.ru S6) (fun v x H1 _ hx s1 R hR=>hR _ (Same.refl _)) ?_ ?_
  ·rintro v ⟨z,i,j⟩ H7 ⟨q2,rfl,hq2⟩ hm - s7 R hR;have hq2:H7 q2=some (.tup [.str z,.int i,.int j]):=s7 _ _ hq2;walk_at"go";refine⟨q2,_,0,_,rfl,rfl,SqT.of hq2,rfl,?_⟩;walk_at"go";refine⟨q2,_,1,_,rfl,rfl,SqT.of hq2,rfl,?_⟩;walk_at"go";rename_i q3 H3 n3 S3 e3';exact hR _ _ ⟨q3,rfl,e3'⟩ S3
  intro xs H7 s7 hxs;rw[d6]at hxs;have hxr:Paired (cY H7) xs (dM rs):=vZ (F:=cY H7) (fun r:cI=>(r.1,r.2.1)) hxs;walk_at"go";rename_i p8 H8 n8 S8 e8;have s58:Same H5 H8:=S6.trans (s7.trans S8);have e38:=s58 _ _ e35;refine⟨p3,_,1,_,rfl,rfl,SqT.of e38,rfl,?_⟩;walk_at"go";refine⟨p3,_,0,_,rfl,rfl,SqT.of e38,rfl,?_⟩;walk_at"go";have hin:∀d∈ss.map bX,iA ((dM rs).map (·.1)) d:=fun d hd=>by
   obtain⟨s,hs,rfl⟩:=List.mem_map.mp hd;rw[qT];exact⟨(dr.so s hs).sin,(dr.so s hs).ein⟩
  have hpr:∀p∈cP rs,p.1∈(dM rs).map (·.1):=fun p hp=>by
   unfold cP at hp;obtain⟨r,hr,rfl⟩:=List.mem_map.mp hp;rw[qT];exact List.mem_map.mpr ⟨r,(List.mem_filter.mp hr).1,rfl⟩
  have hlp:(cP rs).length<=40:=by
   have h1:(rs.filter fun r=>decide (0<r.2.2)).length<=rs.length:=List.length_filter_le _ _;unfold cP;rw[List.length_map];lia
  have hl7:=dr.l7;refine F3 (f:=f) (l:=l) (rz:=dM rs) (ps:=cP rs) (ds:=ss.map bX) rfl w_dc_House e8 (RoomsAt.sm hxr S8) (SqL.of (S8 _ _ (s7 _ _ e6))) (u7 hzd s58) (SqL.of (s58 _ _ e45)) (qA hyp5 s58) (by rw[qT];exact ro.nd) (by rw[JA];exact dr.nd) hin hpr (aAf ro) (by unfold dM;rw[List.length_map];lia) (by rw[List.length_map];lia) hlp dr.f0 dr.fl fun h H9 n9 S9 hh=> ?_;exact k _ _ (((s04.t).trans t5.1).snoc (s58.trans S9)) (hPL5.same (s58.trans S9)) hh
theorem G7 (m:M K mg){cL PL:Addr}(hcL:m.dX.code= .ref cL)(hCL:W.CodeHd base cL PL)(hBL:base.BuiltinsAt mg PL):Fc P w K mg base "_law_house" 7 ["_law_rooms_here","_law_specs","_law_turns"] (sT P w base m PL):=⟨_,_,m.LN,m.lZ.F.kp,m.lZ.b,G0 m hcL hCL hBL⟩
def at0 (l:List Int)(k:Nat):Int:=l.getD k 0
def xr (k:Nat):Nat:=if k%2=0 then k+1 else k - 1
theorem O5 (k:Nat):xr k≠k:=by unfold xr;split<;>lia
theorem OM (k:Nat):xr (xr k)=k:=by
 unfold xr
 by_cases h:k%2=0
 ·rw[if_pos h,if_neg (by lia)];lia
 ·rw[if_neg h,if_pos (by lia)];lia
theorem CS {k n:Nat}(h:k<2 * n):xr k<2 * n:=by unfold xr;split<;>lia
theorem EX (l:List Int)(k m:Nat)(x:Int)(h:k<l.length):at0 (l.set k x) m=if m=k then x else at0 l m:=by
 unfold at0;rw[List.getD_eq_getElem?_getD,List.getD_eq_getElem?_getD,List.getElem?_set]
 by_cases e:k=m
 ·subst e;rw[if_pos rfl,if_pos h,if_pos rfl];rfl
 ·rw[if_neg e,if_neg (Ne.symm e)]
def lF (sp:List Int)(k:Nat)(x:Int):List Int:=(sp.set k (at0 sp k - x)).set (xr k) (at0 sp (xr k)+x)
theorem yI (sp:List Int)(k:Nat)(x:Int):(lF sp k x).length=sp.length:=by unfold lF;rw[List.length_set,List.length_set]
theorem K7 {sp:List Int}{k n:Nat} (x:Int) (hl:sp.length=2 * n) (hk:k<2 * n) (m:Nat):at0 (lF sp k x) m=at0 sp m - (if m=k then x else 0)+if m=xr k then x else 0:=by
 have h2:=CS hk;have h3:=O5 k;unfold lF;rw[EX _ _ _ _ (by rw[List.length_set];lia),EX _ _ _ _ (by lia)]
 by_cases h:m=xr k
 ·rw[if_pos h,if_pos h,if_neg (by lia),h];lia
 ·rw[if_neg h,if_neg h]
  by_cases h':m=k
  ·rw[if_pos h',if_pos h',h'];lia
  ·rw[if_neg h',if_neg h'];lia
def cR (ts sp:List Int)(v:Int):Nat->Int
 | 0=>0
 | n+1=>cR ts sp v n+((if at0 ts (2 * n)=v then at0 sp (2 * n+1) else 0) - if at0 ts (2 * n+1)=v then at0 sp (2 * n+1) else 0)
theorem CJ {ts ts' sp sp':List Int}{v:Int}:∀n:Nat,(∀m,m<n->at0 ts (2 * m)=at0 ts' (2 * m)/\at0 ts (2 * m+1)=at0 ts' (2 * m+1)/\at0 sp (2 * m+1)=at0 sp' (2 * m+1))->cR ts sp v n=cR ts' sp' v n
 | 0,_=>rfl
 | n+1,h=>by
  unfold cR;obtain⟨h1,h2,h3⟩:=h n (by lia);rw[CJ n fun m hm=>h m (by lia),h1,h2,h3]
theorem RE (A B:Prop)[Decidable A][Decidable B](E s x:Int):E+0+((if A then s - 0+x else 0) - if B then s - 0+x else 0)=E+((if A then s else 0) - if B then s else 0)+((if A then x else 0) - if B then x else 0):=by
 split<;>split<;>lia
theorem Q6 (A B:Prop)[Decidable A][Decidable B](E s x:Int):E+0+((if B then s - x+0 else 0) - if A then s - x+0 else 0)=E+((if B then s else 0) - if A then s else 0)+((if A then x else 0) - if B then x else 0):=by
 split<;>split<;>lia
theorem J8 {ts sp:List Int}{k n:Nat} (x v:Int) (hl:sp.length=2 * n) (hk:k<2 * n):∀j:Nat,j<=n->cR ts (lF sp k x) v j=cR ts sp v j+if k<2 * j then (if at0 ts k=v then x else 0) - (if at0 ts (xr k)=v then x else 0) else 0
 | 0,_=>by rw[if_neg (by lia)];rfl
 | j+1,hj=>by
  unfold cR;rw[J8 x v hl hk j (by lia),K7 x hl hk]
  by_cases h:k=2 * j
  ·have hx:xr k=2 * j+1:=by unfold xr;rw[if_pos (by lia),h]
   rw[if_neg (show ¬k<2 * j by lia),if_pos (show k<2 * (j+1) by lia),if_neg (show ¬2 * j+1=k by lia),if_pos hx.symm,hx,h];exact RE _ _ _ _ _
  ·by_cases h':k=2 * j+1
   ·have hx:xr k=2 * j:=by unfold xr;rw[if_neg (by lia),h'];lia
    rw[if_neg (show ¬k<2 * j by lia),if_pos (show k<2 * (j+1) by lia),if_pos h'.symm,if_neg (show ¬2 * j+1=xr k by lia),hx,h'];exact Q6 _ _ _ _ _
   ·have hx:¬2 * j+1=xr k:=by unfold xr;split<;>lia
    rw[if_neg (show ¬2 * j+1=k by lia),if_neg hx,Int.sub_zero,Int.add_zero]
    by_cases hlt:k<2 * j
    ·rw[if_pos hlt,if_pos (show k<2 * (j+1) by lia)];exact Int.add_right_comm _ _ _
    ·rw[if_neg hlt,if_neg (show ¬k<2 * (j+1) by lia),Int.add_zero,Int.add_zero]
inductive Pth (ts:List Int)(s:Int):Int->List Nat->Prop
 | nil:Pth ts s s []
 | cons {v:Int}{k:Nat}{p:List Nat}:at0 ts k=v->Pth ts s (at0 ts (xr k)) p->Pth ts s v (k::p)
def dH (sp:List Int)(p:List Nat)(x:Int):List Int:=p.foldl (fun s k=>lF s k x) sp
theorem wI (x:Int):∀(p:List Nat) (sp:List Int),(dH sp p x).length=sp.length
 | [],_=>rfl
 | k::p,sp=>by
  show (dH (lF sp k x) p x).length=_;rw[wI x p,yI]
theorem CV {ts:List Int}{s:Int}{n:Nat} (x u:Int):∀{p:List Nat}{v:Int}{sp:List Int},Pth ts s v p->sp.length=2 * n->(∀k∈p,k<2 * n)->cR ts (dH sp p x) u n=cR ts sp u n+((if v=u then x else 0) - if s=u then x else 0)
 | _,_,sp,.nil,_,_=>by
  show cR ts sp u n=_
  lia
 | k::p,v,sp,.cons hv t,hl,hk=>by
  show cR ts (dH (lF sp k x) p x) u n=_;have hk0:=hk k (.head _);rw[CV x u t (by rw[yI];exact hl) fun m hm=>hk m (List.mem_cons_of_mem _ hm),J8 x u hl hk0 n (Nat.le_refl _),if_pos hk0,hv]
  split<;>split<;>split<;>lia
def mY (p:List Nat)(m:Nat):Int:=((p.filter fun k=>decide (k=m)).length:Int)
theorem pG {n:Nat}(x:Int)(m:Nat):∀{p:List Nat}{sp:List Int},sp.length=2 * n->(∀k∈p,k<2 * n)->at0 (dH sp p x) m=at0 sp m - x * mY p m+x * mY p (xr m)
 | [],sp,_,_=>by
  show at0 sp m=at0 sp m - x * 0+x * 0
  lia
 | k::p,sp,hl,hk=>by
  show at0 (dH (lF sp k x) p x) m=_;rw[pG x m (by rw[yI];exact hl) fun m hm=>hk m (List.mem_cons_of_mem _ hm),K7 x hl (hk k (.head _))];have c:∀j,mY (k::p) j=mY p j+if j=k then 1 else 0:=fun j=>by
   unfold mY
   by_cases h:k=j
   ·rw[List.filter_cons_of_pos (by simpa using h),if_pos h.symm,List.length_cons];lia
   ·rw[List.filter_cons_of_neg (by simpa using h),if_neg (Ne.symm h)];lia
  have hx:(m=xr k)=(xr m=k):=propext ⟨fun h=>by rw[h,OM],fun h=>by rw[←h,OM]⟩;rw[c,c,Int.mul_add,Int.mul_add]
  by_cases h1:m=k
  ·by_cases h2:m=xr k
   ·exact absurd (h1▸h2) (Ne.symm (O5 k))
   ·rw[if_pos h1,if_neg h2,if_pos h1,if_neg (by rw[←hx];exact h2)];lia
  ·by_cases h2:m=xr k
   ·rw[if_neg h1,if_pos h2,if_neg h1,if_pos (by rw[←hx];exact h2)];lia
   ·rw[if_neg h1,if_neg h2,if_neg h1,if_neg (by rw[←hx];exact h2)];lia
theorem aAQ (p:List Nat)(m:Nat):0<=mY p m:=by unfold mY;lia
theorem aBd {p:List Nat}(h:p.Nodup)(m:Nat):mY p m<=1:=by
 unfold mY
 induction p with
 | nil=>exact(show (0:Int)<=1 by decide)
 | cons a p ih =>
  obtain⟨h1,h2⟩:=List.nodup_cons.mp h
  by_cases e:a=m
  ·subst e;rw[List.filter_cons_of_pos (by simp),List.filter_eq_nil_iff.mpr fun k hk=>by
    have:k≠a:=fun z=>h1 (z▸hk)
    simpa using this]
   exact(show (1:Int)<=1 by decide)
  ·rw[List.filter_cons_of_neg (by simpa using e)];exact ih h2
theorem RM {p:List Nat}{m:Nat} (h:m∉p):mY p m=0:=by
 unfold mY;rw[List.filter_eq_nil_iff.mpr fun k hk=>by
  have:k≠m:=fun z=>h (z▸hk)
  simpa using this]
 rfl
theorem SC {n:Nat}{x:Int}{p:List Nat}{sp:List Int} (hl:sp.length=2 * n) (hk:∀k∈p,k<2 * n) (nd:p.Nodup) (x0:0<=x) (hx:∀k∈p,x<=at0 sp k) (h0:∀m,0<=at0 sp m) (m:Nat):0<=at0 (dH sp p x) m:=by
 rw[pG x m hl hk];have h2:0<=x * mY p (xr m):=Int.mul_nonneg x0 (aAQ _ _)
 by_cases h:m∈p
 ·have h1:=hx m h;have h3:x * mY p m<=x * 1:=Int.mul_le_mul_of_nonneg_left (aBd nd m) x0
  lia
 ·have:=h0 m;rw[RM h];lia
theorem OZ {n:Nat}{x:Int}{p:List Nat}{sp:List Int} (hl:sp.length=2 * n) (hk:∀k∈p,k<2 * n) (m:Nat):at0 (dH sp p x) m+at0 (dH sp p x) (xr m)=at0 sp m+at0 sp (xr m):=by
 rw[pG x m hl hk,pG x (xr m) hl hk,OM];lia
def vQ (ts sp:List Int)(rs:List Int)(n:Nat):Int:=(rs.map fun v=>cR ts sp v n).sum
def vL (ts sp:List Int)(rs:List Int):Nat->Int
 | 0=>0
 | n+1=>vL ts sp rs n+if at0 ts (2 * n+1)∈rs/\at0 ts (2 * n)∉rs then at0 sp (2 * n)+at0 sp (2 * n+1) else 0
theorem xN (ts sp rs:List Int)(n:Nat):vL ts sp rs (n+1)=vL ts sp rs n+if at0 ts (2 * n+1)∈rs/\at0 ts (2 * n)∉rs then at0 sp (2 * n)+at0 sp (2 * n+1) else 0:=rfl
theorem pV {rs:List Int}(nd:rs.Nodup)(a x:Int):(rs.map fun v=>if a=v then x else 0).sum=if a∈rs then x else 0:=by
 induction rs with
 | nil=>rw[if_neg (fun z=>nomatch z)];rfl
 | cons b l ih =>
  obtain⟨h1,h2⟩:=List.nodup_cons.mp nd;rw[List.map_cons,List.sum_cons,ih h2]
  by_cases h:a=b
  ·rw[if_pos h,if_neg (by rw[h];exact h1),if_pos (by rw[h];exact .head _),Int.add_zero]
  ·rw[if_neg h,Int.zero_add]
   by_cases h3:a∈l
   ·rw[if_pos h3,if_pos (List.mem_cons_of_mem _ h3)]
   ·rw[if_neg h3,if_neg];intro z;rcases List.mem_cons.mp z with z|z
    ·exact h z
    ·exact h3 z
theorem EJ (l:List Int)(f g h:Int->Int):(l.map fun v=>f v+(g v - h v)).sum=(l.map f).sum+((l.map g).sum - (l.map h).sum):=by
 induction l with
 | nil=>rfl
 | cons a l ih=>rw[List.map_cons,List.sum_cons,ih,List.map_cons,List.sum_cons,List.map_cons,List.sum_cons,List.map_cons,List.sum_cons];lia
theorem OC {ts sp rs:List Int}(nd:rs.Nodup):∀{n:Nat},(∀k,k<2 * n->0<=at0 sp k)->(∀k,k<2 * n->at0 ts (xr k)∈rs->at0 ts k∉rs->at0 sp k<=0)->vQ ts sp rs n= - vL ts sp rs n
 | 0,_,_=>by
  have e:∀l:List Int,(l.map fun v=>cR ts sp v 0).sum=0:=fun l=>by
   induction l with
   | nil=>rfl
   | cons a l ih=>rw[List.map_cons,List.sum_cons,ih];rfl
  exact e rs
 | n+1,h0,hc=>by
  have ih:=OC nd (n:=n) (fun k hk=>h0 k (by lia)) fun k hk=>hc k (by lia);unfold vQ at ih ⊢;have e:(rs.map fun v=>cR ts sp v (n+1)).sum=(rs.map fun v=>cR ts sp v n).sum+((rs.map fun v=>if at0 ts (2 * n)=v then at0 sp (2 * n+1) else 0).sum - (rs.map fun v=>if at0 ts (2 * n+1)=v then at0 sp (2 * n+1) else 0).sum):=EJ rs _ _ _;rw[e,ih,pV nd,pV nd,xN];have x0:xr (2 * n)=2 * n+1:=by unfold xr;rw[if_pos (by lia)]
  have x1:xr (2 * n+1)=2 * n:=by unfold xr;rw[if_neg (by lia)];lia
  have a0:=h0 (2 * n) (by lia);have a1:=h0 (2 * n+1) (by lia);have c0:=hc (2 * n) (by lia);have c1:=hc (2 * n+1) (by lia);rw[x0]at c0;rw[x1]at c1
  by_cases ht:at0 ts (2 * n+1)∈rs
  ·by_cases hh:at0 ts (2 * n)∈rs
   ·rw[if_pos hh,if_pos ht,if_neg (fun z=>z.2 hh)];lia
   ·have:=c0 ht hh;rw[if_neg hh,if_pos ht,if_pos ⟨ht,hh⟩];lia
  ·by_cases hh:at0 ts (2 * n)∈rs
   ·have:=c1 hh ht;rw[if_pos hh,if_neg ht,if_neg (fun z=>ht z.1)];lia
   ·rw[if_neg hh,if_neg ht,if_neg (fun z=>ht z.1)];lia
structure Ways (ts sp:List Int)(s:Int)(ws:List (Int×Nat)):Prop where
 nd:(s::ws.map (·.1)).Nodup
 ok:∀(i:Nat) (v:Int) (k:Nat),ws[i]? =some (v,k)->at0 ts k=v/\0<at0 sp k/\k<sp.length/\at0 ts (xr k)∈s::(ws.take i).map (·.1)
theorem Ways.nil (ts sp:List Int)(s:Int):Ways ts sp s []:=⟨by simp,fun i v k h=>by simp at h⟩
theorem Ways.snoc {ts sp:List Int}{s:Int}{ws:List (Int×Nat)} (x:Ways ts sp s ws) {k:Nat} (hk:k<sp.length) (h0:0<at0 sp k) (ht:at0 ts (xr k)∈s::ws.map (·.1)) (hn:at0 ts k∉s::ws.map (·.1)):Ways ts sp s (ws++[(at0 ts k,k)]):=by
 refine⟨?_,fun i v j h=> ?_⟩
 ·rw[List.map_append];show (s::(ws.map (·.1)++[at0 ts k])).Nodup;rw[←List.cons_append];exact L2.nd_snoc x.nd hn
 ·by_cases hi:i<ws.length
  ·rw[List.getElem?_append_left hi]at h;walk_at"g1";obtain⟨h1,h2,h3,h4⟩:=x.ok i v j h;walk_at"g2";refine⟨h1,h2,h3,?_⟩;rw[List.take_append_of_le_length (by lia)];exact h4
  ·have he:i=ws.length:=by
    have:=(List.getElem?_eq_some_iff.mp h).1;rw[List.length_append]at this;have:i<ws.length+1:=this
    lia
   subst he;rw[List.getElem?_append_right (Nat.le_refl _),Nat.sub_self]at h;have h:(at0 ts k,k)=(v,j):=Option.some.inj h;cases h;refine⟨rfl,h0,hk,?_⟩;rw[List.take_append_of_le_length (Nat.le_refl _),List.take_length];exact ht
def Frm (fp:List Addr)(H H':Hp):Prop:=∀b u,H b=some u->b∉fp->H' b=some u
theorem Frm.same {fp:List Addr}{H H':Hp} (s:Same H H'):Frm fp H H':=fun b u h _=>s b u h
theorem Frm.trans {fp fp':List Addr}{H H1 H2:Hp} (a:Frm fp H H1) (b:Frm fp' H1 H2) (hf:∀x∈fp',x∈fp∨H x=none):Frm fp H H2:=fun c u e hc=>b c u (a c u e hc) fun z=>by
 rcases hf c z with h|h
 ·exact hc h
 ·rw[e]at h;cases h
abbrev XZ (q1 q2 q3:Addr):List (Str×V):=bQ "arcs" (.ref q3) (bQ "spare" (.ref q2) (bQ "targets" (.ref q1) []))
inductive NetE (C:Addr)(H:Hp)(n:Addr)(fp:List Addr)(ts sp:List Int)(as:List (List Int)):Prop
 | mk (dx q1 q2 q3:Addr) (rs:List Addr) (_:fp=q1::q2::q3::rs) (_:H n=some (.ins C dx (XZ q1 q2 q3))) (_:H q1=some (.lst (ts.map V.int))) (_:H q2=some (.lst (sp.map V.int))) (_:H q3=some (.lst (rs.map V.ref))) (_:Paired (fun r a=>H r=some (.lst (a.map V.int))) rs as) (_:(q1::q2::q3::rs).Nodup):NetE C H n fp ts sp as
theorem NetE.same {C:Addr}{H H':Hp}{n:Addr}{fp:List Addr}{ts sp:List Int}{as:List (List Int)} (x:NetE C H n fp ts sp as) (s:Same H H'):NetE C H' n fp ts sp as:=by
 walk_at"g1";obtain⟨dx,q1,q2,q3,rs,ef,e0,e1,e2,e3,e4,e5⟩:=x;walk_at"g2";exact⟨dx,q1,q2,q3,rs,ef,s _ _ e0,s _ _ e1,s _ _ e2,s _ _ e3,Paired.imp' (fun _ _ h=>s _ _ h) e4,e5⟩
theorem EA {l:List Int}{k:Nat} (h:k<l.length):(l.map V.int)[k]? =some (.int (at0 l k)):=by
 rw[List.getElem?_map,List.getElem?_eq_getElem h];unfold at0;rw[List.getD_eq_getElem?_getD,List.getElem?_eq_getElem h];rfl
theorem DC {H:Hp}{Q:VK}{p:Addr}{xs:List V}{j:Nat}{v:V} (e:SqL K H p xs) (hx:xs[j]? =some v) (h:Q v H):xQ K (.ref p) (.int (j:Int)) H Q:=⟨p,xs,_,v,rfl,rfl,e,pU hx,h⟩
theorem xO {H:Hp}{Q:VK}{p:Addr}{l:List Int}{k:Nat} (e:SqL K H p (l.map V.int)) (hk:k<l.length) (h:Q (.int (at0 l k)) H):xQ K (.ref p) (.int (k:Int)) H Q:=⟨p,_,_,_,rfl,rfl,e,pU (EA hk),h⟩
inductive vA (C:Addr)(vs:List V)(H:Hp)(Q:VK)(E:XK):Prop
 | mk (n:Addr) (k:Nat) (fp:List Addr) (ts sp:List Int) (as:List (List Int)) (_:vs=[.ref n,.int (k:Int)]) (_:NetE C H n fp ts sp as) (_:k+1<sp.length) (_:Q (.int (at0 sp (k+1))) H):vA C vs H Q E
theorem ZN {C:Addr}{H:Hp}{Q:VK}{E:XK}{n:Addr}{k:Nat}{fp:List Addr}{ts sp:List Int}{as:List (List Int)} (hn:NetE C H n fp ts sp as) (hk:k+1<sp.length) (h:Q (.int (at0 sp (k+1))) H):vA C [.ref n,.int (k:Int)] H Q E:=⟨_,_,_,_,_,_,rfl,hn,hk,h⟩
theorem L0 (m:M K mg):FnOk P w K mg base CX0 1 m.wW m.wP.d ["self","arc"] (vA m.aV):=by
 refine m.wP.F.ok sc_Net_sent (fun vs H Q E h=> ?_) (fun cdv A outer s H vs Q E hr h=> ?_)
 ·walk_at"g1";obtain⟨n,k,fp,ts,sp,as,rfl,hn,hk,h⟩:=h;walk_at"g2";rfl
 ·walk_at"g1";obtain⟨n,k,fp,ts,sp,as,rfl,hn,hk,h⟩:=h;walk_at"g2";have nd:=sc_Net_sent.nd;walk_at"hu";have w_dc_Net:=m.cE;refine⟨_,(aE (aR (aW bL (aI (pv 0) rfl) (aK bW (pv 1) aD) (fun _ _=>rfl)))),?_⟩;refine aJ (σ:=[some (.ref n),some (.int (k:Int))]) rfl ?_;walk_at"cx";walk_at"g1";obtain⟨dx,q1,q2,q3,rs,ef,e0,e1,e2,e3,e4,e5⟩:=hn;walk_at"g2";walk_at"go";rw[show ((k:Int)+1)=((k+1:Nat):Int) by lia];exact xO (SqL.of e2) hk h
theorem MB (m:M K mg):Mc P w K mg base m.aV "sent" 1 (vA m.aV):=⟨_,_,_,m.cE.ic.cl,m.MP,m.wP.b,L0 m⟩
theorem dU {α β:Type}{F G:α->β->Prop}:∀{l:List α}{m:List β},Paired F l m->(∀a b,a∈l->F a b->G a b)->Paired G l m
 | _,_,.nil,_=> .nil
 | _,_,.cons h t,k=> .cons (k _ _ (.head _) h) (dU t fun a b ha=>k a b (List.mem_cons_of_mem _ ha))
inductive qM (C:Addr)(vs:List V)(H:Hp)(Q:VK)(E:XK):Prop
 | mk (n:Addr) (fp:List Addr) (ts sp:List Int) (as:List (List Int)) (_:vs=[.ref n]) (_:NetE C H n fp ts sp as) (_:as.length<100000) (_:∀r H',H r=none->Frm fp H H'->NetE C H' n (fp++[r]) ts sp (as++[[]])->Q (.int (as.length:Int)) H'):qM C vs H Q E
theorem NP {C:Addr}{H:Hp}{Q:VK}{E:XK}{n:Addr}{fp:List Addr}{ts sp:List Int}{as:List (List Int)} (hn:NetE C H n fp ts sp as) (hl:as.length<100000) (k:∀r H',H r=none->Frm fp H H'->NetE C H' n (fp++[r]) ts sp (as++[[]])->Q (.int (as.length:Int)) H'):qM C [.ref n] H Q E:=⟨_,_,_,_,_,rfl,hn,hl,k⟩
theorem DR (m:M K mg):FnOk P w K mg base CX0 1 m.nE m.m6.d ["self"] (qM m.aV):=by
 refine m.m6.F.ok sc_Net_new_node (fun vs H Q E h=> ?_) (fun cdv A outer s H vs Q E hr h=> ?_)
 ·walk_at"g1";obtain⟨n,fp,ts,sp,as,rfl,hn,hl,k⟩:=h;walk_at"g2";rfl
 ·walk_at"g1";obtain⟨n,fp,ts,sp,as,rfl,hn,hl,k⟩:=h;walk_at"g2";have nd:=sc_Net_new_node.nd;walk_at"hu";have w_dc_Net:=m.cE;refine⟨_,(aB (aZ (g8 PySem.F.plainAttrs_list PySem.F.slot_list_append PySem.F.type_list_append cS (aI (pv 0) rfl) (aA (b7 aC) aC)))
   (aE (aR (aK uI (bH eN rfl m.nJ jJ (aA (aI (pv 0) rfl) aC)) aD)))),?_⟩
  refine aJ (σ:=[some (.ref n)]) rfl ?_;walk_at"cx";walk_at"g1";obtain⟨dx,q1,q2,q3,rs,ef,e0,e1,e2,e3,e4,e5⟩:=hn;walk_at"g2";have hrl:rs.length=as.length:=Paired.length e4;walk_at"go";rename_i r H1 n1 S1 er;refine cU (S1 _ _ e3) (by rw[sizeLine_eq,List.length_map];lia) fun H2 B2 e2'=> ?_;have hq:∀x u,H x=some u->x≠q3->H2 x=some u:=fun x u h h'=>B2 _ _ (S1 _ _ h) h';have nd:=List.nodup_cons.mp e5;have nd2:=List.nodup_cons.mp nd.2;have nd3:=List.nodup_cons.mp nd2.2;have h13:q1≠q3:=fun z=>nd.1 (by rw[z];exact List.mem_cons_of_mem _ (.head _));have h23:q2≠q3:=fun z=>nd2.1 (by rw[z];exact .head _);have hn3:n≠q3:=fun z=>by rw[z,e3]at e0;cases e0
  have hr3:r≠q3:=fun z=>by rw[z,e3]at n1;cases n1
  have e02:=hq _ _ e0 hn3;walk_at"go";rw[show ((List.map V.ref rs++[V.ref r]).length:Int) - 1=(as.length:Int) by rw[List.length_append,List.length_map,hrl];show ((as.length+1:Nat):Int) - 1=_;lia];subst ef;have hfr:∀x∈q1::q2::q3::rs,x≠r:=fun x hx z=>by
   have:∃u,H x=some u:=by
    rcases List.mem_cons.mp hx with rfl|hx
    ·exact⟨_,e1⟩
    ·rcases List.mem_cons.mp hx with rfl|hx
     ·exact⟨_,e2⟩
     ·rcases List.mem_cons.mp hx with rfl|hx
      ·exact⟨_,e3⟩
      ·obtain⟨a,_,ha⟩:=fS e4 hx;exact⟨_,ha⟩
   obtain⟨u,hu⟩:=this;rw[z,n1]at hu;cases hu
  refine k r H2 n1 (fun b u h hb=>hq b u h fun z=>hb (by rw[z];exact List.mem_cons_of_mem _ (List.mem_cons_of_mem _ (.head _)))) ⟨dx,q1,q2,q3,rs++[r],rfl,e02,hq _ _ e1 h13,hq _ _ e2 h23,by rw[e2',List.map_append];rfl,L2.Paired.snoc ?_ (B2 _ _ er hr3),?_⟩
  ·exact dU e4 fun x a hx h=>hq _ _ h fun z=>nd3.1 (z▸hx)
  ·exact L2.nd_snoc (l:=q1::q2::q3::rs) e5 fun z=>hfr _ z rfl
theorem eQ (m:M K mg):Mc P w K mg base m.aV "new_node" 1 (qM m.aV):=⟨_,_,_,m.cE.ic.cl,m.DW,m.m6.b,DR m⟩
def eX (as:List (List Int))(i:Nat)(x:Int):List (List Int):=as.modify i (·++[x])
theorem qH (as:List (List Int))(i:Nat)(x:Int):(eX as i x).length=as.length:=List.length_modify _ _ _
theorem uZ {H H':Hp}{x:Int}:∀{rs:List Addr}{as:List (List Int)}{i:Nat}{r:Addr}{a:List Int},Paired (fun r a=>H r=some (.lst (a.map V.int))) rs as->rs.Nodup->rs[i]? =some r->as[i]? =some a->SameBut r H H'->H' r=some (.lst (a.map V.int++[.int x]))->Paired (fun r a=>H' r=some (.lst (a.map V.int))) rs (eX as i x)
 | _,_,_,_,_,.nil,_,h,_,_,_=>by simp at h
 | r0::rs,a0::as,0,r,a,.cons h t,nd,hr,ha,B,e=>by
  have hr:r0=r:=by simpa using hr
  have ha:a0=a:=by simpa using ha
  subst hr ha;refine .cons ?_ (dU t fun b c hb h=>B _ _ h fun z=>(List.nodup_cons.mp nd).1 (z▸hb));rw[e,List.map_append];rfl
 | r0::rs,a0::as,i+1,r,a,.cons h t,nd,hr,ha,B,e=>by
  have hr:rs[i]? =some r:=by simpa using hr
  have ha:as[i]? =some a:=by simpa using ha
  refine .cons (B _ _ h fun z=>(List.nodup_cons.mp nd).1 (z▸List.mem_of_getElem? hr)) (uZ t (List.nodup_cons.mp nd).2 hr ha B e)
inductive t8 (C:Addr)(vs:List V)(H:Hp)(Q:VK)(E:XK):Prop
 | mk (n:Addr) (s t:Nat) (most:Int) (fp:List Addr) (ts sp:List Int) (as:List (List Int)) (_:vs=[.ref n,.int (s:Int),.int (t:Int),.int most]) (_:NetE C H n fp ts sp as) (_:s<as.length) (_:t<as.length) (_:ts.length<100000) (_:sp.length<100000) (_:(∀a∈as,a.length<100000)) (_:∀H',Frm fp H H'->NetE C H' n fp (ts++[(t:Int),(s:Int)]) (sp++[most,0]) (eX (eX as s (ts.length:Int)) t ((ts.length:Int)+1))->Q (.int (ts.length:Int)) H'):t8 C vs H Q E
theorem aCp {C:Addr}{H:Hp}{Q:VK}{E:XK}{n:Addr}{s t:Nat}{most:Int}{fp:List Addr}{ts sp:List Int}{as:List (List Int)} (hn:NetE C H n fp ts sp as) (hs:s<as.length) (ht:t<as.length) (l1:ts.length<100000) (l2:sp.length<100000) (l3:∀a∈as,a.length<100000) (k:∀H',Frm fp H H'->NetE C H' n fp (ts++[(t:Int),(s:Int)]) (sp++[most,0]) (eX (eX as s (ts.length:Int)) t ((ts.length:Int)+1))->Q (.int (ts.length:Int)) H'):t8 C [.ref n,.int (s:Int),.int (t:Int),.int most] H Q E:=⟨_,_,_,_,_,_,_,_,rfl,hn,hs,ht,l1,l2,l3,k⟩
theorem E2 (m:M K mg):FnOk P w K mg base CX0 1 m.oR m.oW.d ["self","start","target","most"] (t8 m.aV):=by
 refine m.oW.F.ok sc_Net_new_arc (fun vs H Q E h=> ?_) (fun cdv A outer s H vs Q E hr h=> ?_)
 ·walk_at"g1";obtain⟨n,s',t',most,fp,ts,sp,as,rfl,hn,hs',ht',hl1,hl2,hl3,k⟩:=h;walk_at"g2";rfl
 ·walk_at"g1";obtain⟨n,s',t',most,fp,ts,sp,as,rfl,hn,hs',ht',hl1,hl2,hl3,k⟩:=h;walk_at"g2";have nd:=sc_Net_new_arc.nd;walk_at"hu";have w_dc_Net:=m.cE;refine⟨_,(aB (aO (i:=4) nd rfl (by walk_at"oi") (bH eN rfl m.nJ jJ (aA (aI (pv 0) rfl) aC)))
   (aB (aZ (g8 PySem.F.plainAttrs_list PySem.F.slot_list_extend PySem.F.type_list_extend FW (aI (pv 0) rfl) (aA (b7 (aA (pv 2) (aA (pv 1) aC))) aC)))
   (aB (aZ (g8 PySem.F.plainAttrs_list PySem.F.slot_list_extend PySem.F.type_list_extend FW (aI (pv 0) rfl) (aA (b7 (aA (pv 3) (aA aD aC))) aC)))
   (aB (aZ (g8 PySem.F.plainAttrs_list PySem.F.slot_list_append PySem.F.type_list_append cS (aW bL (aI (pv 0) rfl) (pv 1) (fun _ _=>rfl)) (aA (pv 4) aC)))
   (aB (aZ (g8 PySem.F.plainAttrs_list PySem.F.slot_list_append PySem.F.type_list_append cS (aW bL (aI (pv 0) rfl) (pv 2) (fun _ _=>rfl)) (aA (aK bW (pv 4) aD) aC)))
   (aE (aR (pv 4)))))))),?_⟩
  refine aJ (σ:=[some (.ref n),some (.int (s':Int)),some (.int (t':Int)),some (.int most),none]) rfl ?_;walk_at"cx";walk_at"g1";obtain⟨dx,q1,q2,q3,rs,ef,e0,e1,e2,e3,e4,e5⟩:=hn;walk_at"g2";have hrl:rs.length=as.length:=Paired.length e4;have nd:=List.nodup_cons.mp e5;have nd2:=List.nodup_cons.mp nd.2;have nd3:=List.nodup_cons.mp nd2.2;obtain⟨r1,hr1⟩:∃r,rs[s']? =some r:=⟨_,List.getElem?_eq_getElem (by lia)⟩
  obtain⟨r2,hr2⟩:∃r,rs[t']? =some r:=⟨_,List.getElem?_eq_getElem (by lia)⟩
  obtain⟨a1,ha1⟩:∃a,as[s']? =some a:=⟨_,List.getElem?_eq_getElem hs'⟩
  have hm1:=List.mem_of_getElem? hr1;have hm2:=List.mem_of_getElem? hr2;have hn1:n≠q1:=fun z=>by rw[z,e1]at e0;cases e0
  have hn2:n≠q2:=fun z=>by rw[z,e2]at e0;cases e0
  have h12:q1≠q2:=fun z=>nd.1 (by rw[z];exact .head _);have h13:q1≠q3:=fun z=>nd.1 (by rw[z];exact List.mem_cons_of_mem _ (.head _));have h1r:∀x∈rs,x≠q1:=fun x hx z=>nd.1 (by rw[←z];exact List.mem_cons_of_mem _ (List.mem_cons_of_mem _ hx));have h23:q2≠q3:=fun z=>nd2.1 (by rw[z];exact .head _);have h2r:∀x∈rs,x≠q2:=fun x hx z=>nd2.1 (by rw[←z];exact List.mem_cons_of_mem _ hx);have h3r:∀x∈rs,x≠q3:=fun x hx z=>nd3.1 (by rw[←z];exact hx);have hnr:∀x∈rs,n≠x:=fun x hx z=>by
   obtain⟨a,_,ha⟩:=fS e4 hx;rw[z,ha]at e0;cases e0
  walk_at"go";rename_i p1 H1 n1 S1 ep1;refine GB (S1 _ _ e1) ep1 (by rw[sizeLine_eq,List.length_map];show _+2<=_;lia) fun H2 B2 f1=> ?_;have f0:=B2 _ _ (S1 _ _ e0) hn1;have f2:=B2 _ _ (S1 _ _ e2) (Ne.symm h12);have f3:=B2 _ _ (S1 _ _ e3) (Ne.symm h13);have f4:=dU (G:=fun r a=>H2 r=some (.lst (a.map V.int))) e4 fun x a hx h=>B2 _ _ (S1 _ _ h) (h1r x hx);walk_at"go";rename_i p3 H3 n3 S3 ep3;refine GB (S3 _ _ f2) ep3 (by rw[sizeLine_eq,List.length_map];show _+2<=_;lia) fun H4 B4 g2=> ?_;have g0:=B4 _ _ (S3 _ _ f0) hn2;have g1:=B4 _ _ (S3 _ _ f1) h12;have g3:=B4 _ _ (S3 _ _ f3) (Ne.symm h23);have g4:=dU (G:=fun r a=>H4 r=some (.lst (a.map V.int))) f4 fun x a hx h=>B4 _ _ (S3 _ _ h) (h2r x hx);walk_at"go";refine DC (SqL.of g3) (show (rs.map V.ref)[s']? =some (.ref r1) by rw[List.getElem?_map,hr1];rfl) ?_;have hg1:H4 r1=some (.lst (a1.map V.int)):=by have z:=Paired.at2 g4 hr1 ha1;exact z
  walk_at"go";refine cU hg1 (by rw[sizeLine_eq,List.length_map];have:=hl3 a1 (List.mem_of_getElem? ha1);lia) fun H5 B5 i1=> ?_;have i0:=B5 _ _ g0 (hnr r1 hm1);have i2:=B5 _ _ g1 (Ne.symm (h1r r1 hm1));have i3:=B5 _ _ g2 (Ne.symm (h2r r1 hm1));have i4:=B5 _ _ g3 (Ne.symm (h3r r1 hm1));rw[List.length_map]at i1;have i5:=uZ g4 nd3.2 hr1 ha1 B5 i1;obtain⟨a2,ha2⟩:∃a,(eX as s' (ts.length:Int))[t']? =some a:=⟨_,List.getElem?_eq_getElem (by rw[qH];exact ht')⟩
  walk_at"go";refine DC (SqL.of i4) (show (rs.map V.ref)[t']? =some (.ref r2) by rw[List.getElem?_map,hr2];rfl) ?_;have hi1:H5 r2=some (.lst (a2.map V.int)):=by have z:=Paired.at2 i5 hr2 ha2;exact z
  have hl4:a2.length<200000:=by
   have hm:=List.mem_of_getElem? ha2;unfold eX at hm;obtain⟨j,hj⟩:=List.mem_iff_getElem?.mp hm;rw[List.getElem?_modify]at hj;obtain⟨b,hb,e⟩:=Option.map_eq_some_iff.mp hj;have:=hl3 b (List.mem_of_getElem? hb);rw[←e]
   by_cases h:s'=j
   ·rw[if_pos h,List.length_append];show b.length+1<_;lia
   ·rw[if_neg h];show b.length<_;lia
  walk_at"go";refine cU hi1 (by rw[sizeLine_eq,List.length_map];lia) fun H6 B6 j1=> ?_;have j0:=B6 _ _ i0 (hnr r2 hm2);have j2:=B6 _ _ i2 (Ne.symm (h1r r2 hm2));have j3:=B6 _ _ i3 (Ne.symm (h2r r2 hm2));have j4:=B6 _ _ i4 (Ne.symm (h3r r2 hm2));rw[List.length_map]at j1;have j5:=uZ i5 nd3.2 hr2 ha2 B6 j1;walk_at"go";rw[List.length_map];refine k H6 (fun b u h hb=> ?_) ⟨dx,q1,q2,q3,rs,ef,j0,by rw[j2,List.map_append];rfl,by rw[j3,List.map_append];rfl,j4,j5,e5⟩;subst ef;have b1:b≠q1:=fun z=>hb (by rw[z];exact .head _);have b2:b≠q2:=fun z=>hb (by rw[z];exact List.mem_cons_of_mem _ (.head _));have br:∀x∈rs,b≠x:=fun x hx z=>hb (by rw[z];exact List.mem_cons_of_mem _ (List.mem_cons_of_mem _ (List.mem_cons_of_mem _ hx)));exact B6 _ _ (B5 _ _ (B4 _ _ (S3 _ _ (B2 _ _ (S1 _ _ h) b1)) b2) (br _ hm1)) (br _ hm2)
theorem fL (m:M K mg):Mc P w K mg base m.aV "new_arc" 1 (t8 m.aV):=⟨_,_,_,m.cE.ic.cl,m.FF,m.oW.b,E2 m⟩
def WhB (W:Nat->St->Hp->Prop)(m:Nat)(tb:TS)(nx:St->Hp->Prop)(rt:VK)(σ:St)(H:Hp):Prop:=∃N:St->Hp->Prop,(∀σ' H',N σ' H'->∃m',m'<m/\W m' σ' H')/\tb ⟨N,rt,nx,N⟩ σ H
theorem vG {c:TT}{tb:TS}{nx:St->Hp->Prop}{rt:VK}{bk ct:St->Hp->Prop}{σ:St}{H:Hp} (W:Nat->St->Hp->Prop) (m0:Nat) (h0:W m0 σ H) (hs:∀m σ H,W m σ H->c σ H fun b H1=>if b=true then WhB W m tb nx rt σ H1 else nx σ H1):RP c tb ⟨nx,rt,bk,ct⟩ σ H:=⟨W,⟨m0,h0⟩,hs⟩
theorem DO {W:Nat->St->Hp->Prop}{m:Nat}{tb:TS}{nx:St->Hp->Prop}{rt:VK}{σ:St}{H:Hp} (h:tb ⟨fun σ' H'=>∃m',m'<m/\W m' σ' H',rt,nx,fun σ' H'=>∃m',m'<m/\W m' σ' H'⟩ σ H):WhB W m tb nx rt σ H:=⟨_,fun _ _ z=>z,h⟩
structure NetOk (ts sp:List Int)(as:List (List Int)):Prop where
 len:∃n,ts.length=2 * n
 eq:sp.length=ts.length
 nd:∀k,k<ts.length->∃v:Nat,at0 ts k=(v:Int)/\v<as.length
 inn:∀(u:Nat) (a:List Int),as[u]? =some a->∀x∈a,∃k:Nat,x=(k:Int)/\k<ts.length/\at0 ts (xr k)=(u:Int)
 all:∀(k u:Nat) (a:List Int),k<ts.length->at0 ts (xr k)=(u:Int)->as[u]? =some a->(k:Int)∈a
 l0:as.length<100000
 l1:ts.length<100000
def dO (s:Int)(ws:List (Int×Nat)):List (Key×V):=(.inl s,.non)::ws.map fun x=>(.inl x.1,.int (x.2:Int))
theorem pF (s:Int)(ws:List (Int×Nat)):(dO s ws).map (·.1)=(s::ws.map (·.1)).map Sum.inl:=by
 unfold dO;rw[List.map_cons,List.map_map,List.map_cons,List.map_map];rfl
theorem vB (s v:Int)(ws:List (Int×Nat)):(aY (dO s ws) (.inl v)).isSome=decide (v∈s::ws.map (·.1)):=by
 cases hv:aY (dO s ws) (.inl v) with
 | some x =>
  have hm:(Sum.inl v:Key)∈(dO s ws).map (·.1):=List.mem_map.mpr ⟨_,sR hv,rfl⟩;rw[pF]at hm;obtain⟨y,hy,e⟩:=List.mem_map.mp hm;rw[←Sum.inl.inj e,decide_eq_true hy];rfl
 | none =>
  have hn:v∉s::ws.map (·.1):=fun h=>by
   have hm:(Sum.inl v:Key)∈(dO s ws).map (·.1):=by rw[pF];exact List.mem_map.mpr ⟨v,h,rfl⟩
   obtain⟨e,he,e1⟩:=List.mem_map.mp hm;unfold aY at hv;have:=List.find?_eq_none.mp (Option.map_eq_none_iff.mp hv) e he;exact this (decide_eq_true e1)
  rw[decide_eq_false hn];rfl
theorem Q8 (s:Int)(ws:List (Int×Nat))(v:Int)(k:Nat)(h:v∉s::ws.map (·.1)):cC (dO s ws) (.inl v) (.int (k:Int))=dO s (ws++[(v,k)]):=by
 rw[d7 _ (by
  have:=vB s v ws;rw[decide_eq_false h]at this;cases hv:aY (dO s ws) (.inl v) with
  | none=>rfl
  | some x=>rw[hv]at this;cases this)]
 unfold dO;rw[List.map_append];rfl
theorem E1:∀(N:Nat) (l:List Nat),l.Nodup->(∀x∈l,x<N)->l.length<=N
 | 0,l,_,h=>by
  cases l with
  | nil=>exact Nat.le_refl _
  | cons a l=>exact absurd (h a (.head _)) (Nat.not_lt_zero _)
 | N+1,l,nd,h=>by
  by_cases hm:N∈l
  ·have h1:=E1 N (l.erase N) (nd.erase _) fun x hx=>by
    have h2:=(nd.mem_erase_iff).mp hx;have h3:=h x h2.2;have:=h2.1
    lia
   rw[List.length_erase_of_mem hm]at h1
   lia
  ·have:=E1 N l nd fun x hx=>by
    have h3:=h x hx;have:x≠N:=fun z=>hm (z▸hx)
    lia
   lia
theorem BW {N:Nat}{l:List Int} (nd:l.Nodup) (h:∀x∈l,∃v:Nat,x=(v:Int)/\v<N):l.length<=N:=by
 rw[←List.length_map (f:=Int.toNat)];refine E1 N _ ?_ fun x hx=> ?_
 ·rw[List.Nodup,List.pairwise_map];refine List.Pairwise.imp_of_mem (fun {a b} ha hb hne z=> ?_) nd;obtain⟨v,rfl,_⟩:=h a ha;obtain⟨w,rfl,_⟩:=h b hb;rw[Int.toNat_natCast,Int.toNat_natCast]at z;exact hne (by rw[z])
 ·obtain⟨a,ha,rfl⟩:=List.mem_map.mp hx;obtain⟨v,rfl,hv⟩:=h a ha;rw[Int.toNat_natCast];exact hv
theorem vO {ts sp:List Int}{as:List (List Int)} (ok:NetOk ts sp as) {s:Nat} (hs:s<as.length) {ws:List (Int×Nat)} (w:Ways ts sp (s:Int) ws):∀x∈(s:Int)::ws.map (·.1),∃v:Nat,x=(v:Int)/\v<as.length:=fun x hx=>by
 rcases List.mem_cons.mp hx with rfl|hx
 ·exact⟨s,rfl,hs⟩
 ·walk_at"g1";obtain⟨⟨v,k⟩,hm,rfl⟩:=List.mem_map.mp hx;walk_at"g2";obtain⟨i,hi⟩:=List.mem_iff_getElem?.mp hm;walk_at"g1";obtain⟨h1,_,h3,_⟩:=w.ok i v k hi;walk_at"g2";rw[ok.eq]at h3;obtain⟨z,hz,hl⟩:=ok.nd k h3;exact⟨z,by rw[←hz];exact h1.symm,hl⟩
theorem PR {H:Hp}{Q:VK}{p:Addr}{z:Int}{kvs:List (Key×V)} (e:Rd H p (.dK kvs)) (h:Q (.bl (!(aY kvs (.inl z)).isSome)) H):ET Q (.int z) (.ref p) H:=⟨p,_,rfl,.inl ⟨kvs,.inl z,e,rfl,rfl⟩,h⟩
theorem NN {H:Hp}{Q:VK}{p:Addr}{z:Int}{kvs:List (Key×V)} (e:Rd H p (.dK kvs)) (h:Q (.bl (aY kvs (.inl z)).isSome) H):UR Q (.int z) (.ref p) H:=⟨p,_,rfl,.inl ⟨kvs,.inl z,e,rfl,rfl⟩,h⟩
theorem W5 {H:Hp}{nx:St->Hp->Prop}{σ:St}{p:Addr}{v:V}{z:Int}{kvs:List (Key×V)} (e:H p=some (.dK kvs)) (hl:kvs.length<sizeLine) (h:∀H',SameBut p H H'->H' p=some (.dK (cC kvs (.inl z) v))->nx σ H'):HR nx σ (.ref p) v (.int z) H:=⟨p,_,rfl,.inl ⟨kvs,.inl z,e,rfl,hl,rfl⟩,h _ SameBut.upd aQ⟩
theorem BD {H:Hp}{Q:VK}{p:Addr}{v:V}{z:Int}{kvs:List (Key×V)} (e:Rd H p (.dK kvs)) (hv:aY kvs (.inl z)=some v) (h:Q v H):HN Q (.ref p) (.int z) H:=⟨p,v,rfl,.inl ⟨kvs,.inl z,e,rfl,hv.symm⟩,h⟩
inductive BG (C:Addr)(vs:List V)(H:Hp)(Q:VK)(E:XK):Prop
 | mk (n:Addr) (s:Nat) (fp:List Addr) (ts sp:List Int) (as:List (List Int)) (_:vs=[.ref n,.int (s:Int)]) (_:NetE C H n fp ts sp as) (_:NetOk ts sp as) (_:s<as.length) (_:∀p ws H',H p=none->Same H H'->H' p=some (.dK (dO (s:Int) ws))->Ways ts sp (s:Int) ws->(∀k,k<ts.length->at0 ts (xr k)∈(s:Int)::ws.map (·.1)->0<at0 sp k->at0 ts k∈(s:Int)::ws.map (·.1))->Q (.ref p) H'):BG C vs H Q E
theorem A1 (m:M K mg):FnOk P w K mg base CX0 1 m.lM m.lO.d ["self","source"] (BG m.aV):=by
 refine m.lO.F.ok sc_Net_ways_from (fun vs H Q E h=> ?_) (fun cdv A outer s H vs Q E hr h=> ?_)
 ·walk_at"g1";obtain⟨n,s',fp,ts,sp,as,rfl,hn,ok,hs',k⟩:=h;walk_at"g2";rfl
 ·walk_at"g1";obtain⟨n,s',fp,ts,sp,as,rfl,hn,ok,hs',k⟩:=h;walk_at"g2";have nd:=sc_Net_ways_from.nd;walk_at"hu";have w_dc_Net:=m.cE;refine⟨_,(aB (aO (i:=2) nd rfl (by walk_at"oi") (aDC (pv 1) gE))
   (aB (aO (i:=3) nd rfl (by walk_at"oi") (b7 (aA (pv 1) aC)))
   (aB (aO (i:=4) nd rfl (by walk_at"oi") aD)
   (aB (qX PassesOwn.never (aU g7 (pv 4) (bH eN rfl m.nJ jJ (aA (pv 3) aC)) (bB _)) (aB (aO (i:=5) nd rfl (by walk_at"oi") (aW bL (pv 3) (pv 4) (fun _ _=>rfl)))
   (aB (cT PassesOwn.never rfl (bR (aW bL (aI (pv 0) rfl) (pv 5) (fun _ _=>rfl))) (aN (i:=6) nd rfl (by walk_at"oi")) (aB (aO (i:=7) nd rfl (by walk_at"oi") (aW bL (aI (pv 0) rfl) (pv 6) (fun _ _=>rfl)))
   (aE (bV (PW.pt (uT (aU zG (aW bL (aI (pv 0) rfl) (pv 6) (fun _ _=>rfl)) aD (bB _)) (pR (uO (xL hu1 (pv 7) (pv 2)) (by with_unfolding_all rfl))))) (aB (iN hu1 (pv 2) (pv 7) (pv 6) rfl)
   (aE (aZ (g8 PySem.F.plainAttrs_list PySem.F.slot_list_append PySem.F.type_list_append cS (pv 3) (aA (pv 7) aC))))) bE))))
   (aE (RJ (i:=4) nd rfl (by walk_at"oi") aD J5)))))
   (aE (aR (pv 2))))))),?_⟩
  refine aJ (σ:=[some (.ref n),some (.int (s':Int)),none,none,none,none,none,none]) rfl ?_;walk_at"cx";walk_at"g1";obtain⟨dx,q1,q2,q3,rs,ef,e0,e1,e2,e3,e4,e5⟩:=hn;walk_at"g2";have l0:=ok.l0;have l1:=ok.l1;have hrl:rs.length=as.length:=Paired.length e4;walk_at"go";refine aDQ fun p H1 n1 S1 f1=> ?_;walk_at"go";refine aCh f1 fun H2 B2 f2=> ?_;have s2:Same H H2:=fun b u e=>B2 _ _ (S1 _ _ e) fun z=>by rw[z,n1]at e;cases e
  walk_at"go";rename_i q H3 n3 S3 f3;have s3:=s2.trans S3;have hpq:p≠q:=fun z=>by rw[←z,f2]at n3;cases n3
  have nq:H q=none:=by
   cases h:H q with
   | none=>rfl
   | some u=>rw[s2 _ _ h]at n3;cases n3
  refine vG (fun mm σ' H'=>Same H H'/\∃(ws:List (Int×Nat)) (i:Nat),H' p=some (.dK (dO (s':Int) ws))/\H' q=some (.lst (((s':Int)::ws.map (·.1)).map V.int))/\Ways ts sp (s':Int) ws/\(∀k,k<ts.length->at0 ts (xr k)∈((s':Int)::ws.map (·.1)).take i->0<at0 sp k->at0 ts k∈(s':Int)::ws.map (·.1))/\i<=((s':Int)::ws.map (·.1)).length/\mm+i=as.length+1/\∃x y z,σ'=[some (.ref n),some (.int (s':Int)),some (.ref p),some (.ref q),some (.int (i:Int)),x,y,z]) (as.length+1) ⟨s3,[],0,S3 _ _ f2,f3,Ways.nil _ _ _,(fun _ _ h=>nomatch h),Nat.zero_le _,rfl,_,_,_,rfl⟩ ?_;rintro mm _ H4 hq_;walk_at"g1";obtain⟨s4,ws,i,g1,g2,w,cl,hi,hmm,x1,x2,x3,rfl⟩:=hq_;walk_at"g2";have hno:=vO ok hs' w;have hle:=BW w.nd hno;walk_at"go";refine bM (fun hc=> ?_) (fun hc=> ?_)
  ·rw[List.length_map]at hc;obtain⟨x,hx⟩:∃x,((s':Int)::ws.map (·.1))[i]? =some x:=⟨_,List.getElem?_eq_getElem (by lia)⟩
   obtain⟨u,rfl,hu⟩:=hno x (List.mem_of_getElem? hx);obtain⟨r,hr⟩:∃r,rs[u]? =some r:=⟨_,List.getElem?_eq_getElem (by lia)⟩
   obtain⟨a,ha⟩:∃a,as[u]? =some a:=⟨_,List.getElem?_eq_getElem hu⟩
   have hra:H r=some (.lst (a.map V.int)):=by have z:=Paired.at2 e4 hr ha;exact z
   have h0:=s4 _ _ e0;have h3:=s4 _ _ e3;refine DO ?_;walk_at"go";refine DC (SqL.of g2) (show (((s':Int)::ws.map (·.1)).map V.int)[i]? =some (.int (u:Int)) by rw[List.getElem?_map,hx];rfl) ?_;walk_at"go";refine DC (SqL.of h3) (show (rs.map V.ref)[u]? =some (.ref r) by rw[List.getElem?_map,hr];rfl) ?_;have hr4:=s4 _ _ hra;walk_at"go";let Pv1:Nat->St->Hp->Prop:=fun j σ' H'=>Same H H'/\(∃(ws' tl:List (Int×Nat)),ws'=ws++tl/\H' p=some (.dK (dO (s':Int) ws'))/\H' q=some (.lst (((s':Int)::ws'.map (·.1)).map V.int))/\Ways ts sp (s':Int) ws'/\∀k:Nat,(k:Int)∈a.take j->0<at0 sp k->at0 ts k∈(s':Int)::ws'.map (·.1))/\∃y z,σ'=[some (.ref n),some (.int (s':Int)),some (.ref p),some (.ref q),some (.int (i:Int)),some (.int (u:Int)),y,z];refine dC (a.map V.int) Pv1 ⟨s4,⟨ws,[],by rw[List.append_nil],g1,g2,w,fun _ h=>nomatch h⟩,_,_,rfl⟩ (fun j σ' H' _ g=>g.1.seq (SqL.of hra)) ?_ ?_
   ·rintro j x _ H5 hx5 hq_;walk_at"g1";obtain⟨s5,⟨ws',tl,hws,i1,i2,w',cl'⟩,y1,y2,rfl⟩:=hq_;walk_at"g2";have hno':=vO ok hs' w';have hle':=BW w'.nd hno';obtain⟨x',hx',rfl⟩:∃x',a[j]? =some x'/\x= .int x':=by
     rw[List.getElem?_map]at hx5;obtain⟨x',h1,h2⟩:=Option.map_eq_some_iff.mp hx5;exact⟨x',h1,h2.symm⟩
    walk_at"g1";obtain⟨k',rfl,hk1,hk2⟩:=ok.inn u a ha x' (List.mem_of_getElem? hx');walk_at"g2";have j0:=s5 _ _ e0;have j1:=s5 _ _ e1;have j2:=s5 _ _ e2;have hk3:k'<sp.length:=by rw[ok.eq];exact hk1
    walk_at"go";refine xO (SqL.of j1) hk1 ?_;walk_at"go";refine xO (SqL.of j2) hk3 ?_;have htk:a.take (j+1)=a.take j++[(k':Int)]:=aT hx';have hstay:(0<at0 sp k'->at0 ts k'∈(s':Int)::ws'.map (·.1))->∀k:Nat,(k:Int)∈a.take (j+1)->0<at0 sp k->at0 ts k∈(s':Int)::ws'.map (·.1):=fun hk k hkm h0=>by
     rw[htk]at hkm;rcases List.mem_append.mp hkm with h|h
     ·exact cl' k h h0
     ·have e:k=k':=by have:=List.mem_singleton.mp h;lia
      subst e;exact hk h0
    walk_at"go";refine bM (fun hp0=> ?_) (fun hp0=> ?_)
    ·walk_at"go";refine PR (.inl i1) ?_;rw[vB];walk_at"go"
     by_cases hin:at0 ts k'∈(s':Int)::ws'.map (·.1)
     ·rw[decide_eq_true hin];walk_at"go";exact⟨s5,⟨ws',tl,hws,i1,i2,w',hstay fun _=>hin⟩,_,_,rfl⟩
     ·rw[decide_eq_false hin];have wl:(dO (s':Int) ws').length<sizeLine:=by
       rw[sizeLine_eq,←List.length_map (f:=fun e:Key×V=>e.1),pF,List.length_map];lia
      have ht:at0 ts (xr k')∈(s':Int)::ws'.map (·.1):=by
       rw[hk2,hws,List.map_append];rw[←List.cons_append];exact List.mem_append_left _ (List.mem_of_getElem? hx)
      walk_at"go";refine W5 i1 wl fun H6 B6 f6=> ?_;rw[Q8 _ _ _ _ hin]at f6;have s6:Same H H6:=fun b v e=>B6 _ _ (s5 _ _ e) fun z=>by rw[z,n1]at e;cases e
      have i26:=B6 _ _ i2 (Ne.symm hpq);walk_at"go";refine cU i26 (by rw[sizeLine_eq,List.length_map];lia) fun H7 B7 f7=> ?_;have s7:Same H H7:=fun b v e=>B7 _ _ (s6 _ _ e) fun z=>by rw[z,nq]at e;cases e
      have w7:=w'.snoc hk3 hp0 ht hin;refine⟨s7,⟨ws'++[(at0 ts k',k')],tl++[(at0 ts k',k')],by rw[hws,List.append_assoc],B7 _ _ f6 hpq,?_,w7,fun k hkm h0=> ?_⟩,_,_,rfl⟩
      ·rw[f7,List.map_append,←List.cons_append,List.map_append];rfl
      ·rw[List.map_append,←List.cons_append];rw[htk]at hkm;rcases List.mem_append.mp hkm with h|h
       ·exact List.mem_append_left _ (cl' k h h0)
       ·have e:k=k':=by have:=List.mem_singleton.mp h;lia
        subst e;exact List.mem_append_right _ (.head _)
    ·walk_at"go";exact⟨s5,⟨ws',tl,hws,i1,i2,w',hstay fun h=>absurd h hp0⟩,_,_,rfl⟩
   ·rintro _ H5 hq_;walk_at"g1";obtain⟨s5,⟨ws',tl,hws,i1,i2,w',cl'⟩,y1,y2,rfl⟩:=hq_;walk_at"g2";rw[List.length_map,List.take_length]at cl';have hpre:((s':Int)::ws'.map (·.1)).take (i+1)=((s':Int)::ws.map (·.1)).take i++[(u:Int)]:=by
     rw[hws,List.map_append,←List.cons_append,List.take_append_of_le_length (by lia)];exact aT hx
    have hsub:∀v,v∈(s':Int)::ws.map (·.1)->v∈(s':Int)::ws'.map (·.1):=fun v hv=>by
     rw[hws,List.map_append,←List.cons_append];exact List.mem_append_left _ hv
    walk_at"go";refine⟨_,_,rfl,rfl,?_⟩;walk_at"go";refine⟨mm - 1,by lia,s5,ws',i+1,i1,i2,w',fun k hk hm h0=> ?_,?_,by lia,_,_,_,rfl⟩
    ·rw[hpre]at hm;rcases List.mem_append.mp hm with h|h
     ·exact hsub _ (cl k hk h h0)
     ·exact cl' k (ok.all k u a hk (List.mem_singleton.mp h) ha) h0
    ·rw[hws,List.map_append,←List.cons_append,List.length_append];lia
  ·walk_at"go";rw[List.length_map]at hc;rw[show i=((s':Int)::ws.map (·.1)).length by lia,List.take_length]at cl;exact k p ws H4 n1 s4 g1 w cl
theorem qQ (m:M K mg):Mc P w K mg base m.aV "ways_from" 1 (BG m.aV):=⟨_,_,_,m.cE.ic.cl,m.CF,m.lO.b,A1 m⟩
theorem PH (k:Nat):Builtin.bitAnd (k:Int) 1=((k%2:Nat):Int):=by
 unfold Builtin.bitAnd;rw[decide_eq_true (show (0:Int)<=(k:Int) by lia),decide_eq_true (show (0:Int)<=1 by lia)];show (((k:Int).toNat &&& (1:Int).toNat:Nat):Int)=_;rw[Int.toNat_natCast,show (1:Int).toNat=1 from rfl,Nat.and_one_is_mod]
theorem UD (k:Nat):Builtin.bitOr (k:Int) 1=((if k%2=0 then k+1 else k:Nat):Int):=by
 unfold Builtin.bitOr Builtin.bitAnd;rw[decide_eq_false (show ¬(0:Int)<=Builtin.bitNot (k:Int) by unfold Builtin.bitNot;lia),decide_eq_false (show ¬(0:Int)<=Builtin.bitNot 1 by unfold Builtin.bitNot;lia)];show Builtin.bitNot (Builtin.bitNot (((Builtin.bitNot (Builtin.bitNot (k:Int))).toNat ||| (Builtin.bitNot (Builtin.bitNot 1)).toNat:Nat):Int))=_;have e:∀z:Int,Builtin.bitNot (Builtin.bitNot z)=z:=fun z=>by unfold Builtin.bitNot;lia
 rw[e,e,e,Int.toNat_natCast,show (1:Int).toNat=1 from rfl];have h1:(k ||| 1)/2=k/2:=by rw[Nat.or_div_two];exact Nat.or_zero _
 have h2:(k ||| 1)%2=1:=by
  rw[Nat.or_mod_two_eq_one];exact .inr rfl
 split<;>lia
theorem CY (k:Nat):Builtin.bitXor (k:Int) 1=((xr k:Nat):Int):=by
 unfold Builtin.bitXor;rw[PH,UD];unfold xr
 by_cases h:k%2=0
 ·rw[if_pos h,if_pos h,h];lia
 ·rw[if_neg h,if_neg h];lia
inductive Ch (ts:List Int)(s:Int)(ws:List (Int×Nat)):List Nat->Prop
 | last {k:Nat}:at0 ts (xr k)=s->Ch ts s ws [k]
 | cons {k k':Nat}{p:List Nat}:(at0 ts (xr k),k')∈ws->Ch ts s ws (k'::p)->Ch ts s ws (k::k'::p)
theorem Ways.chain {ts sp:List Int}{s:Int}{ws:List (Int×Nat)} (x:Ways ts sp s ws):∀(i:Nat) (v:Int) (k:Nat),ws[i]? =some (v,k)->∃p,Pth ts s v (k::p)/\(k::p).Nodup/\(∀j∈k::p,0<at0 sp j/\j<sp.length/\at0 ts j∈(ws.take (i+1)).map (·.1))/\Ch ts s ws (k::p)/\p.length<=i:=by
 intro i
 induction i using Nat.strongRecOn with
 | _ i ih =>
  intro v k h;walk_at"g1";obtain⟨h1,h2,h3,h4⟩:=x.ok i v k h;walk_at"g2";have hmem:v∈(ws.take (i+1)).map (·.1):=List.mem_map.mpr ⟨(v,k),by rw[List.take_succ,h];exact List.mem_append_right _ (.head _),rfl⟩;rcases List.mem_cons.mp h4 with e|e
  ·refine⟨[],.cons h1 (by rw[e];exact .nil),by simp,fun j hj=> ?_,.last e,Nat.zero_le _⟩;rw[List.mem_singleton.mp hj];exact⟨h2,h3,by rw[h1];exact hmem⟩
  ·walk_at"g1";obtain⟨⟨v',k'⟩,hm,e'⟩:=List.mem_map.mp e;walk_at"g2";obtain⟨i',hi',hget⟩:=List.mem_iff_getElem.mp hm;have hi2:i'<i:=by rw[List.length_take]at hi';lia
   have hg:ws[i']? =some (v',k'):=by
    rw[←hget,List.getElem_take];exact List.getElem?_eq_getElem _
   walk_at"g1";obtain⟨p,hp1,hp2,hp3,hp4,hp5⟩:=ih i' hi2 v' k' hg;walk_at"g2";have e':v'=at0 ts (xr k):=e';refine⟨k'::p,.cons h1 (by rw[←e'];exact hp1),?_,fun j hj=> ?_,.cons (by rw[←e'];exact List.mem_of_getElem? hg) hp4,by rw[List.length_cons];lia⟩
   ·rw[List.nodup_cons];refine⟨fun hk=> ?_,hp2⟩;have h5:=(hp3 k hk).2.2;rw[h1]at h5;have hnd:(ws.map (·.1)).Nodup:=(List.nodup_cons.mp x.nd).2;have hsplit:ws=ws.take (i'+1)++ws.drop (i'+1):=(List.take_append_drop _ _).symm;have hdrop:v∈(ws.drop (i'+1)).map (·.1):=List.mem_map.mpr ⟨(v,k),by
     rw[List.mem_iff_getElem?];exact⟨i - (i'+1),by rw[List.getElem?_drop,show i'+1+(i - (i'+1))=i by lia];exact h⟩,rfl⟩
    rw[hsplit,List.map_append]at hnd;exact(List.nodup_append.mp hnd).2.2 _ h5 _ hdrop rfl
   ·rcases List.mem_cons.mp hj with rfl|hj
    ·exact⟨h2,h3,by rw[h1];exact hmem⟩
    ·obtain⟨a,b,c⟩:=hp3 j hj;refine⟨a,b,?_⟩;obtain⟨y,hy,e⟩:=List.mem_map.mp c;refine List.mem_map.mpr ⟨y,?_,e⟩;have:ws.take (i'+1)=(ws.take (i+1)).take (i'+1):=by rw[List.take_take];congr 1;lia
     rw[this]at hy;exact List.mem_of_mem_take hy
theorem aAD (s:Int)(ws:List (Int×Nat)):aY (dO s ws) (.inl s)=some .non:=by unfold dO;exact dA rfl
theorem K3 {ts sp:List Int}{s:Int}{ws:List (Int×Nat)} (w:Ways ts sp s ws) {v:Int}{k:Nat} (h:(v,k)∈ws):aY (dO s ws) (.inl v)=some (.int (k:Int)):=by
 have hnd:((dO s ws).map (·.1)).Nodup:=by
  rw[pF,List.Nodup,List.pairwise_map];exact List.Pairwise.imp (fun hne z=>hne (Sum.inl.inj z)) w.nd
 exact fJ (e:=(Sum.inl v,V.int (k:Int))) hnd (List.mem_cons_of_mem _ (List.mem_map.mpr ⟨(v,k),h,rfl⟩))
inductive BK (C:Addr)(vs:List V)(H:Hp)(Q:VK)(E:XK):Prop
 | mk (n d:Addr) (s v:Int) (i k0:Nat) (ws:List (Int×Nat)) (fp:List Addr) (ts sp:List Int) (as:List (List Int)) (_:vs=[.ref n,.ref d,.int v]) (_:NetE C H n fp ts sp as) (_:NetOk ts sp as) (_:H d=some (.dK (dO s ws))) (_:Ways ts sp s ws) (_:ws[i]? =some (v,k0)) (_:ws.length<100000) (_:∀q path H',H q=none->Same H H'->H' q=some (.lst (path.map fun k:Nat=>V.int (k:Int)))->Pth ts s v path->path.Nodup->(∀j∈path,0<at0 sp j/\j<sp.length)->path≠[]->path.length<=ws.length->Q (.ref q) H'):BK C vs H Q E
theorem EB (m:M K mg):FnOk P w K mg base CX0 1 m.o0 m.oU.d ["self","ways","node"] (BK m.aV):=by
 refine m.oU.F.ok sc_Net_path_to (fun vs H Q E h=> ?_) (fun cdv A outer s H vs Q E hr h=> ?_)
 ·walk_at"g1";obtain⟨n,d,s',v,i,k0,ws,fp,ts,sp,as,rfl,hn,ok,hd,w,hi,hl,k⟩:=h;walk_at"g2";rfl
 ·walk_at"g1";obtain⟨n,d,s',v,i,k0,ws,fp,ts,sp,as,rfl,hn,ok,hd,w,hi,hl,k⟩:=h;walk_at"g2";have nd:=sc_Net_path_to.nd;walk_at"hu";have w_dc_Net:=m.cE;refine⟨_,(aB (aO (i:=3) nd rfl (by walk_at"oi") (b7 aC))
   (aB (aO (i:=4) nd rfl (by walk_at"oi") (fK hu1 (pv 1) (pv 2) (fun _ _=>rfl)))
   (aB (qX PassesOwn.never (aU MX (pv 4) gE (bB _)) (aB (aZ (g8 PySem.F.plainAttrs_list PySem.F.slot_list_append PySem.F.type_list_append cS (pv 3) (aA (pv 4) aC)))
   (aE (aO (i:=4) nd rfl (by walk_at"oi") (fK hu1 (pv 1) (aW bL (aI (pv 0) rfl) (aK SR (pv 4) aD) (fun _ _=>rfl)) (fun _ _=>rfl))))))
   (aE (aR (pv 3)))))),?_⟩
  refine aJ (σ:=[some (.ref n),some (.ref d),some (.int v),none,none]) rfl ?_;walk_at"cx";walk_at"g1";obtain⟨dx,q1,q2,q3,rs,ef,e0,e1,e2,e3,e4,e5⟩:=hn;walk_at"g2";walk_at"g1";obtain⟨pp,hp1,hp2,hp3,hp4,hp5⟩:=w.chain i v k0 hi;walk_at"g2";walk_at"go";rename_i q H1 n1 S1 f1;have hdq:d≠q:=fun z=>by rw[←z,hd]at n1;cases n1
  have hchk:∀j∈k0::pp,0<at0 sp j/\j<sp.length:=fun j hj=>⟨(hp3 j hj).1,(hp3 j hj).2.1⟩
  have hil:i<ws.length:=(List.getElem?_eq_some_iff.mp hi).1;refine BD (.inl (S1 _ _ hd)) (K3 w (List.mem_of_getElem? hi)) ?_;walk_at"go";refine vG (fun mm σ' H'=>Same H H'/\∃(pr rest:List Nat),H' q=some (.lst (pr.map fun k:Nat=>V.int (k:Int)))/\pr++rest=k0::pp/\mm=rest.length/\((rest=[]/\σ'=[some (.ref n),some (.ref d),some (.int v),some (.ref q),some .non])∨∃k p,rest=k::p/\Ch ts s' ws (k::p)/\σ'=[some (.ref n),some (.ref d),some (.int v),some (.ref q),some (.int (k:Int))])) (pp.length+1) ⟨S1,[],k0::pp,f1,rfl,rfl,.inr ⟨k0,pp,rfl,hp4,rfl⟩⟩ ?_;rintro mm σ' H2 hq_;walk_at"g1";obtain⟨s2,pr,rest,g1,hpr,hmm,hσ⟩:=hq_;walk_at"g2";have hlen:pr.length+rest.length=pp.length+1:=by rw[←List.length_append,hpr,List.length_cons]
  rcases hσ with⟨rfl,rfl⟩|⟨k',p,rfl,hch,rfl⟩
  ·walk_at"go";rw[List.append_nil]at hpr;subst hpr;exact k q (k0::pp) H2 n1 s2 g1 hp1 hp2 hchk (fun z=>nomatch z) (by rw[List.length_cons];lia)
  ·have hk':=hchk k' (by rw[←hpr];exact List.mem_append_right _ (.head _));have hkl:xr k'<ts.length:=by
    obtain⟨nn,hnn⟩:=ok.len;rw[ok.eq]at hk';rw[hnn]at hk' ⊢;exact CS hk'.2
   walk_at"go";refine DO ?_;walk_at"go";refine cU g1 (by rw[sizeLine_eq,List.length_map];lia) fun H3 B3 g3=> ?_;have s3:Same H H3:=fun b u e=>B3 _ _ (s2 _ _ e) fun z=>by rw[z,n1]at e;cases e
   have j0:=s3 _ _ e0;have j1:=s3 _ _ e1;walk_at"go";rw[CY];refine xO (SqL.of j1) hkl ?_;have g4:H3 q=some (.lst ((pr++[k']).map fun k:Nat=>V.int (k:Int))):=by rw[g3,List.map_append];rfl
   cases hch with
   | last he =>
    refine BD (.inl (s3 _ _ hd)) (by rw[he];exact aAD _ _) ?_;walk_at"go";exact⟨0,by rw[hmm];exact Nat.zero_lt_succ _,s3,pr++[k'],[],g4,by rw[List.append_nil];exact hpr,rfl,.inl ⟨rfl,rfl⟩⟩
   | @cons _ k2 p2 hm hch2 =>
    refine BD (.inl (s3 _ _ hd)) (K3 w hm) ?_;walk_at"go";exact⟨_,by rw[hmm];exact Nat.lt_succ_self _,s3,pr++[k'],k2::p2,g4,by rw[List.append_assoc];exact hpr,rfl,.inr ⟨k2,p2,rfl,hch2,rfl⟩⟩
theorem D4 (m:M K mg):Mc P w K mg base m.aV "path_to" 1 (BK m.aV):=⟨_,_,_,m.cE.ic.cl,m.FJ,m.oU.b,EB m⟩
def XX (K:W.Frag):List V->Hp->VK->Prop:=fun xs H Q=>∃(p:Addr) (ns:List Int),xs=[.ref p]/\SqL K H p (ns.map V.int)/\ns≠[]/\∀M,M∈ns->(∀a∈ns,M<=a)->Q (.int M) H
theorem RO {X:Cx}(hc:X.calm=true):dS X (.builtin "min") (XX X.K):=by
 intro pins s σ H xs us Q I r h;walk_at"g1";obtain⟨p,ns,rfl,hq,hne,q⟩:=h;walk_at"g2";obtain⟨u,rfl,rx⟩:=nG r;cases rx;walk_at"g1";obtain⟨its,r',pl,hz⟩:=I.list hq;walk_at"g2";obtain⟨zs,rfl,rfl⟩:=vK r';have hl:s.heap.IsList p (intItems zs.toArray):=by
  have:=pl.isList
  simpa [intItems] using this
 have hpos:0<zs.length:=by
  cases zs with
  | nil=>exact absurd rfl hne
  | cons a l=>exact Nat.zero_lt_succ _
 have hn:∀j,j<zs.length->numAt zs.toArray j∈zs.map (·.1)/\True:=fun j hj=>by
  refine⟨?_,trivial⟩;unfold numAt;rw[List.mem_map];refine⟨zs[j],List.getElem_mem _,?_⟩;simp[hj]
 refine min_intList (I.ok.hd hc) hl (by simpa using hpos) fun v h' tk hv hk=> ?_;obtain⟨t,rfl⟩:=intItems_at hv;obtain⟨h1,h2⟩:=argBest_lt (numAt zs.toArray) (zs.toArray.size - 1);rw[List.size_toArray]at h1 h2;refine⟨.int _,H,I.kept hk,⟨t,rfl⟩,q _ ?_ fun a ha=> ?_⟩
 ·rw[List.size_toArray];exact(hn _ (by lia)).1
 ·rw[List.size_toArray];obtain⟨y,hy,rfl⟩:=List.mem_map.mp ha;obtain⟨j,hj,e⟩:=List.mem_iff_getElem.mp hy;have:=h2 j (by lia);have e2:numAt zs.toArray j=y.1:=by unfold numAt;simp[hj,e]
  rw[←e2];exact this
theorem aA0 {H:Hp}{Q:VK}{p:Addr}{ns:List Int} (e:SqL K H p (ns.map V.int)) (hne:ns≠[]) (h:∀M,M∈ns->(∀a∈ns,M<=a)->Q (.int M) H):XX K [.ref p] H Q:=⟨p,ns,rfl,e,hne,h⟩
theorem zI {to ti te:TE}{tget:V->V->Hp->VK->Prop}{tip:TIp}{tset:PV}{nx:St->Hp->Prop}{rt:VK}{bk ct:St->Hp->Prop}{σ:St}{H:Hp} (h:to σ H fun o H1=>ti σ H1 fun i H2=>tget o i H2 fun x H3=>te σ H3 fun y H4=>tip x y H4 fun z H5=>tset o i z H5 fun H6=>nx σ H6):X3 to ti te tget tip tset ⟨nx,rt,bk,ct⟩ σ H:=h
theorem TD {n k:Nat}(h:k<n):ixN n (k:Int)=some k:=by
 unfold ixN;rw[if_pos (by lia),if_pos (by lia),Int.toNat_natCast]
inductive xY (C:Addr)(vs:List V)(H:Hp)(Q:VK)(E:XK):Prop
 | mk (n q:Addr) (path:List Nat) (fp:List Addr) (ts sp:List Int) (as:List (List Int)) (_:vs=[.ref n,.ref q]) (_:NetE C H n fp ts sp as) (_:NetOk ts sp as) (_:H q=some (.lst (path.map fun k:Nat=>V.int (k:Int)))) (_:q∉fp) (_:path.Nodup) (_:(∀j∈path,0<at0 sp j/\j<sp.length)) (_:path≠[]) (_:path.length<200000) (_:∀x H',0<x->(∀j∈path,x<=at0 sp j)->Frm fp H H'->NetE C H' n fp ts (dH sp path x) as->Q (.int x) H'):xY C vs H Q E
theorem AG (m:M K mg):FnOk P w K mg base CX0 1 m.kA m.kE.d ["self","path"] (xY m.aV):=by
 refine m.kE.F.ok sc_Net_send_along (fun vs H Q E h=> ?_) (fun cdv A outer s H vs Q E hr h=> ?_)
 ·walk_at"g1";obtain⟨n,q,path,fp,ts,sp,as,rfl,hn,ok,hq,hqf,hnd,hpa,hpn,hpl,k⟩:=h;walk_at"g2";rfl
 ·walk_at"g1";obtain⟨n,q,path,fp,ts,sp,as,rfl,hn,ok,hq,hqf,hnd,hpa,hpn,hpl,k⟩:=h;walk_at"g2";have nd:=sc_Net_send_along.nd;walk_at"hu";have w_dc_Net:=m.cE;refine⟨_,(aB (aO (i:=2) nd rfl (by walk_at"oi") (bH (RO rfl) rfl m.HW DG (aA (c6 (N:=["arc","self"]) (nl:=1) (ci:=[0]) rfl (blk (s.heap.objs.size+1) rfl rfl rfl (by kernel_rfl)) (bR (pv 1)) (fun _ _ _ _=>(aN (i:=0) (show (["arc","self"]:List Str).Nodup by decide +kernel) rfl (by walk_at"oi"))) (fun _ _ _ _=>d9) (fun _ _ _ _=>(aW (BO (K:=K)) (uB (K:=K) (pv 1) rfl) (pv 0) (fun _ _=>rfl)))) aC)))
   (aB (cT PassesOwn.never rfl (bR (pv 1)) (aN (i:=3) nd rfl (by walk_at"oi")) (aB (NQ (aI (pv 0) rfl) (pv 3) KI (pv 2) aCv J4)
   (aE (NQ (aI (pv 0) rfl) (aK SR (pv 3) aD) KI (pv 2) J5 J4))))
   (aE (aR (pv 2))))),?_⟩
  refine aJ (σ:=[some (.ref n),some (.ref q),none,none]) rfl ?_;walk_at"cx";walk_at"g1";obtain⟨dx,q1,q2,q3,rs,ef,e0,e1,e2,e3,e4,e5⟩:=hn;walk_at"g2";have nd':=List.nodup_cons.mp e5;have nd2:=List.nodup_cons.mp nd'.2;walk_at"go";refine mG (α:=Nat) (xs:=path) (vs:=path.map fun k:Nat=>V.int (k:Int)) (fun v k=>v= .int (k:Int)) (fun _=>true) (fun k y _=>y= .int (at0 sp k)) (fun _ _ _ _ h _=>h) (by rw[sizeLine_eq];lia) (rest:=[some (.ref n)]) (by rfl) (SqL.of hq) ?_ (fun v x H1 _ _ _ R hR=>hR _ (Same.refl _)) ?_ ?_
  ·clear hq hpa hpn hpl k hnd
   induction path with
   | nil=>exact .nil
   | cons a l ih=>exact .cons rfl ih
  ·rintro v k' H1 rfl hm - s1 R hR;have j0:=s1 _ _ e0;walk_at"go";refine xO (SqL.of (s1 _ _ e2)) (hpa k' hm).2 ?_;exact hR _ _ rfl (Same.refl _)
  intro ys H1 s1 hys;rw[d6]at hys;have hy:ys=(path.map (at0 sp)).map V.int:=by
   clear hq hpa hpn hpl k hnd
   induction hys with
   | nil=>rfl
   | cons h t ih=>rw[h,ih];rfl
  walk_at"go";rename_i r H2 n2 S2 f2;rw[hy]at f2;refine aA0 (SqL.of f2) (fun z=>hpn (List.map_eq_nil_iff.mp z)) fun x hx1 hx2=> ?_;have hxj:∀j∈path,x<=at0 sp j:=fun j hj=>hx2 _ (List.mem_map.mpr ⟨j,hj,rfl⟩);have hx0:0<x:=by
   obtain⟨j,hj,rfl⟩:=List.mem_map.mp hx1;exact(hpa j hj).1
  have s2:=s1.trans S2;subst ef;have hqq2:q≠q2:=fun z=>hqf (by rw[z];exact List.mem_cons_of_mem _ (.head _));have hn2:n≠q2:=fun z=>by rw[z,e2]at e0;cases e0
  walk_at"go";let Pv1:Nat->St->Hp->Prop:=fun j σ' H'=>SameBut q2 H2 H'/\H' q2=some (.lst ((dH sp (path.take j) x).map V.int))/\∃y,σ'=[some (.ref n),some (.ref q),some (.int x),y];refine dC (path.map fun k:Nat=>V.int (k:Int)) Pv1 ⟨SameBut.refl,s2 _ _ e2,_,rfl⟩ (fun j σ' H' _ g=>SqL.of (g.1 _ _ (s2 _ _ hq) hqq2)) ?_ ?_
  ·rintro j y _ H3 hy3 hq_;walk_at"g1";obtain⟨B3,g2,y1,rfl⟩:=hq_;walk_at"g2";obtain⟨k',hk',rfl⟩:∃k',path[j]? =some k'/\y= .int (k':Int):=by
    rw[List.getElem?_map]at hy3;obtain⟨x',h1,h2⟩:=Option.map_eq_some_iff.mp hy3;exact⟨x',h1,h2.symm⟩
   have hkl:=(hpa k' (List.mem_of_getElem? hk')).2;generalize hsj:dH sp (path.take j) x=sj at g2;have hsl:sj.length=sp.length:=by rw[←hsj,wI]
   have hxl:xr k'<sp.length:=by
    obtain⟨nn,hnn⟩:=ok.len;rw[ok.eq,hnn]at hkl ⊢;exact CS hkl
   have j0:=B3 _ _ (s2 _ _ e0) hn2;have hnext:dH sp (path.take (j+1)) x=lF sj k' x:=by
    rw[aT hk',←hsj];unfold dH;rw[List.foldl_append];rfl
   walk_at"go";refine zI ?_;walk_at"go";refine NJ (SqL.of g2) (EA (by lia)) ?_;walk_at"go";refine⟨_,_,rfl,rfl,?_⟩;refine A4 g2 (TD (by rw[List.length_map];lia)) fun H4 B4 g4=> ?_;have j4:=B4 _ _ j0 hn2;have g4':H4 q2=some (.lst ((sj.set k' (at0 sj k' - x)).map V.int)):=by rw[g4,List.map_set]
   walk_at"go";refine zI ?_;walk_at"go";rw[CY];refine NJ (SqL.of g4') (EA (by rw[List.length_set];lia)) ?_;walk_at"go";refine⟨_,_,rfl,rfl,?_⟩;refine A4 g4' (TD (by rw[List.length_map,List.length_set];lia)) fun H5 B5 g5=> ?_;refine⟨fun b u e hb=>B5 _ _ (B4 _ _ (B3 _ _ e hb) hb) hb,?_,_,rfl⟩;rw[g5,hnext,←List.map_set];unfold lF;rw[EX _ _ _ _ (by lia),if_neg (O5 k')]
  ·rintro _ H3 hq_;walk_at"g1";obtain⟨B3,g2,y1,rfl⟩:=hq_;walk_at"g2";rw[List.length_map,List.take_length]at g2;walk_at"go";have hk:∀b u,H b=some u->b≠q2->H3 b=some u:=fun b u e hb=>B3 _ _ (s2 _ _ e) hb;refine k x H3 hx0 hxj (fun b u e hb=>hk b u e fun z=>hb (by rw[z];exact List.mem_cons_of_mem _ (.head _))) ⟨dx,q1,q2,q3,rs,rfl,hk _ _ e0 hn2,hk _ _ e1 fun z=>nd'.1 (by rw[z];exact .head _),g2,hk _ _ e3 fun z=>nd2.1 (by rw[←z];exact .head _),?_,e5⟩;exact dU e4 fun b c hb h=>hk _ _ h fun z=>nd2.1 (by rw[←z];exact List.mem_cons_of_mem _ hb)
theorem AC (m:M K mg):Mc P w K mg base m.aV "send_along" 1 (xY m.aV):=⟨_,_,_,m.cE.ic.cl,m.AL,m.kE.b,AG m⟩
def nI (ts sp:List Int)(v:Int):Nat->Int
 | 0=>0
 | n+1=>nI ts sp v n+if at0 ts (2 * n)=v then at0 sp (2 * n)+at0 sp (2 * n+1) else 0
theorem wC {ts sp:List Int}{v:Int} (h0:∀m,0<=at0 sp m):∀n,cR ts sp v n<=nI ts sp v n
 | 0=>Int.le_refl _
 | n+1=>by
  show cR ts sp v n+_<=nI ts sp v n+_;have ih:=wC (ts:=ts) (v:=v) h0 n;have a0:=h0 (2 * n);have a1:=h0 (2 * n+1)
  split<;>split<;>lia
theorem AS {ts sp sp':List Int}{v:Int} (h:∀m,at0 sp' m+at0 sp' (xr m)=at0 sp m+at0 sp (xr m)):∀n,nI ts sp' v n=nI ts sp v n
 | 0=>rfl
 | n+1=>by
  show nI ts sp' v n+_=nI ts sp v n+_;have h1:=h (2 * n);rw[show xr (2 * n)=2 * n+1 by unfold xr;rw[if_pos (by lia)]]at h1;rw[AS h n,h1]
structure Sent (ts sp sp':List Int)(n:Nat)(s t x:Int):Prop where
 len:sp'.length=sp.length
 nn:∀m,0<=at0 sp' m
 cap:∀m,at0 sp' m+at0 sp' (xr m)=at0 sp m+at0 sp (xr m)
 exc:∀v,cR ts sp' v n=cR ts sp v n+((if t=v then x else 0) - if s=v then x else 0)
 x0:0<=x
theorem Sent.refl {ts sp:List Int}{n:Nat}{s t:Int} (h0:∀m,0<=at0 sp m):Sent ts sp sp n s t 0:=⟨rfl,h0,fun _=>rfl,fun v=>by split<;>split<;>lia,Int.le_refl _⟩
theorem Sent.more {ts sp sp':List Int}{n:Nat}{s t x y:Int} (a:Sent ts sp sp' n s t x) (hl:sp.length=2 * n) {p:List Nat} (hp:Pth ts s t p) (hnd:p.Nodup) (hj:∀j∈p,0<at0 sp' j/\j<sp'.length) (hy0:0<y) (hy:∀j∈p,y<=at0 sp' j):Sent ts sp (dH sp' p y) n s t (x+y):=by
 have hl':sp'.length=2 * n:=by rw[a.len,hl]
 have hk:∀k∈p,k<2 * n:=fun k hk=>by rw[←hl'];exact(hj k hk).2
 refine⟨by rw[wI];exact a.len,SC hl' hk hnd (by lia) hy a.nn,fun m=>by rw[OZ hl' hk];exact a.cap m,fun v=> ?_,by have:=a.x0;lia⟩;rw[CV y v hp hl' hk,a.exc]
 split<;>split<;>lia
theorem NetOk.sp {ts sp sp':List Int}{as:List (List Int)} (x:NetOk ts sp as) (h:sp'.length=sp.length):NetOk ts sp' as:=⟨x.len,by rw[h];exact x.eq,x.nd,x.inn,x.all,x.l0,x.l1⟩
def IF (ts sp:List Int)(s t:Int)(rs:List Int):Prop:=rs.Nodup/\s∈rs/\t∉rs/\∀k,k<ts.length->at0 ts (xr k)∈rs->at0 ts k∉rs->at0 sp k<=0
theorem vJ {C:Addr}{H:Hp}{n:Addr}{fp:List Addr}{ts sp:List Int}{as:List (List Int)} (x:NetE C H n fp ts sp as) {b:Addr} (hb:b∈fp):H b≠none:=by
 walk_at"g1";obtain⟨dx,q1,q2,q3,rs,ef,e0,e1,e2,e3,e4,e5⟩:=x;walk_at"g2";subst ef;intro z;rcases List.mem_cons.mp hb with rfl|hb
 ·rw[e1]at z;cases z
 ·rcases List.mem_cons.mp hb with rfl|hb
  ·rw[e2]at z;cases z
  ·rcases List.mem_cons.mp hb with rfl|hb
   ·rw[e3]at z;cases z
   ·obtain⟨a,_,ha⟩:=fS e4 hb;rw[z]at ha;cases ha
inductive zV (C:Addr)(vs:List V)(H:Hp)(Q:VK)(E:XK):Prop
 | mk (n:Addr) (s t nn:Nat) (fp:List Addr) (ts sp:List Int) (as:List (List Int)) (_:vs=[.ref n,.int (s:Int),.int (t:Int)]) (_:NetE C H n fp ts sp as) (_:NetOk ts sp as) (_:s<as.length) (_:s≠t) (_:ts.length=2 * nn) (_:(∀m,0<=at0 sp m)) (_:∀x sp' rs H',Frm fp H H'->NetE C H' n fp ts sp' as->Sent ts sp sp' nn (s:Int) (t:Int) x->IF ts sp' (s:Int) (t:Int) rs->Q (.int x) H'):zV C vs H Q E
theorem CZ (m:M K mg):FnOk P w K mg base CX0 2 m.m8 m.nB.d ["self","source","sink"] (zV m.aV):=by
 refine m.nB.F.ok sc_Net_send_all (fun vs H Q E h=> ?_) (fun cdv A outer s H vs Q E hr h=> ?_)
 ·walk_at"g1";obtain⟨n,s',t',nn,fp,ts,sp,as,rfl,hn,ok,hs',hst,hnn,h0,k⟩:=h;walk_at"g2";rfl
 ·walk_at"g1";obtain⟨n,s',t',nn,fp,ts,sp,as,rfl,hn,ok,hs',hst,hnn,h0,k⟩:=h;walk_at"g2";have nd:=sc_Net_send_all.nd;walk_at"hu";have w_dc_Net:=m.cE;refine⟨_,(aB (aO (i:=3) nd rfl (by walk_at"oi") aD)
   (aB (aO (i:=4) nd rfl (by walk_at"oi") (cO 1 hr (pv 0) (aA (pv 1) aC)))
   (aB (qX PassesOwn.never (uO (KH hu1 (pv 2) (pv 4)) (by with_unfolding_all rfl)) (aB (RJ (i:=3) nd rfl (by walk_at"oi") (cO 1 hr (pv 0) (aA (cO 1 hr (pv 0) (aA (pv 4) (aA (pv 2) aC))) aC)) J5)
   (aE (aO (i:=4) nd rfl (by walk_at"oi") (cO 1 hr (pv 0) (aA (pv 1) aC))))))
   (aE (aR (pv 3)))))),?_⟩
  refine aJ (σ:=[some (.ref n),some (.int (s':Int)),some (.int (t':Int)),none,none]) rfl ?_;walk_at"cx";walk_at"g1";obtain⟨dx,q1,q2,q3,rs,ef,e0,e1,e2,e3,e4,e5⟩:=id hn;walk_at"g2";have M1:= @qQ P w K mg base m;have M2:= @D4 P w K mg base m;have M3:= @AC P w K mg base m;have l0:=ok.l0;have l1:=ok.l1;walk_at"go";refine⟨n,s',fp,ts,sp,as,rfl,hn,ok,hs',fun d ws H1 n1 S1 f1 w c1=> ?_⟩;walk_at"go";refine vG (fun mm σ' H'=>∃(x:Int) (sp':List Int) (d:Addr) (ws:List (Int×Nat)),Frm fp H H'/\NetE m.aV H' n fp ts sp' as/\Sent ts sp sp' nn (s':Int) (t':Int) x/\d∉fp/\H' d=some (.dK (dO (s':Int) ws))/\Ways ts sp' (s':Int) ws/\(∀k,k<ts.length->at0 ts (xr k)∈(s':Int)::ws.map (·.1)->0<at0 sp' k->at0 ts k∈(s':Int)::ws.map (·.1))/\(mm:Int)=nI ts sp (t':Int) nn - cR ts sp' (t':Int) nn/\σ'=[some (.ref n),some (.int (s':Int)),some (.int (t':Int)),some (.int x),some (.ref d)]) (nI ts sp (t':Int) nn - cR ts sp (t':Int) nn).toNat ⟨0,sp,d,ws,Frm.same S1,hn.same S1,Sent.refl h0,?_,f1,w,c1,?_,rfl⟩ ?_
  ·exact fun z=>(vJ hn z) n1
  ·have:=wC (ts:=ts) (v:=(t':Int)) h0 nn
   lia
  rintro mm _ H2 hq_;walk_at"g1";obtain⟨x,sp',d',ws',fr2,hn2,sent,hdf,g1,w',c2,hmm,rfl⟩:=hq_;walk_at"g2";have ok':=ok.sp sent.len;walk_at"g1";obtain⟨dx2,r1,r2,r3,rr,ef2,y0,y1,y2,y3,y4,y5⟩:=id hn2;walk_at"g2";walk_at"go";refine NN (.inl g1) ?_;rw[vB];walk_at"go";refine bM (fun hin=> ?_) (fun hin=> ?_)
  ·walk_at"g1";obtain⟨⟨v0,k0⟩,hm0,hv0⟩:=List.mem_map.mp ((List.mem_cons.mp hin).resolve_left fun z=>hst (by lia));walk_at"g2";have hv0:v0=(t':Int):=hv0;subst hv0;obtain⟨i,hi⟩:=List.mem_iff_getElem?.mp hm0;have hwl:ws'.length<100000:=by
    have h:=BW w'.nd (vO ok' hs' w');rw[List.length_cons,List.length_map]at h
    lia
   have hl2:sp.length=2 * nn:=by rw[ok.eq,hnn]
   refine DO ?_;walk_at"go";refine⟨n,d',(s':Int),(t':Int),i,k0,ws',fp,ts,sp',as,rfl,hn2,ok',g1,w',hi,hwl,fun q path H3 n3 S3 f3 hP hN hA hne hpl=> ?_⟩;have hn3:=hn2.same S3;have z0:=S3 _ _ y0;walk_at"go";refine⟨n,q,path,fp,ts,sp',as,rfl,hn3,ok',f3,fun z=>(vJ hn2 z) n3,hN,hA,hne,by lia,fun y H4 hy0 hyj fr4 hn4=> ?_⟩;have hmore:=sent.more hl2 hP hN hA hy0 hyj;have ok4:=ok.sp hmore.len;walk_at"g1";obtain⟨dx4,b1,b2,b3,br,ef4,z1,_⟩:=id hn4;walk_at"g2";walk_at"go";refine⟨_,_,rfl,rfl,?_⟩;walk_at"go";refine⟨n,s',fp,ts,dH sp' path y,as,rfl,hn4,ok4,hs',fun d5 ws5 H5 n5 S5 f5 w5 c5=> ?_⟩;walk_at"go";have he:=hmore.exc (t':Int);have he0:=sent.exc (t':Int);rw[if_pos rfl,if_neg (by lia)]at he he0;have hc:=wC (ts:=ts) (v:=(t':Int)) hmore.nn nn;rw[AS hmore.cap]at hc;exact⟨(nI ts sp (t':Int) nn - cR ts (dH sp' path y) (t':Int) nn).toNat,by lia,x+y,_,d5,ws5,(fr2.trans (Frm.same S3) fun z hz=> .inl hz).trans (fr4.trans (Frm.same S5) fun z hz=> .inl hz) fun z hz=> .inl hz,hn4.same S5,hmore,fun z=>(vJ hn4 z) n5,f5,w5,c5,by lia,rfl⟩
  ·walk_at"go";refine k x sp' ((s':Int)::ws'.map (·.1)) H2 fr2 hn2 sent ⟨w'.nd,.head _,hin,fun k hk h1 h2=> ?_⟩;rcases Int.lt_or_le 0 (at0 sp' k) with h|h
   ·exact absurd (c2 k hk h1 h) h2
   ·exact h
theorem sU (m:M K mg):Mc P w K mg base m.aV "send_all" 2 (zV m.aV):=⟨_,_,_,m.cE.ic.cl,m.DZ,m.nB.b,CZ m⟩
inductive v3 (K:W.Frag)(vs:List V)(H:Hp)(Q:VK)(E:XK):Prop
 | mk (p C dx:Addr) (_:vs=[.ref p]) (_:DCls K C) (_:H p=some (.ins C dx [])) (_:∀fp H',SameBut p H H'->(∀b∈fp,H b=none)->NetE C H' p fp [] [] []->Q .non H'):v3 K vs H Q E
theorem DD (m:M K mg):FnOk P w K mg base CX0 1 m.m7 m.nD.d ["self"] (v3 K):=by
 refine m.nD.F.ok sc_Net___init__ (fun vs H Q E h=> ?_) (fun cdv A outer s H vs Q E hr h=> ?_)
 ·walk_at"g1";obtain⟨p,C,dx,rfl,dc,hp,k⟩:=h;walk_at"g2";rfl
 ·walk_at"g1";obtain⟨p,C,dx,rfl,dc,hp,k⟩:=h;walk_at"g2";have nd:=sc_Net___init__.nd;walk_at"hu";refine⟨_,(aB (b8 (pv 0) (b7 aC) rfl)
   (aB (b8 (pv 0) (b7 aC) rfl)
   (aE (b8 (pv 0) (b7 aC) rfl)))),?_⟩
  refine aJ (σ:=[some (.ref p)]) rfl ?_;walk_at"cx";walk_at"go";rename_i a1 H1 n1 S1 f1 H2 B2 f2 a2 H3 n3 S3 f3 H4 B4 f4 a3 H5 n5 S5 f5 H6 B6 f6;have h1:a1≠p:=fun z=>by rw[z,hp]at n1;cases n1
  have g1:=B2 _ _ f1 h1;have h2:a2≠p:=fun z=>by rw[z,f2]at n3;cases n3
  have h21:a1≠a2:=fun z=>by rw[←z,g1]at n3;cases n3
  have i1:=B4 _ _ (S3 _ _ g1) h1;have i2:=B4 _ _ f3 h2;have h3:a3≠p:=fun z=>by rw[z,f4]at n5;cases n5
  have h31:a1≠a3:=fun z=>by rw[←z,i1]at n5;cases n5
  have h32:a2≠a3:=fun z=>by rw[←z,i2]at n5;cases n5
  have keep:∀b u,H b=some u->b≠p->H6 b=some u:=fun b u e hb=>B6 _ _ (S5 _ _ (B4 _ _ (S3 _ _ (B2 _ _ (S1 _ _ e) hb)) hb)) hb;have nn:∀b,H3 b=none∨H2 b=none∨H4 b=none∨H b=none->b≠p->H b=none:=fun b hb hbp=>by
   cases e:H b with
   | none=>rfl
   | some u =>
    have k2:=B2 _ _ (S1 _ _ e) hbp;have k4:=B4 _ _ (S3 _ _ k2) hbp;rcases hb with z|z|z|z
    ·rw[S3 _ _ k2]at z;cases z
    ·rw[k2]at z;cases z
    ·rw[k4]at z;cases z
    ·rw[e]at z;cases z
  refine k [a1,a2,a3] H6 keep (fun b hb=> ?_) ⟨dx,a1,a2,a3,[],rfl,f6,B6 _ _ (S5 _ _ i1) h1,B6 _ _ (S5 _ _ i2) h2,B6 _ _ f5 h3,.nil,?_⟩
  ·simp only[List.mem_cons,List.not_mem_nil,or_false]at hb;rcases hb with rfl|rfl|rfl
   ·exact n1
   ·exact nn _ (.inr (.inl n3)) h2
   ·exact nn _ (.inr (.inr (.inl n5))) h3
  ·simp[h21,h31,h32]
theorem VR (m:M K mg):Kc P w K mg base "Net" m.aV 1 [] (v3 K):=⟨_,_,_,_,m.aDZ,m.aDf,.nil,m.nD.b,DD m⟩
abbrev O2 (h a1 a2 n a3 a4:Addr)(u pl:Int):List (Str×V):=bQ "plenty" (.int pl) (bQ "door_arcs" (.ref a4) (bQ "pair_nodes" (.ref a3) (bQ "source" (.int 0) (bQ "net" (.ref n) (bQ "cuts" (.ref a2) (bQ "outs" (.ref a1) (bQ "turn" (.int u) (bQ "house" (.ref h) []))))))))
structure HNAt where
 dx:Addr
 h:Addr
 a1:Addr
 a2:Addr
 n:Addr
 a3:Addr
 a4:Addr
 np:List Addr
def HNAt.fp (x:HNAt)(hn:Addr):List Addr:=hn::x.a1::x.a2::x.a3::x.a4::x.np
inductive HNE (CN CH:Addr)(H:Hp)(hn:Addr)(x:HNAt)(u pl:Int)(outs:List Int)(cv:List V)(pk dk:List (List Key×V))(ts sp:List Int)(as:List (List Int)):Prop
 | mk (_:H hn=some (.ins CH x.dx (O2 x.h x.a1 x.a2 x.n x.a3 x.a4 u pl))) (_:H x.a1=some (.lst (outs.map V.int))) (_:H x.a2=some (.lst cv)) (_:H x.a3=some (.dT pk)) (_:H x.a4=some (.dT dk)) (_:NetE CN H x.n x.np ts sp as) (_:x.a3≠x.a4) (_:x.a1≠x.a2) (_:x.a1∉x.np) (_:x.a2∉x.np) (_:x.n≠hn):HNE CN CH H hn x u pl outs cv pk dk ts sp as
theorem HNE.same {CN CH:Addr}{H H':Hp}{hn:Addr}{x:HNAt}{u pl:Int}{outs:List Int}{cv:List V}{pk dk:List (List Key×V)}{ts sp:List Int}{as:List (List Int)} (h:HNE CN CH H hn x u pl outs cv pk dk ts sp as) (s:Same H H'):HNE CN CH H' hn x u pl outs cv pk dk ts sp as:=by
 walk_at"g1";obtain⟨e0,e1,e2,e3,e4,e5,d1,d2,d3,d4,d5⟩:=h;walk_at"g2";exact⟨s _ _ e0,s _ _ e1,s _ _ e2,s _ _ e3,s _ _ e4,e5.same s,d1,d2,d3,d4,d5⟩
theorem zQ {C:Addr}{H:Hp}{n:Addr}{fp:List Addr}{ts sp:List Int}{as:List (List Int)} (x:NetE C H n fp ts sp as) {b:Addr} (hb:b∈fp):∃xs,H b=some (.lst xs):=by
 walk_at"g1";obtain⟨dx,q1,q2,q3,rs,ef,e0,e1,e2,e3,e4,e5⟩:=x;walk_at"g2";subst ef;rcases List.mem_cons.mp hb with rfl|hb
 ·exact⟨_,e1⟩
 ·rcases List.mem_cons.mp hb with rfl|hb
  ·exact⟨_,e2⟩
  ·rcases List.mem_cons.mp hb with rfl|hb
   ·exact⟨_,e3⟩
   ·obtain⟨a,_,ha⟩:=fS e4 hb;exact⟨_,ha⟩
theorem HNE.net {CN CH:Addr}{H H':Hp}{hn:Addr}{x:HNAt}{u pl:Int}{outs:List Int}{cv:List V}{pk dk:List (List Key×V)}{ts sp ts' sp':List Int}{as as':List (List Int)} (h:HNE CN CH H hn x u pl outs cv pk dk ts sp as) (f:Frm x.np H H') (ne:NetE CN H' x.n x.np ts' sp' as'):HNE CN CH H' hn x u pl outs cv pk dk ts' sp' as':=by
 walk_at"g1";obtain⟨e0,e1,e2,e3,e4,e5,d1,d2,d3,d4,d5⟩:=h;walk_at"g2";have k:∀b u,H b=some u->(∀xs,u≠ .lst xs)->b∉x.np:=fun b u e hu z=>by
  obtain⟨xs,hx⟩:=zQ e5 z;rw[hx]at e;exact hu xs (Option.some.inj e).symm
 exact⟨f _ _ e0 (k _ _ e0 fun _ z=>nomatch z),f _ _ e1 d3,f _ _ e2 d4,f _ _ e3 (k _ _ e3 fun _ z=>nomatch z),f _ _ e4 (k _ _ e4 fun _ z=>nomatch z),ne,d1,d2,d3,d4,d5⟩
theorem HNE.net2 {CN CH:Addr}{H H':Hp}{hn:Addr}{x:HNAt}{np':List Addr}{u pl:Int}{outs:List Int}{cv:List V}{pk dk:List (List Key×V)}{ts sp ts' sp':List Int}{as as':List (List Int)} (h:HNE CN CH H hn x u pl outs cv pk dk ts sp as) (f:Frm x.np H H') (hn':∀b∈np',b∈x.np∨H b=none) (ne:NetE CN H' x.n np' ts' sp' as'):HNE CN CH H' hn { x with np:=np' } u pl outs cv pk dk ts' sp' as':=by
 walk_at"g1";obtain⟨e0,e1,e2,e3,e4,e5,d1,d2,d3,d4,d5⟩:=h;walk_at"g2";have k:∀b u,H b=some u->(∀xs,u≠ .lst xs)->b∉x.np:=fun b u e hu z=>by
  obtain⟨xs,hx⟩:=zQ e5 z;rw[hx]at e;exact hu xs (Option.some.inj e).symm
 have k2:∀b u,H b=some u->b∉x.np->b∉np':=fun b u e hb z=>by
  rcases hn' b z with h|h
  ·exact hb h
  ·rw[e]at h;cases h
 exact⟨f _ _ e0 (k _ _ e0 fun _ z=>nomatch z),f _ _ e1 d3,f _ _ e2 d4,f _ _ e3 (k _ _ e3 fun _ z=>nomatch z),f _ _ e4 (k _ _ e4 fun _ z=>nomatch z),ne,d1,d2,k2 _ _ e1 d3,k2 _ _ e2 d4,d5⟩
inductive zH (CN CH:Addr)(vs:List V)(H:Hp)(Q:VK)(E:XK):Prop
 | mk (hn:Addr) (z:Str) (v:Int) (x:HNAt) (u pl:Int) (outs:List Int) (cv:List V) (pk dk:List (List Key×V)) (ts sp:List Int) (as:List (List Int)) (_:vs=[.ref hn,.str z]) (_:HNE CN CH H hn x u pl outs cv pk dk ts sp as) (_:aY pk [.inr z,.inl u]=some (.int v)) (_:∀H',Same H H'->Q (.int v) H'):zH CN CH vs H Q E
theorem xV (m:M K mg):FnOk P w K mg base CX0 1 m.jC m.jE.d ["self","room"] (zH m.aV m.aP):=by
 refine m.jE.F.ok sc_HouseNet_now_in (fun vs H Q E h=> ?_) (fun cdv A outer s H vs Q E hr h=> ?_)
 ·walk_at"g1";obtain⟨hn,z,v,x,u,pl,outs,cv,pk,dk,ts,sp,as,rfl,hh,hv,k⟩:=h;walk_at"g2";rfl
 ·walk_at"g1";obtain⟨hn,z,v,x,u,pl,outs,cv,pk,dk,ts,sp,as,rfl,hh,hv,k⟩:=h;walk_at"g2";have nd:=sc_HouseNet_now_in.nd;walk_at"hu";have w_dc_HouseNet:=m.bJ;refine⟨_,(aE (aR (fK hu1 (aI (pv 0) rfl) (c9 (aA (pv 1) (aA (aI (pv 0) rfl) aC))) (fun _ _=>rfl)))),?_⟩;refine aJ (σ:=[some (.ref hn),some (.str z)]) rfl ?_;walk_at"cx";walk_at"g1";obtain⟨e0,e1,e2,e3,e4,e5,d1,d2,d3,d4,d5⟩:=hh;walk_at"g2";walk_at"go";rename_i q H1 n1 S1 f1;exact WK [.inr z,.inl u] (.inl (S1 _ _ e3)) f1 hv (k _ S1)
theorem iC (m:M K mg):Mc P w K mg base m.aP "now_in" 1 (zH m.aV m.aP):=⟨_,_,_,m.bJ.ic.cl,m.yV,m.jE.b,xV m⟩
inductive zD (CN CH CHo:Addr)(D:bF)(vs:List V)(H:Hp)(Q:VK)(E:XK):Prop
 | mk (hn:Addr) (dv:V) (d:aG) (tn sn:Nat) (f l:Int) (rz ps:List (Str×Int)) (ds:List aG) (H0:Hp) (x:HNAt) (u pl:Int) (outs:List Int) (cv:List V) (pk dk:List (List Key×V)) (ts sp:List Int) (as:List (List Int)) (_:vs=[.ref hn,dv,.int (tn:Int)]) (_:HNE CN CH H hn x u pl outs cv pk dk ts sp as) (_:bO CHo D H0 x.h f l rz ps ds) (_:Same H0 H) (_:(∀b∈x.fp hn,H0 b=none)) (_:(ds.map (·.1)).Nodup) (_:d∈ds) (_:D.at' H dv d) (_:f<=u) (_:u<l) (_:0<=f) (_:aY pk [.inr d.2.1,.inl u]=some (.int (sn:Int))) (_:sn<as.length) (_:tn<as.length) (_:ts.length<90000) (_:sp.length<90000) (_:(∀a∈as,a.length<90000)) (_:dk.length<90000) (_:∀H',Frm (x.fp hn) H H'->HNE CN CH H' hn x u pl outs cv pk (cC dk [.inl u,.inr d.1] (.int (ts.length:Int))) (ts++[(tn:Int),(sn:Int)]) (sp++[c7 f l d u,0]) (eX (eX as sn (ts.length:Int)) tn ((ts.length:Int)+1))->Q .non H'):zD CN CH CHo D vs H Q E
theorem vC (m:M K mg):FnOk P w K mg base CX0 8 m.gW m.g6.d ["self","door","target"] (zD m.aV m.aP m.aM (aS P w K mg base (some 4))):=by
 refine m.g6.F.ok sc_HouseNet_add_door (fun vs H Q E h=> ?_) (fun cdv A outer s H vs Q E hr h=> ?_)
 ·walk_at"g1";obtain⟨hn,dv,d,tn,sn,f,l,rz,ps,ds,H0,x,u,pl,outs,cv,pk,dk,ts,sp,as,rfl,hh,ho,hS,hfr,ndd,hd,hdv,hu0',hu1',hf0,hpv,hsn,htn,hl1,hl2,hl3,hl4,k⟩:=h;walk_at"g2";rfl
 ·walk_at"g1";obtain⟨hn,dv,d,tn,sn,f,l,rz,ps,ds,H0,x,u,pl,outs,cv,pk,dk,ts,sp,as,rfl,hh,ho,hS,hfr,ndd,hd,hdv,hu0',hu1',hf0,hpv,hsn,htn,hl1,hl2,hl3,hl4,k⟩:=h;walk_at"g2";have nd:=sc_HouseNet_add_door.nd;walk_at"hu";have w_dc_HouseNet:=m.bJ;refine⟨_,(aB (aO (i:=3) nd rfl (by walk_at"oi") (cO 6 hr (aI (pv 0) rfl) (aA (aI (pv 1) rfl) (aA (aI (pv 0) rfl) aC))))
   (aE (iN hu1 (aI (pv 0) rfl) (c9 (aA (aI (pv 0) rfl) (aA (aI (pv 1) rfl) aC))) (cO 1 hr (aI (pv 0) rfl) (aA (cO 1 hr (pv 0) (aA (aI (pv 1) rfl) aC)) (aA (pv 2) (aA (pv 3) aC)))) rfl))),?_⟩
  refine aJ (σ:=[some (.ref hn),some (dv),some (.int (tn:Int)),none]) rfl ?_;walk_at"cx";walk_at"g1";obtain⟨e0,e1,e2,e3,e4,e5,d1,d2,d3,d4,d5⟩:=hh;walk_at"g2";walk_at"g1";obtain⟨dn,dst,de,dlt⟩:=d;walk_at"g2";walk_at"g1";obtain⟨q,C9,dx',fs,fp,rfl,hq,dcC,l1,l2,l3,l4,l5,mcE,hfp,hlt⟩:=DoorAt.ex hdv;walk_at"g2";have M1:= @G3 P w K mg base m;have M2:= @iC P w K mg base m;have M3:= @fL P w K mg base m;have hqH:=hq;walk_at"g1";obtain⟨hdx,hqs,hqp,hqd,hnk,hkvs,ho1,_⟩:=ho.ex;walk_at"g2";have ho1H:=hS _ _ ho1;walk_at"g1";obtain⟨ndx,n1',n2',n3',nrs,nef,ne0,_⟩:=id e5;walk_at"g2";have hh:HNE m.aV m.aP H hn x u pl outs cv pk dk ts sp as:=⟨e0,e1,e2,e3,e4,e5,d1,d2,d3,d4,d5⟩
  walk_at"go";refine aAP (d:=(dn,dst,de,dlt)) (vH ho hS) ndd hd hf0 fun H1 S1=> ?_;have g0:=S1 _ _ e0;have gq:=S1 _ _ hqH;have gn:=S1 _ _ ne0;walk_at"go";refine⟨hn,dst,(sn:Int),x,u,pl,outs,cv,pk,dk,ts,sp,as,rfl,hh.same S1,hpv,fun H2 S2=> ?_⟩;have s2:=S1.trans S2;have hh2:=hh.same s2;walk_at"go";refine⟨x.n,sn,tn,c7 f l (dn,dst,de,dlt) u,x.np,ts,sp,as,rfl,e5.same s2,hsn,htn,by lia,by lia,fun a ha=>by have:=hl3 a ha;lia,fun H3 fr3 ne3=> ?_⟩;have hh3:=hh2.net fr3 ne3;walk_at"g1";obtain⟨i0,i1,i2,i3,i4,i5,_⟩:=id hh3;walk_at"g2";have hq3:H3 q=some (.ins C9 dx' fs):=fr3 _ _ (S2 _ _ gq) fun z=>by
   obtain⟨xs,hx⟩:=zQ (e5.same s2) z;rw[S2 _ _ gq]at hx;cases hx
  walk_at"go";rename_i r H4 n4 S4 f4;refine vF [.inl u,.inr dn] (S4 _ _ i4) f4 (by rw[sizeLine_eq];lia) fun H5 B5 f5=> ?_;have hb:∀b v,H3 b=some v->b≠x.a4->H5 b=some v:=fun b v e hb=>B5 _ _ (S4 _ _ e) hb;have nl:∀b xs,H3 b=some (.lst xs)->b≠x.a4:=fun b xs e z=>by rw[z,i4]at e;cases e
  refine k H5 (fun b v e hbf=> ?_) ⟨hb _ _ i0 (fun z=>by rw[z,i4]at i0;cases i0),hb _ _ i1 (nl _ _ i1),hb _ _ i2 (nl _ _ i2),hb _ _ i3 d1,f5,?_,d1,d2,d3,d4,d5⟩
  ·have h4:b≠x.a4:=fun z=>hbf (by unfold HNAt.fp;rw[z];exact List.mem_cons_of_mem _ (List.mem_cons_of_mem _ (List.mem_cons_of_mem _ (List.mem_cons_of_mem _ (.head _)))));refine hb _ _ (fr3 _ _ (s2 _ _ e) fun z=>hbf ?_) h4;unfold HNAt.fp;exact List.mem_cons_of_mem _ (List.mem_cons_of_mem _ (List.mem_cons_of_mem _ (List.mem_cons_of_mem _ (List.mem_cons_of_mem _ z))))
  ·walk_at"g1";obtain⟨c0,c1,c2,c3,crs,cef,y0,y1,y2,y3,y4,y5⟩:=ne3;walk_at"g2";exact⟨c0,c1,c2,c3,crs,cef,hb _ _ y0 (fun z=>by rw[z,i4]at y0;cases y0),hb _ _ y1 (nl _ _ y1),hb _ _ y2 (nl _ _ y2),hb _ _ y3 (nl _ _ y3),dU y4 fun b c _ h=>hb _ _ h (nl _ _ h),y5⟩
theorem lC (m:M K mg):Mc P w K mg base m.aP "add_door" 8 (zD m.aV m.aP m.aM (aS P w K mg base (some 4))):=⟨_,_,_,m.bJ.ic.cl,m.wV,m.g6.b,vC m⟩
theorem jY {a b:List Int}{k:Nat} (h:k<a.length):at0 (a++b) k=at0 a k:=by
 unfold at0;rw[List.getD_eq_getElem?_getD,List.getD_eq_getElem?_getD,List.getElem?_append_left h]
theorem kO {a b:List Int}{k:Nat} (h:a.length<=k):at0 (a++b) k=at0 b (k - a.length):=by
 unfold at0;rw[List.getD_eq_getElem?_getD,List.getD_eq_getElem?_getD,List.getElem?_append_right h]
theorem aAc {a:List Int}{k:Nat} (h:a.length<=k):at0 a k=0:=by
 unfold at0;rw[List.getD_eq_getElem?_getD,List.getElem?_eq_none h];rfl
theorem aA5 {ts sp:List Int}{n:Nat} (ht:ts.length=2 * n) (hs:sp.length=2 * n) (a b c v:Int):cR (ts++[a,b]) (sp++[c,0]) v (n+1)=cR ts sp v n:=by
 show cR (ts++[a,b]) (sp++[c,0]) v n+_=_;have e:at0 (sp++[c,0]) (2 * n+1)=0:=by rw[kO (by lia),show 2 * n+1 - sp.length=1 by lia];rfl
 rw[e,CJ (ts':=ts) (sp':=sp) n fun m hm=>⟨jY (by lia),jY (by lia),jY (by lia)⟩]
 split<;>split<;>lia
theorem aBn {sp:List Int}(h:∀m,0<=at0 sp m){c:Int}(hc:0<=c)(m:Nat):0<=at0 (sp++[c,0]) m:=by
 by_cases h1:m<sp.length
 ·rw[jY h1];exact h m
 ·rw[kO (by lia)]
  match hk:m - sp.length with
  | 0=>exact hc
  | 1=>exact Int.le_refl _
  | k+2=>exact Int.le_refl _
theorem EM (as:List (List Int))(i j:Nat)(x:Int):(eX as i x)[j]? =if i=j then (as[j]?).map (·++[x]) else as[j]? :=by
 unfold eX;rw[List.getElem?_modify]
 by_cases h:i=j
 ·rw[if_pos h];cases as[j]? with
  | none=>rfl
  | some a=>show some (if i=j then a++[x] else a)=some (a++[x]);rw[if_pos h]
 ·rw[if_neg h];cases as[j]? with
  | none=>rfl
  | some a=>show some (if i=j then a++[x] else a)=some a;rw[if_neg h]
theorem NetOk.node {ts sp:List Int}{as:List (List Int)} (x:NetOk ts sp as) (h:as.length+1<100000):NetOk ts sp (as++[[]]):=by
 refine⟨x.len,x.eq,fun k hk=> ?_,fun u a ha y hy=> ?_,fun k u a hk hu ha=> ?_,by rw[List.length_append];exact h,x.l1⟩
 ·obtain⟨v,h1,h2⟩:=x.nd k hk;exact⟨v,h1,by rw[List.length_append];lia⟩
 ·by_cases hl:u<as.length
  ·rw[List.getElem?_append_left hl]at ha;exact x.inn u a ha y hy
  ·rw[List.getElem?_append_right (by lia)]at ha;have:a=[]:=by
    cases hk:u - as.length with
    | zero=>rw[hk]at ha;exact(Option.some.inj ha).symm
    | succ m=>rw[hk]at ha;simp at ha
   rw[this]at hy;exact nomatch hy
 ·by_cases hl:u<as.length
  ·rw[List.getElem?_append_left hl]at ha;exact x.all k u a hk hu ha
  ·obtain⟨n,hn⟩:=x.len;obtain⟨v,h1,h2⟩:=x.nd (xr k) (by rw[hn]at hk ⊢;exact CS hk);rw[hu]at h1
   lia
theorem NetOk.arc {ts sp:List Int}{as:List (List Int)} (x:NetOk ts sp as) {s t:Nat} (hs:s<as.length) (ht:t<as.length) (hl:ts.length+2<100000) (c:Int):NetOk (ts++[(t:Int),(s:Int)]) (sp++[c,0]) (eX (eX as s (ts.length:Int)) t ((ts.length:Int)+1)):=by
 obtain⟨n,hn⟩:=x.len;have h0:at0 (ts++[(t:Int),(s:Int)]) (2 * n)=(t:Int):=by rw[kO (by lia),show 2 * n - ts.length=0 by lia];rfl
 have h1:at0 (ts++[(t:Int),(s:Int)]) (2 * n+1)=(s:Int):=by rw[kO (by lia),show 2 * n+1 - ts.length=1 by lia];rfl
 have x0:xr (2 * n)=2 * n+1:=by unfold xr;rw[if_pos (by lia)]
 have x1:xr (2 * n+1)=2 * n:=by unfold xr;rw[if_neg (by lia)];lia
 have hlen:(ts++[(t:Int),(s:Int)]).length=2 * (n+1):=by rw[List.length_append];show ts.length+2=_;lia
 have hold:∀k,k<ts.length->at0 (ts++[(t:Int),(s:Int)]) k=at0 ts k:=fun k hk=>jY hk;have hxo:∀k,k<ts.length->at0 (ts++[(t:Int),(s:Int)]) (xr k)=at0 ts (xr k):=fun k hk=>hold _ (by rw[hn]at hk ⊢;exact CS hk);have hget:∀u,(eX (eX as s (ts.length:Int)) t ((ts.length:Int)+1))[u]? =(as[u]?).map fun a=>(a++if s=u then [(ts.length:Int)] else [])++if t=u then [(ts.length:Int)+1] else []:=fun u=>by
  rw[EM,EM];cases as[u]? with
  | none=>split<;>split<;>rfl
  | some a =>
   by_cases h2:t=u
   ·by_cases h3:s=u
    ·simp[h2,h3]
    ·simp[h2,h3]
   ·by_cases h3:s=u
    ·simp[h2,h3]
    ·simp[h2,h3]
 have hpl:(eX (eX as s (ts.length:Int)) t ((ts.length:Int)+1)).length=as.length:=by rw[qH,qH]
 refine⟨⟨n+1,hlen⟩,by rw[List.length_append,List.length_append,x.eq];rfl,fun k hk=> ?_,fun u a ha y hy=> ?_,fun k u a hk hu ha=> ?_,by rw[hpl];exact x.l0,by rw[hlen];lia⟩
 ·rw[hpl]
  by_cases hk':k<ts.length
  ·rw[hold k hk'];exact x.nd k hk'
  ·rw[hlen]at hk
   by_cases e:k=2 * n
   ·rw[e,h0];exact⟨t,rfl,ht⟩
   ·rw[show k=2 * n+1 by lia,h1];exact⟨s,rfl,hs⟩
 ·rw[hget]at ha;obtain⟨b,hb,rfl⟩:=Option.map_eq_some_iff.mp ha;rcases List.mem_append.mp hy with hy|hy
  ·rcases List.mem_append.mp hy with hy|hy
   ·walk_at"g1";obtain⟨k,rfl,hk,hx⟩:=x.inn u b hb y hy;walk_at"g2";exact⟨k,rfl,by rw[List.length_append];lia,by rw[hxo k hk];exact hx⟩
   ·by_cases h3:s=u
    ·rw[if_pos h3]at hy;refine⟨2 * n,by have:=List.mem_singleton.mp hy;lia,by rw[hlen];lia,?_⟩;rw[x0,h1,h3]
    ·rw[if_neg h3]at hy;exact nomatch hy
  ·by_cases h2:t=u
   ·rw[if_pos h2]at hy;refine⟨2 * n+1,by have:=List.mem_singleton.mp hy;lia,by rw[hlen];lia,?_⟩;rw[x1,h0,h2]
   ·rw[if_neg h2]at hy;exact nomatch hy
 ·rw[hget]at ha;obtain⟨b,hb,rfl⟩:=Option.map_eq_some_iff.mp ha
  by_cases hk':k<ts.length
  ·rw[hxo k hk']at hu;exact List.mem_append_left _ (List.mem_append_left _ (x.all k u b hk' hu hb))
  ·rw[hlen]at hk
   by_cases e:k=2 * n
   ·subst e;rw[x0,h1]at hu;rw[if_pos (show s=u by lia),hn];exact List.mem_append_left _ (List.mem_append_right _ (.head _))
   ·have e:k=2 * n+1:=by lia
    subst e;rw[x1,h0]at hu;rw[if_pos (show t=u by lia),hn];exact List.mem_append_right _ (.head _)
abbrev Arc:=Nat×Nat×Int
def cQ:List Arc->List Int
 | []=>[]
 | a::l=>(a.2.1:Int)::(a.1:Int)::cQ l
theorem hO:∀L:List Arc,(cQ L).length=2 * L.length
 | []=>rfl
 | a::l=>by
  show (cQ l).length+1+1=_;rw[hO l,List.length_cons];lia
theorem nU (a:Arc):∀L:List Arc,cQ (L++[a])=cQ L++[(a.2.1:Int),(a.1:Int)]
 | []=>rfl
 | b::l=>by
  show _::_::cQ (l++[a])=_::_::(cQ l++_);rw[nU a l]
theorem E3:∀{L:List Arc}{j:Nat}{a:Arc},L[j]? =some a->at0 (cQ L) (2 * j)=(a.2.1:Int)/\at0 (cQ L) (2 * j+1)=(a.1:Int)
 | [],_,_,h=>by simp at h
 | b::l,0,a,h=>by
  have e:b=a:=by simpa using h
  subst e;exact⟨rfl,rfl⟩
 | b::l,j+1,a,h=>by
  have ih:=E3 (L:=l) (j:=j) (a:=a) (by simpa using h);exact ih
def CapOk (sp:List Int)(L:List Arc):Prop:=∀(j:Nat) (a:Arc),L[j]? =some a->at0 sp (2 * j)+at0 sp (2 * j+1)=a.2.2
theorem CapOk.snoc {sp:List Int}{L:List Arc} (h:CapOk sp L) (hl:sp.length=2 * L.length) (a:Arc):CapOk (sp++[a.2.2,0]) (L++[a]):=fun j b hb=>by
 by_cases hj:j<L.length
 ·rw[List.getElem?_append_left hj]at hb;rw[jY (by lia),jY (by lia)];exact h j b hb
 ·have he:j=L.length:=by
   have:=(List.getElem?_eq_some_iff.mp hb).1;rw[List.length_append]at this;have:j<L.length+1:=this
   lia
  subst he;rw[List.getElem?_append_right (Nat.le_refl _),Nat.sub_self]at hb;have hb:a=b:=Option.some.inj hb;rw[kO (by lia),kO (by lia),show 2 * L.length - sp.length=0 by lia,show 2 * L.length+1 - sp.length=1 by lia,←hb];show a.2.2+0=_
  lia
theorem CapOk.sent {ts sp sp':List Int}{n:Nat}{s t x:Int}{L:List Arc} (h:CapOk sp L) (y:Sent ts sp sp' n s t x):CapOk sp' L:=fun j a ha=>by
 have h1:=y.cap (2 * j);rw[show xr (2 * j)=2 * j+1 by unfold xr;rw[if_pos (by lia)]]at h1;rw[h1];exact h j a ha
def J3 (rs:List Int)(a:Arc):Int:=if (a.1:Int)∈rs/\(a.2.1:Int)∉rs then a.2.2 else 0
theorem xR {sp rs:List Int}{L:List Arc} (h:CapOk sp L):∀n,n<=L.length->vL (cQ L) sp rs n=((L.take n).map (J3 rs)).sum
 | 0,_=>rfl
 | n+1,hn=>by
  obtain⟨a,ha⟩:∃a,L[n]? =some a:=⟨_,List.getElem?_eq_getElem (by lia)⟩
  obtain⟨h1,h2⟩:=E3 ha;rw[xN,xR h n (by lia),aT ha,List.map_append,List.sum_append,h1,h2,h n a ha];show _+_=_+(J3 rs a+0);unfold J3;rw[Int.add_zero]
inductive sW (CN CH:Addr)(vs:List V)(H:Hp)(Q:VK)(E:XK):Prop
 | mk (hn:Addr) (x:HNAt) (u pl:Int) (outs:List Int) (cv:List V) (pk dk:List (List Key×V)) (ts sp:List Int) (as:List (List Int)) (_:vs=[.ref hn]) (_:HNE CN CH H hn x u pl outs cv pk dk ts sp as) (_:NetOk ts sp as) (_:0<as.length) (_:pk.length<64) (_:(∀e∈pk,∃(z:Str) (t v:Int),e=([.inr z,.inl t],.int v))) (_:∀q vs H',H q=none->Same H H'->H' q=some (.lst vs)->Q (.ref q) H'):sW CN CH vs H Q E
theorem pJ (m:M K mg):FnOk P w K mg base CX0 2 m.eF m.eE.d ["self"] (sW m.aV m.aP):=by
 refine m.eE.F.ok sc_HouseNet_reached_pairs (fun vs H Q E h=> ?_) (fun cdv A outer s H vs Q E hr h=> ?_)
 ·walk_at"g1";obtain⟨hn,x,u,pl,outs,cv,pk,dk,ts,sp,as,rfl,hh,ok,ha0,hp64,hpk,k⟩:=h;walk_at"g2";rfl
 ·walk_at"g1";obtain⟨hn,x,u,pl,outs,cv,pk,dk,ts,sp,as,rfl,hh,ok,ha0,hp64,hpk,k⟩:=h;walk_at"g2";have nd:=sc_HouseNet_reached_pairs.nd;walk_at"hu";have w_dc_HouseNet:=m.bJ;refine⟨_,(aB (aO (i:=1) nd rfl (by walk_at"oi") (cO 1 hr (aI (pv 0) rfl) (aA (aI (pv 0) rfl) aC)))
   (aE (aR (bH yH rfl m.LB GE (aA (EK (c6 (N:=["pair","node","ways"]) (nl:=2) (ci:=[1]) rfl (blk (s.heap.objs.size+1) rfl rfl rfl (by kernel_rfl)) (xK (aI (pv 0) rfl)) (fun _ _ _ _=>(kM (K:=K) (n:=2) rfl (aX (aN (i:=0) (show (["pair","node","ways"]:List Str).Nodup by decide +kernel) rfl (by walk_at"oi")) (aX (aN (i:=1) (show (["pair","node","ways"]:List Str).Nodup by decide +kernel) rfl (by walk_at"oi")) dR)))) (fun _ _ _ _=>(qP (uO (KH hu1 (pv 1) (pv 2)) (by with_unfolding_all rfl)))) (fun _ _ _ _=>(pv 0)))) aC))))),?_⟩
  refine aJ (σ:=[some (.ref hn),none]) rfl ?_;walk_at"cx";walk_at"g1";obtain⟨e0,e1,e2,e3,e4,e5,d1,d2,d3,d4,d5⟩:=id hh;walk_at"g2";have M1:= @qQ P w K mg base m;walk_at"g1";obtain⟨ndx,n1',n2',n3',nrs,nef,ne0,_⟩:=id e5;walk_at"g2";walk_at"go";refine⟨x.n,0,x.np,ts,sp,as,rfl,e5,ok,ha0,fun d ws H1 n1 S1 f1 w c1=> ?_⟩;have g0:=S1 _ _ e0;have g3:=S1 _ _ e3;walk_at"go";refine BC g3 (fun _ _ z=>nomatch z) ?_;walk_at"go";refine xX g3 fun o H2 B2 f2=> ?_;have hda:d≠x.a3:=fun z=>by rw[z,e3]at n1;cases n1
  have fd:=B2 _ _ f1 hda;refine JZ (fun e=>match e.2 with| .int v=>decide (v∈((0:Nat):Int)::ws.map (·.1))|_=>false) (fun e y H=>∃q,y= .ref q/\H q=some (.tup (e.1.map kV))) (fun _ _ _ _ ⟨q,h1,h2⟩ s=>⟨q,h1,s _ _ h2⟩) (by rw[sizeLine_eq];lia) (rest:=[some (.ref d)]) (by rfl) f2 ?_ ?_ ?_
  ·rintro ⟨kk,v⟩ H3 q hm s3 hq R hR;walk_at"g1";obtain⟨z,t,v',e⟩:=hpk _ hm;walk_at"g2";cases e;walk_at"go";refine NN (.inl (s3 _ _ fd)) ?_;rw[vB];walk_at"go";exact hR _ (Same.refl _)
  ·rintro ⟨kk,v⟩ H3 q hm - s3 hq R hR;walk_at"go";exact hR _ _ ⟨q,rfl,hq⟩ (Same.refl _)
  intro ys H3 s3 hys;walk_at"go";rename_i p4 H4 n4 S4 f4;refine sM (S4 _ _ (s3 _ _ f2)) fun H5 B5 f5=> ?_;have hp4:p4≠x.a3:=fun z=>by rw[z,s3 _ _ f2]at n4;cases n4
  have s5:Same H H5:=fun b v e=>by
   by_cases hb:b=x.a3
   ·rw[hb]at e ⊢;rw[e3]at e;rw[f5,←e]
   ·exact B5 _ _ (S4 _ _ (s3 _ _ (B2 _ _ (S1 _ _ e) hb))) hb
  have kr:∀{es:List (List Key×V)}{zs:List V},Paired (fun e y=>∃q,y= .ref q/\H3 q=some (.tup (e.1.map kV))) es zs->KRows H5 zs (es.map (·.1)):=fun {es zs} h=>by
   induction h with
   | nil=>exact .nil
   | cons h t ih =>
    obtain⟨q,e,hq⟩:=h;exact .cons ⟨q,e,B5 _ _ (S4 _ _ hq) fun z=>by rw[z,s3 _ _ f2]at hq;cases hq⟩ ih
  walk_at"go";refine IG (SqL.of (B5 _ _ f4 hp4)) (kr hys) ?_ (sh:=[eU (.inr ⟨#[]⟩),eU (.inl 0)]) (fun rr hrr=> ?_) (fun z=>nomatch z) fun l2 ws2 H6 n6 S6 f6 _=> ?_
  ·rw[←Paired.length hys];exact Nat.lt_of_le_of_lt (List.length_filter_le _ _) hp64
  ·obtain⟨e,he,rfl⟩:=List.mem_map.mp hrr;walk_at"g1";obtain⟨z,t,v',rfl⟩:=hpk e (List.mem_filter.mp he).1;walk_at"g2";rfl
  ·walk_at"go";exact k l2 ws2 H6 (by
    cases h:H l2 with
    | none=>rfl
    | some v=>rw[s5 _ _ h]at n6;cases n6) (s5.trans S6) f6
theorem pC (m:M K mg):Mc P w K mg base m.aP "reached_pairs" 2 (sW m.aV m.aP):=⟨_,_,_,m.bJ.ic.cl,m.pQ,m.eE.b,pJ m⟩
theorem JM {as:List (List Int)}{i:Nat}{x:Int}{N:Nat} (h:∀a∈as,a.length<N):∀a∈eX as i x,a.length<N+1:=fun a ha=>by
 obtain⟨j,hj⟩:=List.mem_iff_getElem?.mp ha;rw[EM]at hj
 by_cases e:i=j
 ·rw[if_pos e]at hj;obtain⟨b,hb,rfl⟩:=Option.map_eq_some_iff.mp hj;have:=h b (List.mem_of_getElem? hb);rw[List.length_append];show b.length+1<_
  lia
 ·rw[if_neg e]at hj;have:=h a (List.mem_of_getElem? hj)
  lia
structure NS (L:List Arc)(sp:List Int)(as:List (List Int))(N:Nat):Prop where
 ok:NetOk (cQ L) sp as
 cap:CapOk sp L
 nn:∀m,0<=at0 sp m
 len:as.length=N
 aa:∀a∈as,a.length<=2 * L.length
def cD (L:List Arc)(sp:List Int)(v:Int):Int:=cR (cQ L) sp v L.length
theorem NS.splen {L:List Arc}{sp:List Int}{as:List (List Int)}{N:Nat} (x:NS L sp as N):sp.length=2 * L.length:=by rw[x.ok.eq,hO]
theorem NS.node {L:List Arc}{sp:List Int}{as:List (List Int)}{N:Nat} (x:NS L sp as N) (h:N+1<100000):NS L sp (as++[[]]) (N+1):=by
 have hl:=x.len;refine⟨x.ok.node (by lia),x.cap,x.nn,by rw[List.length_append,hl];rfl,fun a ha=> ?_⟩;rcases List.mem_append.mp ha with h|h
 ·exact x.aa a h
 ·rw[List.mem_singleton.mp h];exact Nat.zero_le _
theorem NS.arc {L:List Arc}{sp:List Int}{as:List (List Int)}{N:Nat} (x:NS L sp as N) {s t:Nat}{c:Int} (hs:s<N) (ht:t<N) (hc:0<=c) (hL:L.length<40000):NS (L++[(s,t,c)]) (sp++[c,0]) (eX (eX as s ((cQ L).length:Int)) t (((cQ L).length:Int)+1)) N:=by
 have hl:=x.len;have ht':=hO L;refine⟨?_,x.cap.snoc x.splen (s,t,c),aBn x.nn hc,by rw[qH,qH];exact hl,fun a ha=> ?_⟩
 ·rw[nU];exact x.ok.arc (s:=s) (t:=t) (by lia) (by lia) (by lia) c
 ·have h:=JM (JM (N:=2 * L.length+1) (fun a ha=>Nat.lt_succ_of_le (x.aa a ha))) a ha;rw[List.length_append];show _<=2 * (_+1)
  lia
theorem NS.exc {L:List Arc}{sp:List Int}{as:List (List Int)}{N:Nat} (x:NS L sp as N) (s t:Nat) (c v:Int):cD (L++[(s,t,c)]) (sp++[c,0]) v=cD L sp v:=by
 unfold cD;rw[nU,List.length_append];exact aA5 (hO L) x.splen _ _ _ v
theorem NS.sent {L:List Arc}{sp sp':List Int}{as:List (List Int)}{N:Nat}{s t y:Int} (x:NS L sp as N) (z:Sent (cQ L) sp sp' L.length s t y):NS L sp' as N:=⟨x.ok.sp z.len,x.cap.sent z,z.nn,x.len,x.aa⟩
structure HC (CHo:Addr)(D:bF)(H:Hp)(h:Addr)(f l:Int)(rz ps:List (Str×Int))(ds:List aG):Prop where
 at':bO CHo D H h f l rz ps ds
 nr:(rz.map (·.1)).Nodup
 nd:(ds.map (·.1)).Nodup
 din:∀d∈ds,iA (rz.map (·.1)) d
 lr:rz.length<=4
 ld:ds.length<=7
 f0:0<=f
 fl:f<=l
 fl7:l - f<=7
 l1:l<1000000000000
 let0:∀d∈ds,∀u,0<=u->0<=c7 f l d u
 rz0:∀e∈rz,0<=e.2
 ps0:∀z,0<=dD ps z
theorem HC.same {CHo:Addr}{D:bF}{H H':Hp}{h:Addr}{f l:Int}{rz ps:List (Str×Int)}{ds:List aG} (x:HC CHo D H h f l rz ps ds) (s:Same H H'):HC CHo D H' h f l rz ps ds:=⟨vH x.at' s,x.nr,x.nd,x.din,x.lr,x.ld,x.f0,x.fl,x.fl7,x.l1,x.let0,x.rz0,x.ps0⟩
inductive HNS (CN CH CHo:Addr)(D:bF)(H0 H:Hp)(hn:Addr)(x:HNAt)(f l:Int)(rz ps:List (Str×Int))(ds:List aG)(u pl:Int)(outs:List Int)(cv:List V)(pk dk:List (List Key×V))(L:List Arc)(sp:List Int)(N:Nat):Prop
 | mk (np:List Addr) (as:List (List Int)) (_:HNE CN CH H hn { x with np:=np } u pl outs cv pk dk (cQ L) sp as) (_:Same H0 H) (_:∀b∈HNAt.fp { x with np:=np } hn,H0 b=none) (_:NS L sp as N) (_:HC CHo D H0 x.h f l rz ps ds):HNS CN CH CHo D H0 H hn x f l rz ps ds u pl outs cv pk dk L sp N
theorem NetE.on {C:Addr}{H H':Hp}{n:Addr}{fp:List Addr}{ts sp:List Int}{as:List (List Int)} (x:NetE C H n fp ts sp as) {p:Addr} (s:SameBut p H H') (h1:n≠p) (h2:p∉fp):NetE C H' n fp ts sp as:=by
 walk_at"g1";obtain⟨dx,q1,q2,q3,rs,ef,e0,e1,e2,e3,e4,e5⟩:=x;walk_at"g2";subst ef;have k:∀b∈q1::q2::q3::rs,b≠p:=fun b hb z=>h2 (z▸hb);exact⟨dx,q1,q2,q3,rs,rfl,s _ _ e0 h1,s _ _ e1 (k _ (.head _)),s _ _ e2 (k _ (List.mem_cons_of_mem _ (.head _))),s _ _ e3 (k _ (List.mem_cons_of_mem _ (List.mem_cons_of_mem _ (.head _)))),dU e4 fun b c hb h=>s _ _ h (k _ (List.mem_cons_of_mem _ (List.mem_cons_of_mem _ (List.mem_cons_of_mem _ hb)))),e5⟩
section
variable {CN CH CHo:Addr}{D:bF}{H0 H H':Hp}{hn:Addr}{x:HNAt}{f l:Int}{rz ps:List (Str×Int)}{ds:List aG}{u pl:Int}{outs:List Int}{cv:List V}{pk dk pk' dk':List (List Key×V)}{L L':List Arc}{sp sp':List Int}{N N':Nat}
theorem HNS.same (y:HNS CN CH CHo D H0 H hn x f l rz ps ds u pl outs cv pk dk L sp N)(s:Same H H'):HNS CN CH CHo D H0 H' hn x f l rz ps ds u pl outs cv pk dk L sp N:=by
 walk_at"g1";obtain⟨np,as,e1,e2,e3,e4,e5⟩:=y;walk_at"g2";exact⟨np,as,e1.same s,e2.trans s,e3,e4,e5⟩
theorem HNS.hc (y:HNS CN CH CHo D H0 H hn x f l rz ps ds u pl outs cv pk dk L sp N):HC CHo D H0 x.h f l rz ps ds:=by
 walk_at"g1";obtain⟨np,as,e1,e2,e3,e4,e5⟩:=y;walk_at"g2";exact e5
theorem HNS.sm (y:HNS CN CH CHo D H0 H hn x f l rz ps ds u pl outs cv pk dk L sp N):Same H0 H:=by
 walk_at"g1";obtain⟨np,as,e1,e2,e3,e4,e5⟩:=y;walk_at"g2";exact e2
theorem HNS.hc' (y:HNS CN CH CHo D H0 H hn x f l rz ps ds u pl outs cv pk dk L sp N):HC CHo D H x.h f l rz ps ds:=y.hc.same y.sm
theorem HNS.ns (y:HNS CN CH CHo D H0 H hn x f l rz ps ds u pl outs cv pk dk L sp N):∃as,NS L sp as N:=by
 walk_at"g1";obtain⟨np,as,e1,e2,e3,e4,e5⟩:=y;walk_at"g2";exact⟨as,e4⟩
theorem HNS.exc (y:HNS CN CH CHo D H0 H hn x f l rz ps ds u pl outs cv pk dk L sp N)(s t:Nat)(c v:Int):cD (L++[(s,t,c)]) (sp++[c,0]) v=cD L sp v:=by
 obtain⟨as,z⟩:=y.ns;exact z.exc s t c v
theorem HNE.none {x:HNAt}{ts:List Int}{as:List (List Int)} (y:HNE CN CH H hn x u pl outs cv pk dk ts sp as) {b:Addr} (hb:b∈x.fp hn):H b≠none:=by
 walk_at"g1";obtain⟨i0,i1,i2,i3,i4,i5,_⟩:=y;walk_at"g2";intro z;rcases List.mem_cons.mp hb with rfl|hb
 ·rw[i0]at z;cases z
 ·rcases List.mem_cons.mp hb with rfl|hb
  ·rw[i1]at z;cases z
  ·rcases List.mem_cons.mp hb with rfl|hb
   ·rw[i2]at z;cases z
   ·rcases List.mem_cons.mp hb with rfl|hb
    ·rw[i3]at z;cases z
    ·rcases List.mem_cons.mp hb with rfl|hb
     ·rw[i4]at z;cases z
     ·exact vJ i5 hb z
theorem HNS.keep (y:HNS CN CH CHo D H0 H hn x f l rz ps ds u pl outs cv pk dk L sp N)(s:Same H H'){p:Addr}{o:HO} (hp:H p=none) (hp':H' p=some o):H0 p=none/\Same H0 (upd H0 p o)/\HNS CN CH CHo D (upd H0 p o) H' hn x f l rz ps ds u pl outs cv pk dk L sp N:=by
 walk_at"g1";obtain⟨np,as,e1,e2,e3,e4,e5⟩:=y;walk_at"g2";have hpf:p∉HNAt.fp { x with np:=np } hn:=fun z=>e1.none z hp;have hn0:H0 p=none:=by
  cases hq:H0 p with
  | none=>rfl
  | some v=>rw[e2 _ _ hq]at hp;cases hp
 have s01:Same H0 (upd H0 p o):=L2.same_upd hn0;refine⟨hn0,s01,np,as,e1.same s,fun b v hb=> ?_,fun b hb=> ?_,e4,e5.same s01⟩
 ·by_cases hbp:b=p
  ·rw[hbp]at hb ⊢;rw[aQ]at hb;rw[hp',←hb]
  ·rw[aH hbp]at hb;exact s _ _ (e2 _ _ hb)
 ·rw[aH (fun z:b=p=>hpf (by rw[←z];exact hb))];exact e3 b hb
theorem HNS.back {H1:Hp}(y:HNS CN CH CHo D H1 H' hn x f l rz ps ds u pl outs cv pk dk L sp N)(s:Same H0 H1)(hc:HC CHo D H0 x.h f l rz ps ds):HNS CN CH CHo D H0 H' hn x f l rz ps ds u pl outs cv pk dk L sp N:=by
 walk_at"g1";obtain⟨np,as,e1,e2,e3,e4,e5⟩:=y;walk_at"g2";refine⟨np,as,e1,s.trans e2,fun b hb=> ?_,e4,hc⟩;cases hq:H0 b with
 | none=>rfl
 | some v=>have:=s _ _ hq;rw[e3 b hb]at this;cases this
theorem UZ {H:Hp}{p q:Addr}{a b:HO} (h:p≠q):upd (upd H q b) p a=upd (upd H p a) q b:=funext fun c=>by
 by_cases h1:c=p
 ·rw[h1,aQ,aH h,aQ]
 ·by_cases h2:c=q
  ·rw[h2,aH (Ne.symm h),aQ,aQ]
  ·rw[aH h1,aH h2,aH h2,aH h1]
theorem HNS.put {B:Hp}{q:Addr}{kvs:List (Key×V)}{o':HO} (y:HNS CN CH CHo D (upd B q (.dK kvs)) H hn x f l rz ps ds u pl outs cv pk dk L sp N) (hB:B q=none) (hc:HC CHo D B x.h f l rz ps ds) (s:SameBut q H H') (e':H' q=some o'):HNS CN CH CHo D (upd B q o') H' hn x f l rz ps ds u pl outs cv pk dk L sp N:=by
 walk_at"g1";obtain⟨np,as,e1,e2,e3,e4,e5⟩:=y;walk_at"g2";have hqf:q∉HNAt.fp { x with np:=np } hn:=fun z=>by have:=e3 q z;rw[aQ]at this;cases this
 have hq:H q=some (.dK kvs):=e2 _ _ aQ;walk_at"g1";obtain⟨i0,i1,i2,i3,i4,i5,d1,d2,d3,d4,d5⟩:=e1;walk_at"g2";have k:∀b∈HNAt.fp { x with np:=np } hn,b≠q:=fun b hb z=>hqf (z▸hb);have hx:x.n≠q:=fun z=>by
  walk_at"g1";obtain⟨_,_,_,_,_,_,j0,_⟩:=i5;walk_at"g2";have j0:H x.n=_:=j0;rw[z,hq]at j0;cases j0
 refine⟨np,as,⟨s _ _ i0 (k _ (.head _)),s _ _ i1 (k _ (List.mem_cons_of_mem _ (.head _))),s _ _ i2 (k _ (List.mem_cons_of_mem _ (List.mem_cons_of_mem _ (.head _)))),s _ _ i3 (k _ (List.mem_cons_of_mem _ (List.mem_cons_of_mem _ (List.mem_cons_of_mem _ (.head _))))),s _ _ i4 (k _ (List.mem_cons_of_mem _ (List.mem_cons_of_mem _ (List.mem_cons_of_mem _ (List.mem_cons_of_mem _ (.head _)))))),i5.on s hx fun z=>hqf (List.mem_cons_of_mem _ (List.mem_cons_of_mem _ (List.mem_cons_of_mem _ (List.mem_cons_of_mem _ (List.mem_cons_of_mem _ z))))),d1,d2,d3,d4,d5⟩,fun b v hb=> ?_,fun b hb=> ?_,e4,hc.same (L2.same_upd hB)⟩
 ·by_cases hbp:b=q
  ·rw[hbp]at hb ⊢;rw[aQ]at hb;rw[e',←hb]
  ·rw[aH hbp]at hb;refine s _ _ (e2 _ _ ?_) hbp;rw[aH hbp];exact hb
 ·have h1:=e3 b hb;rw[aH (k b hb)]at h1 ⊢;exact h1
theorem HNS.ob (y:HNS CN CH CHo D H0 H hn x f l rz ps ds u pl outs cv pk dk L sp N):H hn=some (.ins CH x.dx (O2 x.h x.a1 x.a2 x.n x.a3 x.a4 u pl))/\H x.a1=some (.lst (outs.map V.int))/\H x.a2=some (.lst cv)/\H x.a3=some (.dT pk)/\H x.a4=some (.dT dk)/\(∃dn q1 q2 q3,H x.n=some (.ins CN dn (XZ q1 q2 q3))):=by
 walk_at"g1";obtain⟨np,as,e1,e2,e3,e4,e5⟩:=y;walk_at"g2";walk_at"g1";obtain⟨i0,i1,i2,i3,i4,i5,_⟩:=e1;walk_at"g2";walk_at"g1";obtain⟨dn,q1,q2,q3,rs,_,j0,_⟩:=i5;walk_at"g2";exact⟨i0,i1,i2,i3,i4,⟨_,_,_,_,j0⟩⟩
theorem P0 {x:HNAt}{b:Addr} (hb:b∈x.np):b∈x.fp hn:=by unfold HNAt.fp;exact List.mem_cons_of_mem _ (List.mem_cons_of_mem _ (List.mem_cons_of_mem _ (List.mem_cons_of_mem _ (List.mem_cons_of_mem _ hb))))
theorem sG {fp:List Addr}{p:Addr} (e2:Same H0 H) (e3:∀b∈fp,H0 b=none) (s:SameBut p H H') (hp:p∈fp):Same H0 H':=fun b v hb=>s _ _ (e2 _ _ hb) fun z=>by rw[z,e3 p hp]at hb;cases hb
theorem HNS.outp (y:HNS CN CH CHo D H0 H hn x f l rz ps ds u pl outs cv pk dk L sp N){os:List Int}(s:SameBut x.a1 H H')(e:H' x.a1=some (.lst (os.map V.int))):HNS CN CH CHo D H0 H' hn x f l rz ps ds u pl os cv pk dk L sp N:=by
 walk_at"g1";obtain⟨np,as,e1,e2,e3,e4,e5⟩:=y;walk_at"g2";walk_at"g1";obtain⟨i0,i1,i2,i3,i4,i5,d1,d2,d3,d4,d5⟩:=e1;walk_at"g2";have hx:x.n≠x.a1:=fun z=>by
  walk_at"g1";obtain⟨_,_,_,_,_,_,j0,_⟩:=i5;walk_at"g2";have j0:H x.n=_:=j0;rw[z,i1]at j0;cases j0
 exact⟨np,as,⟨s _ _ i0 (fun z=>by rw[z,i1]at i0;cases i0),e,s _ _ i2 (Ne.symm d2),s _ _ i3 (fun z=>by rw[z,i1]at i3;cases i3),s _ _ i4 (fun z=>by rw[z,i1]at i4;cases i4),i5.on s hx d3,d1,d2,d3,d4,d5⟩,sG e2 e3 s (List.mem_cons_of_mem _ (.head _)),e3,e4,e5⟩
theorem HNS.cuts (y:HNS CN CH CHo D H0 H hn x f l rz ps ds u pl outs cv pk dk L sp N){cs:List V}(s:SameBut x.a2 H H')(e:H' x.a2=some (.lst cs)):HNS CN CH CHo D H0 H' hn x f l rz ps ds u pl outs cs pk dk L sp N:=by
 walk_at"g1";obtain⟨np,as,e1,e2,e3,e4,e5⟩:=y;walk_at"g2";walk_at"g1";obtain⟨i0,i1,i2,i3,i4,i5,d1,d2,d3,d4,d5⟩:=e1;walk_at"g2";have hx:x.n≠x.a2:=fun z=>by
  walk_at"g1";obtain⟨_,_,_,_,_,_,j0,_⟩:=i5;walk_at"g2";have j0:H x.n=_:=j0;rw[z,i2]at j0;cases j0
 exact⟨np,as,⟨s _ _ i0 (fun z=>by rw[z,i2]at i0;cases i0),s _ _ i1 d2,e,s _ _ i3 (fun z=>by rw[z,i2]at i3;cases i3),s _ _ i4 (fun z=>by rw[z,i2]at i4;cases i4),i5.on s hx d4,d1,d2,d3,d4,d5⟩,sG e2 e3 s (List.mem_cons_of_mem _ (List.mem_cons_of_mem _ (.head _))),e3,e4,e5⟩
theorem IU {fp:List Addr}{n:Addr}{ts:List Int}{as:List (List Int)} (i5:NetE CN H n fp ts sp as) {p:Addr}{o:HO} (e:H p=some o) (ho:∀xs,o≠ .lst xs):p∉fp:=fun z=>by
 obtain⟨xs,hx⟩:=zQ i5 z;rw[hx]at e;exact ho xs (Option.some.inj e).symm
theorem HNS.pkp (y:HNS CN CH CHo D H0 H hn x f l rz ps ds u pl outs cv pk dk L sp N){pk2:List (List Key×V)}(s:SameBut x.a3 H H')(e:H' x.a3=some (.dT pk2)):HNS CN CH CHo D H0 H' hn x f l rz ps ds u pl outs cv pk2 dk L sp N:=by
 walk_at"g1";obtain⟨np,as,e1,e2,e3,e4,e5⟩:=y;walk_at"g2";walk_at"g1";obtain⟨i0,i1,i2,i3,i4,i5,d1,d2,d3,d4,d5⟩:=e1;walk_at"g2";have hx:x.n≠x.a3:=fun z=>by
  walk_at"g1";obtain⟨_,_,_,_,_,_,j0,_⟩:=i5;walk_at"g2";have j0:H x.n=_:=j0;rw[z,i3]at j0;cases j0
 exact⟨np,as,⟨s _ _ i0 (fun z=>by rw[z,i3]at i0;cases i0),s _ _ i1 (fun z=>by rw[z,i3]at i1;cases i1),s _ _ i2 (fun z=>by rw[z,i3]at i2;cases i2),e,s _ _ i4 (Ne.symm d1),i5.on s hx (IU i5 i3 fun _ z=>nomatch z),d1,d2,d3,d4,d5⟩,sG e2 e3 s (List.mem_cons_of_mem _ (List.mem_cons_of_mem _ (List.mem_cons_of_mem _ (.head _)))),e3,e4,e5⟩
theorem HNS.turn (y:HNS CN CH CHo D H0 H hn x f l rz ps ds u pl outs cv pk dk L sp N){v:Int}(s:SameBut hn H H')(e:H' hn=some (.ins CH x.dx (O2 x.h x.a1 x.a2 x.n x.a3 x.a4 v pl))):HNS CN CH CHo D H0 H' hn x f l rz ps ds v pl outs cv pk dk L sp N:=by
 walk_at"g1";obtain⟨np,as,e1,e2,e3,e4,e5⟩:=y;walk_at"g2";walk_at"g1";obtain⟨i0,i1,i2,i3,i4,i5,d1,d2,d3,d4,d5⟩:=e1;walk_at"g2";have hx:x.n≠hn:=d5;exact⟨np,as,⟨e,s _ _ i1 (fun z=>by rw[z,i0]at i1;cases i1),s _ _ i2 (fun z=>by rw[z,i0]at i2;cases i2),s _ _ i3 (fun z=>by rw[z,i0]at i3;cases i3),s _ _ i4 (fun z=>by rw[z,i0]at i4;cases i4),i5.on s hx (IU i5 i0 fun _ z=>nomatch z),d1,d2,d3,d4,d5⟩,sG e2 e3 s (.head _),e3,e4,e5⟩
theorem T8 {Q:VK}{E:XK}{z:Str}{v:Int} (y:HNS CN CH CHo D H0 H hn x f l rz ps ds u pl outs cv pk dk L sp N) (hv:aY pk [.inr z,.inl u]=some (.int v)) (k:∀H',Same H H'->Q (.int v) H'):zH CN CH [.ref hn,.str z] H Q E:=by
 walk_at"g1";obtain⟨np,as,e1,e2,e3,e4,e5⟩:=y;walk_at"g2";exact⟨_,_,_,_,_,_,_,_,_,_,_,_,_,rfl,e1,hv,k⟩
theorem uL {Q:VK}{E:XK} (y:HNS CN CH CHo D H0 H hn x f l rz ps ds u pl outs cv pk dk L sp N) (hN:N+1<90000) (k:∀H',HNS CN CH CHo D H0 H' hn x f l rz ps ds u pl outs cv pk dk L sp (N+1)->Q (.int (N:Int)) H'):qM CN [.ref x.n] H Q E:=by
 walk_at"g1";obtain⟨np,as,e1,e2,e3,e4,e5⟩:=y;walk_at"g2";walk_at"g1";obtain⟨i0,i1,i2,i3,i4,i5,d1,d2,d3,d4,d5⟩:=id e1;walk_at"g2";have hl:=e4.len;refine NP i5 (by lia) fun r H1 n1 fr1 ne1=> ?_;have hnp1:∀b∈np++[r],b∈np∨H b=none:=fun b hb=>by
  rcases List.mem_append.mp hb with h|h
  ·exact .inl h
  ·rw[List.mem_singleton.mp h];exact .inr n1
 rw[hl];refine k H1 ⟨np++[r],as++[[]],e1.net2 fr1 hnp1 ne1,fun b v hb=>fr1 _ _ (e2 _ _ hb) fun z=> ?_,fun b hb=> ?_,e4.node (by lia),e5⟩
 ·have:=e3 b (P0 z);rw[hb]at this;cases this
 ·have hb:b∈(hn::x.a1::x.a2::x.a3::x.a4::np)++[r]:=hb;rcases List.mem_append.mp hb with h|h
  ·exact e3 b h
  ·rw[List.mem_singleton.mp h];cases e:H0 r with
   | none=>rfl
   | some v=>rw[e2 _ _ e]at n1;cases n1
theorem CP {Q:VK}{E:XK}{s t:Nat}{c:Int} (y:HNS CN CH CHo D H0 H hn x f l rz ps ds u pl outs cv pk dk L sp N) (hs:s<N) (ht:t<N) (hc:0<=c) (hL:L.length<20000) (k:∀H',HNS CN CH CHo D H0 H' hn x f l rz ps ds u pl outs cv pk dk (L++[(s,t,c)]) (sp++[c,0]) N->Q (.int ((2 * L.length:Nat):Int)) H'):t8 CN [.ref x.n,.int (s:Int),.int (t:Int),.int c] H Q E:=by
 walk_at"g1";obtain⟨np,as,e1,e2,e3,e4,e5⟩:=y;walk_at"g2";walk_at"g1";obtain⟨i0,i1,i2,i3,i4,i5,d1,d2,d3,d4,d5⟩:=id e1;walk_at"g2";have hl:=e4.len;have htl:=hO L;have hsl:=e4.splen;refine aCp i5 (by lia) (by lia) (by lia) (by lia) (fun a ha=>by have:=e4.aa a ha;lia) fun H1 fr1 ne1=> ?_;have hh1:=e1.net fr1 ne1;have hS1:Same H0 H1:=fun b v hb=>fr1 _ _ (e2 _ _ hb) fun z=>by
  have:=e3 b (P0 z);rw[hb]at this;cases this
 have k':=k H1 ⟨np,_,by rw[nU];exact hh1,hS1,e3,e4.arc hs ht hc (by lia),e5⟩;rw[htl];exact k'
theorem Q5 {Q:VK}{E:XK}{dv:V}{d:aG}{tn sn:Nat} (y:HNS CN CH CHo D H0 H hn x f l rz ps ds u pl outs cv pk dk L sp N) (hd:d∈ds) (hdv:D.at' H dv d) (hu0:f<=u) (hu1:u<l) (hv:aY pk [.inr d.2.1,.inl u]=some (.int (sn:Int))) (hs:sn<N) (ht:tn<N) (hL:L.length<20000) (hdk:dk.length<20000) (hnew:aY dk (bT u d.1)=none) (k:∀H',HNS CN CH CHo D H0 H' hn x f l rz ps ds u pl outs cv pk (dk++[(bT u d.1,.int ((2 * L.length:Nat):Int))]) (L++[(sn,tn,c7 f l d u)]) (sp++[c7 f l d u,0]) N->Q .non H'):zD CN CH CHo D [.ref hn,dv,.int (tn:Int)] H Q E:=by
 walk_at"g1";obtain⟨np,as,e1,e2,e3,e4,e5⟩:=y;walk_at"g2";have hl:=e4.len;have htl:=hO L;have hsl:=e4.splen;have hf0:=e5.f0;refine⟨hn,dv,d,tn,sn,f,l,rz,ps,ds,H0,{ x with np:=np },u,pl,outs,cv,pk,dk,_,sp,as,rfl,e1,e5.at',e2,e3,e5.nd,hd,hdv,hu0,hu1,e5.f0,hv,by lia,by lia,by lia,by lia,fun a ha=>by have:=e4.aa a ha;lia,by lia,fun H1 fr1 hh1=> ?_⟩;refine k H1 ⟨np,_,?_,fun b v hb=>fr1 _ _ (e2 _ _ hb) fun z=> ?_,e3,e4.arc hs ht (e5.let0 d hd u (by lia)) (by lia),e5⟩
 ·have e6:cC dk [.inl u,.inr d.1] (.int ((cQ L).length:Int))=dk++[(bT u d.1,.int ((2 * L.length:Nat):Int))]:=by
   rw[show ([.inl u,.inr d.1]:List Key)=bT u d.1 from rfl,d7 _ hnew,htl]
  rw[e6]at hh1;rw[nU];exact hh1
 ·have:=e3 b z;rw[hb]at this;cases this
theorem RL {Q:VK}{E:XK}{t:Nat} (y:HNS CN CH CHo D H0 H hn x f l rz ps ds u pl outs cv pk dk L sp N) (hN:0<N) (ht:t≠0) (k:∀y sp' rs H',HNS CN CH CHo D H0 H' hn x f l rz ps ds u pl outs cv pk dk L sp' N->0<=y->(∀v,cD L sp' v=cD L sp v+((if (t:Int)=v then y else 0) - if (0:Int)=v then y else 0))->CapOk sp' L->(∀m,0<=at0 sp' m)->IF (cQ L) sp' 0 (t:Int) rs->Q (.int y) H'):zV CN [.ref x.n,.int 0,.int (t:Int)] H Q E:=by
 walk_at"g1";obtain⟨np,as,e1,e2,e3,e4,e5⟩:=y;walk_at"g2";walk_at"g1";obtain⟨i0,i1,i2,i3,i4,i5,d1,d2,d3,d4,d5⟩:=id e1;walk_at"g2";have hl:=e4.len;refine⟨x.n,0,t,L.length,np,_,sp,as,rfl,i5,e4.ok,by lia,Ne.symm ht,hO L,e4.nn,fun y sp2 rs H1 fr1 ne1 sent shut=> ?_⟩;refine k y sp2 rs H1 ⟨np,as,e1.net fr1 ne1,fun b v hb=>fr1 _ _ (e2 _ _ hb) fun z=> ?_,e3,e4.sent sent,e5⟩ sent.x0 (fun v=>sent.exc v) (e4.cap.sent sent) sent.nn shut;have:=e3 b (P0 z);rw[hb]at this;cases this
theorem VA {Q:VK}{E:XK} (y:HNS CN CH CHo D H0 H hn x f l rz ps ds u pl outs cv pk dk L sp N) (hN:0<N) (h64:pk.length<64) (hpk:∀e∈pk,∃(z:Str) (t v:Int),e=([.inr z,.inl t],.int v)) (k:∀q vs H',H q=none->Same H H'->H' q=some (.lst vs)->Q (.ref q) H'):sW CN CH [.ref hn] H Q E:=by
 walk_at"g1";obtain⟨np,as,e1,e2,e3,e4,e5⟩:=y;walk_at"g2";have hl:=e4.len;exact⟨hn,{ x with np:=np },u,pl,outs,cv,pk,dk,_,sp,as,rfl,e1,e4.ok,by lia,h64,hpk,k⟩
end
def cH (u:Int):List aG->Nat->List (List Key×V)
 | [],_=>[]
 | d::l,a=>(bT u d.1,.int ((2 * a:Nat):Int))::cH u l (a+1)
theorem yJ (u:Int)(d:aG):∀(l:List aG) (a:Nat),cH u (l++[d]) a=cH u l a++[(bT u d.1,.int ((2 * (a+l.length):Nat):Int))]
 | [],a=>rfl
 | e::l,a=>by
  show _::cH u (l++[d]) (a+1)=_::(cH u l (a+1)++_);rw[yJ u d l (a+1),List.length_cons,show a+1+l.length=a+(l.length+1) by lia]
theorem mP (u:Int):∀(l:List aG) (a:Nat),(cH u l a).length=l.length
 | [],_=>rfl
 | _::l,a=>by show (cH u l (a+1)).length+1=_;rw[mP u l (a+1)];rfl
theorem fN (u:Int):∀(l:List aG) (a:Nat),(cH u l a).map (·.1)=l.map fun d=>bT u d.1
 | [],_=>rfl
 | _::l,a=>by show _::(cH u l (a+1)).map (·.1)=_;rw[fN u l (a+1)];rfl
theorem uS {κ:Type}[DecidableEq κ]{kvs:List (κ×V)}{k:κ} (h:k∉kvs.map (·.1)):aY kvs k=none:=by
 cases hv:aY kvs k with
 | none=>rfl
 | some v=>exact absurd (List.mem_map.mpr ⟨_,sR hv,rfl⟩) h
def cF (s:Str->Nat)(c:Str×Int->Int):List (Str×Int)->Nat->List Arc
 | [],_=>[]
 | e::l,a=>(s e.1,a,c e)::cF s c l (a+1)
theorem fX (s:Str->Nat)(c:Str×Int->Int)(e:Str×Int):∀(l:List (Str×Int)) (a:Nat),cF s c (l++[e]) a=cF s c l a++[(s e.1,a+l.length,c e)]
 | [],a=>rfl
 | d::l,a=>by
  show _::cF s c (l++[e]) (a+1)=_::(cF s c l (a+1)++_);rw[fX s c e l (a+1),List.length_cons,show a+1+l.length=a+(l.length+1) by lia]
theorem fO (s:Str->Nat)(c:Str×Int->Int):∀(l:List (Str×Int)) (a:Nat),(cF s c l a).length=l.length
 | [],_=>rfl
 | _::l,a=>by show (cF s c l (a+1)).length+1=_;rw[fO s c l (a+1)];rfl
theorem sQ (s:Str->Nat)(c:Str×Int->Int):∀(l:List (Str×Int)) (a:Nat),∀x∈cF s c l a,∃e∈l,x.1=s e.1/\a<=x.2.1/\x.2.1<a+l.length/\x.2.2=c e
 | [],_,x,h=>nomatch h
 | e::l,a,x,h=>by
  rcases List.mem_cons.mp h with rfl|h
  ·exact⟨e,.head _,rfl,Nat.le_refl _,by rw[List.length_cons];show a<_;lia,rfl⟩
  ·walk_at"g1";obtain⟨e',h1,h2,h3,h4,h5⟩:=sQ s c l (a+1) x h;walk_at"g2";exact⟨e',List.mem_cons_of_mem _ h1,h2,by lia,by rw[List.length_cons];lia,h5⟩
def dJ (t:Int):List (Str×Int)->Nat->List (List Key×V)
 | [],_=>[]
 | e::l,a=>([.inr e.1,.inl t],.int (a:Int))::dJ t l (a+1)
theorem xW (t:Int)(e:Str×Int):∀(l:List (Str×Int)) (a:Nat),dJ t (l++[e]) a=dJ t l a++[([.inr e.1,.inl t],.int ((a+l.length:Nat):Int))]
 | [],a=>rfl
 | d::l,a=>by
  show _::dJ t (l++[e]) (a+1)=_::(dJ t l (a+1)++_);rw[xW t e l (a+1),List.length_cons,show a+1+l.length=a+(l.length+1) by lia]
theorem hV (t:Int):∀(l:List (Str×Int)) (a:Nat),(dJ t l a).map (·.1)=l.map fun e=>([.inr e.1,.inl t]:List Key)
 | [],_=>rfl
 | _::l,a=>by show _::(dJ t l (a+1)).map (·.1)=_;rw[hV t l (a+1)];rfl
theorem vN (t:Int)(l:List (Str×Int))(a:Nat):(dJ t l a).length=l.length:=by rw[←List.length_map (f:=(·.1)),hV,List.length_map]
def ixR:List (Str×Int)->Str->Nat
 | [],_=>0
 | e::l,z=>if e.1=z then 0 else ixR l z+1
theorem uG:∀{l:List (Str×Int)}{z:Str},z∈l.map (·.1)->ixR l z<l.length
 | [],_,h=>nomatch h
 | e::l,z,h=>by
  unfold ixR
  by_cases he:e.1=z
  ·rw[if_pos he,List.length_cons];lia
  ·rw[if_neg he,List.length_cons];have:=uG (l:=l) ((List.mem_cons.mp h).resolve_left fun x=>he x.symm)
   lia
theorem D5 (t:Int):∀{l:List (Str×Int)}{z:Str}{a:Nat},z∈l.map (·.1)->([.inr z,.inl t],.int ((a+ixR l z:Nat):Int))∈dJ t l a
 | [],_,_,h=>nomatch h
 | e::l,z,a,h=>by
  unfold ixR
  by_cases he:e.1=z
  ·rw[if_pos he,←he];exact .head _
  ·rw[if_neg he];have:=D5 t (l:=l) (z:=z) (a:=a+1) ((List.mem_cons.mp h).resolve_left fun x=>he x.symm);rw[show a+(ixR l z+1)=a+1+ixR l z by lia];exact List.mem_cons_of_mem _ this
def enK:List (Str×Int)->Nat->List (Key×V)
 | [],_=>[]
 | e::l,a=>(.inr e.1,.int (a:Int))::enK l (a+1)
theorem J7 (e:Str×Int):∀(l:List (Str×Int)) (a:Nat),enK (l++[e]) a=enK l a++[(.inr e.1,.int ((a+l.length:Nat):Int))]
 | [],a=>rfl
 | d::l,a=>by
  show _::enK (l++[e]) (a+1)=_::(enK l (a+1)++_);rw[J7 e l (a+1),List.length_cons,show a+1+l.length=a+(l.length+1) by lia]
theorem qO:∀(l:List (Str×Int)) (a:Nat),(enK l a).map (·.1)=(l.map (·.1)).map Sum.inr
 | [],_=>rfl
 | _::l,a=>by show _::(enK l (a+1)).map (·.1)=_;rw[qO l (a+1)];rfl
theorem aAU (l:List (Str×Int))(a:Nat):(enK l a).length=l.length:=by rw[←List.length_map (f:=(·.1)),qO,List.length_map,List.length_map]
theorem RB:∀{l:List (Str×Int)}{z:Str}{a:Nat},z∈l.map (·.1)->(.inr z,.int ((a+ixR l z:Nat):Int))∈enK l a
 | [],_,_,h=>nomatch h
 | e::l,z,a,h=>by
  unfold ixR
  by_cases he:e.1=z
  ·rw[if_pos he,←he];exact .head _
  ·rw[if_neg he];have:=RB (l:=l) (z:=z) (a:=a+1) ((List.mem_cons.mp h).resolve_left fun x=>he x.symm);rw[show a+(ixR l z+1)=a+1+ixR l z by lia];exact List.mem_cons_of_mem _ this
theorem NG {l:List (Str×Int)}(nd:(l.map (·.1)).Nodup){z:Str}{a:Nat} (h:z∈l.map (·.1)):aY (enK l a) (.inr z)=some (.int ((a+ixR l z:Nat):Int)):=fJ (by rw[qO];exact nV nd) (RB h)
def exO (d:aG):Bool:=decide (d.2.2.1= .non)
def exA (ds:List aG)(pn:Str->Nat)(o:Nat)(f l u:Int)(j:Nat):List Arc:=((ds.take j).filter exO).map fun d=>(pn d.2.1,o,c7 f l d u)
theorem aAz (ds:List aG)(pn:Str->Nat)(o:Nat)(f l u:Int)(j:Nat):(exA ds pn o f l u j).length<=j:=by
 unfold exA;rw[List.length_map];exact Nat.le_trans (List.length_filter_le _ _) (by rw[List.length_take];lia)
theorem aBb {ds:List aG}{pn:Str->Nat}{o:Nat}{f l u:Int}{j:Nat}{d:aG} (hd:ds[j]? =some d) (h:exO d=true):exA ds pn o f l u (j+1)=exA ds pn o f l u j++[(pn d.2.1,o,c7 f l d u)]:=by
 unfold exA;rw[aT hd,List.filter_append,List.map_append,List.filter_cons_of_pos h];rfl
theorem aBC {ds:List aG}{pn:Str->Nat}{o:Nat}{f l u:Int}{j:Nat}{d:aG} (hd:ds[j]? =some d) (h:¬exO d=true):exA ds pn o f l u (j+1)=exA ds pn o f l u j:=by
 unfold exA;rw[aT hd,List.filter_append,List.map_append,List.filter_cons_of_neg h];show _++[]=_;rw[List.append_nil]
theorem xC {dk:List (List Key×V)}{u:Int}{l:List aG}{a:Nat}{n:Str} (h:∀n,bT u n∉dk.map (·.1)) (hn:n∉l.map (·.1)):aY (dk++cH u l a) (bT u n)=none:=uS fun z=>by
 rw[List.map_append,fN]at z;rcases List.mem_append.mp z with z|z
 ·exact h n z
 ·obtain⟨d,hd,e⟩:=List.mem_map.mp z;exact hn (List.mem_map.mpr ⟨d,hd,(fT e).2⟩)
theorem NX {ds:List aG}{j:Nat}{d:aG} (nd:(ds.map (·.1)).Nodup) (hd:ds[j]? =some d) (c:aG->Bool):d.1∉((ds.take j).filter c).map (·.1):=fun z=>by
 obtain⟨e,he,h1⟩:=List.mem_map.mp z;have he:=(List.mem_filter.mp he).1;have hs:ds=ds.take j++ds.drop j:=(List.take_append_drop _ _).symm;rw[hs,List.map_append]at nd;refine(List.nodup_append.mp nd).2.2 _ (List.mem_map.mpr ⟨e,he,rfl⟩) _ (List.mem_map.mpr ⟨d,?_,rfl⟩) h1;rw[List.mem_iff_getElem?];exact⟨0,by rw[List.getElem?_drop];exact hd⟩
inductive EI (CN CH CHo:Addr)(D:bF)(vs:List V)(H:Hp)(Q:VK)(E:XK):Prop
 | mk (hn:Addr) (x:HNAt) (pn:Str->Nat) (f l:Int) (rz ps:List (Str×Int)) (ds:List aG) (H0:Hp) (u pl:Int) (outs:List Int) (cv:List V) (pk dk:List (List Key×V)) (L:List Arc) (sp:List Int) (N:Nat) (_:vs=[.ref hn]) (_:HNS CN CH CHo D H0 H hn x f l rz ps ds u pl outs cv pk dk L sp N) (_:f<=u) (_:u<l) (_:(∀d∈ds,aY pk [.inr d.2.1,.inl u]=some (.int (pn d.2.1:Int))/\pn d.2.1<N)) (_:(∀n,bT u n∉dk.map (·.1))) (_:0<N) (_:N<10000) (_:L.length<10000) (_:dk.length<10000) (_:∀y sp' rs H',HNS CN CH CHo D H0 H' hn x f l rz ps ds u pl outs cv pk (dk++cH u (ds.filter exO) L.length) (L++(ds.filter exO).map fun d=>(pn d.2.1,N,c7 f l d u)) sp' (N+1)->0<=y->(∀v,cD (L++(ds.filter exO).map fun d=>(pn d.2.1,N,c7 f l d u)) sp' v=cD L sp v+((if (N:Int)=v then y else 0) - if (0:Int)=v then y else 0))->CapOk sp' (L++(ds.filter exO).map fun d=>(pn d.2.1,N,c7 f l d u))->(∀m,0<=at0 sp' m)->IF (cQ (L++(ds.filter exO).map fun d=>(pn d.2.1,N,c7 f l d u))) sp' 0 (N:Int) rs->Q (.int y) H'):EI CN CH CHo D vs H Q E
theorem wD (m:M K mg):FnOk P w K mg base CX0 9 m.gZ m.gX.d ["self"] (EI m.aV m.aP m.aM (aS P w K mg base (some 4))):=by
 refine m.gX.F.ok sc_HouseNet_send_out (fun vs H Q E h=> ?_) (fun cdv A outer s H vs Q E hr h=> ?_)
 ·walk_at"g1";obtain⟨hn,x,pn,f,l,rz,ps,ds,H0,u,pl,outs,cv,pk,dk,L,sp,N,rfl,hh,hu0',hu1',hpn,hkn,hN0,hN1,hL1,hdk1,k⟩:=h;walk_at"g2";rfl
 ·walk_at"g1";obtain⟨hn,x,pn,f,l,rz,ps,ds,H0,u,pl,outs,cv,pk,dk,L,sp,N,rfl,hh,hu0',hu1',hpn,hkn,hN0,hN1,hL1,hdk1,k⟩:=h;walk_at"g2";have nd:=sc_HouseNet_send_out.nd;walk_at"hu";have w_dc_HouseNet:=m.bJ;have w_dc_Net:=m.cE;have w_dc_House:=m.bI;refine⟨_,(aB (aO (i:=1) nd rfl (by walk_at"oi") (cB 1 hr (aI (pv 0) rfl)))
   (aB (cT PassesOwn.never rfl (bR (cB 1 hr (aI (pv 0) rfl))) (aN (i:=2) nd rfl (by walk_at"oi")) (aB (aO (i:=3) nd rfl (by walk_at"oi") (cO 1 hr (aI (pv 0) rfl) (aA (pv 2) aC)))
   (aE (bV (jM (cB 1 hr (pv 3))) (aE (aZ (cO 8 hr (pv 0) (aA (pv 3) (aA (pv 1) aC))))) bE))))
   (aE (aR (cO 2 hr (aI (pv 0) rfl) (aA (aI (pv 0) rfl) (aA (pv 1) aC))))))),?_⟩
  refine aJ (σ:=[some (.ref hn),none,none,none]) rfl ?_;walk_at"cx";have M1:= @eQ P w K mg base m;have M2:= @mR P w K mg base m;have M3:= @jN P w K mg base m;have M4:= @lC P w K mg base m;have M5:= @sU P w K mg base m;have hc:=hh.hc;have ndd:=hc.nd;have hdl:=hc.ld;walk_at"g1";obtain⟨e0,e1,e2,e3,e4,⟨ddn,q1,q2,q3,e5⟩⟩:=hh.ob;walk_at"g2";walk_at"go";refine uL hh (by lia) fun H1 hh1=> ?_;walk_at"g1";obtain⟨e0,e1,e2,e3,e4,⟨ddn,q1,q2,q3,e5⟩⟩:=hh1.ob;walk_at"g2";walk_at"g1";obtain⟨hdx,hqs,hqp,hqd,hnk,hkvs,ho1,_⟩:=hh1.hc'.at'.ex;walk_at"g2";walk_at"go";refine mI hh1.hc'.at' fun p H2 n2 S2 f2=> ?_;obtain⟨_,s0,hh2⟩:=hh1.keep S2 n2 f2;generalize hH0:upd H0 p _=H0' at s0 hh2;have p0:H0' p=some (.lst ((ds.map (·.1)).map V.str)):=by rw[←hH0];exact aQ
  walk_at"go";let Pv1:Nat->St->Hp->Prop:=fun j σ' H'=>(∃sp',HNS m.aV m.aP m.aM (aS P w K mg base (some 4)) H0' H' hn x f l rz ps ds u pl outs cv pk (dk++cH u ((ds.take j).filter exO) L.length) (L++exA ds pn N f l u j) sp' (N+1)/\∀v,cD (L++exA ds pn N f l u j) sp' v=cD L sp v)/\∃y z,σ'=[some (.ref hn),some (.int (N:Int)),y,z];refine dC ((ds.map (·.1)).map V.str) Pv1 ⟨⟨sp,?_⟩,_,_,rfl⟩ (fun j σ' H' _ g=> ?_) ?_ ?_
  ·have e:L++exA ds pn N f l u 0=L:=List.append_nil L;have e':dk++cH u ((ds.take 0).filter exO) L.length=dk:=List.append_nil dk;rw[e,e'];exact⟨hh2,fun _=>rfl⟩
  ·walk_at"g1";obtain⟨⟨sp',g,_⟩,_⟩:=g;walk_at"g2";exact SqL.of (g.sm _ _ p0)
  ·rintro j y _ H3 hy3 hq_;walk_at"g1";obtain⟨⟨sp',hh3,ex3⟩,y1,y2,rfl⟩:=hq_;walk_at"g2";obtain⟨d,hdj,rfl⟩:∃d,ds[j]? =some d/\y= .str d.1:=by
    rw[List.getElem?_map,List.getElem?_map]at hy3;obtain⟨z,h1,h2⟩:=Option.map_eq_some_iff.mp hy3;obtain⟨d,h3,h4⟩:=Option.map_eq_some_iff.mp h1;exact⟨d,h3,by rw[←h2,←h4]⟩
   have hdm:=List.mem_of_getElem? hdj;have hjl:j<ds.length:=(List.getElem?_eq_some_iff.mp hdj).1;walk_at"g1";obtain⟨e0,e1,e2,e3,e4,⟨ddn,q1,q2,q3,e5⟩⟩:=hh3.ob;walk_at"g2";walk_at"g1";obtain⟨hdx,hqs,hqp,hqd,hnk,hkvs,ho1,_⟩:=hh3.hc'.at'.ex;walk_at"g2";walk_at"go";refine CW hh3.hc'.at' ndd hdm fun v hv=> ?_;walk_at"g1";obtain⟨dn,dst,de,dlt⟩:=d;walk_at"g2";walk_at"g1";obtain⟨q,C9,dx',fs,fp,rfl,hq,dcC,l1,l2,l3,l4,l5,mcE,hfp,hlt⟩:=DoorAt.ex hv;walk_at"g2";walk_at"go";refine⟨q,C9,dx',fs,de,rfl,dcC,hq,l3,?_⟩;have hexl:=aAz ds pn N f l u j;have hpd:=hpn _ hdm;have hpl:pn dst<N:=hpd.2;have hLj:(L++exA ds pn N f l u j).length=L.length+((ds.take j).filter exO).length:=by rw[List.length_append];unfold exA;rw[List.length_map]
   have htl:((ds.take j).filter exO).length<=j:=Nat.le_trans (List.length_filter_le _ _) (by rw[List.length_take];lia);walk_at"go";refine bM (fun hx=> ?_) (fun hx=> ?_)
   ·walk_at"go";refine Q5 (sn:=pn dst) (tn:=N) (d:=(dn,dst,de,dlt)) hh3 hdm hv hu0' hu1' hpd.1 (by lia) (by lia) (by lia) (by rw[List.length_append,mP];lia) (xC hkn (NX ndd hdj exO)) fun H4 hh4=> ?_;walk_at"go";have eA:=aBb (pn:=pn) (o:=N) (f:=f) (l:=l) (u:=u) hdj (decide_eq_true hx);have eT:(ds.take (j+1)).filter exO=(ds.take j).filter exO++[(dn,dst,de,dlt)]:=by rw[aT hdj,List.filter_append,List.filter_cons_of_pos (show exO (dn,dst,de,dlt)=true from decide_eq_true hx)];rfl
    refine⟨⟨sp'++[c7 f l (dn,dst,de,dlt) u,0],?_,fun v=> ?_⟩,_,_,rfl⟩
    ·rw[eA,eT,yJ,←List.append_assoc,←List.append_assoc,←hLj];exact hh4
    ·rw[eA,←List.append_assoc,←ex3 v];exact hh3.exc _ _ _ v
   ·walk_at"go";have eA:=aBC (pn:=pn) (o:=N) (f:=f) (l:=l) (u:=u) hdj (fun z=>hx (of_decide_eq_true z));have eT:(ds.take (j+1)).filter exO=(ds.take j).filter exO:=by
     rw[aT hdj,List.filter_append,List.filter_cons_of_neg (fun z:exO (dn,dst,de,dlt)=true=>hx (of_decide_eq_true z))];exact List.append_nil _
    refine⟨⟨sp',?_⟩,_,_,rfl⟩;rw[eA,eT];exact⟨hh3,ex3⟩
  ·rintro _ H3 hq_;walk_at"g1";obtain⟨⟨sp',hh3,ex3⟩,y1,y2,rfl⟩:=hq_;walk_at"g2";have eL:exA ds pn N f l u ((ds.map (·.1)).map V.str).length=(ds.filter exO).map fun d=>(pn d.2.1,N,c7 f l d u):=by
    unfold exA;rw[List.length_map,List.length_map,List.take_length]
   have eD:(ds.take ((ds.map (·.1)).map V.str).length).filter exO=ds.filter exO:=by rw[List.length_map,List.length_map,List.take_length]
   rw[eL,eD]at hh3;rw[eL]at ex3;walk_at"g1";obtain⟨e0,e1,e2,e3,e4,⟨ddn,q1,q2,q3,e5⟩⟩:=hh3.ob;walk_at"g2";walk_at"go";refine RL hh3 (by lia) (by lia) fun y sp2 rs H4 hh4 y0 ex4 cap4 nn4 shut=> ?_;exact k y sp2 rs H4 (hh4.back s0 hc) y0 (fun v=>by rw[ex4 v,ex3 v]) cap4 nn4 shut
theorem u3 (m:M K mg):Mc P w K mg base m.aP "send_out" 9 (EI m.aV m.aP m.aM (aS P w K mg base (some 4))):=⟨_,_,_,m.bJ.ic.cl,m.wQ,m.gX.b,wD m⟩
theorem vT {rz:List (Str×Int)}{j:Nat}{y:V} (h:((rz.map (·.1)).map V.str)[j]? =some y):∃e,rz[j]? =some e/\y= .str e.1:=by
 rw[List.getElem?_map,List.getElem?_map]at h;obtain⟨z,h1,h2⟩:=Option.map_eq_some_iff.mp h;obtain⟨d,h3,h4⟩:=Option.map_eq_some_iff.mp h1;exact⟨d,h3,by rw[←h2,←h4]⟩
inductive EL (CN CH CHo:Addr)(D:bF)(vs:List V)(H:Hp)(Q:VK)(E:XK):Prop
 | mk (hn:Addr) (x:HNAt) (pn:Str->Nat) (f l:Int) (rz ps:List (Str×Int)) (ds:List aG) (H0:Hp) (u pl:Int) (outs:List Int) (cv:List V) (pk dk:List (List Key×V)) (L:List Arc) (sp:List Int) (N:Nat) (_:vs=[.ref hn]) (_:HNS CN CH CHo D H0 H hn x f l rz ps ds u pl outs cv pk dk L sp N) (_:0<=pl) (_:(∀e∈rz,aY pk [.inr e.1,.inl u]=some (.int (pn e.1:Int))/\pn e.1<N)) (_:N<10000) (_:L.length<10000) (_:∀q sp' H',Same H0 (upd H0 q (.dK (enK rz N)))->HNS CN CH CHo D (upd H0 q (.dK (enK rz N))) H' hn x f l rz ps ds u pl outs cv pk dk (L++cF pn (fun _=>pl) rz N) sp' (N+rz.length)->(∀v,cD (L++cF pn (fun _=>pl) rz N) sp' v=cD L sp v)->Q (.ref q) H'):EL CN CH CHo D vs H Q E
theorem rZ (m:M K mg):FnOk P w K mg base CX0 2 m.fB m.fD.d ["self"] (EL m.aV m.aP m.aM (aS P w K mg base (some 4))):=by
 refine m.fD.F.ok sc_HouseNet_new_entries (fun vs H Q E h=> ?_) (fun cdv A outer s H vs Q E hr h=> ?_)
 ·walk_at"g1";obtain⟨hn,x,pn,f,l,rz,ps,ds,H0,u,pl,outs,cv,pk,dk,L,sp,N,rfl,hh,hpl0,hpn,hN1,hL1,k⟩:=h;walk_at"g2";rfl
 ·walk_at"g1";obtain⟨hn,x,pn,f,l,rz,ps,ds,H0,u,pl,outs,cv,pk,dk,L,sp,N,rfl,hh,hpl0,hpn,hN1,hL1,k⟩:=h;walk_at"g2";have nd:=sc_HouseNet_new_entries.nd;walk_at"hu";have w_dc_HouseNet:=m.bJ;have w_dc_Net:=m.cE;have w_dc_House:=m.bI;refine⟨_,(aB (aO (i:=1) nd rfl (by walk_at"oi") wG)
   (aB (cT PassesOwn.never rfl (bR (cB 1 hr (aI (pv 0) rfl))) (aN (i:=2) nd rfl (by walk_at"oi")) (aB (iN hu1 (pv 1) (pv 2) (cB 1 hr (aI (pv 0) rfl)) rfl)
   (aE (aZ (cO 1 hr (aI (pv 0) rfl) (aA (cO 1 hr (pv 0) (aA (pv 2) aC)) (aA (fK hu1 (pv 1) (pv 2) (fun _ _=>rfl)) (aA (aI (pv 0) rfl) aC))))))))
   (aE (aR (pv 1))))),?_⟩
  refine aJ (σ:=[some (.ref hn),none,none]) rfl ?_;walk_at"cx";have M1:= @eQ P w K mg base m;have M2:= @iK P w K mg base m;have M3:= @fL P w K mg base m;have M4:= @iC P w K mg base m;have hc:=hh.hc;have nr:=hc.nr;have hrl:=hc.lr;walk_at"g1";obtain⟨e0,e1,e2,e3,e4,⟨ddn,q1,q2,q3,e5⟩⟩:=hh.ob;walk_at"g2";walk_at"go";rename_i q H1 n1 S1 f1;obtain⟨hq0,sq0,hh1⟩:=hh.keep S1 n1 f1;walk_at"g1";obtain⟨e0,e1,e2,e3,e4,⟨ddn,q1,q2,q3,e5⟩⟩:=hh1.ob;walk_at"g2";walk_at"g1";obtain⟨hdx,hqs,hqp,hqd,hnk,hkvs,ho1,_⟩:=hh1.hc'.at'.ex;walk_at"g2";walk_at"go";refine mI hh1.hc'.at' fun p H2 n2 S2 f2=> ?_;have hpq:p≠q:=fun z=>by rw[z,f1]at n2;cases n2
  obtain⟨hp0,sp0,hh2⟩:=hh1.keep S2 n2 f2;rw[UZ hpq]at hh2;rw[aH hpq]at hp0;have sp1:Same H0 (upd H0 p (.lst ((rz.map (·.1)).map V.str))):=L2.same_upd hp0;generalize hB:upd H0 p (.lst ((rz.map (·.1)).map V.str))=B at hh2 sp1;have hBp:B p=some (.lst ((rz.map (·.1)).map V.str)):=by rw[←hB];exact aQ
  have hBq:B q=none:=by rw[←hB,aH (Ne.symm hpq)];exact hq0
  have hcB:HC m.aM (aS P w K mg base (some 4)) B x.h f l rz ps ds:=hc.same sp1;walk_at"go";let Pv1:Nat->St->Hp->Prop:=fun j σ' H'=>(∃sp',HNS m.aV m.aP m.aM (aS P w K mg base (some 4)) (upd B q (.dK (enK (rz.take j) N))) H' hn x f l rz ps ds u pl outs cv pk dk (L++cF pn (fun _=>pl) (rz.take j) N) sp' (N+j)/\∀v,cD (L++cF pn (fun _=>pl) (rz.take j) N) sp' v=cD L sp v)/\∃y,σ'=[some (.ref hn),some (.ref q),y];refine dC ((rz.map (·.1)).map V.str) Pv1 ⟨⟨sp,?_⟩,_,rfl⟩ (fun j σ' H' _ g=> ?_) ?_ ?_
  ·have e:L++cF pn (fun _=>pl) (rz.take 0) N=L:=List.append_nil L;rw[e];exact⟨hh2,fun _=>rfl⟩
  ·walk_at"g1";obtain⟨⟨sp',g,_⟩,_⟩:=g;walk_at"g2";exact SqL.of (g.sm _ _ (by rw[aH hpq];exact hBp))
  ·rintro j y _ H3 hy3 hq_;walk_at"g1";obtain⟨⟨sp',hh3,ex3⟩,y1,rfl⟩:=hq_;walk_at"g2";obtain⟨e,hej,rfl⟩:=vT hy3;have hem:=List.mem_of_getElem? hej;have hjl:j<rz.length:=(List.getElem?_eq_some_iff.mp hej).1;obtain⟨hv,hvl⟩:=hpn e hem;have htl:(rz.take j).length=j:=by rw[List.length_take];lia
   have hLl:(L++cF pn (fun _=>pl) (rz.take j) N).length=L.length+j:=by rw[List.length_append,fO,htl]
   walk_at"g1";obtain⟨e0,e1,e2,e3,e4,⟨ddn,q1,q2,q3,e5⟩⟩:=hh3.ob;walk_at"g2";walk_at"go";refine uL hh3 (by lia) fun H4 hh4=> ?_;have hq4:=hh4.sm _ _ aQ;walk_at"go";refine vU hq4 (by rw[sizeLine_eq,aAU];lia) fun H5 B5 f5=> ?_;have hnw:aY (enK (rz.take j) N) (.inr e.1)=none:=uS (by
    rw[qO];intro z;obtain⟨r,hr,hre⟩:=List.mem_map.mp z;obtain⟨e',he',hre'⟩:=List.mem_map.mp hr;have h1:e'.1=e.1:=hre'.trans (Sum.inr.inj hre);have hs:rz=rz.take j++rz.drop j:=(List.take_append_drop _ _).symm;have nr2:=nr;rw[hs,List.map_append]at nr2;refine(List.nodup_append.mp nr2).2.2 _ (List.mem_map.mpr ⟨e',he',rfl⟩) _ (List.mem_map.mpr ⟨e,?_,rfl⟩) h1;rw[List.mem_iff_getElem?];exact⟨0,by rw[List.getElem?_drop];exact hej⟩)
   have eK:cC (enK (rz.take j) N) (.inr e.1) (.int ((N+j:Nat):Int))=enK (rz.take (j+1)) N:=by rw[d7 _ hnw,aT hej,J7,htl]
   rw[eK]at f5;have hh5:=hh4.put hBq hcB B5 f5;have hen:aY (enK (rz.take (j+1)) N) (.inr e.1)=some (.int ((N+j:Nat):Int)):=by
    rw[←eK,d7 _ hnw];refine fJ (e:=((.inr e.1:Key),(.int ((N+j:Nat):Int):V))) ?_ (List.mem_append_right _ (.head _));rw[←d7 _ hnw,eK,qO];exact nV ((List.take_sublist _ _).map _ |>.nodup nr)
   walk_at"g1";obtain⟨e0,e1,e2,e3,e4,⟨ddn,q1,q2,q3,e5⟩⟩:=hh5.ob;walk_at"g2";walk_at"go";refine T8 hh5 hv fun H6 S6=> ?_;have hh6:=hh5.same S6;walk_at"g1";obtain⟨e0,e1,e2,e3,e4,⟨ddn,q1,q2,q3,e5⟩⟩:=hh6.ob;walk_at"g2";walk_at"go";refine hU (.inl (S6 _ _ f5)) hen ?_;walk_at"go";refine CP (s:=pn e.1) (t:=N+j) hh6 (by lia) (by lia) hpl0 (by lia) fun H7 hh7=> ?_;walk_at"go";refine⟨⟨sp'++[pl,0],?_,fun v=> ?_⟩,_,rfl⟩
   ·rw[aT hej,fX,htl,←List.append_assoc,←aT hej];exact hh7
   ·rw[aT hej,fX,htl,←List.append_assoc,←ex3 v];exact hh6.exc _ _ _ v
  ·rintro _ H3 hq_;walk_at"g1";obtain⟨⟨sp',hh3,ex3⟩,y1,rfl⟩:=hq_;walk_at"g2";have hl:((rz.map (·.1)).map V.str).length=rz.length:=by rw[List.length_map,List.length_map]
   rw[hl,List.take_length]at hh3;rw[hl,List.take_length]at ex3;walk_at"go";have s0:Same H0 (upd H0 q (.dK (enK rz N))):=L2.same_upd hq0;refine k q sp' H3 s0 (hh3.back (fun b v hb=> ?_) (hc.same s0)) ex3
   by_cases hbq:b=q
   ·rw[hbq,aQ]at hb ⊢;exact hb
   ·rw[aH hbq]at hb ⊢;exact sp1 _ _ hb
theorem rX (m:M K mg):Mc P w K mg base m.aP "new_entries" 2 (EL m.aV m.aP m.aM (aS P w K mg base (some 4))):=⟨_,_,_,m.bJ.ic.cl,m.r9,m.fD.b,rZ m⟩
def XI (K:W.Frag)(f:Str)(tv:TE)(rd:V->V->Hp->VK->Prop)(nx:St->Hp->Prop)(σ:St):VK:=fun x H1=>∃a C dx fs v,x= .ref a/\H1 a=some (.ins C dx fs)/\Cls K C/\NoAttr K C f/\fs.lookup f=some v ∧
 tv σ H1 fun y H2=>rd v y H2 fun z H3=>∃dx' fs',H3 a=some (.ins C dx' fs')/\fs'.length<1000/\nx σ (upd H3 a (.ins C dx' (bQ f z fs')))
theorem YS {K:W.Frag}{ta tv:TE}{rd:V->V->Hp->VK->Prop}{f:Str}{nx:St->Hp->Prop}{rt:VK}{bk ct:St->Hp->Prop}{σ:St}{H:Hp} (h:ta σ H (XI K f tv rd nx σ)):NZ K ta tv rd f ⟨nx,rt,bk,ct⟩ σ H:=h
theorem V7 {K:W.Frag}{tv:TE}{rd:V->V->Hp->VK->Prop}{f:Str}{nx:St->Hp->Prop}{σ:St}{H:Hp}{a C dx:Addr}{fs:List (Str×V)}{v:V} (e:H a=some (.ins C dx fs)) (cl:Cls K C) (na:NoAttr K C f) (l:fs.lookup f=some v) (h:tv σ H fun y H2=>rd v y H2 fun z H3=>∃dx' fs',H3 a=some (.ins C dx' fs')/\fs'.length<1000/\nx σ (upd H3 a (.ins C dx' (bQ f z fs')))):XI K f tv rd nx σ (.ref a) H:=⟨a,C,dx,fs,v,rfl,e,cl,na,l,h⟩
def aCD:V->Str
 | .str z=>z
 | _=>⟨#[]⟩
def inD (d:aG):Bool:= !exO d
def exL (ds:List aG)(pn:Str->Nat)(f l u:Int)(N:Nat):List Arc:=(ds.filter exO).map fun d=>(pn d.2.1,N,c7 f l d u)
def doL (rz:List (Str×Int))(ds:List aG)(pn:Str->Nat)(f l u:Int)(N:Nat):List Arc:=(ds.filter inD).map fun d=>(pn d.2.1,N+1+ixR rz (aCD d.2.2.1),c7 f l d u)
def tN (rz:List (Str×Int))(ds:List aG)(pn:Str->Nat)(f l pl u:Int)(N:Nat):List Arc:=exL ds pn f l u N++(cF pn (fun _=>pl) rz (N+1)++(doL rz ds pn f l u N++cF (fun z=>N+1+ixR rz z) (fun e=>e.2) rz (N+1+rz.length)))
def dkB (rz:List (Str×Int))(ds:List aG)(u:Int)(a:Nat):List (List Key×V):=cH u (ds.filter exO) a++cH u (ds.filter inD) (a+(ds.filter exO).length+rz.length)
theorem KB {ds:List aG}(nd:(ds.map (·.1)).Nodup){d e:aG}(hd:d∈ds)(he:e∈ds)(h:d.1=e.1):d=e:=by
 induction ds with
 | nil=>exact nomatch hd
 | cons a l ih =>
  obtain⟨h1,h2⟩:=List.nodup_cons.mp nd;cases hd with
  | head =>
   cases he with
   | head=>rfl
   | tail _ he=>exact(h1 (List.mem_map.mpr ⟨e,he,h.symm⟩)).elim
  | tail _ hd =>
   cases he with
   | head=>exact(h1 (List.mem_map.mpr ⟨d,hd,h⟩)).elim
   | tail _ he=>exact ih h2 hd he
theorem ZR {dk:List (List Key×V)}{u:Int}{ds:List aG}{a b j:Nat}{d:aG} (h:∀n,bT u n∉dk.map (·.1)) (nd:(ds.map (·.1)).Nodup) (hd:ds[j]? =some d) (hi:inD d=true):aY (dk++cH u (ds.filter exO) a++cH u ((ds.take j).filter inD) b) (bT u d.1)=none:=uS fun z=>by
 rw[List.map_append,List.map_append,fN,fN]at z;rcases List.mem_append.mp z with z|z
 ·rcases List.mem_append.mp z with z|z
  ·exact h d.1 z
  ·obtain⟨e,he,h1⟩:=List.mem_map.mp z;obtain⟨he1,he2⟩:=List.mem_filter.mp he;have:=KB nd he1 (List.mem_of_getElem? hd) (fT h1).2;rw[this]at he2;unfold inD at hi;rw[he2]at hi;exact absurd hi (by decide)
 ·obtain⟨e,he,h1⟩:=List.mem_map.mp z;exact NX nd hd inD (List.mem_map.mpr ⟨e,he,(fT h1).2⟩)
theorem YZ {rz:List (Str×Int)}{j:Nat}{e:Str×Int} (nr:(rz.map (·.1)).Nodup) (hd:rz[j]? =some e):e.1∉(rz.take j).map (·.1):=fun z=>by
 obtain⟨e',he',h1⟩:=List.mem_map.mp z;have hs:rz=rz.take j++rz.drop j:=(List.take_append_drop _ _).symm;rw[hs,List.map_append]at nr;refine(List.nodup_append.mp nr).2.2 _ (List.mem_map.mpr ⟨e',he',rfl⟩) _ (List.mem_map.mpr ⟨e,?_,rfl⟩) h1;rw[List.mem_iff_getElem?];exact⟨0,by rw[List.getElem?_drop];exact hd⟩
theorem SO {pk:List (List Key×V)}{u:Int}{rz:List (Str×Int)}{a j:Nat}{e:Str×Int} (h:∀z,([.inr z,.inl u]:List Key)∉pk.map (·.1)) (nr:(rz.map (·.1)).Nodup) (hd:rz[j]? =some e):aY (pk++dJ u (rz.take j) a) [.inr e.1,.inl u]=none:=uS fun z=>by
 rw[List.map_append,hV]at z;rcases List.mem_append.mp z with z|z
 ·exact h e.1 z
 ·obtain⟨e',he',h1⟩:=List.mem_map.mp z;refine YZ nr hd (List.mem_map.mpr ⟨e',he',?_⟩);injection h1 with h1 _;exact Sum.inr.inj h1
inductive K5 (CN CH CHo:Addr)(D:bF)(vs:List V)(H:Hp)(Q:VK)(E:XK):Prop
 | mk (hn:Addr) (x:HNAt) (pn:Str->Nat) (f l:Int) (rz ps:List (Str×Int)) (ds:List aG) (H0:Hp) (u pl:Int) (outs:List Int) (cv:List V) (pk dk:List (List Key×V)) (L:List Arc) (sp:List Int) (N:Nat) (_:vs=[.ref hn]) (_:HNS CN CH CHo D H0 H hn x f l rz ps ds u pl outs cv pk dk L sp N) (_:f<=u) (_:u<l) (_:0<=pl) (_:(∀e∈rz,aY pk [.inr e.1,.inl u]=some (.int (pn e.1:Int))/\pn e.1<N)) (_:(∀n,bT u n∉dk.map (·.1))) (_:(∀e∈pk,∃(z:Str) (t v:Int),e=([.inr z,.inl t],.int v))) (_:(∀z,([.inr z,.inl (u+1)]:List Key)∉pk.map (·.1))) (_:pk.length<64) (_:outs.length<100) (_:cv.length<100) (_:0<N) (_:N<5000) (_:L.length<5000) (_:dk.length<5000) (_:∀y cv' sp1 rs sp' H',cv'.length=cv.length+1->CapOk sp1 (L++exL ds pn f l u N)->(∀m,0<=at0 sp1 m)->(∀v,cD (L++exL ds pn f l u N) sp1 v=cD L sp v+((if (N:Int)=v then y else 0) - if (0:Int)=v then y else 0))->IF (cQ (L++exL ds pn f l u N)) sp1 0 (N:Int) rs->HNS CN CH CHo D H0 H' hn x f l rz ps ds (u+1) pl (outs++[y]) cv' (pk++dJ (u+1) rz (N+1+rz.length)) (dk++dkB rz ds u L.length) (L++tN rz ds pn f l pl u N) sp' (N+1+rz.length+rz.length)->0<=y->(∀v,cD (L++tN rz ds pn f l pl u N) sp' v=cD L sp v+((if (N:Int)=v then y else 0) - if (0:Int)=v then y else 0))->Q .non H'):K5 CN CH CHo D vs H Q E
theorem z7 (m:M K mg):FnOk P w K mg base CX0 10 m.kC m.kI.d ["self"] (K5 m.aV m.aP m.aM (aS P w K mg base (some 4))):=by
 refine m.kI.F.ok sc_HouseNet_go_on (fun vs H Q E h=> ?_) (fun cdv A outer s H vs Q E hr h=> ?_)
 ·walk_at"g1";obtain⟨hn,x,pn,f,l,rz,ps,ds,H0,u,pl,outs,cv,pk,dk,L,sp,N,rfl,hh,hu0',hu1',hpl0,hpn,hkn,hps,hpw,hp64,hol,hcl,hN0,hN1,hL1,hdk1,k⟩:=h;walk_at"g2";rfl
 ·walk_at"g1";obtain⟨hn,x,pn,f,l,rz,ps,ds,H0,u,pl,outs,cv,pk,dk,L,sp,N,rfl,hh,hu0',hu1',hpl0,hpn,hkn,hps,hpw,hp64,hol,hcl,hN0,hN1,hL1,hdk1,k⟩:=h;walk_at"g2";have nd:=sc_HouseNet_go_on.nd;walk_at"hu";have w_dc_HouseNet:=m.bJ;have w_dc_Net:=m.cE;have w_dc_House:=m.bI;refine⟨_,(aB (aZ (g8 PySem.F.plainAttrs_list PySem.F.slot_list_append PySem.F.type_list_append cS (aI (pv 0) rfl) (aA (cB 9 hr (pv 0)) aC)))
   (aB (aZ (g8 PySem.F.plainAttrs_list PySem.F.slot_list_append PySem.F.type_list_append cS (aI (pv 0) rfl) (aA (cB 2 hr (pv 0)) aC)))
   (aB (aO (i:=1) nd rfl (by walk_at"oi") (cB 2 hr (pv 0)))
   (aB (cT PassesOwn.never rfl (bR (cB 1 hr (aI (pv 0) rfl))) (aN (i:=2) nd rfl (by walk_at"oi")) (aB (aO (i:=3) nd rfl (by walk_at"oi") (cO 1 hr (aI (pv 0) rfl) (aA (pv 2) aC)))
   (aE (bV (uA (jM (cB 1 hr (pv 3)))) (aE (aZ (cO 8 hr (pv 0) (aA (pv 3) (aA (fK hu1 (pv 1) (aI (pv 3) rfl) (fun _ _=>rfl)) aC))))) bE))))
   (aB (QQ (pv 0) aD SZ)
   (aE (cT PassesOwn.never rfl (bR (cB 1 hr (aI (pv 0) rfl))) (aN (i:=4) nd rfl (by walk_at"oi")) (aB (aO (i:=5) nd rfl (by walk_at"oi") (cB 1 hr (aI (pv 0) rfl)))
   (aB (aZ (cO 1 hr (aI (pv 0) rfl) (aA (fK hu1 (pv 1) (pv 4) (fun _ _=>rfl)) (aA (pv 5) (aA (cO 3 hr (aI (pv 0) rfl) (aA (pv 4) aC)) aC)))))
   (aE (iN hu1 (aI (pv 0) rfl) (c9 (aA (pv 4) (aA (aI (pv 0) rfl) aC))) (pv 5) rfl))))))))))),?_⟩
  refine aJ (σ:=[some (.ref hn),none,none,none,none,none]) rfl ?_;walk_at"cx";have M1:= @u3 P w K mg base m;have M2:= @pC P w K mg base m;have M3:= @rX P w K mg base m;have M4:= @lC P w K mg base m;have M5:= @mR P w K mg base m;have M6:= @jN P w K mg base m;have M7:= @iK P w K mg base m;have M8:= @E5 P w K mg base m;have M9:= @eQ P w K mg base m;have M10:= @fL P w K mg base m;have hc:=hh.hc;have nr:=hc.nr;have ndd:=hc.nd;have hrl:=hc.lr;have hdl:=hc.ld;have hxl:(ds.filter exO).length<=ds.length:=List.length_filter_le _ _;have hil:(ds.filter inD).length<=ds.length:=List.length_filter_le _ _;have hpd:∀d∈ds,aY pk [.inr d.2.1,.inl u]=some (.int (pn d.2.1:Int))/\pn d.2.1<N:=fun d hd=>by
   obtain⟨e,he,h1⟩:=List.mem_map.mp (hc.din d hd).1;rw[←h1];exact hpn e he
  walk_at"g1";obtain⟨e0,e1,e2,e3,e4,⟨ddn,q1,q2,q3,e5⟩⟩:=hh.ob;walk_at"g2";walk_at"go";refine⟨hn,x,pn,f,l,rz,ps,ds,H0,u,pl,outs,cv,pk,dk,L,sp,N,rfl,hh,hu0',hu1',hpd,hkn,hN0,by lia,by lia,by lia,fun y sp1 rs H1 hh1 y0 ex1 KG nn1 shut=> ?_⟩;have hLx:(L++exL ds pn f l u N).length=L.length+(ds.filter exO).length:=by rw[List.length_append];unfold exL;rw[List.length_map]
  walk_at"g1";obtain⟨e0,e1,e2,e3,e4,⟨ddn,q1,q2,q3,e5⟩⟩:=hh1.ob;walk_at"g2";walk_at"go";refine cU e1 (by rw[sizeLine_eq,List.length_map];lia) fun H2 B2 f2=> ?_;have hh2:=hh1.outp (os:=outs++[y]) B2 (by rw[f2,List.map_append];rfl);walk_at"g1";obtain⟨e0,e1,e2,e3,e4,⟨ddn,q1,q2,q3,e5⟩⟩:=hh2.ob;walk_at"g2";walk_at"go";refine VA hh2 (by lia) hp64 hps fun qr vr H3 n3 S3 f3=> ?_;have hh3:=hh2.same S3;walk_at"g1";obtain⟨e0,e1,e2,e3,e4,⟨ddn,q1,q2,q3,e5⟩⟩:=hh3.ob;walk_at"g2";walk_at"go";refine cU e2 (by rw[sizeLine_eq];lia) fun H4 B4 f4=> ?_;have hh4:=hh3.cuts B4 f4;walk_at"g1";obtain⟨e0,e1,e2,e3,e4,⟨ddn,q1,q2,q3,e5⟩⟩:=hh4.ob;walk_at"g2";walk_at"go";refine⟨hn,x,pn,f,l,rz,ps,ds,H0,u,pl,outs++[y],cv++[.ref qr],pk,_,_,sp1,N+1,rfl,hh4,hpl0,fun e he=>⟨(hpn e he).1,by have:=(hpn e he).2;lia⟩,by lia,by have:=hLx;unfold exL at this;lia,fun q sp2 H5 s5 hh5 ex5=> ?_⟩;have hLx':(L++List.map (fun d:aG=>(pn d.2.1,N,c7 f l d u)) (ds.filter exO)).length=L.length+(ds.filter exO).length:=hLx;have hh5:HNS m.aV m.aP m.aM (aS P w K mg base (some 4)) (upd H0 q (.dK (enK rz (N+1)))) H5 hn x f l rz ps ds u pl (outs++[y]) (cv++[.ref qr]) pk (dk++cH u (ds.filter exO) L.length) (L++exL ds pn f l u N++cF pn (fun _=>pl) rz (N+1)) sp2 (N+1+rz.length):=hh5;have ex5:∀v,cD (L++exL ds pn f l u N++cF pn (fun _=>pl) rz (N+1)) sp2 v=cD (L++exL ds pn f l u N) sp1 v:=ex5;generalize hB1:upd H0 q (.dK (enK rz (N+1)))=B1 at s5 hh5;have hBq:B1 q=some (.dK (enK rz (N+1))):=by rw[←hB1];exact aQ
  generalize hLY:L++exL ds pn f l u N++cF pn (fun _=>pl) rz (N+1)=LY at hh5 ex5;have hLYl:LY.length=L.length+(ds.filter exO).length+rz.length:=by rw[←hLY,List.length_append,fO,hLx]
  walk_at"g1";obtain⟨e0,e1,e2,e3,e4,⟨ddn,q1,q2,q3,e5⟩⟩:=hh5.ob;walk_at"g2";walk_at"g1";obtain⟨hdx,hqs,hqp,hqd,hnk,hkvs,ho1,_⟩:=hh5.hc'.at'.ex;walk_at"g2";walk_at"go";refine mI hh5.hc'.at' fun p H6 n6 S6 f6=> ?_;obtain⟨_,s6,hh6⟩:=hh5.keep S6 n6 f6;generalize hB2:upd B1 p _=B2' at s6 hh6;have hBp:B2' p=some (.lst ((ds.map (·.1)).map V.str)):=by rw[←hB2];exact aQ
  walk_at"go";let Pv1:Nat->St->Hp->Prop:=fun j σ' H'=>(∃sp',HNS m.aV m.aP m.aM (aS P w K mg base (some 4)) B2' H' hn x f l rz ps ds u pl (outs++[y]) (cv++[.ref qr]) pk (dk++cH u (ds.filter exO) L.length++cH u ((ds.take j).filter inD) LY.length) (LY++doL rz (ds.take j) pn f l u N) sp' (N+1+rz.length)/\∀v,cD (LY++doL rz (ds.take j) pn f l u N) sp' v=cD (L++exL ds pn f l u N) sp1 v)/\∃y z,σ'=[some (.ref hn),some (.ref q),y,z,none,none];refine dC ((ds.map (·.1)).map V.str) Pv1 ⟨⟨sp2,?_⟩,_,_,rfl⟩ (fun j σ' H' _ g=> ?_) ?_ ?_
  ·have e:LY++doL rz (ds.take 0) pn f l u N=LY:=List.append_nil _;have e':dk++cH u (ds.filter exO) L.length++cH u ((ds.take 0).filter inD) LY.length=dk++cH u (ds.filter exO) L.length:=List.append_nil _;rw[e,e'];exact⟨hh6,ex5⟩
  ·walk_at"g1";obtain⟨⟨sp',g,_⟩,_⟩:=g;walk_at"g2";exact SqL.of (g.sm _ _ hBp)
  ·rintro j yy _ H7 hy7 hq_;walk_at"g1";obtain⟨⟨sp',hh7,ex7⟩,y1,y2,rfl⟩:=hq_;walk_at"g2";obtain⟨d,hdj,rfl⟩:∃d,ds[j]? =some d/\yy= .str d.1:=by
    rw[List.getElem?_map,List.getElem?_map]at hy7;obtain⟨z,h1,h2⟩:=Option.map_eq_some_iff.mp hy7;obtain⟨d,h3,h4⟩:=Option.map_eq_some_iff.mp h1;exact⟨d,h3,by rw[←h2,←h4]⟩
   have hdm:=List.mem_of_getElem? hdj;have hjl:j<ds.length:=(List.getElem?_eq_some_iff.mp hdj).1;walk_at"g1";obtain⟨e0,e1,e2,e3,e4,⟨ddn,q1,q2,q3,e5⟩⟩:=hh7.ob;walk_at"g2";walk_at"g1";obtain⟨hdx,hqs,hqp,hqd,hnk,hkvs,ho1,_⟩:=hh7.hc'.at'.ex;walk_at"g2";walk_at"go";refine CW hh7.hc'.at' ndd hdm fun v hv=> ?_;walk_at"g1";obtain⟨dn,dst,de,dlt⟩:=d;walk_at"g2";walk_at"g1";obtain⟨q9,C9,dx',fs,fp,rfl,hq9,dcC,l1,l2,l3,l4,l5,mcE,hfp,hlt⟩:=DoorAt.ex hv;walk_at"g2";walk_at"go";refine⟨q9,C9,dx',fs,de,rfl,dcC,hq9,l3,?_⟩;obtain⟨hpv,hpl⟩:=hpd _ hdm;have hpl:pn dst<N:=hpl;have htl:((ds.take j).filter inD).length<=j:=Nat.le_trans (List.length_filter_le _ _) (by rw[List.length_take];lia);have hLj:(LY++doL rz (ds.take j) pn f l u N).length=LY.length+((ds.take j).filter inD).length:=by rw[List.length_append];unfold doL;rw[List.length_map]
   rcases (hc.din _ hdm).2 with hde|⟨z,hde,hz⟩
   ·have hde:de= .non:=hde;subst hde;walk_at"go";have eT:(ds.take (j+1)).filter inD=(ds.take j).filter inD:=by
     rw[aT hdj,List.filter_append,List.filter_cons_of_neg (by unfold inD exO;rw[decide_eq_true rfl];decide)];exact List.append_nil _
    have eA:doL rz (ds.take (j+1)) pn f l u N=doL rz (ds.take j) pn f l u N:=by unfold doL;rw[eT]
    refine⟨⟨sp',?_⟩,_,_,rfl⟩;rw[eT,eA];exact⟨hh7,ex7⟩
   ·have hde:de= .str z:=hde;subst hde;have hix:=uG hz;walk_at"go"
    try rw[if_pos (show (!decide (V.str z=V.non))=true by rw[decide_eq_false (fun z=>nomatch z)];rfl)]
    walk_at"go";refine hU (.inl (hh7.sm _ _ (s6 _ _ hBq))) (NG nr hz) ?_;walk_at"go";refine Q5 (sn:=pn dst) (tn:=N+1+ixR rz z) (d:=(dn,dst,.str z,dlt)) hh7 hdm hv hu0' hu1' hpv (by lia) (by lia) (by lia) (by rw[List.length_append,List.length_append,mP,mP];lia) (ZR hkn ndd hdj (by unfold inD exO;rw[decide_eq_false (fun z=>nomatch z)];rfl)) fun H8 hh8=> ?_;walk_at"go";have eT:(ds.take (j+1)).filter inD=(ds.take j).filter inD++[(dn,dst,.str z,dlt)]:=by rw[aT hdj,List.filter_append,List.filter_cons_of_pos (by unfold inD exO;rw[decide_eq_false (fun z=>nomatch z)];rfl)];rfl
    have eA:doL rz (ds.take (j+1)) pn f l u N=doL rz (ds.take j) pn f l u N++[(pn dst,N+1+ixR rz z,c7 f l (dn,dst,.str z,dlt) u)]:=by unfold doL;rw[eT,List.map_append];rfl
    refine⟨⟨sp'++[c7 f l (dn,dst,.str z,dlt) u,0],?_,fun v=> ?_⟩,_,_,rfl⟩
    ·rw[eT,eA,yJ,←List.append_assoc,←List.append_assoc,←hLj];exact hh8
    ·rw[eA,←List.append_assoc,←ex7 v];exact hh7.exc _ _ _ v
  ·rintro _ H7 hq_;walk_at"g1";obtain⟨⟨sp',hh7,ex7⟩,y1,y2,rfl⟩:=hq_;walk_at"g2";have hl:((ds.map (·.1)).map V.str).length=ds.length:=by rw[List.length_map,List.length_map]
   rw[hl,List.take_length]at hh7 ex7;generalize hLZ:LY++doL rz ds pn f l u N=LZ at hh7 ex7;have hLZl:LZ.length=LY.length+(ds.filter inD).length:=by rw[←hLZ,List.length_append];unfold doL;rw[List.length_map]
   walk_at"g1";obtain⟨e0,e1,e2,e3,e4,⟨ddn,q1,q2,q3,e5⟩⟩:=hh7.ob;walk_at"g2";walk_at"go";refine YS ?_;walk_at"go";refine V7 e0 (by walk_at"dc") (by walk_at"dc") (by walk_at"lk") ?_;walk_at"go";refine⟨u,1,rfl,rfl,_,_,e0,(show (9:Nat)<1000 by decide),?_⟩;generalize hH8:upd H7 hn _=H8;have hh8:HNS m.aV m.aP m.aM (aS P w K mg base (some 4)) B2' H8 hn x f l rz ps ds (u+1) pl (outs++[y]) (cv++[.ref qr]) pk (dk++cH u (ds.filter exO) L.length++cH u (ds.filter inD) LY.length) LZ sp' (N+1+rz.length):=by
    refine hh7.turn (v:=u+1) ?_ ?_
    ·rw[←hH8];exact SameBut.upd
    ·rw[←hH8];exact aQ
   walk_at"g1";obtain⟨e0,e1,e2,e3,e4,⟨ddn,q1,q2,q3,e5⟩⟩:=hh8.ob;walk_at"g2";walk_at"g1";obtain⟨hdx,hqs,hqp,hqd,hnk,hkvs,ho1,_⟩:=hh8.hc'.at'.ex;walk_at"g2";walk_at"go";refine mI hh8.hc'.at' fun p2 H9 n9 S9 f9=> ?_;obtain⟨_,s9,hh9⟩:=hh8.keep S9 n9 f9;generalize hB3:upd B2' p2 _=B3 at s9 hh9;have hBp3:B3 p2=some (.lst ((rz.map (·.1)).map V.str)):=by rw[←hB3];exact aQ
   have hBq3:=s9 _ _ (s6 _ _ hBq);walk_at"go";let Pv2:Nat->St->Hp->Prop:=fun j σ' H'=>(∃sp',HNS m.aV m.aP m.aM (aS P w K mg base (some 4)) B3 H' hn x f l rz ps ds (u+1) pl (outs++[y]) (cv++[.ref qr]) (pk++dJ (u+1) (rz.take j) (N+1+rz.length)) (dk++cH u (ds.filter exO) L.length++cH u (ds.filter inD) LY.length) (LZ++cF (fun z=>N+1+ixR rz z) (fun e=>e.2) (rz.take j) (N+1+rz.length)) sp' (N+1+rz.length+j)/\∀v,cD (LZ++cF (fun z=>N+1+ixR rz z) (fun e=>e.2) (rz.take j) (N+1+rz.length)) sp' v=cD (L++exL ds pn f l u N) sp1 v)/\∃y z a b,σ'=[some (.ref hn),some (.ref q),y,z,a,b];refine dC ((rz.map (·.1)).map V.str) Pv2 ⟨⟨sp',?_⟩,_,_,_,_,rfl⟩ (fun j σ' H' _ g=> ?_) ?_ ?_
   ·have e:LZ++cF (fun z=>N+1+ixR rz z) (fun e=>e.2) (rz.take 0) (N+1+rz.length)=LZ:=List.append_nil _;have e':pk++dJ (u+1) (rz.take 0) (N+1+rz.length)=pk:=List.append_nil _;rw[e,e'];exact⟨hh9,ex7⟩
   ·walk_at"g1";obtain⟨⟨sp',g,_⟩,_⟩:=g;walk_at"g2";exact SqL.of (g.sm _ _ hBp3)
   ·rintro j yy _ H10 hy10 hq_;walk_at"g1";obtain⟨⟨sp',hh10,ex10⟩,y1,y2,y3,y4,rfl⟩:=hq_;walk_at"g2";obtain⟨e,hej,rfl⟩:=vT hy10;have hem:=List.mem_of_getElem? hej;have hjl:j<rz.length:=(List.getElem?_eq_some_iff.mp hej).1;have hez:e.1∈rz.map (·.1):=List.mem_map.mpr ⟨e,hem,rfl⟩;have hix:=uG hez;have htl:(rz.take j).length=j:=by rw[List.length_take];lia
    have hLl:(LZ++cF (fun z=>N+1+ixR rz z) (fun e=>e.2) (rz.take j) (N+1+rz.length)).length=LZ.length+j:=by rw[List.length_append,fO,htl]
    walk_at"g1";obtain⟨e0,e1,e2,e3,e4,⟨ddn,q1,q2,q3,e5⟩⟩:=hh10.ob;walk_at"g2";walk_at"go";refine uL hh10 (by lia) fun H11 hh11=> ?_;walk_at"g1";obtain⟨e0,e1,e2,e3,e4,⟨ddn,q1,q2,q3,e5⟩⟩:=hh11.ob;walk_at"g2";walk_at"g1";obtain⟨hdx,hqs,hqp,hqd,hnk,hkvs,ho1,_⟩:=hh11.hc'.at'.ex;walk_at"g2";walk_at"go";refine hU (.inl (hh11.sm _ _ hBq3)) (NG nr hez) ?_;walk_at"go";refine ZU (z:=e.1) (i:=e.2) hh11.hc'.at' nr hem fun H12 S12=> ?_;have hh12:=hh11.same S12;walk_at"go";refine CP (s:=N+1+ixR rz e.1) (t:=N+1+rz.length+j) hh12 (by lia) (by lia) (hc.rz0 e hem) (by lia) fun H13 hh13=> ?_;walk_at"g1";obtain⟨e0,e1,e2,e3,e4,⟨ddn,q1,q2,q3,e5⟩⟩:=hh13.ob;walk_at"g2";walk_at"go";rename_i r14 H14 n14 S14 f14;have hh14:=hh13.same S14;refine vF [.inr e.1,.inl (u+1)] (S14 _ _ e3) f14 (by rw[sizeLine_eq,List.length_append,vN];lia) fun H15 B15 f15=> ?_;have eK:cC (pk++dJ (u+1) (rz.take j) (N+1+rz.length)) [.inr e.1,.inl (u+1)] (.int ((N+1+rz.length+j:Nat):Int))=pk++dJ (u+1) (rz.take (j+1)) (N+1+rz.length):=by rw[d7 _ (SO hpw nr hej),aT hej,xW,htl,List.append_assoc]
    rw[eK]at f15;have hh15:=hh14.pkp B15 f15;refine⟨⟨sp'++[e.2,0],?_,fun v=> ?_⟩,_,_,_,_,rfl⟩
    ·rw[aT hej,fX,htl,←List.append_assoc,←aT hej];exact hh15
    ·rw[aT hej,fX,htl,←List.append_assoc,←ex10 v];exact hh12.exc _ _ _ v
   ·rintro _ H10 hq_;walk_at"g1";obtain⟨⟨sp',hh10,ex10⟩,y1,y2,y3,y4,rfl⟩:=hq_;walk_at"g2";have hl:((rz.map (·.1)).map V.str).length=rz.length:=by rw[List.length_map,List.length_map]
    rw[hl,List.take_length]at hh10 ex10;walk_at"go";have eB:LZ++cF (fun z=>N+1+ixR rz z) (fun e=>e.2) rz (N+1+rz.length)=L++tN rz ds pn f l pl u N:=by
     rw[←hLZ,←hLY];unfold tN;rw[List.append_assoc,List.append_assoc,List.append_assoc]
    have eD:dk++cH u (ds.filter exO) L.length++cH u (ds.filter inD) LY.length=dk++dkB rz ds u L.length:=by
     rw[hLYl,List.append_assoc];rfl
    rw[eB,eD]at hh10;rw[eB]at ex10;refine k y _ sp1 rs sp' H10 ?_ KG nn1 ex1 shut (hh10.back (s5.trans (s6.trans s9)) hc) y0 (fun v=>by rw[ex10 v];exact ex1 v);rw[List.length_append];rfl
theorem zZ (m:M K mg):Mc P w K mg base m.aP "go_on" 10 (K5 m.aV m.aP m.aM (aS P w K mg base (some 4))):=⟨_,_,_,m.bJ.ic.cl,m.AK,m.kI.b,z7 m⟩
inductive C6 (K:W.Frag)(vs:List V)(H:Hp)(Q:VK)(E:XK):Prop
 | mk (a:Addr) (us:List V) (rows:List bN) (_:vs=[.ref a]) (_:SqL K H a us) (_:cN H us rows) (_:rows.length<=200) (_:∀p H',H p=none->Same H H'->H' p=some (.dT (iW rows))->Q (.ref p) H'):C6 K vs H Q E
theorem aDx {H:Hp}{Q:VK}{E:XK}{a:Addr}{us:List V}{rows:List bN} (hS:SqL K H a us) (hr:cN H us rows) (hl:rows.length<=200) (h:∀p H',H p=none->Same H H'->H' p=some (.dT (iW rows))->Q (.ref p) H'):C6 K [.ref a] H Q E:=⟨_,_,_,rfl,hS,hr,hl,h⟩
theorem L9 (m:M K mg):FnOk P w K mg base CX0 1 m.wT m.pN.d ["plan"] (C6 K):=by
 refine m.pN.F.ok sc_added_up (fun vs H Q E h=> ?_) (fun cdv A outer s H vs Q E hr h=> ?_)
 ·walk_at"g1";obtain⟨a,us,rows,rfl,hS,hpl,hlen,k⟩:=h;walk_at"g2";rfl
 ·walk_at"g1";obtain⟨a,us,rows,rfl,hS,hpl,hlen,k⟩:=h;walk_at"g2";have nd:=sc_added_up.nd;walk_at"hu";refine⟨_,(aB (aO (i:=1) nd rfl (by walk_at"oi") BA)
   (aB (cT PassesOwn.never rfl (bR (pv 0)) (yG (n:=3) rfl (aX (aN (i:=2) nd rfl (by walk_at"oi")) (aX (aN (i:=3) nd rfl (by walk_at"oi")) (aX (aN (i:=4) nd rfl (by walk_at"oi")) dR)))) (aE (iN hu1 (pv 1) (c9 (aA (pv 2) (aA (pv 3) aC))) (aK bW (VO hu1 (pv 1) (c9 (aA (pv 2) (aA (pv 3) aC))) aD ⟨rfl,rfl,rfl,rfl⟩) (pv 4)) rfl)))
   (aE (aR (pv 1))))),?_⟩
  refine aJ (σ:=[some (.ref a),none,none,none,none]) rfl ?_;walk_at"cx";have hul:us.length=rows.length:=Paired.length hpl;walk_at"go";rename_i p H1 n1 S1 e1;let Pv1:Nat->St->Hp->Prop:=fun i σ' H'=>SameBut p H1 H'/\H' p=some (.dT (iW (rows.take i)))/\∃x y z,σ'=[some (.ref a),some (.ref p),x,y,z];refine dC us Pv1 ⟨SameBut.refl,e1,_,_,_,rfl⟩ (fun i σ' H' _ q=>(SameBut.same n1 S1 q.1).seq hS) ?_ ?_
  ·rintro i x _ H' hx hq_;walk_at"g1";obtain⟨sb,ek,x1,x2,x3,rfl⟩:=hq_;walk_at"g2";have hi:i<us.length:=(List.getElem?_eq_some_iff.mp hx).1;obtain⟨⟨t,n,j⟩,hrx⟩:∃r,rows[i]? =some r:=⟨_,List.getElem?_eq_getElem (by lia)⟩
   obtain⟨q,rfl,hq⟩:=Paired.at2 hpl hx hrx;have hq':H' q=some (.tup [.int t,.str n,.int j]):=(SameBut.same n1 S1 sb) _ _ hq;obtain⟨i0,ei⟩:=VZ (rows.take i) t n;have hkl:=A6 (rows.take i);rw[List.length_take]at hkl;walk_at"go";refine SF ek ?_;walk_at"go";rename_i b1 H2 n2 S2 e2;refine V9 (bT t n) (by walk_at"hp") (by assumption) ?_;rw[ei];walk_at"go";rename_i b3 H3 n3 S3 e3;refine vF (bT t n) (by walk_at"hp") (by assumption) (by rw[sizeLine_eq];lia) fun H4 B4 e4=> ?_;refine⟨by walk_at"sb",?_,_,_,_,rfl⟩;rw[e4,aT hrx,nR];unfold JV;rw[ei];rfl
  ·rintro _ H' hq_;walk_at"g1";obtain⟨sb,ek,x1,x2,x3,rfl⟩:=hq_;walk_at"g2";rw[hul,List.take_length]at ek;walk_at"go";exact k _ _ n1 (SameBut.same n1 S1 sb) ek
theorem MD (m:M K mg):Fc P w K mg base "added_up" 1 ["plan"] (C6 K):=⟨_,_,m.QI,m.pN.F.kp,m.pN.b,L9 m⟩
inductive zU (K:W.Frag)(vs:List V)(H:Hp)(Q:VK)(E:XK):Prop
 | mk (a:Addr) (us:List V) (rows:List bN) (_:vs=[.ref a]) (_:SqL K H a us) (_:cN H us rows) (_:rows.length<=200) (_:(eI rows).length<64) (_:∀p ws xs H',H p=none->Same H H'->H' p=some (.lst ws)->cN H' ws xs->xs.map eY=kZ (eI rows)->Q (.ref p) H'):zU K vs H Q E
theorem aDa {H:Hp}{Q:VK}{E:XK}{a:Addr}{us:List V}{rows:List bN} (hS:SqL K H a us) (hr:cN H us rows) (hl:rows.length<=200) (h64:(eI rows).length<64) (h:∀p ws xs H',H p=none->Same H H'->H' p=some (.lst ws)->cN H' ws xs->xs.map eY=kZ (eI rows)->Q (.ref p) H'):zU K [.ref a] H Q E:=⟨_,_,_,rfl,hS,hr,hl,h64,h⟩
theorem FZ {H:Hp}:∀{es:List (List Key×V)}{ys:List V},Paired (fun e y=>∃q,y= .ref q/\H q=some (.tup ((OW e).map kV))) es ys->KRows H ys (es.map OW)
 | _,_,.nil=> .nil
 | _,_,.cons h t=> .cons h (FZ t)
theorem DQ {H:Hp}:∀{ws:List V}{ks:List (List Key)},KRows H ws ks->(∀k∈ks,∃r:bN,k=eY r)->∃xs,cN H ws xs/\xs.map eY=ks
 | _,_,.nil,_=>⟨[],.nil,rfl⟩
 | _,_,.cons ⟨p,e,h⟩ t,hk=>by
  obtain⟨xs,h1,h2⟩:=DQ t fun k hk'=>hk k (List.mem_cons_of_mem _ hk');obtain⟨r,rfl⟩:=hk _ (.head _);exact⟨r::xs,.cons ⟨p,e,h⟩ h1,by rw[List.map_cons,h2]⟩
theorem P7 (m:M K mg):FnOk P w K mg base CX0 2 m.yW m.sY.d ["plan"] (zU K):=by
 refine m.sY.F.ok sc_as_told (fun vs H Q E h=> ?_) (fun cdv A outer s H vs Q E hr h=> ?_)
 ·walk_at"g1";obtain⟨a,us,rows,rfl,hS,hpl,hlen,h64,k⟩:=h;walk_at"g2";rfl
 ·walk_at"g1";obtain⟨a,us,rows,rfl,hS,hpl,hlen,h64,k⟩:=h;walk_at"g2";have nd:=sc_as_told.nd;walk_at"hu";have F_added_up:= @MD P w K mg base m;refine⟨_,(aE (aR (bH yH rfl m.LB GE (aA (c6 (N:=["place","number"]) (nl:=2) (ci:=[]) rfl (blk (s.heap.objs.size+1) rfl rfl rfl (by kernel_rfl)) (xK (bK F_added_up hr (aA (pv 0) aC))) (fun _ _ _ _=>(kM (K:=K) (n:=2) rfl (aX (aN (i:=0) (show (["place","number"]:List Str).Nodup by decide +kernel) rfl (by walk_at"oi")) (aX (aN (i:=1) (show (["place","number"]:List Str).Nodup by decide +kernel) rfl (by walk_at"oi")) dR)))) (fun _ _ _ _=>(qP (aU zG (pv 1) aD (bB _)))) (fun _ _ _ _=>(c9 (aA (aW (dQ (K:=K)) (pv 0) aD (fun _ _=>rfl)) (aA (aW (dQ (K:=K)) (pv 0) aD (fun _ _=>rfl)) (aA (pv 1) aC)))))) aC)))),?_⟩;refine aJ (σ:=[some (.ref a)]) rfl ?_;walk_at"cx";have hkl:=A6 rows;walk_at"go";refine aDx hS hpl hlen fun p H1 n1 S1 e1=> ?_;walk_at"go";refine xX e1 fun o H2 B2 e2=> ?_;have sA:Same H H2:=SameBut.same n1 S1 B2;refine JZ VM (fun e y H=>∃q,y= .ref q/\H q=some (.tup ((OW e).map kV))) (fun _ _ _ _ ⟨q,h1,h2⟩ s=>⟨q,h1,s _ _ h2⟩) (by rw[sizeLine_eq];lia) (rest:=[]) (by rfl) e2 ?_ ?_ ?_
  ·rintro ⟨kk,v⟩ H3 q hm s3 hq R hR;walk_at"g1";obtain⟨t,n,i,e⟩:=(kQ rows).2 _ hm;walk_at"g2";cases e;show (_:TT) (some (V.ref q)::some (V.int i)::[]) H3 R;walk_at"go";exact hR _ (Same.refl _)
  ·rintro ⟨kk,v⟩ H3 q hm - s3 hq R hR;walk_at"g1";obtain⟨t,n,i,e⟩:=(kQ rows).2 _ hm;walk_at"g2";cases e;have hq':H3 q=some (.tup [.int t,.str n]):=hq;show (_:TE) (some (V.ref q)::some (V.int i)::[]) H3 R;walk_at"go";refine⟨q,_,0,_,rfl,rfl,SqT.of hq',rfl,?_⟩;walk_at"go";refine⟨q,_,1,_,rfl,rfl,SqT.of hq',rfl,?_⟩;walk_at"go";rename_i q4 H4 n4 S4 e4;exact hR _ _ ⟨q4,rfl,e4⟩ S4
  intro ys H3 s3 hys;have kr:=FZ hys;walk_at"go";rename_i q4 H4 n4 S4 e4;refine IG (SqL.of e4) (kr.same S4) (by rw[Paired.length kr];exact h64) (O1 rows) (by decide) fun l ws H5 n5 S5 e5 kr5=> ?_;obtain⟨xs,h1,h2⟩:=DQ kr5 fun kk hk=>by
   walk_at"g1";obtain⟨t,n,rfl,_⟩:=mem_told.mp ((lE _).mem_iff.mp hk);walk_at"g2";exact⟨_,rfl⟩
  have sB:Same H H5:=((sA.trans s3).trans S4).trans S5;have sB4:Same H H4:=(sA.trans s3).trans S4;walk_at"go";refine k l ws xs H5 ?_ sB e5 h1 h2;cases hq:H l with
  | none=>rfl
  | some u=>rw[sB4 _ _ hq]at n5;cases n5
theorem PU (m:M K mg):Fc P w K mg base "as_told" 2 ["plan"] (zU K):=⟨_,_,m.UI,m.sY.F.kp,m.sY.b,P7 m⟩
def kpL (rz:List (Str×Int))(pn:Str->Nat)(N:Nat)(pl:Int):List Arc:=rz.map fun e=>(pn e.1,N,pl)
inductive BU (CN CH CHo:Addr)(D:bF)(vs:List V)(H:Hp)(Q:VK)(E:XK):Prop
 | mk (hn:Addr) (x:HNAt) (pn:Str->Nat) (f l:Int) (rz ps:List (Str×Int)) (ds:List aG) (H0:Hp) (u pl:Int) (outs:List Int) (cv:List V) (pk dk:List (List Key×V)) (L:List Arc) (sp:List Int) (N:Nat) (_:vs=[.ref hn]) (_:HNS CN CH CHo D H0 H hn x f l rz ps ds u pl outs cv pk dk L sp N) (_:0<=pl) (_:(∀e∈rz,aY pk [.inr e.1,.inl u]=some (.int (pn e.1:Int))/\pn e.1<N)) (_:0<N) (_:N<10000) (_:L.length<10000) (_:∀sp' H',HNS CN CH CHo D H0 H' hn x f l rz ps ds u pl outs cv pk dk (L++kpL rz pn N pl) sp' (N+1)->(∀v,v≠0->v≠(N:Int)->cD (L++kpL rz pn N pl) sp' v=cD L sp v)->Q .non H'):BU CN CH CHo D vs H Q E
theorem rY (m:M K mg):FnOk P w K mg base CX0 3 m.fE m.fC.d ["self"] (BU m.aV m.aP m.aM (aS P w K mg base (some 4))):=by
 refine m.fC.F.ok sc_HouseNet_keep_others (fun vs H Q E h=> ?_) (fun cdv A outer s H vs Q E hr h=> ?_)
 ·walk_at"g1";obtain⟨hn,x,pn,f,l,rz,ps,ds,H0,u,pl,outs,cv,pk,dk,L,sp,N,rfl,hh,hpl0,hpn,hN0,hN1,hL1,k⟩:=h;walk_at"g2";rfl
 ·walk_at"g1";obtain⟨hn,x,pn,f,l,rz,ps,ds,H0,u,pl,outs,cv,pk,dk,L,sp,N,rfl,hh,hpl0,hpn,hN0,hN1,hL1,k⟩:=h;walk_at"g2";have nd:=sc_HouseNet_keep_others.nd;walk_at"hu";have w_dc_HouseNet:=m.bJ;have w_dc_Net:=m.cE;have w_dc_House:=m.bI;refine⟨_,(aB (aO (i:=1) nd rfl (by walk_at"oi") (cB 1 hr (aI (pv 0) rfl)))
   (aB (cT PassesOwn.never rfl (bR (cB 1 hr (aI (pv 0) rfl))) (aN (i:=2) nd rfl (by walk_at"oi")) (aE (aZ (cO 1 hr (aI (pv 0) rfl) (aA (cO 1 hr (pv 0) (aA (pv 2) aC)) (aA (pv 1) (aA (aI (pv 0) rfl) aC)))))))
   (aE (aZ (cO 2 hr (aI (pv 0) rfl) (aA (aI (pv 0) rfl) (aA (pv 1) aC))))))),?_⟩
  refine aJ (σ:=[some (.ref hn),none,none]) rfl ?_;walk_at"cx";have M1:= @eQ P w K mg base m;have M2:= @iK P w K mg base m;have M3:= @fL P w K mg base m;have M4:= @iC P w K mg base m;have M5:= @sU P w K mg base m;have hc:=hh.hc;have hrl:=hc.lr;walk_at"g1";obtain⟨e0,e1,e2,e3,e4,⟨ddn,q1,q2,q3,e5⟩⟩:=hh.ob;walk_at"g2";walk_at"go";refine uL hh (by lia) fun H1 hh1=> ?_;walk_at"g1";obtain⟨e0,e1,e2,e3,e4,⟨ddn,q1,q2,q3,e5⟩⟩:=hh1.ob;walk_at"g2";walk_at"g1";obtain⟨hdx,hqs,hqp,hqd,hnk,hkvs,ho1,_⟩:=hh1.hc'.at'.ex;walk_at"g2";walk_at"go";refine mI hh1.hc'.at' fun p H2 n2 S2 f2=> ?_;obtain⟨_,s0,hh2⟩:=hh1.keep S2 n2 f2;generalize hB:upd H0 p _=B at s0 hh2;have p0:B p=some (.lst ((rz.map (·.1)).map V.str)):=by rw[←hB];exact aQ
  walk_at"go";let Pv2:Nat->St->Hp->Prop:=fun j σ' H'=>(∃sp',HNS m.aV m.aP m.aM (aS P w K mg base (some 4)) B H' hn x f l rz ps ds u pl outs cv pk dk (L++kpL (rz.take j) pn N pl) sp' (N+1)/\∀v,cD (L++kpL (rz.take j) pn N pl) sp' v=cD L sp v)/\∃y,σ'=[some (.ref hn),some (.int (N:Int)),y];refine dC ((rz.map (·.1)).map V.str) Pv2 ⟨⟨sp,?_⟩,_,rfl⟩ (fun j σ' H' _ g=> ?_) ?_ ?_
  ·have e:L++kpL (rz.take 0) pn N pl=L:=List.append_nil L;rw[e];exact⟨hh2,fun _=>rfl⟩
  ·walk_at"g1";obtain⟨⟨sp',g,_⟩,_⟩:=g;walk_at"g2";exact SqL.of (g.sm _ _ p0)
  ·rintro j y _ H3 hy3 hq_;walk_at"g1";obtain⟨⟨sp',hh3,ex3⟩,y1,rfl⟩:=hq_;walk_at"g2";obtain⟨e,hej,rfl⟩:=vT hy3;have hem:=List.mem_of_getElem? hej;have hjl:j<rz.length:=(List.getElem?_eq_some_iff.mp hej).1;obtain⟨hv,hvl⟩:=hpn e hem;have hLl:(L++kpL (rz.take j) pn N pl).length=L.length+j:=by unfold kpL;rw[List.length_append,List.length_map,List.length_take];lia
   walk_at"g1";obtain⟨e0,e1,e2,e3,e4,⟨ddn,q1,q2,q3,e5⟩⟩:=hh3.ob;walk_at"g2";walk_at"go";refine T8 hh3 hv fun H6 S6=> ?_;have hh6:=hh3.same S6;walk_at"g1";obtain⟨e0,e1,e2,e3,e4,⟨ddn,q1,q2,q3,e5⟩⟩:=hh6.ob;walk_at"g2";walk_at"go";refine CP (s:=pn e.1) (t:=N) hh6 (by lia) (by lia) hpl0 (by lia) fun H7 hh7=> ?_;walk_at"go";have eA:kpL (rz.take (j+1)) pn N pl=kpL (rz.take j) pn N pl++[(pn e.1,N,pl)]:=by unfold kpL;rw[aT hej,List.map_append];rfl
   refine⟨⟨sp'++[pl,0],?_,fun v=> ?_⟩,_,rfl⟩
   ·rw[eA,←List.append_assoc];exact hh7
   ·rw[eA,←List.append_assoc,←ex3 v];exact hh6.exc _ _ _ v
  ·rintro _ H3 hq_;walk_at"g1";obtain⟨⟨sp',hh3,ex3⟩,y1,rfl⟩:=hq_;walk_at"g2";have hl:((rz.map (·.1)).map V.str).length=rz.length:=by rw[List.length_map,List.length_map]
   rw[hl,List.take_length]at hh3 ex3;walk_at"g1";obtain⟨e0,e1,e2,e3,e4,⟨ddn,q1,q2,q3,e5⟩⟩:=hh3.ob;walk_at"g2";walk_at"go";refine RL hh3 (by lia) (by lia) fun y sp2 rs H4 hh4 y0 ex4 cap4 nn4 shut=> ?_;walk_at"go";refine k sp2 H4 (hh4.back s0 hc) fun v h0 h1=> ?_;rw[ex4 v,ex3 v,if_neg (Ne.symm h1),if_neg (Ne.symm h0)]
   lia
theorem rW (m:M K mg):Mc P w K mg base m.aP "keep_others" 3 (BU m.aV m.aP m.aM (aS P w K mg base (some 4))):=⟨_,_,_,m.bJ.ic.cl,m.r6,m.fC.b,rY m⟩
def cG (sp:List Int)(e:List Key×V):bN:=match e with
 | ([.inl t,.inr n],.int a)=>(t,n,at0 sp (a.toNat+1))
 | _=>(0,⟨#[]⟩,0)
inductive BB (CN CH CHo:Addr)(D:bF)(vs:List V)(H:Hp)(Q:VK)(E:XK):Prop
 | mk (hn:Addr) (x:HNAt) (f l:Int) (rz ps:List (Str×Int)) (ds:List aG) (H0:Hp) (u pl:Int) (outs:List Int) (cv:List V) (pk dk:List (List Key×V)) (L:List Arc) (sp:List Int) (N:Nat) (_:vs=[.ref hn]) (_:HNS CN CH CHo D H0 H hn x f l rz ps ds u pl outs cv pk dk L sp N) (_:(∀e∈dk,∃(t:Int) (n:Str) (a:Nat),e=(bT t n,.int (a:Int))/\a+1<sp.length)) (_:dk.length<64) (_:∀p ws xs H',Same H0 H'->H' p=some (.lst ws)->cN H' ws xs->xs.map eY=kZ (eI (dk.map (cG sp)))->Q (.ref p) H'):BB CN CH CHo D vs H Q E
theorem BI (m:M K mg):FnOk P w K mg base CX0 3 m.lX m.lN.d ["self"] (BB m.aV m.aP m.aM (aS P w K mg base (some 4))):=by
 refine m.lN.F.ok sc_HouseNet_rows (fun vs H Q E h=> ?_) (fun cdv A outer s H vs Q E hr h=> ?_)
 ·walk_at"g1";obtain⟨hn,x,f,l,rz,ps,ds,H0,u,pl,outs,cv,pk,dk,L,sp,N,rfl,hh,hdk,h64,k⟩:=h;walk_at"g2";rfl
 ·walk_at"g1";obtain⟨hn,x,f,l,rz,ps,ds,H0,u,pl,outs,cv,pk,dk,L,sp,N,rfl,hh,hdk,h64,k⟩:=h;walk_at"g2";have nd:=sc_HouseNet_rows.nd;walk_at"hu";have F_as_told:= @PU P w K mg base m;have w_dc_HouseNet:=m.bJ;have w_dc_Net:=m.cE;have w_dc_House:=m.bI;refine⟨_,(aE (aR (bK F_as_told hr (aA (EK (c6 (N:=["place","arc","self"]) (nl:=2) (ci:=[0]) rfl (blk (s.heap.objs.size+1) rfl rfl rfl (by kernel_rfl)) (xK (aI (pv 0) rfl)) (fun _ _ _ _=>(kM (K:=K) (n:=2) rfl (aX (aN (i:=0) (show (["place","arc","self"]:List Str).Nodup by decide +kernel) rfl (by walk_at"oi")) (aX (aN (i:=1) (show (["place","arc","self"]:List Str).Nodup by decide +kernel) rfl (by walk_at"oi")) dR)))) (fun _ _ _ _=>d9) (fun _ _ _ _=>(c9 (aA (aW (dQ (K:=K)) (pv 0) aD (fun _ _=>rfl)) (aA (aW (dQ (K:=K)) (pv 0) aD (fun _ _=>rfl)) (aA (R0 (P:=P) (w:=w) (K:=K) (mg:=mg) (base:=base) 1 hr (uB (K:=K) (pv 2) rfl) (aA (pv 1) aC)) aC))))))) aC)))),?_⟩;refine aJ (σ:=[some (.ref hn)]) rfl ?_;walk_at"cx";have M1:= @MB P w K mg base m;walk_at"g1";obtain⟨np,as,hne,hS,hfr,hns,hc⟩:=id hh;walk_at"g2";walk_at"g1";obtain⟨i0,i1,i2,i3,i4,i5,d1,d2,d3,d4,d5⟩:=id hne;walk_at"g2";walk_at"go";refine BC i4 (fun _ _ z=>nomatch z) ?_;walk_at"go";refine xX i4 fun o H2 B2 f2=> ?_;have hx4:x.n≠x.a4:=fun z=>by
   walk_at"g1";obtain⟨_,_,_,_,_,_,j0,_⟩:=i5;walk_at"g2";have j0:H x.n=_:=j0;have i4:H x.a4=_:=i4;rw[z,i4]at j0;cases j0
  have ne2:NetE m.aV H2 x.n np (cQ L) sp as:=i5.on B2 hx4 (IU i5 i4 fun _ z=>nomatch z);have g0:H2 hn=some (.ins m.aP x.dx (O2 x.h x.a1 x.a2 x.n x.a3 x.a4 u pl)):=B2 _ _ i0 (fun z=>by
   have i4:H x.a4=_:=i4;rw[z,i4]at i0;cases i0)
  refine JZ (fun _=>true) (fun e y H=>xZ H y (cG sp e)) (fun _ _ _ _ ⟨q,h1,h2⟩ s=>⟨q,h1,s _ _ h2⟩) (by rw[sizeLine_eq];lia) (rest:=[some (.ref hn)]) (by rfl) f2 ?_ ?_ ?_
  ·rintro ⟨kk,v⟩ H3 q hm s3 hq R hR;exact hR _ (Same.refl _)
  ·rintro ⟨kk,v⟩ H3 q hm - s3 hq R hR;walk_at"g1";obtain⟨t,n,a,e,ha⟩:=hdk _ hm;walk_at"g2";cases e;have hq':H3 q=some (.tup [.int t,.str n]):=hq;have g3:=s3 _ _ g0;have ne3:=ne2.same s3;walk_at"g1";obtain⟨dn3,c1,c2,c3,rs3,ef3,z0,_⟩:=id ne3;walk_at"g2";show (_:TE) (some (V.ref q)::some (V.int (a:Int))::[some (.ref hn)]) H3 R;walk_at"go";refine⟨q,_,0,_,rfl,rfl,SqT.of hq',rfl,?_⟩;walk_at"go";refine⟨q,_,1,_,rfl,rfl,SqT.of hq',rfl,?_⟩;walk_at"go";refine ZN ne3 ha ?_;walk_at"go";rename_i q4 H4 n4 S4 e4;exact hR _ _ ⟨q4,rfl,by rw[e4];show _=some (HO.tup [V.int t,V.str n,V.int (at0 sp ((a:Int).toNat+1))]);rw[Int.toNat_natCast]⟩ S4
  intro ys H3 s3 hys;rw[d6]at hys;have hpl:cN H3 ys (dk.map (cG sp)):=by
   have:∀{es:List (List Key×V)}{zs:List V},Paired (fun e y=>xZ H3 y (cG sp e)) es zs->cN H3 zs (es.map (cG sp)):=fun {es zs} h=>by
    induction h with
    | nil=>exact .nil
    | cons h t ih=>exact .cons h ih
   exact this hys
  have hyl:(dk.map (cG sp)).length=dk.length:=List.length_map _;walk_at"go";rename_i p4 H4 n4 S4 f4;refine sM (S4 _ _ (s3 _ _ f2)) fun H5 B5 f5=> ?_;have hp4:p4≠x.a4:=fun z=>by
   have h:=s3 _ _ f2;rw[z]at n4;rw[n4]at h;cases h
  have nl:∀b o,H3 b=some o->(∀oo xx,o≠HO.frz oo xx)->b≠x.a4:=fun b o hb ho z=>by
   rw[z,s3 _ _ f2]at hb;exact ho _ _ (Option.some.inj hb).symm
  have hpl5:cN H5 ys (dk.map (cG sp)):=Paired.imp' (fun v r ⟨q,e,h⟩=>⟨q,e,B5 _ _ (S4 _ _ h) (nl _ _ h fun _ _ z=>nomatch z)⟩) hpl;have s5:Same H0 H5:=fun b v hb=>by
   have hb4:b≠x.a4:=fun z=>by
    have:=hfr x.a4 (List.mem_cons_of_mem _ (List.mem_cons_of_mem _ (List.mem_cons_of_mem _ (List.mem_cons_of_mem _ (.head _)))));rw[z,this]at hb;cases hb
   exact B5 _ _ (S4 _ _ (s3 _ _ (B2 _ _ (hS _ _ hb) hb4))) hb4
  have htk:(eI (dk.map (cG sp))).length<64:=by
   have h1:=A6 (dk.map (cG sp));unfold eI;rw[List.length_map];have h2:=List.length_filter_le VM (iW (dk.map (cG sp)))
   lia
  walk_at"go";refine aDa (SqL.of (B5 _ _ f4 hp4)) hpl5 (by lia) htk fun p6 ws6 xs6 H6 n6 S6 f6 hp6 hx6=> ?_;walk_at"go";exact k p6 ws6 xs6 H6 (s5.trans S6) f6 hp6 hx6
theorem A5 (m:M K mg):Mc P w K mg base m.aP "rows" 3 (BB m.aV m.aP m.aM (aS P w K mg base (some 4))):=⟨_,_,_,m.bJ.ic.cl,m.CC,m.lN.b,BI m⟩
def nb (R k:Nat):Nat:=1+k * (2 * R+1)
theorem EH (R k:Nat):nb R (k+1)=nb R k+R+1+R:=by unfold nb;rw[Nat.add_mul];lia
def pnK (rz:List (Str×Int))(k:Nat)(z:Str):Nat:=nb rz.length k+ixR rz z
def LK (rz ps:List (Str×Int))(ds:List aG)(f l pl:Int):Nat->List Arc
 | 0=>cF (fun _=>0) (fun e=>dD ps e.1) rz 1
 | k+1=>LK rz ps ds f l pl k++tN rz ds (pnK rz k) f l pl (f+(k:Int)) (nb rz.length k+rz.length)
def pkK (rz:List (Str×Int))(f:Int):Nat->List (List Key×V)
 | 0=>dJ f rz 1
 | k+1=>pkK rz f k++dJ (f+(k:Int)+1) rz (nb rz.length k+rz.length+1+rz.length)
def dkK (rz ps:List (Str×Int))(ds:List aG)(f l pl:Int):Nat->List (List Key×V)
 | 0=>[]
 | k+1=>dkK rz ps ds f l pl k++dkB rz ds (f+(k:Int)) (LK rz ps ds f l pl k).length
theorem BX (ds:List aG):(ds.filter exO).length+(ds.filter inD).length=ds.length:=by
 induction ds with
 | nil=>rfl
 | cons d l ih =>
  by_cases h:exO d=true
  ·rw[List.filter_cons_of_pos h,List.filter_cons_of_neg (by unfold inD;rw[h];decide),List.length_cons,List.length_cons];lia
  ·rw[List.filter_cons_of_neg h,List.filter_cons_of_pos (by unfold inD;rw[Bool.not_eq_true]at h;rw[h];rfl),List.length_cons,List.length_cons];lia
theorem WF (rz:List (Str×Int))(ds:List aG)(pn:Str->Nat)(f l pl u:Int)(N:Nat):(tN rz ds pn f l pl u N).length=ds.length+2 * rz.length:=by
 have:=BX ds;unfold tN exL doL;rw[List.length_append,List.length_append,List.length_append,fO,fO,List.length_map,List.length_map];lia
theorem aA4 (rz:List (Str×Int))(ds:List aG)(u:Int)(a:Nat):(dkB rz ds u a).length=ds.length:=by
 have:=BX ds;unfold dkB;rw[List.length_append,mP,mP];lia
theorem C3 (rz ps:List (Str×Int))(ds:List aG)(f l pl:Int):∀k,(LK rz ps ds f l pl k).length=rz.length+k * (ds.length+2 * rz.length)
 | 0=>by show (cF _ _ _ _).length=_;rw[fO];lia
 | k+1=>by
  show List.length (_++_)=_;rw[List.length_append,C3 rz ps ds f l pl k,WF,Nat.add_mul];lia
theorem uH (rz ps:List (Str×Int))(ds:List aG)(f l pl:Int):∀k,(dkK rz ps ds f l pl k).length=k * ds.length
 | 0=>by rw[Nat.zero_mul];rfl
 | k+1=>by
  show List.length (_++_)=_;rw[List.length_append,uH rz ps ds f l pl k,aA4,Nat.add_mul];lia
theorem NK (rz:List (Str×Int))(f:Int):∀k,(pkK rz f k).length=(k+1) * rz.length
 | 0=>by show (dJ _ _ _).length=_;rw[vN];lia
 | k+1=>by
  show List.length (_++_)=_;rw[List.length_append,NK rz f k,vN,Nat.add_mul (k+1)];lia
theorem MZ {rz:List (Str×Int)}{ds:List aG}{u:Int}{a:Nat}{k:List Key} (h:k∈(dkB rz ds u a).map (·.1)):∃d∈ds,k=bT u d.1:=by
 unfold dkB at h;rw[List.map_append,fN,fN]at h;rcases List.mem_append.mp h with h|h
 ·obtain⟨d,hd,rfl⟩:=List.mem_map.mp h;exact⟨d,(List.mem_filter.mp hd).1,rfl⟩
 ·obtain⟨d,hd,rfl⟩:=List.mem_map.mp h;exact⟨d,(List.mem_filter.mp hd).1,rfl⟩
theorem zM {rz ps:List (Str×Int)}{ds:List aG}{f l pl:Int}{q:List Key}:∀{k:Nat},q∈(dkK rz ps ds f l pl k).map (·.1)->∃d∈ds,∃j:Nat,j<k/\q=bT (f+(j:Int)) d.1
 | 0,h=>nomatch h
 | k+1,h=>by
  have h:q∈(dkK rz ps ds f l pl k++dkB rz ds (f+(k:Int)) (LK rz ps ds f l pl k).length).map (·.1):=h;rw[List.map_append]at h;rcases List.mem_append.mp h with h|h
  ·walk_at"g1";obtain⟨d,hd,j,hj,e⟩:=zM h;walk_at"g2";exact⟨d,hd,j,by lia,e⟩
  ·obtain⟨d,hd,e⟩:=MZ h;exact⟨d,hd,k,by lia,e⟩
theorem EZ {rz:List (Str×Int)}{f:Int}{q:List Key}:∀{k:Nat},q∈(pkK rz f k).map (·.1)->∃e∈rz,∃j:Nat,j<=k/\q=[.inr e.1,.inl (f+(j:Int))]
 | 0,h=>by
  have h:q∈(dJ f rz 1).map (·.1):=h;rw[hV]at h;obtain⟨e,he,rfl⟩:=List.mem_map.mp h;exact⟨e,he,0,Nat.le_refl _,by rw[show f+((0:Nat):Int)=f by lia]⟩
 | k+1,h=>by
  have h:q∈(pkK rz f k++dJ (f+(k:Int)+1) rz (nb rz.length k+rz.length+1+rz.length)).map (·.1):=h;rw[List.map_append]at h;rcases List.mem_append.mp h with h|h
  ·walk_at"g1";obtain⟨e,he,j,hj,e'⟩:=EZ h;walk_at"g2";exact⟨e,he,j,by lia,e'⟩
  ·rw[hV]at h;obtain⟨e,he,rfl⟩:=List.mem_map.mp h;exact⟨e,he,k+1,Nat.le_refl _,by rw[show f+((k+1:Nat):Int)=f+(k:Int)+1 by lia]⟩
theorem wN {t:Int}:∀{l:List (Str×Int)}{a:Nat}{e:List Key×V},e∈dJ t l a->∃(z:Str) (t v:Int),e=([.inr z,.inl t],.int v)
 | d::l,a,e,h=>by
  rcases List.mem_cons.mp h with rfl|h
  ·exact⟨_,_,_,rfl⟩
  ·exact wN h
theorem FO {rz:List (Str×Int)}{f:Int}{e:List Key×V}:∀{k:Nat},e∈pkK rz f k->∃(z:Str) (t v:Int),e=([.inr z,.inl t],.int v)
 | 0,h=>wN h
 | k+1,h=>by
  rcases List.mem_append.mp (show e∈pkK rz f k++_ from h) with h|h
  ·exact FO h
  ·exact wN h
theorem KQ {z z':Str}{t t':Int} (h:([.inr z,.inl t]:List Key)=[.inr z',.inl t']):z=z'/\t=t':=by
 injection h with h1 h2;injection h2 with h2 _;exact⟨Sum.inr.inj h1,Sum.inl.inj h2⟩
theorem N1 {t:Int}{rz:List (Str×Int)} (nr:(rz.map (·.1)).Nodup) (a:Nat):((dJ t rz a).map (·.1)).Nodup:=by
 rw[hV];have:(rz.map fun e=>([.inr e.1,.inl t]:List Key))=(rz.map (·.1)).map fun z=>([.inr z,.inl t]:List Key):=by rw[List.map_map];rfl
 rw[this,List.Nodup,List.pairwise_map];exact nr.imp fun h z=>h (KQ z).1
theorem K8 {rz:List (Str×Int)}(nr:(rz.map (·.1)).Nodup)(f:Int):∀k,((pkK rz f k).map (·.1)).Nodup
 | 0=>N1 nr 1
 | k+1=>by
  show ((pkK rz f k++_).map (·.1)).Nodup;rw[List.map_append];refine List.nodup_append.mpr ⟨K8 nr f k,N1 nr _,fun a ha b hb e=> ?_⟩;walk_at"g1";obtain⟨e1,_,j,hj,h1⟩:=EZ ha;walk_at"g2";rw[hV]at hb;obtain⟨e2,_,h2⟩:=List.mem_map.mp hb;rw[h1,←h2]at e;have:=(KQ e).2
  lia
theorem aAx {rz:List (Str×Int)}(nr:(rz.map (·.1)).Nodup)(f:Int){z:Str}(hz:z∈rz.map (·.1)):∀k:Nat,aY (pkK rz f k) [.inr z,.inl (f+(k:Int))]=some (.int (pnK rz k z:Int))
 | 0=>by
  have h:=fJ (K8 nr f 0) (show ([.inr z,.inl f],(.int ((1+ixR rz z:Nat):Int):V))∈pkK rz f 0 from D5 f hz);rw[show f+((0:Nat):Int)=f by lia];unfold pnK nb;rw[Nat.zero_mul];exact h
 | k+1=>by
  have hm:=D5 (f+(k:Int)+1) (a:=nb rz.length k+rz.length+1+rz.length) hz;have h:=fJ (K8 nr f (k+1)) (show _∈pkK rz f k++_ from List.mem_append_right _ hm);rw[show f+((k+1:Nat):Int)=f+(k:Int)+1 by lia];unfold pnK;rw[EH];exact h
def oN (R j:Nat):Nat:=nb R j+R
def oE (R:Nat):List Int->Nat->Int->Int
 | [],_,_=>0
 | y::l,j,v=>(if (oN R j:Int)=v then y else 0)+oE R l (j+1) v
theorem FA (R:Nat)(y v:Int):∀(l:List Int) (j:Nat),oE R (l++[y]) j v=oE R l j v+if (oN R (j+l.length):Int)=v then y else 0
 | [],j=>by
  show (if (oN R j:Int)=v then y else 0)+0=0+if (oN R (j+0):Int)=v then y else 0;rw[Nat.add_zero];lia
 | x::l,j=>by
  show _+oE R (l++[y]) (j+1) v=(_+oE R l (j+1) v)+_;rw[FA R y v l (j+1),List.length_cons,show j+1+l.length=j+(l.length+1) by lia];lia
theorem zC (R:Nat){j k:Nat}(h:j<k):oN R j<nb R k:=by
 unfold oN nb;have:(j+1) * (2 * R+1)<=k * (2 * R+1):=Nat.mul_le_mul_right _ h;rw[Nat.add_mul]at this
 lia
theorem aB5 (R j:Nat):0<oN R j:=by unfold oN nb;lia
def excOk (R:Nat)(L:List Arc)(sp outs:List Int):Prop:=∀v,cD L sp v=oE R outs 0 v - if (0:Int)=v then outs.sum else 0
def Bst (R:Nat)(LX:List Arc)(j:Nat)(outs:List Int):Prop:=∃sp rs,CapOk sp LX/\(∀m,0<=at0 sp m)/\excOk R LX sp outs/\IF (cQ LX) sp 0 (oN R j:Int) rs
def LX (rz ps:List (Str×Int))(ds:List aG)(f l pl:Int)(k:Nat):List Arc:=LK rz ps ds f l pl k++exL ds (pnK rz k) f l (f+(k:Int)) (oN rz.length k)
def BstAll (rz ps:List (Str×Int))(ds:List aG)(f l pl:Int)(outs:List Int):Prop:=∀j,j<outs.length->Bst rz.length (LX rz ps ds f l pl j) j (outs.take (j+1))
theorem excOk.more {R:Nat}{L L':List Arc}{sp sp' outs:List Int}{y:Int} (h:excOk R L sp outs) (e:∀v,cD L' sp' v=cD L sp v+((if (oN R outs.length:Int)=v then y else 0) - if (0:Int)=v then y else 0)):excOk R L' sp' (outs++[y]):=fun v=>by
 rw[e v,h v,FA,Nat.zero_add,List.sum_append];have:[y].sum=y:=by rw[List.sum_cons];exact Int.add_zero _
 rw[this]
 split<;>split<;>lia
theorem BstAll.more {rz ps:List (Str×Int)}{ds:List aG}{f l pl:Int}{outs:List Int}{y:Int} (h:BstAll rz ps ds f l pl outs) (b:Bst rz.length (LX rz ps ds f l pl outs.length) outs.length (outs++[y])):BstAll rz ps ds f l pl (outs++[y]):=fun j hj=>by
 rw[List.length_append]at hj;have hj:j<outs.length+1:=hj
 by_cases he:j=outs.length
 ·subst he;rw[List.take_of_length_le (by rw[List.length_append];exact Nat.le_refl _)];exact b
 ·rw[List.take_append_of_le_length (by lia)];exact h j (by lia)
theorem Q1 {ts sp rs:List Int}(nd:rs.Nodup)(h0:∀k,0<=at0 sp k):∀n:Nat,- vL ts sp rs n<=vQ ts sp rs n
 | 0=>by
  have e:∀l:List Int,(l.map fun v=>cR ts sp v 0).sum=0:=fun l=>by
   induction l with
   | nil=>rfl
   | cons a l ih=>rw[List.map_cons,List.sum_cons,ih];rfl
  have e':vQ ts sp rs 0=0:=e rs;rw[e'];exact Int.le_refl _
 | n+1=>by
  have ih:=Q1 nd h0 n (ts:=ts);unfold vQ at ih ⊢;have e:(rs.map fun v=>cR ts sp v (n+1)).sum=(rs.map fun v=>cR ts sp v n).sum+((rs.map fun v=>if at0 ts (2 * n)=v then at0 sp (2 * n+1) else 0).sum - (rs.map fun v=>if at0 ts (2 * n+1)=v then at0 sp (2 * n+1) else 0).sum):=EJ rs _ _ _;rw[e,pV nd,pV nd,xN];have a0:=h0 (2 * n);have a1:=h0 (2 * n+1)
  by_cases ht:at0 ts (2 * n+1)∈rs
  ·by_cases hh:at0 ts (2 * n)∈rs
   ·rw[if_pos hh,if_pos ht,if_neg (fun z=>z.2 hh)];lia
   ·rw[if_neg hh,if_pos ht,if_pos ⟨ht,hh⟩];lia
  ·by_cases hh:at0 ts (2 * n)∈rs
   ·rw[if_pos hh,if_neg ht,if_neg (fun z=>ht z.1)];lia
   ·rw[if_neg hh,if_neg ht,if_neg (fun z=>ht z.1)];lia
theorem SB {R:Nat}{L:List Arc}{os:List Int}{ya yb:Int} (a:Bst R L os.length (os++[ya])) (b:Bst R L os.length (os++[yb])):ya<=yb:=by
 walk_at"g1";obtain⟨spa,rsa,ca,na,ea,sa⟩:=a;walk_at"g2";walk_at"g1";obtain⟨spb,rsb,cb,nb',eb,nd,hs0,hso,hsh⟩:=b;walk_at"g2";have h1:=Q1 nd na L.length (ts:=cQ L);have h2:vQ (cQ L) spb rsb L.length= - vL (cQ L) spb rsb L.length:=OC nd (fun k _=>nb' k) fun k hk=>hsh k (by rw[hO];exact hk);have hcap:vL (cQ L) spa rsb L.length=vL (cQ L) spb rsb L.length:=by rw[xR ca _ (Nat.le_refl _),xR cb _ (Nat.le_refl _)]
 have h3:vQ (cQ L) spa rsb L.length=vQ (cQ L) spb rsb L.length+((rsb.map fun v=>if (oN R os.length:Int)=v then ya - yb else 0).sum - (rsb.map fun v=>if (0:Int)=v then ya - yb else 0).sum):=by
  unfold vQ;rw[←EJ]
  congr 1
  refine List.map_congr_left fun v _=> ?_;have e1:=ea v;have e2:=eb v;unfold cD at e1 e2;rw[FA,Nat.zero_add,List.sum_append]at e1 e2;have s1:∀y:Int,[y].sum=y:=fun y=>by rw[List.sum_cons];exact Int.add_zero _
  rw[s1]at e1 e2;rw[e1,e2]
  split<;>split<;>lia
 rw[pV nd,pV nd,if_neg hso,if_pos hs0]at h3
 lia
theorem IX {rz ps:List (Str×Int)}{ds:List aG}{f l pl:Int}{oa ob:List Int} (ha:BstAll rz ps ds f l pl oa) (hb:BstAll rz ps ds f l pl ob) (hl:oa.length=ob.length):oa=ob:=by
 have key:∀k,k<=oa.length->oa.take k=ob.take k:=fun k=>by
  induction k with
  | zero=>intro _;rfl
  | succ k ih =>
   intro hk;have e:=ih (by lia);obtain⟨x,hx⟩:∃x,oa[k]? =some x:=⟨_,List.getElem?_eq_getElem (by lia)⟩
   obtain⟨y,hy⟩:∃y,ob[k]? =some y:=⟨_,List.getElem?_eq_getElem (by lia)⟩
   have h1:=ha k (by lia);have h2:=hb k (by lia);rw[aT hx]at h1;rw[aT hy,←e]at h2;have hkl:(oa.take k).length=k:=by rw[List.length_take];lia
   have h1:Bst rz.length (LX rz ps ds f l pl k) (oa.take k).length (oa.take k++[x]):=by rw[hkl];exact h1
   have h2:Bst rz.length (LX rz ps ds f l pl k) (oa.take k).length (oa.take k++[y]):=by rw[hkl];exact h2
   have hxy:x=y:=Int.le_antisymm (SB h1 h2) (SB h2 h1);rw[aT hx,aT hy,e,hxy]
 have:=key oa.length (Nat.le_refl _);rw[List.take_length,hl,List.take_length]at this;exact this
def BM (sp:List Int)(v:Nat)(a:Arc)(k:Nat):Int:=(if a.2.1=v then at0 sp (2 * k+1) else 0) - if a.1=v then at0 sp (2 * k+1) else 0
def fV (sp:List Int)(v:Nat):List Arc->Nat->Int
 | [],_=>0
 | a::l,k=>BM sp v a k+fV sp v l (k+1)
theorem jW (sp:List Int)(v:Nat)(B:List Arc):∀(A:List Arc) (k:Nat),fV sp v (A++B) k=fV sp v A k+fV sp v B (k+A.length)
 | [],k=>by show _=0+fV sp v B (k+0);rw[Nat.add_zero];exact(Int.zero_add _).symm
 | a::A,k=>by
  show _+fV sp v (A++B) (k+1)=(_+fV sp v A (k+1))+_;rw[jW sp v B A (k+1),List.length_cons,show k+1+A.length=k+(A.length+1) by lia];lia
theorem iD (sp:List Int)(v:Nat):∀(A:List Arc) (k:Nat),(∀a∈A,a.2.1≠v/\a.1≠v)->fV sp v A k=0
 | [],_,_=>rfl
 | a::A,k,h=>by
  obtain⟨h1,h2⟩:=h a (.head _);show BM sp v a k+_=0;unfold BM;rw[if_neg h1,if_neg h2,iD sp v A (k+1) fun b hb=>h b (List.mem_cons_of_mem _ hb)];rfl
def flS (sp:List Int):Nat->Nat->Int
 | 0,_=>0
 | n+1,k=>at0 sp (2 * k+1)+flS sp n (k+1)
theorem NB (sp:List Int)(v:Nat):∀(A:List Arc) (k:Nat),(∀a∈A,a.2.1=v/\a.1≠v)->fV sp v A k=flS sp A.length k
 | [],_,_=>rfl
 | a::A,k,h=>by
  obtain⟨h1,h2⟩:=h a (.head _);show BM sp v a k+_=at0 sp (2 * k+1)+flS sp A.length (k+1);unfold BM;rw[if_pos h1,if_neg h2,NB sp v A (k+1) fun b hb=>h b (List.mem_cons_of_mem _ hb)];lia
theorem aBx (L:List Arc)(sp:List Int)(v:Nat):cD L sp (v:Int)=fV sp v L 0:=by
 have key:∀n,n<=L.length->cR (cQ L) sp (v:Int) n=fV sp v (L.take n) 0:=fun n=>by
  induction n with
  | zero=>intro _;rfl
  | succ n ih =>
   intro hn;obtain⟨a,ha⟩:∃a,L[n]? =some a:=⟨_,List.getElem?_eq_getElem (by lia)⟩
   obtain⟨h1,h2⟩:=E3 ha;show cR (cQ L) sp (v:Int) n+_=_;rw[ih (by lia),aT ha,jW,h1,h2];have hl:0+(L.take n).length=n:=by rw[List.length_take];lia
   rw[hl];show _=_+(BM sp v a n+0);unfold BM
   by_cases c1:a.2.1=v
   ·by_cases c2:a.1=v
    ·rw[if_pos (by lia),if_pos (by lia),if_pos c1,if_pos c2];lia
    ·rw[if_pos (by lia),if_neg (by lia),if_pos c1,if_neg c2];lia
   ·by_cases c2:a.1=v
    ·rw[if_neg (by lia),if_pos (by lia),if_neg c1,if_pos c2];lia
    ·rw[if_neg (by lia),if_neg (by lia),if_neg c1,if_neg c2];lia
 unfold cD;rw[key _ (Nat.le_refl _),List.take_length]
theorem DN {rz:List (Str×Int)}{z:Str} (hz:z∈rz.map (·.1)) (k:Nat):nb rz.length k<=pnK rz k z/\pnK rz k z<oN rz.length k:=by
 have:=uG hz;unfold pnK oN
 lia
theorem YD (R:Nat){j k:Nat}(h:j<=k):nb R j<=nb R k:=by
 unfold nb;have:=Nat.mul_le_mul_right (2 * R+1) h
 lia
theorem aAS {rz:List (Str×Int)}{ds:List aG}{f l pl u:Int} (din:∀d∈ds,iA (rz.map (·.1)) d) (sp:List Int) (i j a:Nat):fV sp (oN rz.length j) (tN rz ds (pnK rz i) f l pl u (oN rz.length i)) a=if i=j then flS sp (ds.filter exO).length a else 0:=by
 have hpn:∀d∈ds,nb rz.length i<=pnK rz i d.2.1/\pnK rz i d.2.1<oN rz.length i:=fun d hd=>DN (din d hd).1 i;have hpe:∀e∈rz,nb rz.length i<=pnK rz i e.1/\pnK rz i e.1<oN rz.length i:=fun e he=>DN (List.mem_map.mpr ⟨e,he,rfl⟩) i;have hrange:∀x:Nat,nb rz.length i<=x->x<oN rz.length i+1+rz.length+rz.length->x≠oN rz.length i->x≠oN rz.length j:=fun x h1 h2 h3 z=>by
  rcases Nat.lt_trichotomy j i with h|h|h
  ·have:=zC rz.length h
   lia
  ·rw[h]at z;exact h3 z
  ·have h4:=YD rz.length (show i+1<=j from h);rw[EH]at h4;unfold oN at z h2
   lia
 have hoN:oN rz.length i=nb rz.length i+rz.length:=rfl;unfold tN;rw[jW,jW,jW];have z1:fV sp (oN rz.length j) (cF (pnK rz i) (fun _=>pl) rz (oN rz.length i+1)) (a+(exL ds (pnK rz i) f l u (oN rz.length i)).length)=0:=iD _ _ _ _ fun x hx=>by
  walk_at"g1";obtain⟨e,he,h1,h2,h3,h4⟩:=sQ _ _ _ _ x hx;walk_at"g2";have:=hpe e he;exact⟨hrange _ (by lia) (by lia) (by lia),hrange _ (by lia) (by lia) (by lia)⟩
 have z2:∀b,fV sp (oN rz.length j) (doL rz ds (pnK rz i) f l u (oN rz.length i)) b=0:=fun b=>iD _ _ _ _ fun x hx=>by
  unfold doL at hx;obtain⟨d,hd,rfl⟩:=List.mem_map.mp hx;obtain⟨hd1,hd2⟩:=List.mem_filter.mp hd;have h1:=hpn d hd1;have h2:aCD d.2.2.1∈rz.map (·.1):=by
   rcases (din d hd1).2 with h|⟨z,h,hz⟩
   ·unfold inD exO at hd2;rw[decide_eq_true h]at hd2;exact absurd hd2 (by decide)
   ·rw[h];exact hz
  have h3:=uG h2;exact⟨hrange _ (by show _<=_+1+_;lia) (by show _+1+_<_;lia) (by show _+1+_≠_;lia),hrange _ (by show _<=pnK rz i d.2.1;lia) (by show pnK rz i d.2.1<_;lia) (by show pnK rz i d.2.1≠_;lia)⟩
 have z3:∀b,fV sp (oN rz.length j) (cF (fun z=>oN rz.length i+1+ixR rz z) (fun e=>e.2) rz (oN rz.length i+1+rz.length)) b=0:=fun b=>iD _ _ _ _ fun x hx=>by
  walk_at"g1";obtain⟨e,he,h1,h2,h3,h4⟩:=sQ _ _ _ _ x hx;walk_at"g2";have h5:=uG (List.mem_map.mpr ⟨e,he,rfl⟩);exact⟨hrange _ (by lia) (by lia) (by lia),hrange _ (by lia) (by lia) (by lia)⟩
 rw[z1,z2,z3];have z0:fV sp (oN rz.length j) (exL ds (pnK rz i) f l u (oN rz.length i)) a=if i=j then flS sp (ds.filter exO).length a else 0:=by
  by_cases h:i=j
  ·rw[if_pos h,←h];have hl:(exL ds (pnK rz i) f l u (oN rz.length i)).length=(ds.filter exO).length:=by unfold exL;rw[List.length_map]
   rw[←hl];refine NB _ _ _ _ fun x hx=> ?_;unfold exL at hx;obtain⟨d,hd,rfl⟩:=List.mem_map.mp hx;have h1:=hpn d (List.mem_filter.mp hd).1;exact⟨rfl,by show pnK rz i d.2.1≠_;lia⟩
  ·rw[if_neg h];refine iD _ _ _ _ fun x hx=> ?_;unfold exL at hx;obtain⟨d,hd,rfl⟩:=List.mem_map.mp hx;have h1:=hpn d (List.mem_filter.mp hd).1;refine⟨fun z=> ?_,hrange _ (by show _<=pnK rz i d.2.1;lia) (by show pnK rz i d.2.1<_;lia) (by show pnK rz i d.2.1≠_;lia)⟩;have z:oN rz.length i=oN rz.length j:=z;rcases Nat.lt_or_gt_of_ne h with h2|h2
   ·have:=zC rz.length h2;unfold oN at z this
    lia
   ·have:=zC rz.length h2;unfold oN at z this
    lia
 rw[z0]
 lia
theorem TK {rz ps:List (Str×Int)}{ds:List aG}{f l pl:Int} (din:∀d∈ds,iA (rz.map (·.1)) d) (sp:List Int) (j:Nat):∀k,fV sp (oN rz.length j) (LK rz ps ds f l pl k) 0=if j<k then flS sp (ds.filter exO).length (LK rz ps ds f l pl j).length else 0
 | 0=>by
  rw[if_neg (by lia)];refine iD _ _ _ _ fun x hx=> ?_;walk_at"g1";obtain⟨e,he,h1,h2,h3,h4⟩:=sQ _ _ _ _ x hx;walk_at"g2";have h5:=YD rz.length (Nat.zero_le j);have h6:nb rz.length 0=1:=by unfold nb;lia
  have h7:oN rz.length j=nb rz.length j+rz.length:=rfl;exact⟨by lia,by lia⟩
 | k+1=>by
  show fV sp (oN rz.length j) (LK rz ps ds f l pl k++tN rz ds (pnK rz k) f l pl (f+(k:Int)) (oN rz.length k)) 0=_;rw[jW,TK din sp j k,aAS din sp k j,Nat.zero_add]
  by_cases h:j<k
  ·rw[if_pos h,if_neg (show ¬k=j by lia),if_pos (show j<k+1 by lia)];lia
  ·by_cases h2:k=j
   ·rw[if_neg h,if_pos h2,if_pos (show j<k+1 by lia),h2];lia
   ·rw[if_neg h,if_neg h2,if_neg (show ¬j<k+1 by lia)];rfl
theorem YG (R:Nat):∀(l:List Int) (i j:Nat) (y:Int),l[j]? =some y->oE R l i (oN R (i+j):Int)=y
 | [],_,_,_,h=>by simp at h
 | x::l,i,0,y,h=>by
  have h:x=y:=by simpa using h
  show (if (oN R i:Int)=(oN R (i+0):Int) then x else 0)+oE R l (i+1) _=y;have z:∀(l:List Int) (i':Nat),i<i'->oE R l i' (oN R (i+0):Int)=0:=fun l=>by
   induction l with
   | nil=>intro _ _;rfl
   | cons b l ih =>
    intro i' hi;show (if (oN R i':Int)=(oN R (i+0):Int) then b else 0)+oE R l (i'+1) _=0;have h1:=zC R hi;rw[if_neg (by unfold oN at *;rw[Nat.add_zero];lia),ih (i'+1) (by lia)];rfl
  rw[if_pos (show (oN R i:Int)=(oN R (i+0):Int) by rw[Nat.add_zero]),z l (i+1) (by lia),h];lia
 | x::l,i,j+1,y,h=>by
  have h:l[j]? =some y:=by simpa using h
  show (if (oN R i:Int)=(oN R (i+(j+1)):Int) then x else 0)+oE R l (i+1) _=y;have h1:=zC R (show i<i+(j+1) by lia);rw[if_neg (by unfold oN at *;lia),show i+(j+1)=i+1+j by lia,YG R l (i+1) j y h];lia
def eS (ss:List SpecD):List Str:=(ss.filter fun s=>decide (s.e= .non)).map (·.n)
def cJ (ss:List SpecD)(rows:List bN)(t:Int):Int:=((rows.filter fun r=>decide (r.2.1∈eS ss)&&decide (r.1<t)).map (·.2.2)).sum
theorem VQ {a b:List Int}(h:a.Perm b):a.sum=b.sum:=by
 induction h with
 | nil=>rfl
 | cons x _ ih=>rw[List.sum_cons,List.sum_cons,ih]
 | swap x y l=>rw[List.sum_cons,List.sum_cons,List.sum_cons,List.sum_cons];lia
 | trans _ _ i1 i2=>rw[i1,i2]
inductive zR (K:W.Frag)(vs:List V)(H:Hp)(Q:VK)(E:XK):Prop
 | mk (a p2:Addr) (t f:Int) (us ws:List V) (rows:List bN) (rs:List cI) (ss:List SpecD) (_:vs=[.ref a,.ref p2,.int t]) (_:SqL K H a us) (_:cN H us rows) (_:rows.length<=200) (_:SqL K H p2 ws) (_:Paired (c8 H) ws ss) (_:(∀s∈ss,iE rs f s)) (_:ss.length<=7) (_:∀H',Same H H'->Q (.int (cJ ss rows t)) H'):zR K vs H Q E
theorem aCy {H:Hp}{Q:VK}{E:XK}{a p2:Addr}{t f:Int}{us ws:List V}{rows:List bN}{rs:List cI}{ss:List SpecD} (hS:SqL K H a us) (hp:cN H us rows) (hl:rows.length<=200) (h2:SqL K H p2 ws) (hs:Paired (c8 H) ws ss) (so:∀s∈ss,iE rs f s) (l7:ss.length<=7) (k:∀H',Same H H'->Q (.int (cJ ss rows t)) H'):zR K [.ref a,.ref p2,.int t] H Q E:=⟨_,_,_,_,_,_,_,_,_,rfl,hS,hp,hl,h2,hs,so,l7,k⟩
theorem LQ (m:M K mg):FnOk P w K mg base CX0 2 m.wR m.pO.d ["_law_plan","_law_specs","_law_turn"] (zR K):=by
 refine m.pO.F.ok sc__law_out (fun vs H Q E h=> ?_) (fun cdv A outer s H vs Q E hr h=> ?_)
 ·walk_at"g1";obtain⟨a,p2,t,f,us,ws,rows,rs,ss,rfl,hS,hpl,hlen,h2,hs,so,l7,k⟩:=h;walk_at"g2";rfl
 ·walk_at"g1";obtain⟨a,p2,t,f,us,ws,rows,rs,ss,rfl,hS,hpl,hlen,h2,hs,so,l7,k⟩:=h;walk_at"g2";have nd:=sc__law_out.nd;walk_at"hu";refine⟨_,(aB (aO (i:=3) nd rfl (by walk_at"oi") (c6 (N:=["_law_spec_here"]) (nl:=1) (ci:=[]) rfl (blk (s.heap.objs.size+1) rfl rfl rfl (by kernel_rfl)) (bR (pv 1)) (fun _ _ _ _=>(aN (i:=0) (show (["_law_spec_here"]:List Str).Nodup by decide +kernel) rfl (by walk_at"oi"))) (fun _ _ _ _=>(qP (aU yT (aW (dQ (K:=K)) (pv 0) aD (fun _ _=>rfl)) gE (bB _)))) (fun _ _ _ _=>(aW (dQ (K:=K)) (pv 0) aD (fun _ _=>rfl)))))
   (aE (aR (bH (nQ rfl) rfl m.zY uQ (aA (c6 (N:=["_law_at","_law_name_here","_law_number","_law_exits","_law_turn"]) (nl:=3) (ci:=[3,2]) rfl (blk (s.heap.objs.size+1) rfl rfl rfl (by kernel_rfl)) (bR (pv 0)) (fun _ _ _ _=>(kM (K:=K) (n:=3) rfl (aX (aN (i:=0) (show (["_law_at","_law_name_here","_law_number","_law_exits","_law_turn"]:List Str).Nodup by decide +kernel) rfl (by walk_at"oi")) (aX (aN (i:=1) (show (["_law_at","_law_name_here","_law_number","_law_exits","_law_turn"]:List Str).Nodup by decide +kernel) rfl (by walk_at"oi")) (aX (aN (i:=2) (show (["_law_at","_law_name_here","_law_number","_law_exits","_law_turn"]:List Str).Nodup by decide +kernel) rfl (by walk_at"oi")) dR))))) (fun _ _ _ _=>(qP (PW.pt (uT (aU (C0 (K:=K)) (pv 1) (pv 3) (by with_unfolding_all rfl)) (pR (aU g7 (pv 0) (pv 4) (bB _))))))) (fun _ _ _ _=>(pv 2))) aC))))),?_⟩
  refine aJ (σ:=[some (.ref a),some (.ref p2),some (.int t),none]) rfl ?_;walk_at"cx";have hul:us.length=rows.length:=Paired.length hpl;walk_at"go";refine mG (α:=SpecD) (xs:=ss) (vs:=ws) (c8 H) (fun s=>decide (s.e= .non)) (fun s y _=>y= .str s.n) (fun _ _ _ _ h _=>h) (by rw[sizeLine_eq];lia) (rest:=[]) (by rfl) h2 hs ?_ ?_ ?_
  ·rintro v s H1 ⟨q1,rfl,hq1⟩ hm s1 R hR;have hq1:=s1 _ _ hq1;have heo:=(so s hm).eo;walk_at"g1";obtain⟨n,st,e,kd,wd,fi,mo⟩:=s;walk_at"g2";have hq1:H1 q1=some (.tup [.str n,.str st,e,.int kd,.int wd,.int fi,.int mo]):=hq1;have hR':=hR _ (Same.refl _);walk_at"go";refine⟨q1,_,2,_,rfl,rfl,SqT.of hq1,rfl,?_⟩;have hE:e= .non∨∃y,e= .str y:=by
    rcases heo with he|⟨y,he,_⟩
    ·exact .inl he
    ·exact .inr ⟨y,he⟩
   rcases hE with rfl|⟨y,rfl⟩
   ·rw[show decide ((SpecD.mk n st .non kd wd fi mo).e= .non)=true from decide_eq_true rfl]at hR';walk_at"go";exact hR'
   ·rw[show decide ((SpecD.mk n st (.str y) kd wd fi mo).e= .non)=false from decide_eq_false fun z=>nomatch z]at hR';walk_at"go";exact hR'
  ·rintro v s H1 ⟨q1,rfl,hq1⟩ hm - s1 R hR;have hq1:=s1 _ _ hq1;walk_at"g1";obtain⟨n,st,e,kd,wd,fi,mo⟩:=s;walk_at"g2";have hq1:H1 q1=some (.tup [.str n,.str st,e,.int kd,.int wd,.int fi,.int mo]):=hq1;walk_at"go";refine⟨q1,_,0,_,rfl,rfl,SqT.of hq1,rfl,?_⟩;walk_at"go";exact hR _ _ rfl (Same.refl _)
  intro ys H1 s1 hys;have ey:ys=(eS ss).map V.str:=by rw[fQ hys];unfold eS;rw[List.map_map];rfl
  subst ey;walk_at"go";rename_i p3 H3 n3 S3 e3;have s03:=s1.trans S3;refine NH (α:=bN) (xs:=rows) (vs:=us) (fun r=> .int r.1) (fun r=> .str r.2.1) (fun r=> .int r.2.2) (fun r=>decide (r.2.1∈eS ss)&&decide (r.1<t)) (fun r y _=>y= .int r.2.2) (fun _ _ _ _ h _=>h) (by rw[sizeLine_eq];lia) (rest:=[some (.ref p3),some (.int t)]) (by rfl) (s03.seq hS) (uK hpl s03) ?_ ?_ ?_
  ·rintro ⟨rt,rn,rj⟩ H4 hm s4 R hR;show (_:TT) (some (V.int rt)::some (V.str rn)::some (V.int rj)::[some (.ref p3),some (.int t)]) H4 R;have hR':R (decide (rn∈eS ss)&&decide (rt<t)) H4:=hR _ (Same.refl _);walk_at"go";refine R5 (SqL.of (s4 _ _ e3)) ?_;walk_at"go"
   by_cases hx:rn∈eS ss
   ·rw[decide_eq_true hx]at hR' ⊢;rw[if_pos rfl];walk_at"go";exact hR'
   ·rw[decide_eq_false hx]at hR' ⊢;rw[if_neg Bool.false_ne_true];exact hR'
  ·rintro ⟨rt,rn,rj⟩ H4 hm - s4 R hR;show (_:TE) (some (V.int rt)::some (V.str rn)::some (V.int rj)::[some (.ref p3),some (.int t)]) H4 R;walk_at"go";exact hR _ _ rfl (Same.refl _)
  intro zs H4 s4 hzs;have ez:zs=((rows.filter fun r=>decide (r.2.1∈eS ss)&&decide (r.1<t)).map (·.2.2)).map V.int:=by rw[fQ hzs,List.map_map];rfl
  subst ez;walk_at"go";rename_i p5 H5 n5 S5 e5;refine xD (SqL.of e5) ?_;exact k _ (s03.trans (s4.trans S5))
theorem L6 (m:M K mg):Fc P w K mg base "_law_out" 2 ["_law_plan","_law_specs","_law_turn"] (zR K):=⟨_,_,m.QK,m.pO.F.kp,m.pO.b,LQ m⟩
theorem pK (c:bN->Bool):∀rows:List bN,((rows.filter c).map (·.2.2)).sum=(rows.map fun r=>if c r=true then r.2.2 else 0).sum
 | []=>rfl
 | r::rows=>by
  by_cases h:c r=true
  ·rw[List.filter_cons_of_pos h,List.map_cons,List.sum_cons,List.map_cons,List.sum_cons,pK c rows,if_pos h]
  ·rw[List.filter_cons_of_neg h,List.map_cons,List.sum_cons,pK c rows,if_neg h,Int.zero_add]
theorem pH (ss:List SpecD)(a b:List bN)(t:Int):cJ ss (a++b) t=cJ ss a t+cJ ss b t:=by
 unfold cJ;rw[List.filter_append,List.map_append,List.sum_append]
theorem aAm {rows:List bN}(nd:(rows.map fun r=>bT r.1 r.2.1).Nodup):iW rows=rows.map fun r=>(bT r.1 r.2.1,(.int r.2.2:V)):=by
 induction rows using zP with
 | h0=>rfl
 | hs l r ih =>
  rw[List.map_append]at nd;have h1:=(List.nodup_append.mp nd).1;have h2:bT r.1 r.2.1∉l.map fun r=>bT r.1 r.2.1:=fun z=>(List.nodup_append.mp nd).2.2 _ z _ (.head _) rfl;have hv:aY (iW l) (bT r.1 r.2.1)=none:=uS (by rw[ih h1,List.map_map];exact h2);rw[nR];unfold JV;rw[d7 _ hv,hv,ih h1,List.map_append];show _++[(_,V.int ((0:Int)+r.2.2))]=_;rw[Int.zero_add];rfl
theorem FB {rows:List bN}(nd:(rows.map fun r=>bT r.1 r.2.1).Nodup):eI rows=(rows.filter fun r=>decide (0<r.2.2)).map eY:=by
 unfold eI;rw[aAm nd,List.filter_map,List.map_map];rfl
def gK (ss:List SpecD)(t:Int):List Key->Int
 | [.inl a,.inr n,.inl i]=>if (decide (n∈eS ss)&&decide (a<t))=true then i else 0
 | _=>0
theorem JP (ss:List SpecD)(t:Int)(rows:List bN):cJ ss rows t=((rows.map eY).map (gK ss t)).sum:=by
 unfold cJ;rw[pK,List.map_map];rfl
theorem MF {ss:List SpecD}{xs rows:List bN} (h:xs.map eY=kZ (eI rows)) (nd:(rows.map fun r=>bT r.1 r.2.1).Nodup) (h0:∀r∈rows,0<=r.2.2) (t:Int):cJ ss xs t=cJ ss rows t:=by
 rw[JP,JP,h,VQ ((lE _).map _),FB nd];have key:∀l:List bN,(∀r∈l,0<=r.2.2)->(((l.filter fun r=>decide (0<r.2.2)).map eY).map (gK ss t)).sum=((l.map eY).map (gK ss t)).sum:=fun l=>by
  induction l with
  | nil=>intro _;rfl
  | cons r l ih =>
   intro hl;have ih':=ih fun x hx=>hl x (List.mem_cons_of_mem _ hx);rw[List.map_cons,List.map_cons,List.sum_cons,←ih']
   by_cases hc:0<r.2.2
   ·rw[List.filter_cons_of_pos (by simpa using hc),List.map_cons,List.map_cons,List.sum_cons]
   ·have h1:=hl r (.head _);have h2:r.2.2=0:=by lia
    have h3:gK ss t (eY r)=0:=by
     show (if _ then r.2.2 else 0)=0;rw[h2];split<;>rfl
    rw[List.filter_cons_of_neg (by simpa using hc),h3,Int.zero_add]
 exact key rows h0
theorem WQ {xs rows:List bN}(h:xs.map eY=kZ (eI rows))(nd:(rows.map fun r=>bT r.1 r.2.1).Nodup){r:bN}(hr:r∈xs):r∈rows:=by
 have h1:eY r∈xs.map eY:=List.mem_map.mpr ⟨r,hr,rfl⟩;rw[h,(lE _).mem_iff,FB nd]at h1;obtain⟨r',hr',e⟩:=List.mem_map.mp h1;rw[←UU e];exact(List.mem_filter.mp hr').1
theorem x8 (sp:List Int)(u:Int)(n:Str)(a:Nat):cG sp (bT u n,.int ((2 * a:Nat):Int))=(u,n,at0 sp (2 * a+1)):=by
 show (u,n,at0 sp (((2 * a:Nat):Int).toNat+1))=_;rw[Int.toNat_natCast]
theorem IR {ss:List SpecD}{t u:Int}{sp:List Int}:∀(l:List aG) (a:Nat),(∀d∈l,d.1∈eS ss)->cJ ss ((cH u l a).map (cG sp)) t=if u<t then flS sp l.length a else 0
 | [],a,_=>by
  show (0:Int)=if u<t then 0 else 0
  split<;>rfl
 | d::l,a,h=>by
  have ih:=IR (t:=t) (u:=u) (sp:=sp) l (a+1) fun x hx=>h x (List.mem_cons_of_mem _ hx);have e:(cH u (d::l) a).map (cG sp)=[(u,d.1,at0 sp (2 * a+1))]++(cH u l (a+1)).map (cG sp):=by
   show cG sp (bT u d.1,.int ((2 * a:Nat):Int))::_=_;rw[x8];rfl
  rw[e,pH,ih];have h1:=h d (.head _);have e1:cJ ss [(u,d.1,at0 sp (2 * a+1))] t=if u<t then at0 sp (2 * a+1) else 0:=by
   unfold cJ;rw[pK];show (if (decide (d.1∈eS ss)&&decide (u<t))=true then at0 sp (2 * a+1) else 0)+0=_;rw[decide_eq_true h1,Bool.true_and,Int.add_zero]
   by_cases c:u<t
   ·rw[if_pos c,if_pos (decide_eq_true c)]
   ·rw[if_neg c,if_neg (fun z=>c (of_decide_eq_true z))]
  rw[e1];show _=if u<t then at0 sp (2 * a+1)+flS sp l.length (a+1) else 0
  split
  ·rfl
  ·rfl
theorem N3 {ss:List SpecD}{t u:Int}{sp:List Int}:∀(l:List aG) (a:Nat),(∀d∈l,d.1∉eS ss)->cJ ss ((cH u l a).map (cG sp)) t=0
 | [],a,_=>rfl
 | d::l,a,h=>by
  have ih:=N3 (t:=t) (u:=u) (sp:=sp) l (a+1) fun x hx=>h x (List.mem_cons_of_mem _ hx);have e:(cH u (d::l) a).map (cG sp)=[(u,d.1,at0 sp (2 * a+1))]++(cH u l (a+1)).map (cG sp):=by
   show cG sp (bT u d.1,.int ((2 * a:Nat):Int))::_=_;rw[x8];rfl
  rw[e,pH,ih];unfold cJ;rw[List.filter_cons_of_neg (by simp[h d (.head _)])];rfl
theorem XC {ss:List SpecD}{d:aG} (h:d∈(ss.map bX).filter exO):d.1∈eS ss:=by
 obtain⟨h1,h2⟩:=List.mem_filter.mp h;obtain⟨s,hs,rfl⟩:=List.mem_map.mp h1;exact List.mem_map.mpr ⟨s,List.mem_filter.mpr ⟨hs,h2⟩,rfl⟩
theorem R6 {ss:List SpecD}(nd:((ss.map bX).map (·.1)).Nodup){d:aG}(h:d∈(ss.map bX).filter inD):d.1∉eS ss:=fun z=>by
 obtain⟨h1,h2⟩:=List.mem_filter.mp h;obtain⟨s,hs,e⟩:=List.mem_map.mp z;obtain⟨hs1,hs2⟩:=List.mem_filter.mp hs;have:=KB nd (List.mem_map.mpr ⟨s,hs1,rfl⟩) h1 (show (bX s).1=d.1 from e);rw[←this]at h2;have h3:exO (bX s)=true:=hs2;unfold inD at h2;rw[h3]at h2;exact absurd h2 (by decide)
theorem NU {ss:List SpecD}{rz ps:List (Str×Int)}{f l pl:Int}{sp outs:List Int} (nd:((ss.map bX).map (·.1)).Nodup) (h:∀(j:Nat) (y:Int),outs[j]? =some y->flS sp ((ss.map bX).filter exO).length (LK rz ps (ss.map bX) f l pl j).length=y) (i:Nat):∀k,k<=outs.length->cJ ss ((dkK rz ps (ss.map bX) f l pl k).map (cG sp)) (f+(i:Int))=(outs.take (min k i)).sum
 | 0,_=>by rw[Nat.zero_min];rfl
 | k+1,hk=>by
  obtain⟨y,hy⟩:∃y,outs[k]? =some y:=⟨_,List.getElem?_eq_getElem (by lia)⟩
  show cJ ss ((dkK rz ps (ss.map bX) f l pl k++dkB rz (ss.map bX) (f+(k:Int)) _).map (cG sp)) _=_;unfold dkB;rw[List.map_append,List.map_append,pH,pH,NU nd h i k (by lia),IR _ _ (fun d hd=>XC hd),N3 _ _ (fun d hd=>R6 nd hd),h k y hy]
  by_cases c:k<i
  ·rw[if_pos (by lia),Nat.min_eq_left (show k<=i by lia),Nat.min_eq_left (show k+1<=i by lia),aT hy,List.sum_append,List.sum_cons];rfl
  ·rw[if_neg (by lia),Nat.min_eq_right (show i<=k by lia),Nat.min_eq_right (show i<=k+1 by lia)];lia
theorem NR {u:Int}{l:List aG} (nd:(l.map (·.1)).Nodup) (a:Nat):((cH u l a).map (·.1)).Nodup:=by
 rw[fN];have:(l.map fun d=>bT u d.1)=(l.map (·.1)).map fun n=>bT u n:=by rw[List.map_map];rfl
 rw[this,List.Nodup,List.pairwise_map];exact nd.imp fun h z=>h (fT z).2
theorem N9 {ds:List aG}(nd:(ds.map (·.1)).Nodup)(c:aG->Bool):((ds.filter c).map (·.1)).Nodup:=by
 rw[List.Nodup,List.pairwise_map]at nd ⊢;exact nd.filter _
theorem TM {rz ps:List (Str×Int)}{ds:List aG}{f l pl:Int} (nd:(ds.map (·.1)).Nodup):∀k,((dkK rz ps ds f l pl k).map (·.1)).Nodup
 | 0=>List.nodup_nil
 | k+1=>by
  show ((dkK rz ps ds f l pl k++dkB rz ds (f+(k:Int)) _).map (·.1)).Nodup;rw[List.map_append];refine List.nodup_append.mpr ⟨TM nd k,?_,fun a ha b hb e=> ?_⟩
  ·unfold dkB;rw[List.map_append];refine List.nodup_append.mpr ⟨NR (N9 nd _) _,NR (N9 nd _) _,fun a ha b hb e=> ?_⟩;rw[fN]at ha hb;obtain⟨d1,hd1,e1⟩:=List.mem_map.mp ha;obtain⟨d2,hd2,e2⟩:=List.mem_map.mp hb;obtain⟨h1,h2⟩:=List.mem_filter.mp hd1;obtain⟨h3,h4⟩:=List.mem_filter.mp hd2;rw[←e1,←e2]at e;rw[KB nd h1 h3 (fT e).2]at h2;unfold inD at h4;rw[h2]at h4;exact absurd h4 (by decide)
  ·walk_at"g1";obtain⟨d1,_,j,hj,e1⟩:=zM ha;walk_at"g2";obtain⟨d2,_,e2⟩:=MZ hb;rw[e1,e2]at e;have:=(fT e).1
   lia
theorem uY {u:Int}:∀{l:List aG}{a:Nat}{e:List Key×V},e∈cH u l a->∃(n:Str) (b:Nat),e=(bT u n,.int ((2 * b:Nat):Int))/\b<a+l.length
 | d::l,a,e,h=>by
  rcases List.mem_cons.mp h with rfl|h
  ·exact⟨_,a,rfl,by rw[List.length_cons];lia⟩
  ·walk_at"g1";obtain⟨n,b,e1,hb⟩:=uY h;walk_at"g2";exact⟨n,b,e1,by rw[List.length_cons];lia⟩
theorem nS {rz ps:List (Str×Int)}{ds:List aG}{f l pl:Int}{e:List Key×V}:∀{k:Nat},e∈dkK rz ps ds f l pl k->∃(t:Int) (n:Str) (b:Nat),e=(bT t n,.int ((2 * b:Nat):Int))/\b<(LK rz ps ds f l pl k).length
 | 0,h=>nomatch h
 | k+1,h=>by
  have h1:=C3 rz ps ds f l pl k;have h2:=C3 rz ps ds f l pl (k+1);rw[Nat.add_mul]at h2;have h3:=BX ds;rcases List.mem_append.mp (show e∈dkK rz ps ds f l pl k++dkB rz ds (f+(k:Int)) _ from h) with h|h
  ·walk_at"g1";obtain⟨t,n,b,e1,hb⟩:=nS h;walk_at"g2";exact⟨t,n,b,e1,by lia⟩
  ·unfold dkB at h;rcases List.mem_append.mp h with h|h
   ·walk_at"g1";obtain⟨n,b,e1,hb⟩:=uY h;walk_at"g2";exact⟨_,n,b,e1,by lia⟩
   ·walk_at"g1";obtain⟨n,b,e1,hb⟩:=uY h;walk_at"g2";exact⟨_,n,b,e1,by lia⟩
theorem SQ {rz ps:List (Str×Int)}{ds:List aG}{f l pl:Int} (sp:List Int) (k:Nat):((dkK rz ps ds f l pl k).map (cG sp)).map (fun r=>bT r.1 r.2.1)=(dkK rz ps ds f l pl k).map (·.1):=by
 rw[List.map_map];refine List.map_congr_left fun e he=> ?_;walk_at"g1";obtain⟨t,n,b,rfl,_⟩:=nS he;walk_at"g2";show bT (cG sp _).1 (cG sp _).2.1=_;rw[x8]
theorem VT {ss:List SpecD}{f l:Int}{xs:List bN} (nd:((ss.map bX).map (·.1)).Nodup) (h:∀r∈xs,r.2.1∈(ss.map bX).map (·.1)/\f<=r.1/\r.1<l) (t:Int):JY (ss.map bX) f l xs t=cJ ss xs t:=by
 unfold JY cJ;have e1:xs.filter (cnt ((ss.map bX).map (·.1)) f l)=xs:=by
  rw[List.filter_eq_self];intro r hr;obtain⟨h1,h2,h3⟩:=h r hr;unfold cnt;rw[decide_eq_true h1,decide_eq_true h2,decide_eq_true h3];rfl
 rw[e1]
 congr 2
 refine List.filter_congr fun r hr=> ?_;obtain⟨h1,h2,h3⟩:=h r hr;walk_at"g1";obtain⟨d,hd,hdn,hdo⟩:=DI h1;walk_at"g2";have:wM (ss.map bX) r.2.1=decide (r.2.1∈eS ss):=by
  unfold wM;rw[hdo];show decide (d.2.2.1= .non)=_
  by_cases hx:exO d=true
  ·have hx':d.2.2.1= .non:=of_decide_eq_true hx;rw[decide_eq_true hx',←hdn,decide_eq_true (XC (List.mem_filter.mpr ⟨hd,hx⟩))]
  ·have hx':¬d.2.2.1= .non:=fun z=>hx (decide_eq_true z);rw[decide_eq_false hx',←hdn,decide_eq_false (R6 nd (List.mem_filter.mpr ⟨hd,by unfold inD;rw[Bool.not_eq_true]at hx;rw[hx];rfl⟩))]
 rw[this,Bool.and_comm]
theorem aBW {X:Cx}{x:Str}{C:Addr}{k k':Nat}{dvs:List V}{sp:Sp}{p pos:Pos} (F:Kc X.prog X.w X.K X.mg X.base x C k dvs sp) (hr:Room k' X.A) (hk:k+1<=k':=by decide) (hg:Gl X x:=by rfl) (hdb:(x==("__debug__" :Str))=false:=by decide):PE X (.Call (.Name x p) [] [] pos) (CO C sp dvs E0 EU):=by
 walk_at"g1";obtain⟨f,fd,ps,ds,hm,M,hd,hb,G⟩:=F.ex;walk_at"g2";exact WS M G (hr.mono hk) hg hm hb hd sO hdb
inductive vX (K:W.Frag)(CN CHo:Addr)(D:bF)(vs:List V)(H:Hp)(Q:VK)(E:XK):Prop
 | mk (p C dx h:Addr) (f l:Int) (rz ps:List (Str×Int)) (ds:List aG) (H0:Hp) (_:vs=[.ref p,.ref h]) (_:DCls K C) (_:H p=some (.ins C dx [])) (_:Same H0 H) (_:H0 p=none) (_:HC CHo D H0 h f l rz ps ds) (_:∀x cv sp H',HNS CN C CHo D H0 H' p x f l rz ps ds f (bG rz ps) [] cv (pkK rz f 0) [] (LK rz ps ds f l (bG rz ps) 0) sp (nb rz.length 0+rz.length)->cv.length=1->(∀v,cD (LK rz ps ds f l (bG rz ps) 0) sp v=0)->x.h=h->Q .non H'):vX K CN CHo D vs H Q E
theorem aAi {CN:Addr}{H:Hp}{Q:VK}{E:XK} (dc:DCls K CN) (k:∀p fp H',H p=none->Same H H'->(∀b∈fp,H b=none)->NetE CN H' p fp [] [] []->Q (.ref p) H'):kW CN (v3 K) [] E Q [] H:=by
 intro x dx nx nd0 ne;have s0:Same H (upd (upd H dx (.own x)) x (.ins CN dx [])):=fun b o e=>by
  rw[aH (bA e nx),aH (bA e nd0)];exact e
 refine⟨x,CN,dx,rfl,dc,aQ,fun fp H' sb hf hne=>⟨rfl,k x fp H' nx (fun b o q=>sb b o (s0 b o q) (bA q nx)) (fun b hb=> ?_) hne⟩⟩;have h1:=hf b hb;cases hq:H b with
 | none=>rfl
 | some v=>rw[s0 _ _ hq]at h1;cases h1
theorem NS.nil:NS [] [] [[]] 1:=by
 refine⟨⟨⟨0,rfl⟩,rfl,fun k hk=>absurd hk (Nat.not_lt_zero _),fun u a ha x hx=> ?_,fun k u a hk=>absurd hk (Nat.not_lt_zero _),by show 1<_;lia,by show 0<_;lia⟩,fun j a h=>by simp at h,fun m=> ?_,rfl,fun a ha=> ?_⟩
 ·have:=List.mem_of_getElem? ha;rw[List.mem_singleton.mp this]at hx;exact nomatch hx
 ·rw[aAc (Nat.zero_le _)];exact Int.le_refl _
 ·rw[List.mem_singleton.mp ha];exact Nat.le_refl _
theorem u6 (m:M K mg):FnOk P w K mg base CX0 4 m.gY m.gU.d ["self","house"] (vX K m.aV m.aM (aS P w K mg base (some 4))):=by
 refine m.gU.F.ok sc_HouseNet___init__ (fun vs H Q E h=> ?_) (fun cdv A outer s H vs Q E hr h=> ?_)
 ·walk_at"g1";obtain⟨p,C,dx,h,f,l,rz,ps,ds,H0,rfl,dc,hp,hS0,hp0,hc,k⟩:=h;walk_at"g2";rfl
 ·walk_at"g1";obtain⟨p,C,dx,h,f,l,rz,ps,ds,H0,rfl,dc,hp,hS0,hp0,hc,k⟩:=h;walk_at"g2";have nd:=sc_HouseNet___init__.nd;walk_at"hu";have K_Net_0:= @VR P w K mg base m;have w_dc_Net:=m.cE;have w_dc_House:=m.bI;refine⟨_,(aB (b8 (pv 0) (pv 1) rfl)
   (aB (b8 (pv 0) (aI (pv 1) rfl) rfl)
   (aB (b8 (pv 0) (b7 aC) rfl)
   (aB (b8 (pv 0) (b7 (aA (b7 aC) aC)) rfl)
   (aB (b8 (pv 0) (aBW K_Net_0 hr) rfl)
   (aB (b8 (pv 0) (cB 1 hr (aI (pv 0) rfl)) rfl)
   (aB (b8 (pv 0) BA rfl)
   (aB (b8 (pv 0) BA rfl)
   (aB (b8 (pv 0) (cB 1 hr (pv 1)) rfl)
   (aE (cT PassesOwn.never rfl (bR (cB 1 hr (pv 1))) (aN (i:=2) nd rfl (by walk_at"oi")) (aB (aO (i:=3) nd rfl (by walk_at"oi") (cB 1 hr (aI (pv 0) rfl)))
   (aB (aZ (cO 1 hr (aI (pv 0) rfl) (aA (aI (pv 0) rfl) (aA (pv 3) (aA (cO 3 hr (pv 1) (aA (pv 2) aC)) aC)))))
   (aE (iN hu1 (aI (pv 0) rfl) (c9 (aA (pv 2) (aA (aI (pv 0) rfl) aC))) (pv 3) rfl))))))))))))))),?_⟩
  refine aJ (σ:=[some (.ref p),some (.ref h),none,none]) rfl ?_;walk_at"cx";have M1:= @eQ P w K mg base m;have M2:= @iK P w K mg base m;have M3:= @fL P w K mg base m;have M4:= @uN P w K mg base m;have M5:= @D8 P w K mg base m;have hcH:=hc.same hS0;walk_at"g1";obtain⟨hdx,hqs,hqp,hqd,hnk,hkvs,ho1,_⟩:=hcH.at'.ex;walk_at"g2";have nr:=hc.nr;have hrl:=hc.lr;walk_at"go";rename_i H1 B1 e1;have hhp:h≠p:=fun z=>by
   walk_at"g1";obtain⟨dx0,_,_,_,_,_,h0,_⟩:=hc.at'.ex;walk_at"g2";rw[z,hp0]at h0;cases h0
  have g1:=B1 _ _ ho1 hhp;walk_at"go";rename_i H2 B2 e2 a1 H3 n3 S3 e3 H4 B4 e4 ai H5 n5 S5 e5 a2 H6 n6 S6 e6 H7 B7 e7;have p7:∀b o,H b=some o->b≠p->H7 b=some o:=fun b o hb hbp=>B7 _ _ (S6 _ _ (S5 _ _ (B4 _ _ (S3 _ _ (B2 _ _ (B1 _ _ hb hbp) hbp)) hbp))) hbp;have h0p:∀b o,H0 b=some o->b≠p:=fun b o hb z=>by rw[z,hp0]at hb;cases hb
  have s7:Same H0 H7:=fun b o hb=>p7 b o (hS0 _ _ hb) (h0p b o hb);have k1:a1≠p:=fun z=>by rw[z,e2]at n3;cases n3
  have k2:a2≠p:=fun z=>by rw[z,S5 _ _ e4]at n6;cases n6
  have f1:H7 a1=some (.lst []):=B7 _ _ (S6 _ _ (S5 _ _ (B4 _ _ e3 k1))) k1;have f2:H7 a2=some (.lst [.ref ai]):=B7 _ _ e6 k2;have k12:a1≠a2:=fun z=>by rw[z,]at e3;rw[S5 _ _ (B4 _ _ e3 (by rw[←z];exact k1))]at n6;cases n6
  have z1:H0 a1=none:=by
   cases hq:H0 a1 with
   | none=>rfl
   | some v=>rw[B2 _ _ (B1 _ _ (hS0 _ _ hq) k1) k1]at n3;cases n3
  have z2:H0 a2=none:=by
   cases hq:H0 a2 with
   | none=>rfl
   | some v=>rw[S5 _ _ (B4 _ _ (S3 _ _ (B2 _ _ (B1 _ _ (hS0 _ _ hq) k2) k2)) k2)]at n6;cases n6
  refine aAi m.cE fun n np H8 n8 S8 fp8 ne8=> ?_;have e8:=S8 _ _ e7;walk_at"go";rename_i H9 B9 e9;have kn:n≠p:=fun z=>by rw[z,e7]at n8;cases n8
  have kp:p∉np:=fun z=>by have:=fp8 p z;rw[e7]at this;cases this
  have ne9:NetE m.aV H9 n np [] [] []:=ne8.on B9 kn kp;walk_at"g1";obtain⟨dn9,q91,q92,q93,rs9,ef9,y9,_⟩:=id ne9;walk_at"g2";walk_at"go";refine NP ne9 (by show 0<_;lia) fun r H10 n10 fr10 ne10=> ?_;have e10:=fr10 _ _ e9 kp;walk_at"go";rename_i H11 B11 e11 a3 H12 n12 S12 f12 H13 B13 e13 a4 H14 n14 S14 f14 H15 B15 e15;have k3:a3≠p:=fun z=>by rw[z,e11]at n12;cases n12
  have k4:a4≠p:=fun z=>by rw[z,e13]at n14;cases n14
  have t10:∀b o,H7 b=some o->b≠p->H10 b=some o:=fun b o hb hbp=>fr10 _ _ (B9 _ _ (S8 _ _ hb) hbp) fun z=>by rw[fp8 b z]at hb;cases hb
  have t15:∀b o,H10 b=some o->b≠p->H15 b=some o:=fun b o hb hbp=>B15 _ _ (S14 _ _ (B13 _ _ (S12 _ _ (B11 _ _ hb hbp)) hbp)) hbp;have s15:Same H0 H15:=fun b o hb=>t15 b o (t10 b o (s7 _ _ hb) (h0p b o hb)) (h0p b o hb);have hc15:=hc.same s15;have z3:H0 a3=none:=by
   cases hq:H0 a3 with
   | none=>rfl
   | some v=>rw[B11 _ _ (t10 _ _ (s7 _ _ hq) k3) k3]at n12;cases n12
  have z4:H0 a4=none:=by
   cases hq:H0 a4 with
   | none=>rfl
   | some v=>rw[B13 _ _ (S12 _ _ (B11 _ _ (t10 _ _ (s7 _ _ hq) k4) k4)) k4]at n14;cases n14
  have f315:H15 a3=some (.dT []):=B15 _ _ (S14 _ _ (B13 _ _ f12 k3)) k3;have f415:H15 a4=some (.dT []):=B15 _ _ f14 k4;have k34:a3≠a4:=fun z=>by rw[←z,B13 _ _ f12 k3]at n14;cases n14
  walk_at"g1";obtain⟨hdx,hqs,hqp,hqd,hnk,hkvs,ho15,_⟩:=hc15.at'.ex;walk_at"g2";walk_at"go";refine OB hc15.at' nr fun H16 S16=> ?_;have e16:=S16 _ _ e15;walk_at"go";rename_i H17 B17 e17;have t17:∀b o,H15 b=some o->b≠p->H17 b=some o:=fun b o hb hbp=>B17 _ _ (S16 _ _ hb) hbp;have s17:Same H0 H17:=fun b o hb=>t17 b o (s15 _ _ hb) (h0p b o hb);have hnp:∀b∈np++[r],b≠p:=fun b hb=>by
   rcases List.mem_append.mp hb with h|h
   ·exact fun z=>kp (z▸h)
   ·rw[List.mem_singleton.mp h];exact fun z=>by rw[z,e9]at n10;cases n10
  have ne11:NetE m.aV H11 n (np++[r]) [] [] [[]]:=ne10.on B11 kn fun z=>hnp p z rfl;have ne15:NetE m.aV H15 n (np++[r]) [] [] [[]]:=((ne11.same S12).on B13 kn fun z=>hnp p z rfl).same S14 |>.on B15 kn fun z=>hnp p z rfl
  have ne17:NetE m.aV H17 n (np++[r]) [] [] [[]]:=(ne15.same S16).on B17 kn fun z=>hnp p z rfl;have g1:H10 a1=some (.lst []):=t10 _ _ f1 k1;have g2:H10 a2=some (.lst [.ref ai]):=t10 _ _ f2 k2;have np1:∀b o,H7 b=some o->b∉np++[r]:=fun b o hb z=>by
   rcases List.mem_append.mp z with z|z
   ·rw[fp8 b z]at hb;cases hb
   ·rw[List.mem_singleton.mp z]at hb;have hrp:r≠p:=hnp r (List.mem_append_right _ (.head _));rw[B9 _ _ (S8 _ _ hb) hrp]at n10;cases n10
  have hh17:HNS m.aV C m.aM (aS P w K mg base (some 4)) H0 H17 p ⟨dx,h,a1,a2,n,a3,a4,[]⟩ f l rz ps ds f (bG rz ps) [] [.ref ai] [] [] [] [] 1:=by
   refine⟨np++[r],[[]],⟨e17,t17 _ _ (t15 _ _ g1 k1) k1,t17 _ _ (t15 _ _ g2 k2) k2,t17 _ _ f315 k3,t17 _ _ f415 k4,ne17,k34,k12,np1 _ _ f1,np1 _ _ f2,kn⟩,s17,fun b hb=> ?_,NS.nil,hc⟩;have hb:b∈p::a1::a2::a3::a4::(np++[r]):=hb;rcases List.mem_cons.mp hb with rfl|hb
   ·exact hp0
   ·rcases List.mem_cons.mp hb with rfl|hb
    ·exact z1
    ·rcases List.mem_cons.mp hb with rfl|hb
     ·exact z2
     ·rcases List.mem_cons.mp hb with rfl|hb
      ·exact z3
      ·rcases List.mem_cons.mp hb with rfl|hb
       ·exact z4
       ·cases hq:H0 b with
        | none=>rfl
        | some v=>exact absurd hb (np1 _ _ (s7 _ _ hq))
  clear t17 t15 t10 ne17 ne15 ne11 ne10 ne9 ne8 B1 B2 B4 B7 B9 B11 B13 B15 B17 S3 S5 S6 S8 S12 S14 S16 fr10;generalize hx:(⟨dx,h,a1,a2,n,a3,a4,[]⟩:HNAt)=x at hh17;have hxh:x.h=h:=by rw[←hx]
  have hxn:x.n=n:=by rw[←hx]
  walk_at"g1";obtain⟨hdx,hqs,hqp,hqd,hnk,hkvs,ho17,_⟩:=hh17.hc'.at'.ex;walk_at"g2";have ho17:=ho17;rw[hxh]at ho17;walk_at"go";refine mI (hc.same s17).at' fun p9 H18 n18 S18 f18=> ?_;obtain⟨_,s18,hh18⟩:=hh17.keep S18 n18 f18;generalize hB:upd H0 p9 _=B at s18 hh18;have hBp:B p9=some (.lst ((rz.map (·.1)).map V.str)):=by rw[←hB];exact aQ
  walk_at"go";let Pv1:Nat->St->Hp->Prop:=fun j σ' H'=>(∃sp',HNS m.aV C m.aM (aS P w K mg base (some 4)) B H' p x f l rz ps ds f (bG rz ps) [] [.ref ai] (dJ f (rz.take j) 1) [] (cF (fun _=>0) (fun e=>dD ps e.1) (rz.take j) 1) sp' (1+j)/\∀v,cD (cF (fun _=>0) (fun e=>dD ps e.1) (rz.take j) 1) sp' v=0)/\∃y z,σ'=[some (.ref p),some (.ref h),y,z];refine dC ((rz.map (·.1)).map V.str) Pv1 ⟨⟨[],hh18,fun _=>rfl⟩,_,_,rfl⟩ (fun j σ' H' _ g=> ?_) ?_ ?_
  ·walk_at"g1";obtain⟨⟨sp',g,_⟩,_⟩:=g;walk_at"g2";exact SqL.of (g.sm _ _ hBp)
  ·rintro j yy _ H19 hy19 hq_;walk_at"g1";obtain⟨⟨sp',hh19,ex19⟩,y1,y2,rfl⟩:=hq_;walk_at"g2";obtain⟨e,hej,rfl⟩:=vT hy19;have hem:=List.mem_of_getElem? hej;have hjl:j<rz.length:=(List.getElem?_eq_some_iff.mp hej).1;have hez:e.1∈rz.map (·.1):=List.mem_map.mpr ⟨e,hem,rfl⟩;have htl:(rz.take j).length=j:=by rw[List.length_take];lia
   walk_at"g1";obtain⟨e0,e1,e2,e3,e4,⟨ddn,q1,q2,q3,e5⟩⟩:=hh19.ob;walk_at"g2";walk_at"go";refine uL hh19 (by lia) fun H20 hh20=> ?_;walk_at"g1";obtain⟨e0,e1,e2,e3,e4,⟨ddn,q1,q2,q3,e5⟩⟩:=hh20.ob;walk_at"g2";walk_at"g1";obtain⟨hdx,hqs,hqp,hqd,hnk,hkvs,ho20,_⟩:=hh20.hc'.at'.ex;walk_at"g2";rw[hxh]at ho20;have ha20:=hh20.hc'.at';rw[hxh]at ha20;walk_at"go";refine ZA (z:=e.1) ha20 nr hez fun H21 S21=> ?_;have hh21:=hh20.same S21;walk_at"go";refine CP (s:=0) (t:=1+j) hh21 (by lia) (by lia) (hc.ps0 e.1) (by rw[fO];lia) fun H22 hh22=> ?_;walk_at"g1";obtain⟨e0,e1,e2,e3,e4,⟨ddn,q1,q2,q3,e5⟩⟩:=hh22.ob;walk_at"g2";walk_at"go";rename_i r23 H23 n23 S23 f23;have hh23:=hh22.same S23;refine vF [.inr e.1,.inl f] (S23 _ _ e3) f23 (by rw[sizeLine_eq,vN];lia) fun H24 B24 f24=> ?_;have eK:cC (dJ f (rz.take j) 1) [.inr e.1,.inl f] (.int ((1+j:Nat):Int))=dJ f (rz.take (j+1)) 1:=by
    have hnw:=SO (pk:=[]) (u:=f) (a:=1) (fun _=>fun z=>nomatch z) nr hej;rw[d7 _ (show aY (dJ f (rz.take j) 1) [.inr e.1,.inl f]=none from hnw),aT hej,xW,htl]
   rw[eK]at f24;have hh24:=hh23.pkp B24 f24;refine⟨⟨sp'++[dD ps e.1,0],?_,fun v=> ?_⟩,_,_,rfl⟩
   ·rw[aT hej,fX,htl,←aT hej];exact hh24
   ·rw[aT hej,fX,htl];exact(hh21.exc _ _ _ v).trans (ex19 v)
  ·rintro _ H19 hq_;walk_at"g1";obtain⟨⟨sp',hh19,ex19⟩,y1,y2,rfl⟩:=hq_;walk_at"g2";have hl:((rz.map (·.1)).map V.str).length=rz.length:=by rw[List.length_map,List.length_map]
   rw[hl,List.take_length]at hh19 ex19;walk_at"go";refine k x [.ref ai] sp' H19 ?_ rfl ex19 hxh;have hb:=hh19.back s18 (by rw[hxh];exact hc);have en:nb rz.length 0+rz.length=1+rz.length:=by unfold nb;lia
   rw[en];exact hb
theorem GJ (m:M K mg):Kc P w K mg base "HouseNet" m.aP 4 [] (vX K m.aV m.aM (aS P w K mg base (some 4))):=⟨_,_,_,_,m.QN,m.MJ,.nil,m.gU.b,u6 m⟩
structure FOk (rz ps:List (Str×Int))(ds:List aG)(f l:Int)(outs sp:List Int):Prop where
 len:(outs.length:Int)=l - f
 nn:∀y∈outs,0<=y
 best:BstAll rz ps ds f l (bG rz ps) outs
 fl:∀(j:Nat) (y:Int),outs[j]? =some y->flS sp (ds.filter exO).length (LK rz ps ds f l (bG rz ps) j).length=y
 sp0:∀m,0<=at0 sp m
theorem WX {rz ps:List (Str×Int)}(h:∀z,0<=dD ps z):0<=bG rz ps:=by
 unfold bG
 induction rz with
 | nil=>exact Int.le_refl _
 | cons e l ih =>
  rw[List.map_cons,List.sum_cons];have:=h e.1
  lia
theorem aBw {CN CH CHo:Addr}{D:bF}{H:Hp}{Q:VK}{E:XK}{h:Addr}{f l:Int}{rz ps:List (Str×Int)}{ds:List aG} (dc:DCls K CH) (hc:HC CHo D H h f l rz ps ds) (k:∀p x cv sp H',HNS CN CH CHo D H H' p x f l rz ps ds f (bG rz ps) [] cv (pkK rz f 0) [] (LK rz ps ds f l (bG rz ps) 0) sp (nb rz.length 0+rz.length)->cv.length=1->(∀v,cD (LK rz ps ds f l (bG rz ps) 0) sp v=0)->x.h=h->Q (.ref p) H'):kW CH (vX K CN CHo D) [] E Q [.ref h] H:=by
 intro x dx nx nd0 ne;have s0:Same H (upd (upd H dx (.own x)) x (.ins CH dx [])):=fun b o e=>by
  rw[aH (bA e nx),aH (bA e nd0)];exact e
 exact⟨x,CH,dx,h,f,l,rz,ps,ds,H,rfl,dc,aQ,s0,nx,hc,fun y cv sp H' hh hl he hx=>⟨rfl,k x y cv sp H' hh hl he hx⟩⟩
inductive sK (CN CH CHo:Addr)(D:bF)(vs:List V)(H:Hp)(Q:VK)(E:XK):Prop
 | mk (h:Addr) (f l:Int) (rz ps:List (Str×Int)) (ds:List aG) (_:vs=[.ref h]) (_:HC CHo D H h f l rz ps ds) (_:∀hn x outs cv sp L N H',HNS CN CH CHo D H H' hn x f l rz ps ds l (bG rz ps) outs cv (pkK rz f outs.length) (dkK rz ps ds f l (bG rz ps) outs.length) L sp N->(LK rz ps ds f l (bG rz ps) outs.length).length<=L.length->FOk rz ps ds f l outs sp->Q (.ref hn) H'):sK CN CH CHo D vs H Q E
theorem BY {CN CH CHo:Addr}{D:bF}{H:Hp}{Q:VK}{E:XK}{h:Addr}{f l:Int}{rz ps:List (Str×Int)}{ds:List aG} (hc:HC CHo D H h f l rz ps ds) (k:∀hn x outs cv sp L N H',HNS CN CH CHo D H H' hn x f l rz ps ds l (bG rz ps) outs cv (pkK rz f outs.length) (dkK rz ps ds f l (bG rz ps) outs.length) L sp N->(LK rz ps ds f l (bG rz ps) outs.length).length<=L.length->FOk rz ps ds f l outs sp->Q (.ref hn) H'):sK CN CH CHo D [.ref h] H Q E:=⟨_,_,_,_,_,_,rfl,hc,k⟩
theorem WD {R k:Nat}(hR:R<=4)(hk:k<=8):nb R k+R<200:=by
 unfold nb;have:=Nat.mul_le_mul hk (show 2 * R+1<=9 by lia)
 lia
theorem WJ {rz ps:List (Str×Int)}{ds:List aG}{f l pl:Int} (hR:rz.length<=4) (hD:ds.length<=7) {k:Nat} (hk:k<=8):(LK rz ps ds f l pl k).length<200:=by
 rw[C3];have:=Nat.mul_le_mul hk (show ds.length+2 * rz.length<=15 by lia)
 lia
theorem GO (m:M K mg):FnOk P w K mg base CX0 11 m.rM m.lL.d ["house"] (sK m.aV m.aP m.aM (aS P w K mg base (some 4))):=by
 refine m.lL.F.ok sc_filled_net (fun vs H Q E h=> ?_) (fun cdv A outer s H vs Q E hr h=> ?_)
 ·walk_at"g1";obtain⟨h,f,l,rz,ps,ds,rfl,hc,k⟩:=h;walk_at"g2";rfl
 ·walk_at"g1";obtain⟨h,f,l,rz,ps,ds,rfl,hc,k⟩:=h;walk_at"g2";have nd:=sc_filled_net.nd;walk_at"hu";have K_HouseNet_0:= @GJ P w K mg base m;have w_dc_HouseNet:=m.bJ;have w_dc_Net:=m.cE;have w_dc_House:=m.bI;refine⟨_,(aB (aO (i:=1) nd rfl (by walk_at"oi") (pI K_HouseNet_0 hr (aA (pv 0) aC)))
   (aB (qX PassesOwn.never (aU g7 (aI (pv 1) rfl) (aI (pv 0) rfl) (bB _)) (aE (aZ (cB 10 hr (pv 1)))))
   (aB (aZ (cB 3 hr (pv 1)))
   (aE (aR (pv 1)))))),?_⟩
  refine aJ (σ:=[some (.ref h),none]) rfl ?_;walk_at"cx";have M1:= @zZ P w K mg base m;have M2:= @rW P w K mg base m;have nr:=hc.nr;have hrl:=hc.lr;have hdl:=hc.ld;have hfl:=hc.fl;have hf7:=hc.fl7;have hpl0:=WX (rz:=rz) hc.ps0;walk_at"go";refine aBw m.bJ hc fun hn x cv sp H1 hh1 hcl ex1 hxh=> ?_;walk_at"go";refine vG (fun mm σ' H'=>∃(outs:List Int) (cv:List V) (sp:List Int),(mm:Int)+(outs.length:Int)=l - f/\HNS m.aV m.aP m.aM (aS P w K mg base (some 4)) H H' hn x f l rz ps ds (f+(outs.length:Int)) (bG rz ps) outs cv (pkK rz f outs.length) (dkK rz ps ds f l (bG rz ps) outs.length) (LK rz ps ds f l (bG rz ps) outs.length) sp (nb rz.length outs.length+rz.length)/\cv.length=outs.length+1/\(∀y∈outs,0<=y)/\excOk rz.length (LK rz ps ds f l (bG rz ps) outs.length) sp outs/\BstAll rz ps ds f l (bG rz ps) outs/\σ'=[some (.ref h),some (.ref hn)]) (l - f).toNat ⟨[],cv,sp,?_,?_,hcl,(fun _ z=>nomatch z),fun v=> ?_,fun j hj=>absurd hj (Nat.not_lt_zero _),rfl⟩ ?_
  ·show _+(0:Int)=_
   lia
  ·have e:f+(([]:List Int).length:Int)=f:=Int.add_zero f;rw[e];exact hh1
  ·refine(ex1 v).trans ?_;show (0:Int)=0 - if (0:Int)=v then 0 else 0
   split<;>rfl
  rintro mm _ H2 hq_;walk_at"g1";obtain⟨outs,cv2,sp2,hmm,hh2,hcl2,hnn,hex,hbst,rfl⟩:=hq_;walk_at"g2";walk_at"g1";obtain⟨e0,e1,e2,e3,e4,⟨ddn,q1,q2,q3,e5⟩⟩:=hh2.ob;walk_at"g2";walk_at"g1";obtain⟨hdx,hqs,hqp,hqd,hnk,hkvs,ho2,_⟩:=hh2.hc'.at'.ex;walk_at"g2";rw[hxh]at ho2;have hol:outs.length<=7:=by lia
  have hN:=WD (R:=rz.length) hrl (show outs.length<=8 by lia);have hLs:=WJ (rz:=rz) (ps:=ps) (ds:=ds) (f:=f) (l:=l) (pl:=bG rz ps) hrl hdl (show outs.length<=8 by lia);have hN0:0<nb rz.length outs.length+rz.length:=by unfold nb;lia
  have hpn:∀e∈rz,aY (pkK rz f outs.length) [.inr e.1,.inl (f+(outs.length:Int))]=some (.int (pnK rz outs.length e.1:Int))/\pnK rz outs.length e.1<nb rz.length outs.length+rz.length:=fun e he=>by
   have hz:e.1∈rz.map (·.1):=List.mem_map.mpr ⟨e,he,rfl⟩;exact⟨aAx nr f hz _,(DN hz _).2⟩
  walk_at"go";refine bM (fun hlt=> ?_) (fun hlt=> ?_)
  ·refine DO ?_;walk_at"go";have hpk64:(pkK rz f outs.length).length<64:=by
    rw[NK];have:=Nat.mul_le_mul (show outs.length+1<=8 by lia) hrl
    lia
   have hdk64:(dkK rz ps ds f l (bG rz ps) outs.length).length<5000:=by
    rw[uH];have:=Nat.mul_le_mul hol hdl
    lia
   refine⟨hn,x,pnK rz outs.length,f,l,rz,ps,ds,H,f+(outs.length:Int),bG rz ps,outs,cv2,_,_,_,sp2,_,rfl,hh2,by lia,hlt,hpl0,hpn,fun n z=> ?_,fun e he=>FO he,fun z hz=> ?_,hpk64,by lia,by lia,hN0,by lia,by lia,hdk64,fun y cv3 sp3 rs sp4 H3 hcv cap3 nn3 ex3 shut hh3 y0 ex4=> ?_⟩
   ·walk_at"g1";obtain⟨d,_,j,hj,e⟩:=zM z;walk_at"g2";have:=(fT e).1
    lia
   ·walk_at"g1";obtain⟨e,_,j,hj,e'⟩:=EZ hz;walk_at"g2";have:=(KQ e').2
    lia
   ·walk_at"go";have hl1:(outs++[y]).length=outs.length+1:=by rw[List.length_append];rfl
    have e1:f+((outs++[y]).length:Int)=f+(outs.length:Int)+1:=by rw[hl1];lia
    refine⟨mm - 1,by lia,outs++[y],cv3,sp4,?_,?_,?_,?_,?_,?_,rfl⟩
    ·rw[hl1];lia
    ·rw[e1,hl1,EH];exact hh3
    ·rw[hcv,hl1];lia
    ·intro z hz;rcases List.mem_append.mp hz with h|h
     ·exact hnn z h
     ·rw[List.mem_singleton.mp h];exact y0
    ·rw[hl1];exact excOk.more hex ex4
    ·exact hbst.more ⟨sp3,rs,cap3,nn3,excOk.more hex ex3,shut⟩
  ·have hK:(outs.length:Int)=l - f:=by lia
   walk_at"go";refine⟨hn,x,pnK rz outs.length,f,l,rz,ps,ds,H,f+(outs.length:Int),bG rz ps,outs,cv2,_,_,_,sp2,_,rfl,hh2,hpl0,hpn,hN0,by lia,by lia,fun sp5 H5 hh5 ex5=> ?_⟩;walk_at"go";rw[show f+(outs.length:Int)=l by lia]at hh5;refine k hn x outs cv2 sp5 _ _ H5 hh5 (by rw[List.length_append];lia) ⟨hK,hnn,hbst,fun j y hj=> ?_,?_⟩
   ·have hjl:j<outs.length:=(List.getElem?_eq_some_iff.mp hj).1;have h1:=aB5 rz.length j;have h2:=zC rz.length hjl;have e5:=ex5 (oN rz.length j:Int) (by lia) (by lia);rw[hex (oN rz.length j:Int),if_neg (by lia)]at e5;have h3:=YG rz.length outs 0 j y hj;rw[Nat.zero_add]at h3;rw[h3,aBx,jW,TK hc.din sp5 j outs.length,if_pos hjl]at e5;have h4:fV sp5 (oN rz.length j) (kpL rz (pnK rz outs.length) (nb rz.length outs.length+rz.length) (bG rz ps)) (0+(LK rz ps ds f l (bG rz ps) outs.length).length)=0:=iD _ _ _ _ fun a ha=>by
     unfold kpL at ha;obtain⟨e,he,rfl⟩:=List.mem_map.mp ha;have h6:=DN (List.mem_map.mpr ⟨e,he,rfl⟩:e.1∈rz.map (·.1)) outs.length;exact⟨by show nb rz.length outs.length+rz.length≠_;lia,by show pnK rz outs.length e.1≠_;lia⟩
    rw[h4]at e5
    lia
   ·obtain⟨as,ns⟩:=hh5.ns;exact ns.nn
theorem oO (m:M K mg):Fc P w K mg base "filled_net" 11 ["house"] (sK m.aV m.aP m.aM (aS P w K mg base (some 4))):=⟨_,_,m.LE,m.lL.F.kp,m.lL.b,GO m⟩
inductive BL (CHo:Addr)(D:bF)(vs:List V)(H:Hp)(Q:VK)(E:XK):Prop
 | mk (h:Addr) (f l:Int) (rz ps:List (Str×Int)) (ds:List aG) (_:vs=[.ref h]) (_:HC CHo D H h f l rz ps ds) (_:∀p ws xs outs sp H',Same H H'->H' p=some (.lst ws)->cN H' ws xs->xs.map eY=kZ (eI ((dkK rz ps ds f l (bG rz ps) outs.length).map (cG sp)))->FOk rz ps ds f l outs sp->Q (.ref p) H'):BL CHo D vs H Q E
theorem IH (m:M K mg):FnOk P w K mg base CX0 12 m.tR m.nN.d ["house"] (BL m.aM (aS P w K mg base (some 4))):=by
 refine m.nN.F.ok sc_first_out (fun vs H Q E h=> ?_) (fun cdv A outer s H vs Q E hr h=> ?_)
 ·walk_at"g1";obtain⟨h,f,l,rz,ps,ds,rfl,hc,k⟩:=h;walk_at"g2";rfl
 ·walk_at"g1";obtain⟨h,f,l,rz,ps,ds,rfl,hc,k⟩:=h;walk_at"g2";have nd:=sc_first_out.nd;walk_at"hu";have F_filled_net:= @oO P w K mg base m;have w_dc_HouseNet:=m.bJ;have w_dc_Net:=m.cE;have w_dc_House:=m.bI;refine⟨_,(aE (aR (cB 3 hr (bK F_filled_net hr (aA (pv 0) aC))))),?_⟩;refine aJ (σ:=[some (.ref h)]) rfl ?_;walk_at"cx";have M1:= @A5 P w K mg base m;have hrl:=hc.lr;have hdl:=hc.ld;have hf7:=hc.fl7;walk_at"go";refine BY hc fun hn x outs cv sp L N H1 hh hL fo=> ?_;walk_at"g1";obtain⟨e0,e1,e2,e3,e4,⟨ddn,q1,q2,q3,e5⟩⟩:=hh.ob;walk_at"g2";have hol:outs.length<=7:=by have:=fo.len;lia
  obtain⟨as,ns⟩:=hh.ns;have hsl:=ns.splen;have hdk64:(dkK rz ps ds f l (bG rz ps) outs.length).length<64:=by
   rw[uH];have:=Nat.mul_le_mul hol hdl
   lia
  walk_at"go";refine⟨hn,x,f,l,rz,ps,ds,H,l,bG rz ps,outs,cv,_,_,L,sp,N,rfl,hh,fun e he=> ?_,hdk64,fun p ws xs H' s f1 hp hx=> ?_⟩
  ·walk_at"g1";obtain⟨t,n,b,e1,hb⟩:=nS he;walk_at"g2";exact⟨t,n,2 * b,e1,by lia⟩
  ·exact k p ws xs outs sp H' s f1 hp hx fo
theorem ID (m:M K mg):Fc P w K mg base "first_out" 12 ["house"] (BL m.aM (aS P w K mg base (some 4))):=⟨_,_,m.MM,m.nN.F.kp,m.nN.b,IH m⟩
theorem NO (ns:List Int)(i:Nat):KS ns none (some (i:Int))=ns.take i:=by
 unfold KS;rw[HT.sIx_nat,HT.sIx_none,Nat.sub_zero,List.drop_zero]
 by_cases h:i<=ns.length
 ·rw[Nat.min_eq_left h]
 ·rw[Nat.min_eq_right (by lia),List.take_length,List.take_of_length_le (by lia)]
inductive yO (CHo:Addr)(D:bF)(vs:List V)(H:Hp)(Q:VK)(E:XK):Prop
 | mk (h:Addr) (i:Nat) (f l:Int) (rz ps:List (Str×Int)) (ds:List aG) (_:vs=[.ref h,.int (f+(i:Int))]) (_:HC CHo D H h f l rz ps ds) (_:∀outs sp H',Same H H'->FOk rz ps ds f l outs sp->Q (.int (outs.take i).sum) H'):yO CHo D vs H Q E
theorem PY (m:M K mg):FnOk P w K mg base CX0 12 m.yX m.sX.d ["house","turn"] (yO m.aM (aS P w K mg base (some 4))):=by
 refine m.sX.F.ok sc_most_by (fun vs H Q E h=> ?_) (fun cdv A outer s H vs Q E hr h=> ?_)
 ·walk_at"g1";obtain⟨h,i,f,l,rz,ps,ds,rfl,hc,k⟩:=h;walk_at"g2";rfl
 ·walk_at"g1";obtain⟨h,i,f,l,rz,ps,ds,rfl,hc,k⟩:=h;walk_at"g2";have nd:=sc_most_by.nd;walk_at"hu";have F_filled_net:= @oO P w K mg base m;have w_dc_HouseNet:=m.bJ;have w_dc_Net:=m.cE;have w_dc_House:=m.bI;refine⟨_,(aE (aR (bH (nQ rfl) rfl m.zY uQ (aA (HX N7 (aI (bK F_filled_net hr (aA (pv 0) aC)) rfl) M0 (OH (aK uI (pv 1) (aI (pv 0) rfl)))) aC)))),?_⟩;refine aJ (σ:=[some (.ref h),some (.int (f+(i:Int)))]) rfl ?_;walk_at"cx";walk_at"go";refine BY hc fun hn x outs cv sp L N H1 hh hL fo=> ?_;walk_at"g1";obtain⟨e0,e1,e2,e3,e4,⟨ddn,q1,q2,q3,e5⟩⟩:=hh.ob;walk_at"g2";have s1:=hh.sm;walk_at"g1";obtain⟨hdx,hqs,hqp,hqd,hnk,hkvs,ho1,_⟩:=(hc.same s1).at'.ex;walk_at"g2";walk_at"go";rename_i p2 H2 n2 S2 f2;rw[show f+(i:Int) - f=(i:Int) by lia,NO]at f2;refine xD (SqL.of f2) ?_;exact k outs sp H2 (s1.trans S2) fo
theorem P8 (m:M K mg):Fc P w K mg base "most_by" 12 ["house","turn"] (yO m.aM (aS P w K mg base (some 4))):=⟨_,_,m.UF,m.sX.F.kp,m.sX.b,PY m⟩
def aEd (outs:List Int)(f T:Int)(v:V):Prop:=(∃i,i<=outs.length/\v= .int (f+(i:Int))/\(outs.take i).sum=T/\∀j,j<i->(outs.take j).sum≠T)∨(v= .non/\∀j,j<=outs.length->(outs.take j).sum≠T)
inductive yE (CHo:Addr)(D:bF)(vs:List V)(H:Hp)(Q:VK)(E:XK):Prop
 | mk (h:Addr) (f l:Int) (rz ps:List (Str×Int)) (ds:List aG) (_:vs=[.ref h]) (_:HC CHo D H h f l rz ps ds) (_:∀v outs sp H',Same H H'->FOk rz ps ds f l outs sp->aEd outs f (bG rz ps) v->Q v H'):yE CHo D vs H Q E
theorem QH (m:M K mg):FnOk P w K mg base CX0 12 m.yY m.tE.d ["house"] (yE m.aM (aS P w K mg base (some 4))):=by
 refine m.tE.F.ok sc_all_out (fun vs H Q E h=> ?_) (fun cdv A outer s H vs Q E hr h=> ?_)
 ·walk_at"g1";obtain⟨h,f,l,rz,ps,ds,rfl,hc,k⟩:=h;walk_at"g2";rfl
 ·walk_at"g1";obtain⟨h,f,l,rz,ps,ds,rfl,hc,k⟩:=h;walk_at"g2";have nd:=sc_all_out.nd;walk_at"hu";have F_filled_net:= @oO P w K mg base m;have w_dc_HouseNet:=m.bJ;have w_dc_Net:=m.cE;have w_dc_House:=m.bI;refine⟨_,(aB (aO (i:=1) nd rfl (by walk_at"oi") (aI (bK F_filled_net hr (aA (pv 0) aC)) rfl))
   (aB (cT PassesOwn.never rfl (FV rfl m.kS (aA (aI (pv 0) rfl) (aA (aK bW (aI (pv 0) rfl) aD) aC))) (aN (i:=2) nd rfl (by walk_at"oi")) (aE (bV (aU eV (bH (nQ rfl) rfl m.zY uQ (aA (HX N7 (pv 1) M0 (OH (aK uI (pv 2) (aI (pv 0) rfl)))) aC)) (cB 1 hr (pv 0)) (bB _)) (aE (aR (pv 2))) bE)))
   (aE (aR gE)))),?_⟩
  refine aJ (σ:=[some (.ref h),none,none]) rfl ?_;walk_at"cx";have M1:= @uN P w K mg base m;have nr:=hc.nr;have hfl:=hc.fl;have hf7:=hc.fl7;have hl1:=hc.l1;have hf0:=hc.f0;walk_at"go";refine BY hc fun hn x outs cv sp L N H1 hh hL fo=> ?_;walk_at"g1";obtain⟨e0,e1,e2,e3,e4,⟨ddn,q1,q2,q3,e5⟩⟩:=hh.ob;walk_at"g2";have s1:=hh.sm;have hol:=fo.len;walk_at"g1";obtain⟨hdx,hqs,hqp,hqd,hnk,hkvs,ho1,_⟩:=(hc.same s1).at'.ex;walk_at"g2";walk_at"go";let Pv1:Nat->St->Hp->Prop:=fun i σ' H'=>Same H1 H'/\(∀j,j<i->(outs.take j).sum≠bG rz ps)/\∃y,σ'=[some (.ref h),some (.ref x.a1),y];refine zW Pv1 ⟨Same.refl _,fun j hj=>absurd hj (Nat.not_lt_zero _),_,rfl⟩ ?_ ?_
  ·rintro i _ H2 hi hq_;walk_at"g1";obtain⟨s2,hne,y,rfl⟩:=hq_;walk_at"g2";have s02:=s1.trans s2;walk_at"g1";obtain⟨hdx,hqs,hqp,hqd,hnk,hkvs,ho2,_⟩:=(hc.same s02).at'.ex;walk_at"g2";have e12:=s2 _ _ e1;walk_at"go";rename_i p3 H3 n3 S3 f3;rw[show f+(i:Int) - f=(i:Int) by lia,NO]at f3;refine xD (SqL.of f3) ?_;have ho3:=S3 _ _ ho2;walk_at"go";refine OB (hc.same (s02.trans S3)).at' nr fun H4 S4=> ?_;walk_at"go";refine bM (fun hx=> ?_) (fun hx=> ?_)
   ·walk_at"go";exact k _ outs sp H4 (s02.trans (S3.trans S4)) fo (.inl ⟨i,by lia,rfl,hx,hne⟩)
   ·walk_at"go";refine⟨s2.trans (S3.trans S4),fun j hj=> ?_,_,rfl⟩
    by_cases hji:j=i
    ·rw[hji];exact hx
    ·exact hne j (by lia)
  ·rintro _ H2 hq_;walk_at"g1";obtain⟨s2,hne,y,rfl⟩:=hq_;walk_at"g2";walk_at"go";exact k _ outs sp H2 (s1.trans s2) fo (.inr ⟨rfl,fun j hj=>hne j (by lia)⟩)
theorem OK (m:M K mg):Fc P w K mg base "all_out" 12 ["house"] (yE m.aM (aS P w K mg base (some 4))):=⟨_,_,m.UL,m.tE.F.kp,m.tE.b,QH m⟩
theorem aAg {s:SpecD}(h:0<=s.wd)(t:Int):0<=k7 s t:=by
 unfold k7
 split
 ·exact Int.le_refl _
 ·split
  ·exact Int.le_refl _
  ·split
   ·exact Int.le_refl _
   ·exact h
theorem Y6 {f l t:Int}{d:aG} (h:∀t,0<=d.2.2.2 t):0<=c7 f l d t:=by
 unfold c7
 split
 ·exact h t
 ·exact Int.le_refl _
theorem aAI {rs:List cI}(z:Str):0<=dD (cP rs) z:=by
 have:∀l:List (Str×Int),(∀p∈l,0<=p.2)->0<=dD l z:=fun l=>by
  induction l with
  | nil=>intro _;exact Int.le_refl _
  | cons p l ih =>
   intro h;have h1:=ih fun q hq=>h q (List.mem_cons_of_mem _ hq);have h2:=h p (.head _);unfold dD at h1 ⊢
   by_cases c:decide (p.1=z)=true
   ·rw[List.filter_cons_of_pos (p:=fun p:Str×Int=>decide (p.1=z)) c,List.map_cons,List.sum_cons];lia
   ·rw[List.filter_cons_of_neg (p:=fun p:Str×Int=>decide (p.1=z)) c];exact h1
 refine this _ fun p hp=> ?_;unfold cP at hp;obtain⟨r,hr,rfl⟩:=List.mem_map.mp hp;have:=of_decide_eq_true (List.mem_filter.mp hr).2;show 0<=r.2.2
 lia
theorem QW {rs:List cI}(ro:qI rs):bG (dM rs) (cP rs)=(rs.map fun r=>r.2.2).sum:=by
 unfold bG dM;rw[List.map_map];refine congrArg List.sum (List.map_congr_left fun r hr=> ?_);exact ES ro.nd (fun r hr=>(ro.ok r hr).1) hr
theorem HC.of {CHo:Addr}{D:bF}{H H':Hp}{h q p1 p2 p3:Addr}{us ws:List V}{rs:List cI}{ss:List SpecD}{f l:Int} (hh:bO CHo D H h f l (dM rs) (cP rs) (ss.map bX)) (dr:iO H' q p1 p2 p3 us ws rs ss f l):HC CHo D H h f l (dM rs) (cP rs) (ss.map bX):=by
 have ro:=dr.ro;have h1:=ro.l1;have h2:=dr.l7;have h3:=dr.f1;have h4:=dr.fl7;refine⟨hh,by rw[qT];exact ro.nd,by rw[JA];exact dr.nd,fun d hd=> ?_,by unfold dM;rw[List.length_map];exact h1,by rw[List.length_map];exact h2,dr.f0,dr.fl,by lia,by lia,fun d hd u _=> ?_,fun e he=> ?_,fun z=>aAI z⟩
 ·obtain⟨s,hs,rfl⟩:=List.mem_map.mp hd;rw[qT];exact⟨(dr.so s hs).sin,(dr.so s hs).ein⟩
 ·obtain⟨s,hs,rfl⟩:=List.mem_map.mp hd;exact Y6 fun t=>aAg (dr.so s hs).w0 t
 ·unfold dM at he;obtain⟨r,hr,rfl⟩:=List.mem_map.mp he;have:=ro.ok r hr;show 0<=r.2.1
  lia
theorem HC.empty {CHo:Addr}{D:bF}{H:Hp}{h:Addr}{f l:Int} (hh:bO CHo D H h f l [] [] []) (f0:0<=f) (fl:f<=l) (f7:l - f<=7) (l1:l<1000000000000):HC CHo D H h f l [] [] []:=⟨hh,List.nodup_nil,List.nodup_nil,(fun _ z=>nomatch z),Nat.zero_le _,Nat.zero_le _,f0,fl,f7,l1,(fun _ z=>nomatch z),(fun _ z=>nomatch z),fun _=>Int.le_refl _⟩
def aEa (outs:List Int)(f T:Int)(i:Nat)(v:V):Prop:=(v= .non/\∀j,j<i->(outs.take j).sum≠T)∨∃j,j<i/\v= .int (f+(j:Int))/\(outs.take j).sum=T/\∀j',j'<j->(outs.take j').sum≠T
theorem aBo {b:Bool}{A B:Prop} (h1:A) (h2:B):if b=true then A else B:=by
 split
 ·exact h1
 ·exact h2
theorem QA {f l pl:Int}{n:Nat}{sp:List Int}{xs:List bN}{H:Hp}{ws:List V} (hp:cN H ws xs) (hx:xs.map eY=kZ (eI ((dkK [] [] [] f l pl n).map (cG sp)))):ws=[]:=by
 have h1:dkK [] [] [] f l pl n=[]:=List.eq_nil_of_length_eq_zero (by rw[uH];exact Nat.mul_zero _);rw[h1]at hx;have h2:=(lE (eI (([]:List (List Key×V)).map (cG sp)))).length_eq;rw[←hx,List.length_map]at h2;have h3:xs.length=0:=h2;exact List.eq_nil_of_length_eq_zero (by rw[Paired.length hp];exact h3)
theorem ON {f l:Int}{outs sp:List Int} (fo:FOk [] [] [] f l outs sp) (i:Nat):(outs.take i).sum=0:=by
 have h0:∀y∈outs,y=0:=fun y hy=>by
  obtain⟨j,hj⟩:=List.mem_iff_getElem?.mp hy;exact(fo.fl j y hj).symm
 have key:∀l:List Int,(∀y∈l,y=0)->l.sum=0:=fun l=>by
  induction l with
  | nil=>intro _;rfl
  | cons a l ih =>
   intro h;rw[List.sum_cons,h a (.head _),ih fun y hy=>h y (List.mem_cons_of_mem _ hy)];rfl
 exact key _ fun y hy=>h0 y (List.mem_of_mem_take hy)
inductive yS (K:W.Frag)(PL:Addr)(vs:List V)(H:Hp)(Q:VK)(E:XK):Prop
 | mk (a:Addr) (ns:List Int) (_:vs=[.ref a]) (_:SqL K H a (ns.map V.int)) (_:ns.length<=63) (_:H PL=some (.tbl #[])) (_:∀H',Q (.bl true) H'):yS K PL vs H Q E
theorem aCM (m:M K mg){cL PL:Addr}(hcL:m.dX.code= .ref cL)(hCL:W.CodeHd base cL PL)(hBL:base.BuiltinsAt mg PL):FnOk P w K mg base CX0 20 m.QJ m.QL ["_law_script"] (yS K PL):=by
 refine m.aD1.ok sc_law (fun vs H Q E h=> ?_) (fun cdv A outer s H vs Q E hr h=> ?_)
 ·walk_at"g1";obtain⟨a,ns,rfl,hS,hlen,hPL,k⟩:=h;walk_at"g2";rfl
 ·walk_at"g1";obtain⟨a,ns,rfl,hS,hlen,hPL,k⟩:=h;walk_at"g2";have nd:=sc_law.nd;walk_at"hu";have F__law_drawn:= @GI P w K mg base m;have F__law_house:=G7 (P:=P) (w:=w) (base:=base) m hcL hCL hBL;have F__law_out:= @L6 P w K mg base m;have F__law_whole:= @GQ P w K mg base m;have F_all_out:= @OK P w K mg base m;have F_first_out:= @ID P w K mg base m;have F_most_by:= @P8 P w K mg base m;have F_out_by:= @T0 P w K mg base m;have K_House_0:= @DE P w K mg base m;have w_dc_House:=m.bI;refine⟨_,(aB (DT (bK F__law_drawn hr (aA (pv 0) aC)) (yG (n:=3) rfl (aX (aN (i:=1) nd rfl (by walk_at"oi")) (aX (aN (i:=2) nd rfl (by walk_at"oi")) (aX (aN (i:=3) nd rfl (by walk_at"oi")) dR)))))
   (aB (aO (i:=4) nd rfl (by walk_at"oi") (bK F__law_house hr (aA (pv 1) (aA (pv 2) (aA (pv 3) aC)))))
   (aB (aO (i:=5) nd rfl (by walk_at"oi") (bK F_first_out hr (aA (pv 4) aC)))
   (aB (aO (i:=6) nd rfl (by walk_at"oi") (bH (nQ rfl) rfl m.zY uQ (aA (c6 (N:=["_law_room"]) (nl:=1) (ci:=[]) rfl (blk (s.heap.objs.size+1) rfl rfl rfl (by kernel_rfl)) (bR (pv 1)) (fun _ _ _ _=>(aN (i:=0) (show (["_law_room"]:List Str).Nodup by decide +kernel) rfl (by walk_at"oi"))) (fun _ _ _ _=>d9) (fun _ _ _ _=>(aW (dQ (K:=K)) (pv 0) aD (fun _ _=>rfl)))) aC)))
   (aB (aO (i:=7) nd rfl (by walk_at"oi") gE)
   (aB (aO (i:=8) nd rfl (by walk_at"oi") aD)
   (aB (cT PassesOwn.never rfl (FV rfl m.kS (aA (aW cZ (pv 3) aD (fun _ _=>rfl)) (aA (aK bW (aW cZ (pv 3) aD (fun _ _=>rfl)) aD) aC))) (aN (i:=9) nd rfl (by walk_at"oi")) (aB (aO (i:=10) nd rfl (by walk_at"oi") (bK F__law_out hr (aA (pv 5) (aA (pv 2) (aA (pv 9) aC)))))
   (aB (bV (PW.pt (v9 (aU HI (bK F_out_by hr (aA (pv 4) (aA (pv 5) (aA (pv 9) aC)))) (pv 10) (bB _)) (uF (aU g7 (pv 10) (pv 8) (bB _))))) (aE (aR CK)) bE)
   (aB (bV (aU F9 (pv 9) (b7 (aA (aW cZ (pv 3) aD (fun _ _=>rfl)) (aA (aK cM (aK bW (aW cZ (pv 3) aD (fun _ _=>rfl)) (aW cZ (pv 3) aD (fun _ _=>rfl))) aD) (aA (aW cZ (pv 3) aD (fun _ _=>rfl)) aC)))) (by with_unfolding_all rfl)) (aB (aO (i:=11) nd rfl (by walk_at"oi") (bK F_most_by hr (aA (pv 4) (aA (pv 9) aC))))
   (aE (bV (PW.pt (v9 (uA (jM (bK F__law_whole hr (aA (pv 11) aC)))) (uF (aU HI (pv 11) (pv 10) (bB _))))) (aE (aR CK)) bE))) bE)
   (aB (bV (PW.pt (uT (aU eV (pv 10) (pv 6) (bB _)) (pR (aU yT (pv 7) gE (bB _))))) (aE (aO (i:=7) nd rfl (by walk_at"oi") (pv 9))) bE)
   (aE (aO (i:=8) nd rfl (by walk_at"oi") (pv 10))))))))
   (aB (aO (i:=12) nd rfl (by walk_at"oi") (pI K_House_0 hr (aA (b7 aC) (aA (b7 aC) (aA (b7 aC) (aA (aW cZ (pv 3) aD (fun _ _=>rfl)) (aA (aW cZ (pv 3) aD (fun _ _=>rfl)) aC)))))))
   (aB (bV (PW.pt (v9 (aU (aCl hu0) (bK F_first_out hr (aA (pv 12) aC)) (b7 aC) (bB _)) (v9 (aU HI (bK F_most_by hr (aA (pv 12) (aA (aW cZ (pv 3) aD (fun _ _=>rfl)) aC))) aD (bB _)) (uF (aU HI (bK F_all_out hr (aA (pv 12) aC)) (aW cZ (pv 3) aD (fun _ _=>rfl)) (bB _)))))) (aE (aR CK)) bE)
   (aB (aO (i:=13) nd rfl (by walk_at"oi") (bK F_all_out hr (aA (pv 4) aC)))
   (aB (bV (aU yT (pv 7) gE (bB _)) (aE (aR (uJ yT (pv 13) gE (bB _)))) bE)
   (aE (aR (DK (bK F__law_whole hr (aA (pv 13) aC)) (C1 (uJ eV (pv 13) (pv 7) (bB _))))))))))))))))),?_⟩
  refine aJ (σ:=[some (.ref a),none,none,none,none,none,none,none,none,none,none,none,none,none]) rfl ?_;walk_at"cx";walk_at"go";refine JE hS hlen fun q p1 p2 p3 us ws rs ss f l H1 S1 dr=> ?_;have eq:=dr.eq;walk_at"go";refine WI dr (.inl (S1 _ _ hPL)) fun h H2 T2 hT2 hh=> ?_;have dr2:=EN dr T2;have hc2:=HC.of hh dr2;have f0:=dr.f0;have f1:=dr.f1;have fl:=dr.fl;have fl7:=dr.fl7;have ro:=dr.ro;have hr4:=ro.l1;have hl7:=dr.l7;have hul:us.length=rs.length:=Paired.length dr.ru;have ndd:=hc2.nd;walk_at"go";refine⟨h,f,l,dM rs,cP rs,ss.map bX,rfl,hc2,fun pp wp xs outs sp H3 s3 ep hpl hxs fo=> ?_⟩;have dr3:=mN dr2 s3;have e13:=dr3.e1;walk_at"go";refine mG (α:=cI) (xs:=rs) (vs:=us) (d8 H3) (fun _=>true) (fun r y _=>y= .int r.2.2) (fun _ _ _ _ h _=>h) (by rw[sizeLine_eq];lia) (rest:=[]) (by rfl) (SqL.of e13) dr3.ru (fun v x H1 _ hx s1 R hR=>hR _ (Same.refl _)) ?_ ?_
  ·rintro v ⟨z,i,j⟩ H6 ⟨q6,rfl,hq6⟩ hm - s6 R hR;have hq6:H6 q6=some (.tup [.str z,.int i,.int j]):=s6 _ _ hq6;walk_at"go";refine⟨q6,_,2,_,rfl,rfl,SqT.of hq6,rfl,?_⟩;walk_at"go";exact hR _ _ rfl (Same.refl _)
  intro ys H4 s4 hys;rw[d6]at hys;have ey:ys=(rs.map fun r=>r.2.2).map V.int:=by rw[fQ hys,List.map_map];rfl
  subst ey;walk_at"go";rename_i p5 H5 n5 S5 e5;refine xD (SqL.of e5) ?_;have s25:Same H2 H5:=s3.trans (s4.trans S5);have s35:Same H3 H5:=s4.trans S5;have dr5:=mN dr2 s25;have hT:=QW ro;generalize hTT:(rs.map fun r=>r.2.2).sum=T at hT;have e35:=dr5.e3;walk_at"go";refine⟨p3,_,0,_,rfl,rfl,SqT.of e35,rfl,?_⟩;walk_at"go";refine⟨p3,_,1,_,rfl,rfl,SqT.of e35,rfl,?_⟩;walk_at"go";have hol:=fo.len;have knd:(((dkK (dM rs) (cP rs) (ss.map bX) f l (bG (dM rs) (cP rs)) outs.length).map (cG sp)).map fun r=>bT r.1 r.2.1).Nodup:=by rw[SQ];exact TM ndd _
  have hlo:∀i:Nat,i<=outs.length->cJ ss xs (f+(i:Int))=(outs.take i).sum:=fun i hi=>by
   rw[MF hxs knd (fun r hr=> ?_),NU ndd fo.fl i outs.length (Nat.le_refl _),Nat.min_eq_right hi];obtain⟨e,he,rfl⟩:=List.mem_map.mp hr;walk_at"g1";obtain⟨t,n,b,rfl,_⟩:=nS he;walk_at"g2";rw[x8];exact fo.sp0 _
  have hxr:∀r∈xs,r.2.1∈(ss.map bX).map (·.1)/\f<=r.1/\r.1<l:=fun r hr=>by
   obtain⟨e,he,rfl⟩:=List.mem_map.mp (WQ hxs knd hr);walk_at"g1";obtain⟨d,hd,j,hj,hk⟩:=zM (List.mem_map.mpr ⟨e,he,rfl⟩);walk_at"g2";walk_at"g1";obtain⟨t,n,b,rfl,_⟩:=nS he;walk_at"g2";obtain⟨h1,h2⟩:=fT hk;rw[x8,h1,h2];exact⟨List.mem_map.mpr ⟨d,hd,rfl⟩,by show f<=f+(j:Int);lia,by show f+(j:Int)<l;lia⟩
  have hxl:xs.length<=200:=by
   have h1:xs.length=(eI ((dkK (dM rs) (cP rs) (ss.map bX) f l (bG (dM rs) (cP rs)) outs.length).map (cG sp))).length:=by rw[←List.length_map (f:=eY),hxs,(lE _).length_eq]
   rw[FB knd,List.length_map]at h1;have h2:=List.length_filter_le (fun r:bN=>decide (0<r.2.2)) ((dkK (dM rs) (cP rs) (ss.map bX) f l (bG (dM rs) (cP rs)) outs.length).map (cG sp));rw[List.length_map,uH,List.length_map]at h2;have h3:=Nat.mul_le_mul (show outs.length<=7 by lia) hl7
   lia
  have hmon:∀i:Nat,i<outs.length->(outs.take i).sum<=(outs.take (i+1)).sum:=fun i hi=>by
   obtain⟨y,hy⟩:∃y,outs[i]? =some y:=⟨_,List.getElem?_eq_getElem hi⟩
   have:=fo.nn y (List.mem_of_getElem? hy);rw[aT hy,List.sum_append,List.sum_cons];show _<=_+(y+0)
   lia
  let Pv1:Nat->St->Hp->Prop:=fun i σ' H'=>Same H5 H'/\∃dv bf x1 x2 x3,aEa outs f T i dv/\((i=0/\bf=0)∨∃i',i=i'+1/\bf=(outs.take i').sum)/\σ'=[some (.ref a),some (.ref p1),some (.ref p2),some (.ref p3),some (.ref h),some (.ref pp),some (.int T),some dv,some (.int bf),x1,x2,x3,none,none];refine zW Pv1 ⟨Same.refl _,.non,0,_,_,_,.inl ⟨rfl,fun j hj=>absurd hj (Nat.not_lt_zero _)⟩,.inl ⟨rfl,rfl⟩,rfl⟩ ?_ ?_
  ·rintro i _ H6 hi hq_;walk_at"g1";obtain⟨s6,dv,bf,x1,x2,x3,hdue,hbf,rfl⟩:=hq_;walk_at"g2";have s26:=s25.trans s6;have s36:=s35.trans s6;have dr6:=mN dr2 s26;have hc6:=hc2.same s26;have hil:i<=outs.length:=by lia
   walk_at"go";refine aCy (SqL.of (s36 _ _ ep)) (uK hpl s36) hxl (SqL.of dr6.e2) dr6.sw dr6.so hl7 fun H7 S7=> ?_;rw[hlo i hil];have s27:=s26.trans S7;have s37:=s36.trans S7;have hc7:=hc2.same s27;walk_at"go";refine Y2 hc7.at' ndd hc7.din (SqL.of (s37 _ _ ep)) (uK hpl s37) hxl fun H8 S8=> ?_;rw[VT ndd hxr,hlo i hil];have s28:=s27.trans S8;have hbl:bf<=(outs.take i).sum:=by
    rcases hbf with⟨rfl,rfl⟩|⟨i',rfl,rfl⟩
    ·exact Int.le_refl _
    ·exact hmon i' (by lia)
   generalize hS:(outs.take i).sum=S at *;walk_at"go";have e38:=(mN dr2 s28).e3;refine⟨p3,_,0,_,rfl,rfl,SqT.of e38,rfl,?_⟩;walk_at"go";refine⟨p3,_,0,_,rfl,rfl,SqT.of e38,rfl,?_⟩;walk_at"go";refine⟨p3,_,1,_,rfl,rfl,SqT.of e38,rfl,?_⟩;walk_at"go";refine⟨p3,_,1,_,rfl,rfl,SqT.of e38,rfl,?_⟩;walk_at"go";rename_i p9 H9 n9 S9 e9;have s29:=s28.trans S9;have s59:Same H5 H9:=s6.trans (S7.trans (S8.trans S9));refine⟨p9,_,rfl,.inl (SqL.of e9),rfl,rfl,?_⟩;walk_at"go";refine aBo ?_ ?_
   ·walk_at"go";refine⟨h,i,f,l,dM rs,cP rs,ss.map bX,rfl,hc2.same s29,fun outs2 sp2 H10 s10 fo2=> ?_⟩;have ho2:outs2=outs:=IX fo2.best fo.best (by have:=fo2.len;lia);rw[ho2,hS];walk_at"go";refine bM (fun hx=> ?_) (fun hx=> ?_)
    ·rcases hdue with⟨rfl,hnd⟩|⟨j,hj,rfl,hjT,hjn⟩
     ·walk_at"go";exact⟨s59.trans s10,_,_,_,_,_,.inr ⟨i,by lia,rfl,by rw[hS];exact hx,hnd⟩,.inr ⟨i,rfl,hS.symm⟩,rfl⟩
     ·walk_at"go";exact⟨s59.trans s10,_,_,_,_,_,.inr ⟨j,by lia,rfl,hjT,hjn⟩,.inr ⟨i,rfl,hS.symm⟩,rfl⟩
    ·walk_at"go";refine⟨s59.trans s10,_,_,_,_,_,?_,.inr ⟨i,rfl,hS.symm⟩,rfl⟩;rcases hdue with⟨rfl,hnd⟩|⟨j,hj,rfl,hjT,hjn⟩
     ·refine .inl ⟨rfl,fun j hj=> ?_⟩
      by_cases hji:j=i
      ·rw[hji,hS];exact hx
      ·exact hnd j (by lia)
     ·exact .inr ⟨j,by lia,rfl,hjT,hjn⟩
   ·walk_at"go";refine bM (fun hx=> ?_) (fun hx=> ?_)
    ·rcases hdue with⟨rfl,hnd⟩|⟨j,hj,rfl,hjT,hjn⟩
     ·walk_at"go";exact⟨s59,_,_,_,_,_,.inr ⟨i,by lia,rfl,by rw[hS];exact hx,hnd⟩,.inr ⟨i,rfl,hS.symm⟩,rfl⟩
     ·walk_at"go";exact⟨s59,_,_,_,_,_,.inr ⟨j,by lia,rfl,hjT,hjn⟩,.inr ⟨i,rfl,hS.symm⟩,rfl⟩
    ·walk_at"go";refine⟨s59,_,_,_,_,_,?_,.inr ⟨i,rfl,hS.symm⟩,rfl⟩;rcases hdue with⟨rfl,hnd⟩|⟨j,hj,rfl,hjT,hjn⟩
     ·refine .inl ⟨rfl,fun j hj=> ?_⟩
      by_cases hji:j=i
      ·rw[hji,hS];exact hx
      ·exact hnd j (by lia)
     ·exact .inr ⟨j,by lia,rfl,hjT,hjn⟩
  ·rintro _ H6 hq_;walk_at"g1";obtain⟨s6,dv,bf,x1,x2,x3,hdue,hbf,rfl⟩:=hq_;walk_at"g2";have s26:=s25.trans s6;have e36:=(mN dr2 s26).e3;walk_at"go";rename_i l1 H7 n7 S7 e7 l2 H8 n8 S8 e8 l3 H9 n9 S9 e9;have s69:Same H6 H9:=S7.trans (S8.trans S9);have e39:=s69 _ _ e36;refine⟨p3,_,1,_,rfl,rfl,SqT.of e39,rfl,?_⟩;walk_at"go";refine⟨p3,_,0,_,rfl,rfl,SqT.of e39,rfl,?_⟩;walk_at"go";refine F3 (f:=f) (l:=l) (rz:=[]) (ps:=[]) (ds:=[]) rfl w_dc_House (S9 _ _ (S8 _ _ e7)) .nil (SqL.of (S9 _ _ e8)) .nil (SqL.of e9) .nil List.nodup_nil List.nodup_nil (fun _ z=>nomatch z) (fun _ z=>nomatch z) ⟨(fun _ z=>nomatch z),(fun _ z=>nomatch z)⟩ (Nat.zero_le _) (Nat.zero_le _) (Nat.zero_le _) f0 fl fun he H10 n10 S10 hhe=> ?_;have hce:=HC.empty hhe f0 fl (by lia) (by lia);have s210:Same H2 H10:=s26.trans (s69.trans S10);walk_at"go";refine⟨he,f,l,[],[],[],rfl,hce,fun pp2 wp2 xs2 outs2 sp2 H11 s11 ep2 hpl2 hxs2 fo2=> ?_⟩;have hw2:=QA hpl2 hxs2;subst hw2;walk_at"go";rename_i p12 H12 n12 S12 e12;have s12:Same H10 H12:=s11.trans S12;refine aB4 (SqL.of (S12 _ _ ep2)) (SqL.of e12) ?_;have hce12:=hce.same s12;have e312:=s12 _ _ (S10 _ _ e39);have hlf:l=f+((l - f).toNat:Int):=by lia
   show vY _ (.bl false) H12;walk_at"go";refine⟨p3,_,1,_,rfl,rfl,SqT.of e312,rfl,?_⟩;walk_at"go";refine⟨he,(l - f).toNat,f,l,[],[],[],by rw[←hlf],hce12,fun outs3 sp3 H13 s13 fo3=> ?_⟩;rw[ON fo3];walk_at"go";refine⟨he,f,l,[],[],[],rfl,hce12.same s13,fun v4 outs4 sp4 H14 s14 fo4 hv4=> ?_⟩;have hv4:v4= .int f:=by
    have e0:(outs4.take 0).sum=bG [] []:=rfl;rcases hv4 with⟨i,hi,hv,hT4,hlt⟩|⟨_,hne⟩
    ·have hi0:i=0:=by
      rcases Nat.eq_zero_or_pos i with h|h
      ·exact h
      ·exact absurd e0 (hlt 0 h)
     rw[hv,hi0];show V.int (f+0)=_;rw[Int.add_zero]
    ·exact absurd e0 (hne 0 (Nat.zero_le _))
   subst hv4;have s1214:=s13.trans s14;have e314:=s1214 _ _ e312;walk_at"go";refine⟨p3,_,0,_,rfl,rfl,SqT.of e314,rfl,?_⟩;walk_at"go";have s214:Same H2 H14:=s210.trans (s12.trans s1214);refine⟨h,f,l,dM rs,cP rs,ss.map bX,rfl,hc2.same s214,fun v5 outs5 sp5 H15 s15 fo5 hv5=> ?_⟩;have ho5:outs5=outs:=IX fo5.best fo.best (by have:=fo5.len;lia);rw[ho5,hT]at hv5;have hN:(l+1 - f).toNat=outs.length+1:=by lia
   rw[hN]at hdue;rcases hdue with⟨rfl,hnd⟩|⟨j,hj,rfl,hjT,hjn⟩
   ·have:v5= .non:=by
     rcases hv5 with⟨i,hi,_,hT5,_⟩|⟨h1,_⟩
     ·exact absurd hT5 (hnd i (by lia))
     ·exact h1
    subst this;walk_at"go";exact k _
   ·have:v5= .int (f+(j:Int)):=by
     rcases hv5 with⟨i,hi,hv,hT5,hlt⟩|⟨_,hne⟩
     ·have:i=j:=by
       rcases Nat.lt_trichotomy i j with h|h|h
       ·exact absurd hT5 (hjn i h)
       ·exact h
       ·exact absurd hjT (hlt j h)
      rw[hv,this]
     ·exact absurd hjT (hne j (by lia))
    subst this;walk_at"go";rw[decide_eq_true rfl];exact k _
end
theorem all_mk {l:W.OpenLaw}{w:World}{K:W.Frag}{h:Heap}{mg:Str->Option Value}{fa:Addr} (X:K.In h) (G:h.Ns mainGlobals mg) (hfa:mg "law" =some (.ref fa))
  {f0:Addr}
  {f1:Addr}
  {f2:Addr}
  {f3:Addr}
  {f4:Addr}
  {f5:Addr}
  {f6:Addr}
  {f7:Addr}
  {f8:Addr}
  {f9:Addr}
  {f10:Addr}
  {f11:Addr}
  {f12:Addr}
  {f13:Addr}
  {f14:Addr}
  {f15:Addr}
  {f16:Addr}
  {f17:Addr}
  {f18:Addr}
  {f19:Addr}
  {f20:Addr}
  {f21:Addr}
  {f22:Addr}
  {f23:Addr}
  {f24:Addr}
  {f25:Addr}
  {f26:Addr}
  {f27:Addr}
  {f28:Addr}
  {f29:Addr}
  {f30:Addr}
  {f31:Addr}
  {f32:Addr}
  {C33:Addr}
  {C34:Addr}
  {C35:Addr}
  {C36:Addr}
  {C37:Addr}
  {C38:Addr}
  {C39:Addr}
  {C40:Addr}
  {C41:Addr}
  {f42:Addr}
  {f43:Addr}
  {f44:Addr}
  {f45:Addr}
  {f46:Addr}
  {f47:Addr}
  {f48:Addr}
  {f49:Addr}
  {f50:Addr}
  {f51:Addr}
  {f52:Addr}
  {f53:Addr}
  {f54:Addr}
  {f55:Addr}
  {f56:Addr}
  {f57:Addr}
  {f58:Addr}
  {f59:Addr}
  {f60:Addr}
  {f61:Addr}
  {f62:Addr}
  {f63:Addr}
  {f64:Addr}
  {f65:Addr}
  {f66:Addr}
  {f67:Addr}
  {f68:Addr}
  {f69:Addr}
  {f70:Addr}
  {f71:Addr}
  {f72:Addr}
  {f73:Addr}
  {f74:Addr}
  {f75:Addr}
  {f76:Addr}
  {f77:Addr}
  {f78:Addr}
  {f79:Addr}
  {f80:Addr}
  {zaa zab:Option Addr}{zac:Array (Option Value)}{zad zae zaf zag zah zai:Value}
  {zaj zak:Option Addr}{zal:Array (Option Value)}{zam zan zao zap zaq zar:Value}
  {zas zat:Option Addr}{zau:Array (Option Value)}{zav zaw zax zay zaz zba:Value}
  {zbb:Addr}
  {zbc:Tok}
  {zbd:Value}{zbe:Option Addr}{zbf:Nat}{zbg:Array (Option Value)}
  {zbh zbi:Option Addr}{zbj:Array (Option Value)}{zbk zbl zbm zbn zbo zbp:Value}
  {zbq:Addr}
  {zbr:Tok}
  {zbs:Value}{zbt:Option Addr}{zbu:Nat}{zbv:Array (Option Value)}
  {zbw zbx:Option Addr}{zby:Array (Option Value)}{zbz zca zcb zcc zcd zce:Value}
  {zcf:Addr}
  {zcg:Tok}
  {zch:Value}{zci:Option Addr}{zcj:Nat}{zck:Array (Option Value)}
  {zcl:Tok}
  (y0:W.nsIn K mainGlobals "added_up" =some (some (.ref f0)))
  (y1:W.nsIn K mainGlobals "as_told" =some (some (.ref f1)))
  (y2:W.nsIn K mainGlobals "rows_that_count" =some (some (.ref f2)))
  (y3:W.nsIn K mainGlobals "out_by" =some (some (.ref f3)))
  (y4:W.nsIn K mainGlobals "filled_net" =some (some (.ref f4)))
  (y5:W.nsIn K mainGlobals "first_out" =some (some (.ref f5)))
  (y6:W.nsIn K mainGlobals "most_by" =some (some (.ref f6)))
  (y7:W.nsIn K mainGlobals "all_out" =some (some (.ref f7)))
  (y8:W.nsIn K mainGlobals "is_whole" =some (some (.ref f8)))
  (y9:W.nsIn K mainGlobals "is_name" =some (some (.ref f9)))
  (y10:W.nsIn K mainGlobals "need_name" =some (some (.ref f10)))
  (y11:W.nsIn K mainGlobals "need_whole" =some (some (.ref f11)))
  (y12:W.nsIn K mainGlobals "need_turns" =some (some (.ref f12)))
  (y13:W.nsIn K mainGlobals "need_each_once" =some (some (.ref f13)))
  (y14:W.nsIn K mainGlobals "rooms_spoken_of" =some (some (.ref f14)))
  (y15:W.nsIn K mainGlobals "need_rooms" =some (some (.ref f15)))
  (y16:W.nsIn K mainGlobals "added_people" =some (some (.ref f16)))
  (y17:W.nsIn K mainGlobals "need_space" =some (some (.ref f17)))
  (y18:W.nsIn K mainGlobals "_law_cell_at" =some (some (.ref f18)))
  (y19:W.nsIn K mainGlobals "_law_mixed" =some (some (.ref f19)))
  (y20:W.nsIn K mainGlobals "_law_name" =some (some (.ref f20)))
  (y21:W.nsIn K mainGlobals "_law_rooms" =some (some (.ref f21)))
  (y22:W.nsIn K mainGlobals "_law_spec" =some (some (.ref f22)))
  (y23:W.nsIn K mainGlobals "_law_door" =some (some (.ref f23)))
  (y24:W.nsIn K mainGlobals "_law_digits" =some (some (.ref f24)))
  (y25:W.nsIn K mainGlobals "_law_rooms_told" =some (some (.ref f25)))
  (y26:W.nsIn K mainGlobals "_law_spec_told" =some (some (.ref f26)))
  (y27:W.nsIn K mainGlobals "_law_drawn_told" =some (some (.ref f27)))
  (y28:W.nsIn K mainGlobals "_law_drawn" =some (some (.ref f28)))
  (y29:W.nsIn K mainGlobals "_law_house" =some (some (.ref f29)))
  (y30:W.nsIn K mainGlobals "_law_whole" =some (some (.ref f30)))
  (y31:W.nsIn K mainGlobals "_law_out" =some (some (.ref f31)))
  (y32:W.nsIn K mainGlobals "law" =some (some (.ref f32)))
  (y33:W.nsIn K mainGlobals "Net" =some (some (.ref C33)))
  (y34:W.nsIn K mainGlobals "HouseNet" =some (some (.ref C34)))
  (y35:W.nsIn K mainGlobals "Door" =some (some (.ref C35)))
  (y36:W.nsIn K mainGlobals "Since" =some (some (.ref C36)))
  (y37:W.nsIn K mainGlobals "Until" =some (some (.ref C37)))
  (y38:W.nsIn K mainGlobals "Beat" =some (some (.ref C38)))
  (y39:W.nsIn K mainGlobals "Marked" =some (some (.ref C39)))
  (y40:W.nsIn K mainGlobals "Told" =some (some (.ref C40)))
  (y41:W.nsIn K mainGlobals "House" =some (some (.ref C41)))
  (y42:Mk K C33 f42)
  (y43:Mk K C34 f50)
  (y44:Mk K C35 f59)
  (y45:Mk K C36 f62)
  (y46:Mk K C37 f64)
  (y47:Mk K C38 f66)
  (y48:Mk K C39 f68)
  (y49:Mk K C40 f70)
  (y50:Mk K C41 f72)
  (y51:Meth K C33 "new_node" f43)
  (y52:Meth K C33 "new_arc" f44)
  (y53:Meth K C33 "sent" f45)
  (y54:Meth K C33 "ways_from" f46)
  (y55:Meth K C33 "path_to" f47)
  (y56:Meth K C33 "send_along" f48)
  (y57:Meth K C33 "send_all" f49)
  (y58:Meth K C34 "now_in" f51)
  (y59:Meth K C34 "add_door" f52)
  (y60:Meth K C34 "send_out" f53)
  (y61:Meth K C34 "reached_pairs" f54)
  (y62:Meth K C34 "new_entries" f55)
  (y63:Meth K C34 "go_on" f56)
  (y64:Meth K C34 "keep_others" f57)
  (y65:Meth K C34 "rows" f58)
  (y66:Meth K C35 "lets" f60)
  (y67:Meth K C35 "is_exit" f61)
  (y68:Meth K C36 "lets" f63)
  (y69:Meth K C36 "is_exit" f61)
  (y70:Meth K C37 "lets" f65)
  (y71:Meth K C37 "is_exit" f61)
  (y72:Meth K C38 "lets" f67)
  (y73:Meth K C38 "is_exit" f61)
  (y74:Meth K C39 "lets" f69)
  (y75:Meth K C39 "is_exit" f61)
  (y76:Meth K C40 "lets" f71)
  (y77:Meth K C40 "is_exit" f61)
  (y78:Meth K C41 "rooms" f73)
  (y79:Meth K C41 "doors" f74)
  (y80:Meth K C41 "need_room" f75)
  (y81:Meth K C41 "holds" f76)
  (y82:Meth K C41 "found" f77)
  (y83:Meth K C41 "door" f78)
  (y84:Meth K C41 "lets" f79)
  (y85:Meth K C41 "total" f80)
  (y86:FnL K "added_up" "added_up" vM f0)
  (y87:FnL K "as_told" "as_told" yP f1)
  (y88:FnL K "rows_that_count" "rows_that_count" iV f2)
  (y89:FnL K "out_by" "out_by" A9 f3)
  (y90:FnL K "filled_net" "filled_net" qZ f4)
  (y91:FnL K "first_out" "first_out" tI f5)
  (y92:FnL K "most_by" "most_by" x9 f6)
  (y93:FnL K "all_out" "all_out" xI f7)
  (y94:FnL K "is_whole" "is_whole" vI f8)
  (y95:FnL K "is_name" "is_name" yA f9)
  (y96:FnL K "need_name" "need_name" tL f10)
  (y97:FnL K "need_whole" "need_whole" qS f11)
  (y98:FnL K "need_turns" "need_turns" qG f12)
  (y99:FnL K "need_each_once" "need_each_once" j6 f13)
  (zcm:FnL K "rooms_spoken_of" "rooms_spoken_of" iX f14)
  (zcn:FnL K "need_rooms" "need_rooms" qC f15)
  (zco:FnL K "added_people" "added_people" mF f16)
  (zcp:FnL K "need_space" "need_space" qV f17)
  (zcq:FnL K "_law_cell_at" "_law_cell_at" mX f18)
  (zcr:FnL K "_law_mixed" "_law_mixed" qK f19)
  (zcs:FnL K "_law_name" "_law_name" tF f20)
  (zct:FnL K "_law_rooms" "_law_rooms" qY f21)
  (zcu:FnL K "_law_spec" "_law_spec" tM f22)
  (zcv:K.lookup f23=some ⟨zad,zaa,.func (W.fnOf "_law_door" "_law_door" (dP dW) (c4 dW) (aF dW) .none zae zaf zag zab zah zai),zac⟩)
  (zcw:W.codeIn K zah "_law_door" =true)
  (zcx:W.keepIn K (.ref f23)=true)
  (zcy:FnL K "_law_digits" "_law_digits" oG f24)
  (zcz:FnL K "_law_rooms_told" "_law_rooms_told" iT f25)
  (zda:FnL K "_law_spec_told" "_law_spec_told" jX f26)
  (zdb:FnL K "_law_drawn_told" "_law_drawn_told" iU f27)
  (zdc:FnL K "_law_drawn" "_law_drawn" qJ f28)
  (zdd:FnL K "_law_house" "_law_house" qE f29)
  (zde:FnL K "_law_whole" "_law_whole" pX f30)
  (zdf:FnL K "_law_out" "_law_out" wH f31)
  (zdg:K.lookup f32=some ⟨zam,zaj,.func (W.fnOf "law" "law" (dP sL) (c4 sL) (aF sL) .none zan zao zap zak zaq zar),zal⟩)
  (zdh:W.codeIn K zaq "law" =true)
  (zdi:W.keepIn K (.ref f32)=true)
  (zdj:FnL K "__init__" "Net.__init__" mV f42)
  (zdk:FnL K "new_node" "Net.new_node" mH f43)
  (zdl:FnL K "new_arc" "Net.new_arc" oA f44)
  (zdm:FnL K "sent" "Net.sent" vD f45)
  (zdn:FnL K "ways_from" "Net.ways_from" lA f46)
  (zdo:FnL K "path_to" "Net.path_to" oB f47)
  (zdp:FnL K "send_along" "Net.send_along" jZ f48)
  (zdq:FnL K "send_all" "Net.send_all" mT f49)
  (zdr:FnL K "__init__" "HouseNet.__init__" gO f50)
  (zds:FnL K "now_in" "HouseNet.now_in" iZ f51)
  (zdt:FnL K "add_door" "HouseNet.add_door" gR f52)
  (zdu:FnL K "send_out" "HouseNet.send_out" gS f53)
  (zdv:FnL K "reached_pairs" "HouseNet.reached_pairs" dZ f54)
  (zdw:FnL K "new_entries" "HouseNet.new_entries" eZ f55)
  (zdx:FnL K "go_on" "HouseNet.go_on" jS f56)
  (zdy:FnL K "keep_others" "HouseNet.keep_others" fA f57)
  (zdz:FnL K "rows" "HouseNet.rows" k8 f58)
  (zea:K.lookup f59=some ⟨zav,zas,.func (W.fnOf "__init__" "Door.__init__" (dP eO) (c4 eO) (aF eO) (.ref zbb) zaw zax zay zat zaz zba),zau⟩)
  (zeb:W.codeIn K zaz "Door.__init__" =true)
  (zec:W.keepIn K (.ref f59)=true)
  (zed:K.lookup zbb=some ⟨zbd,zbe,.seq #[.none,.int 1 zbc] zbf,zbg⟩)
  (zee:FnL K "lets" "Door.lets" tO f60)
  (zef:FnL K "is_exit" "Door.is_exit" mL f61)
  (zeg:FnL K "__init__" "Since.__init__" jT f62)
  (zeh:FnL K "lets" "Since.lets" qU f63)
  (zei:FnL K "__init__" "Until.__init__" j7 f64)
  (zej:FnL K "lets" "Until.lets" pZ f65)
  (zek:K.lookup f66=some ⟨zbk,zbh,.func (W.fnOf "__init__" "Beat.__init__" (dP eR) (c4 eR) (aF eR) (.ref zbq) zbl zbm zbn zbi zbo zbp),zbj⟩)
  (zel:W.codeIn K zbo "Beat.__init__" =true)
  (zem:W.keepIn K (.ref f66)=true)
  (zen:K.lookup zbq=some ⟨zbs,zbt,.seq #[.int 0 zbr] zbu,zbv⟩)
  (zeo:FnL K "lets" "Beat.lets" tJ f67)
  (zep:FnL K "__init__" "Marked.__init__" iY f68)
  (zeq:FnL K "lets" "Marked.lets" oI f69)
  (zer:FnL K "__init__" "Told.__init__" kU f70)
  (zes:FnL K "lets" "Told.lets" tH f71)
  (zet:K.lookup f72=some ⟨zbz,zbw,.func (W.fnOf "__init__" "House.__init__" (dP d0) (c4 d0) (aF d0) (.ref zcf) zca zcb zcc zbx zcd zce),zby⟩)
  (zeu:W.codeIn K zcd "House.__init__" =true)
  (zev:W.keepIn K (.ref f72)=true)
  (zew:K.lookup zcf=some ⟨zch,zci,.seq #[.int 0 zcg] zcj,zck⟩)
  (zex:FnL K "rooms" "House.rooms" nZ f73)
  (zey:FnL K "doors" "House.doors" oK f74)
  (zez:FnL K "need_room" "House.need_room" i6 f75)
  (zfa:FnL K "holds" "House.holds" oJ f76)
  (zfb:FnL K "found" "House.found" oM f77)
  (zfc:FnL K "door" "House.door" qB f78)
  (zfd:FnL K "lets" "House.lets" qF f79)
  (zfe:FnL K "total" "House.total" nY f80)
  (zff:DCls K C33)
  (zfg:DCls K C34)
  (zfh:DCls K C35)
  (zfi:DCls K C36)
  (zfj:DCls K C37)
  (zfk:DCls K C38)
  (zfl:DCls K C39)
  (zfm:DCls K C40)
  (zfn:DCls K C41)
  (zfo:W.specialIn K (.ref C35) "__getattribute__" =some (some (.builtin "type.__getattribute__")))
  (zfp:W.readsIn K C35 (.type "type")=true)
  (zfq:W.findCls K (.ref C35) (.type "type") "__init__" =some (.val (.ref f59)))
  (zfr:W.nsIn K mainGlobals "sorted" =some none)
  (zfs:W.nsIn K mainGlobals "sum" =some none)
  (zft:W.nsIn K mainGlobals "range" =some none)
  (zfu:W.nsIn K mainGlobals "any" =some none)
  (zfv:W.nsIn K mainGlobals "len" =some none)
  (zfw:W.nsIn K mainGlobals "min" =some none)
  (zfx:W.nsIn K mainGlobals "isinstance" =some none)
  (zfy:W.nsIn K mainGlobals "int" =some none)
  (zfz:W.nsIn K mainGlobals "str" =some none)
  (zga:W.nsIn K mainGlobals "all" =some none)
  (zgb:W.nsIn K mainGlobals "dict" =some none)
  (zgc:W.nsIn K mainGlobals "list" =some none)
  (zgd:W.nsIn K mainGlobals "bool" =some none)
  (zge:W.nsIn K mainGlobals "LONGEST_NAME" =some (some (.int 8 zcl))) :
  ∃(fd:FuncData) (f2:Addr) (fd2:FuncData),mg "_law_door" =some (.ref f2)/\(∃oc od osl,K.lookup f2=some ⟨oc,od,.func fd2,osl⟩)/\(∀(s:Shared) (v:Value),BindsTo s fd ⟨[v],[]⟩ [("_law_script",v)])/\∀(zgf:Heap) (cL PL:Addr),fd2.code= .ref cL->W.CodeHd zgf cL PL->zgf.BuiltinsAt mg PL->FnOk l.prog w K mg zgf CX0 20 fa fd ["_law_script"] (yS K PL):=by
 have e:=hfa.symm.trans (W.mg_of X G y32);cases e;exact⟨(W.fnOf "law" "law" (dP sL) (c4 sL) (aF sL) .none zan zao zap zak zaq zar),f23,(W.fnOf "_law_door" "_law_door" (dP dW) (c4 dW) (aF dW) .none zae zaf zag zab zah zai),W.mg_of X G y23,⟨_,_,_,zcv⟩,fun s v=> .of_eq rfl,fun zgf cL PL h1 h2 h3=>aCM ⟨f0,y86.x1 fun _ _ _ _ _ _ _=>rfl,
  f1,y87.x1 fun _ _ _ _ _ _ _=>rfl,
  f2,y88.x2 fun _ _ _ _ _ _ _ _=>rfl,
  f3,y89.x3 fun _ _ _ _ _ _ _ _ _=>rfl,
  f4,y90.x1 fun _ _ _ _ _ _ _=>rfl,
  f5,y91.x1 fun _ _ _ _ _ _ _=>rfl,
  f6,y92.x2 fun _ _ _ _ _ _ _ _=>rfl,
  f7,y93.x1 fun _ _ _ _ _ _ _=>rfl,
  f8,y94.x1 fun _ _ _ _ _ _ _=>rfl,
  f9,y95.x1 fun _ _ _ _ _ _ _=>rfl,
  f10,y96.x2 fun _ _ _ _ _ _ _ _=>rfl,
  f11,y97.x3 fun _ _ _ _ _ _ _ _ _=>rfl,
  f12,y98.x2 fun _ _ _ _ _ _ _ _=>rfl,
  f13,y99.x1 fun _ _ _ _ _ _ _=>rfl,
  f14,zcm.x2 fun _ _ _ _ _ _ _ _=>rfl,
  f15,zcn.x2 fun _ _ _ _ _ _ _ _=>rfl,
  f16,zco.x2 fun _ _ _ _ _ _ _ _=>rfl,
  f17,zcp.x2 fun _ _ _ _ _ _ _ _=>rfl,
  f18,zcq.x2 fun _ _ _ _ _ _ _ _=>rfl,
  f19,zcr.x2 fun _ _ _ _ _ _ _ _=>rfl,
  f20,zcs.x2 fun _ _ _ _ _ _ _ _=>rfl,
  f21,zct.x1 fun _ _ _ _ _ _ _=>rfl,
  f22,zcu.x4 fun _ _ _ _ _ _ _ _ _ _=>rfl,
  f23,_,pS zcv zcw zcx,(.all (by rintro us h;obtain _|⟨_,_|⟨_,us⟩⟩:=us<;>first|(cases h;done)|rfl)),
  f24,zcy.x2 fun _ _ _ _ _ _ _ _=>rfl,
  f25,zcz.x1 fun _ _ _ _ _ _ _=>rfl,
  f26,zda.x4 fun _ _ _ _ _ _ _ _ _ _=>rfl,
  f27,zdb.x1 fun _ _ _ _ _ _ _=>rfl,
  f28,zdc.x1 fun _ _ _ _ _ _ _=>rfl,
  f29,zdd.x3 fun _ _ _ _ _ _ _ _ _=>rfl,
  f30,zde.x1 fun _ _ _ _ _ _ _=>rfl,
  f31,zdf.x3 fun _ _ _ _ _ _ _ _ _=>rfl,
  fa,_,pS zdg zdh zdi,(.all (by rintro us h;obtain _|⟨_,_|⟨_,us⟩⟩:=us<;>first|(cases h;done)|rfl)),
  f42,zdj.x1 fun _ _ _ _ _ _ _=>rfl,
  f43,zdk.x1 fun _ _ _ _ _ _ _=>rfl,
  f44,zdl.x4 fun _ _ _ _ _ _ _ _ _ _=>rfl,
  f45,zdm.x2 fun _ _ _ _ _ _ _ _=>rfl,
  f46,zdn.x2 fun _ _ _ _ _ _ _ _=>rfl,
  f47,zdo.x3 fun _ _ _ _ _ _ _ _ _=>rfl,
  f48,zdp.x2 fun _ _ _ _ _ _ _ _=>rfl,
  f49,zdq.x3 fun _ _ _ _ _ _ _ _ _=>rfl,
  f50,zdr.x2 fun _ _ _ _ _ _ _ _=>rfl,
  f51,zds.x2 fun _ _ _ _ _ _ _ _=>rfl,
  f52,zdt.x3 fun _ _ _ _ _ _ _ _ _=>rfl,
  f53,zdu.x1 fun _ _ _ _ _ _ _=>rfl,
  f54,zdv.x1 fun _ _ _ _ _ _ _=>rfl,
  f55,zdw.x1 fun _ _ _ _ _ _ _=>rfl,
  f56,zdx.x1 fun _ _ _ _ _ _ _=>rfl,
  f57,zdy.x1 fun _ _ _ _ _ _ _=>rfl,
  f58,zdz.x1 fun _ _ _ _ _ _ _=>rfl,
  f59,_,pS zea zeb zec,(mS (ds:=[]) 5 zed (by rintro us h;obtain _|⟨_,_|⟨_,_|⟨_,_|⟨_,_|⟨_,_|⟨_,us⟩⟩⟩⟩⟩⟩:=us<;>first|(cases h;done)|exact⟨_,rfl,rfl⟩)),
  f60,zee.x2 fun _ _ _ _ _ _ _ _=>rfl,
  f61,zef.x1 fun _ _ _ _ _ _ _=>rfl,
  f62,zeg.x6 fun _ _ _ _ _ _ _ _ _ _ _ _=>rfl,
  f63,zeh.x2 fun _ _ _ _ _ _ _ _=>rfl,
  f64,zei.x6 fun _ _ _ _ _ _ _ _ _ _ _ _=>rfl,
  f65,zej.x2 fun _ _ _ _ _ _ _ _=>rfl,
  f66,_,pS zek zel zem,(mS (ds:=[]) 7 zen (by rintro us h;obtain _|⟨_,_|⟨_,_|⟨_,_|⟨_,_|⟨_,_|⟨_,_|⟨_,_|⟨_,us⟩⟩⟩⟩⟩⟩⟩⟩:=us<;>first|(cases h;done)|exact⟨_,rfl,rfl⟩)),
  f67,zeo.x2 fun _ _ _ _ _ _ _ _=>rfl,
  f68,zep.x6 fun _ _ _ _ _ _ _ _ _ _ _ _=>rfl,
  f69,zeq.x2 fun _ _ _ _ _ _ _ _=>rfl,
  f70,zer.x5 fun _ _ _ _ _ _ _ _ _ _ _=>rfl,
  f71,zes.x2 fun _ _ _ _ _ _ _ _=>rfl,
  f72,_,pS zet zeu zev,(mS (ds:=[]) 6 zew (by rintro us h;obtain _|⟨_,_|⟨_,_|⟨_,_|⟨_,_|⟨_,_|⟨_,_|⟨_,us⟩⟩⟩⟩⟩⟩⟩:=us<;>first|(cases h;done)|exact⟨_,rfl,rfl⟩)),
  f73,zex.x1 fun _ _ _ _ _ _ _=>rfl,
  f74,zey.x1 fun _ _ _ _ _ _ _=>rfl,
  f75,zez.x2 fun _ _ _ _ _ _ _ _=>rfl,
  f76,zfa.x2 fun _ _ _ _ _ _ _ _=>rfl,
  f77,zfb.x2 fun _ _ _ _ _ _ _ _=>rfl,
  f78,zfc.x2 fun _ _ _ _ _ _ _ _=>rfl,
  f79,zfd.x3 fun _ _ _ _ _ _ _ _ _=>rfl,
  f80,zfe.x1 fun _ _ _ _ _ _ _=>rfl,
  W.mg_of X G y0,
  W.mg_of X G y1,
  W.mg_of X G y2,
  W.mg_of X G y3,
  W.mg_of X G y4,
  W.mg_of X G y5,
  W.mg_of X G y6,
  W.mg_of X G y7,
  W.mg_of X G y8,
  W.mg_of X G y9,
  W.mg_of X G y10,
  W.mg_of X G y11,
  W.mg_of X G y12,
  W.mg_of X G y13,
  W.mg_of X G y14,
  W.mg_of X G y15,
  W.mg_of X G y16,
  W.mg_of X G y17,
  W.mg_of X G y18,
  W.mg_of X G y19,
  W.mg_of X G y20,
  W.mg_of X G y21,
  W.mg_of X G y22,
  W.mg_of X G y23,
  W.mg_of X G y24,
  W.mg_of X G y25,
  W.mg_of X G y26,
  W.mg_of X G y27,
  W.mg_of X G y28,
  W.mg_of X G y29,
  W.mg_of X G y30,
  W.mg_of X G y31,
  W.mg_of X G y32,
  ⟨[.int 1 zbc],.cons ⟨_,rfl⟩ (.nil),mS 4 zed (by rintro us h;obtain _|⟨_,_|⟨_,_|⟨_,_|⟨_,_|⟨_,us⟩⟩⟩⟩⟩:=us<;>first|(cases h;done)|exact⟨_,rfl,rfl⟩)⟩,
  ⟨[.none,.int 1 zbc],.cons rfl (.cons ⟨_,rfl⟩ (.nil)),mS 3 zed (by rintro us h;obtain _|⟨_,_|⟨_,_|⟨_,_|⟨_,us⟩⟩⟩⟩:=us<;>first|(cases h;done)|exact⟨_,rfl,rfl⟩)⟩,
  ⟨[.int 0 zbr],.cons ⟨_,rfl⟩ (.nil),mS 6 zen (by rintro us h;obtain _|⟨_,_|⟨_,_|⟨_,_|⟨_,_|⟨_,_|⟨_,_|⟨_,us⟩⟩⟩⟩⟩⟩⟩:=us<;>first|(cases h;done)|exact⟨_,rfl,rfl⟩)⟩,
  ⟨[.int 0 zcg],.cons ⟨_,rfl⟩ (.nil),mS 5 zew (by rintro us h;obtain _|⟨_,_|⟨_,_|⟨_,_|⟨_,_|⟨_,_|⟨_,us⟩⟩⟩⟩⟩⟩:=us<;>first|(cases h;done)|exact⟨_,rfl,rfl⟩)⟩,
  C33,W.mg_of X G y33,
  C34,W.mg_of X G y34,
  C35,W.mg_of X G y35,
  C36,W.mg_of X G y36,
  C37,W.mg_of X G y37,
  C38,W.mg_of X G y38,
  C39,W.mg_of X G y39,
  C40,W.mg_of X G y40,
  C41,W.mg_of X G y41,
  zff,
  y42,
  y51,
  y52,
  y53,
  y54,
  y55,
  y56,
  y57,
  zfg,
  y43,
  y58,
  y59,
  y60,
  y61,
  y62,
  y63,
  y64,
  y65,
  zfh,
  y44,
  y66,
  y67,
  zfi,
  y45,
  y68,
  y69,
  zfj,
  y46,
  y70,
  y71,
  zfk,
  y47,
  y72,
  y73,
  zfl,
  y48,
  y74,
  y75,
  zfm,
  y49,
  y76,
  y77,
  zfn,
  y50,
  y78,
  y79,
  y80,
  y81,
  y82,
  y83,
  y84,
  y85,
  ⟨zfo,zfp,zfq⟩,
  W.mg_none_of X G zfr,
  W.mg_none_of X G zfs,
  W.mg_none_of X G zft,
  W.mg_none_of X G zfu,
  W.mg_none_of X G zfv,
  W.mg_none_of X G zfw,
  W.mg_none_of X G zfx,
  W.mg_none_of X G zfy,
  W.mg_none_of X G zfz,
  W.mg_none_of X G zga,
  W.mg_none_of X G zgb,
  W.mg_none_of X G zgc,
  W.mg_none_of X G zgd,
  ⟨zcl,W.mg_of X G zge⟩⟩ h1 h2 h3⟩
theorem walk {l:W.OpenLaw}{q:Program}{loose:List Str}{XP:(Str->Option Value)->Heap->Prop}{YP:World->Heap->Prop}{d d2:DefRec}{K:Params->W.Frag} (hn:l.most=some 63) (hdf:d.params.defaults=[]) (hrec:d2∈PyProof.Rows.recsOf q) (hd2:d2.name= "_law_door") (hnt:∀w:World,W.noTabs (K w.params)=true)
  (hY:∀(w:World) (h:Heap),YP w h->(K w.params).In h)
  (F:∀(w:World) (mg:Str->Option Value) (fa:Addr) (h:Heap),(K w.params).In h->h.Ns mainGlobals mg->mg d.name=some (.ref fa) →
   ∃(fd:FuncData) (f2:Addr) (fd2:FuncData),mg "_law_door" =some (.ref f2)/\(∃oc od osl,(K w.params).lookup f2=some ⟨oc,od,.func fd2,osl⟩)/\(∀(s:Shared) (u:Value),BindsTo s fd ⟨[u],[]⟩ [("_law_script",u)])/\∀(zgf:Heap) (cL PL:Addr),fd2.code= .ref cL->W.CodeHd zgf cL PL->zgf.BuiltinsAt mg PL->FnOk l.prog w (K w.params) mg zgf CX0 20 fa fd ["_law_script"] (yS (K w.params) PL)) :
  W.WalkO q loose XP YP l.row.toRowW d [] (fun f vs=>PySem.call f vs) :=
 L2.walk_ofT2 (d2:=d2) (n:=63) (k:=20) (x:= "_law_script") (CX:=fun _=>CX0) (sp:=fun w PL=>yS (K w.params) PL) hn (by decide) hdf ⟨rfl,by decide,by decide⟩ hrec hnt hY (fun w mg fa h a b c=>by rw[hd2];exact F w mg fa h a b c) (fun _ _ _ a ns hl hS hP=>⟨a,ns,rfl,hS,hl,hP,fun _=>rfl⟩) fun _ _ _ _ _ z=>z
end Prf
open PySem PySem.W PyProof.Rows
set_option maxRecDepth 100000 in
set_option maxHeartbeats 0 in
theorem PySem.Challenge.cw_firstout_k44_how_many_and_when_holds : PySem.Challenge.rw_firstout_k44_how_many_and_when.Holds := by
 w_on;o_law;k_head;(case hw=>w_witness2)
 k_fill
 refine Prf.walk (l:=PySem.Challenge.rw_firstout_k44_how_many_and_when) rfl rfl (List.mem_of_find?_eq_some (p:=fun e=>e.name==("_law_door" :Str)) rfl) rfl (fun w=>by kernel_rfl) (fun w h Y=>W.km_in_of Y) ?F
 case F =>
  intro w mg fa h KX G hmg;refine' Prf.all_mk KX G hmg ?_ ?_ ?_ ?_ ?_ ?_ ?_ ?_ ?_ ?_ ?_ ?_ ?_ ?_ ?_ ?_ ?_ ?_ ?_ ?_ ?_ ?_ ?_ ?_ ?_ ?_ ?_ ?_ ?_ ?_ ?_ ?_ ?_ ?_ ?_ ?_ ?_ ?_ ?_ ?_ ?_ ?_ ?_ ?_ ?_ ?_ ?_ ?_ ?_ ?_ ?_ ?_ ?_ ?_ ?_ ?_ ?_ ?_ ?_ ?_ ?_ ?_ ?_ ?_ ?_ ?_ ?_ ?_ ?_ ?_ ?_ ?_ ?_ ?_ ?_ ?_ ?_ ?_ ?_ ?_ ?_ ?_ ?_ ?_ ?_ ?_ ?_ ?_ ?_ ?_ ?_ ?_ ?_ ?_ ?_ ?_ ?_ ?_ ?_ ?_ ?_ ?_ ?_ ?_ ?_ ?_ ?_ ?_ ?_ ?_ ?_ ?_ ?_ ?_ ?_ ?_ ?_ ?_ ?_ ?_ ?_ ?_ ?_ ?_ ?_ ?_ ?_ ?_ ?_ ?_ ?_ ?_ ?_ ?_ ?_ ?_ ?_ ?_ ?_ ?_ ?_ ?_ ?_ ?_ ?_ ?_ ?_ ?_ ?_ ?_ ?_ ?_ ?_ ?_ ?_ ?_ ?_ ?_ ?_ ?_ ?_ ?_ ?_ ?_ ?_ ?_ ?_ ?_ ?_ ?_ ?_ ?_ ?_ ?_ ?_ ?_ ?_ ?_ ?_ ?_ ?_ ?_ ?_ ?_ ?_ ?_ ?_ ?_ ?_ ?_ ?_ ?_ ?_ ?_ ?_ ?_ ?_
  any_goals first|k_is|(apply L2.FnL.mk<;>k_is)|exact L2.FnL.mk (by k_is) (by k_is) (by k_is)|(apply L2.Meth.mk<;>k_is)|(apply L2.Mk.mk<;>k_is)|(refine' Prf.DCls.mk (L2.ICls.mk (L2.Cls.mk ?_ ?_ ?_ ?_) ?_ ?_ ?_ ?_) ?_<;>first|k_is|kernel_rfl)|fail
