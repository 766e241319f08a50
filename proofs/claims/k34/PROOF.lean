import PyProof.Rows.All
import Wide.All
import OpenK.AllK
import Wide.FinOn
import Lean
import PyProof.EqAt
import PyProof.EqKinds
import PyProof.TupleCall
import KE.KSortTup
import PyProof.Rows.DictUnroll
import PyProof.DictItems
import KE.LcSums
import PyProof.IsiH_list
import KE.KDictOf
import PyProof.DictWalks
import PyProof.ListRange
import PyProof.EnumStmt
import PyProof.EnumMake
import KE.KDictSum
import PyProof.StrOps2
import PySem.Challenge.RW_firstout_k34_whole_no_plan_passes_a_cut
namespace PySem.W.Fast
def tw6515777874973269089:=()
def tw6238236170656380803:=()
def tw16114861181956765956:=()
def tw5379635809276648197:=()
def tw6822537762014249703:=()
def tw14255319795458514824:=()
def tw9630042069193163593:=()
def tw3557294374220306476:=()
def tw14093392787752082124:=()
def tw13032614438994608078:=()
def tw13195496488999794257:=()
def tw4341081789864035153:=()
def tw10384585238976018708:=()
def tw13029123487338636405:=()
def tw9512324213839197525:=()
def tw4117947154910034422:=()
def tw6077735672120903350:=()
def tw1425668593056417687:=()
def tw4728898490450751614:=()
def tw17323897853374497278:=()
def tw16156208703059304254:=()
def tw802068835591053727:=()
def tw12596081745629802459:=()
def tw1468511306642581041:=()
def tw1601080143991211387:=()
def tw236573263992528688:=()
def tw15999944200447270407:=()
def tw7535176366881369713:=()
def tw15514690110852812343:=()
def tw6514726882847694769:=()
def tw9798896479212351900:=()
def tw18136466335292040090:=()
def tw15635406989478154738:=()
def tw6397202765435252140:=()
def tw8130137758696416395:=()
def tw3084477843587313453:=()
def tw18262547894872999949:=()
def tw11347752443684088577:=()
def tw1670058067678476081:=()
def tw4995069827609963557:=()
def tw15639767734615164171:=()
def tw854023486000757347:=()
def tw3882882295697559765:=()
def tw10119820879247704022:=()
def tw8416313421512620874:=()
def tw15855651699814672669:=()
def tw17806263416662538740:=()
def tw1780542974423049486:=()
def tw4607976168434027685:=()
def tw1708676929089103608:=()
def tw3978770753145978296:=()
def tw11264498239339382646:=()
def tw8730732540750040048:=()
def tw2400966908949237270:=()
def tw5928392167225632325:=()
def tw344084714799830562:=()
def tw10009231107907504244:=()
def tw18228887608232283614:=()
def tw6605398587365658490:=()
def tw3091416109909903105:=()
def tw5346399267540087784:=()
def tw11718835139698795642:=()
def tw9589876524281537393:=()
def tw5249428353227737623:=()
def tw7297181317183922523:=()
def tw8458716178163831803:=()
def tw13126397928075399009:=()
def tw11312535364691790199:=()
def tw15208086239027778477:=()
def tw16611741806607710738:=()
def tw8482208703189389759:=()
def tw10949401039104077128:=()
def tw4783588784430876669:=()
def tw8135799137787367137:=()
def tw2643674493108051455:=()
def tw12656796359300960799:=()
def tw4565596224427654907:=()
def tw12365219358018542718:=()
def tw10602820326319642691:=()
def tw8982532045083463525:=()
def tw7164299166794974722:=()
def tw15458965486145792805:=()
def tw7853282847358075285:=()
def tw78443476043499592:=()
def tw1892471813981064840:=()
def tw13258651227370088917:=()
def tw5866020172861117980:=()
def tw3923264397977851117:=()
def tw11522270763870473329:=()
def tw1902606841059352899:=()
def tw16498573380235772362:=()
def tw15517456240537412828:=()
def tw13710241179783559940:=()
def tw6758222523775207796:=()
def tw4210445989326617305:=()
def tw3107685918267157125:=()
def tw4515254379326800530:=()
def tw10878851109351438754:=()
def tw7156170565263701805:=()
def tw1919776173389936115:=()
def tw2388269111832878873:=()
def tw4620134921252212287:=()
def tw13628761054147727897:=()
def tw820180178046703755:=()
def tw8384244443275552385:=()
def tw18203526398514900610:=()
def tw6946963145853664105:=()
def tw6628541131055405673:=()
def tw12208453519597516969:=()
def tw1940082700902523250:=()
def tw7620291853000997606:=()
def tw15976745247765203737:=()
def tw9595809490249982720:=()
def tw14326137253328205979:=()
def tw14254329068689994094:=()
def tw6301622362409538000:=()
def tw18333688984774117586:=()
def tw1627391580576713067:=()
def tw5049586530256363402:=()
def tw14945612421973029491:=()
def tw13770850734833377643:=()
def tw11800705242961030784:=()
def tw8184974817598163931:=()
def tw4858597040241177092:=()
def tw6872810174440321101:=()
def tw7844427939006365064:=()
def tw3532895269981535589:=()
def tw10022048865154164537:=()
def tw14957667876913455693:=()
def tw13088125493953986745:=()
def tw1043723798945381786:=()
def tw11175069515539767605:=()
def tw7347683433286796135:=()
def tw6312549956214590172:=()
def tw3811052318572347613:=()
def tw10974453026487500564:=()
def tw3533638925298854527:=()
def tw11896688725914235428:=()
def tw7615936158292162258:=()
def tw6933537976385123136:=()
def tw13714345455008661168:=()
def tw10888544587688798473:=()
def tw16304748002331725833:=()
def tw17564111397331747203:=()
def tw16734228393204731862:=()
def tw8744456953874750167:=()
def tw14131042955867982769:=()
def tw9954226266196031159:=()
def tw11955003232433836299:=()
def tw7069753497145851783:=()
def tw3845395632795437265:=()
def tw13003890580634667332:=()
def tw6471129876286549282:=()
def tw592541973634607348:=()
def tw4470879287351739191:=()
def tw8989032299166818381:=()
def tw17432851372132844610:=()
def tw8974238959394370213:=()
def tw3337789862692955132:=()
def tw17632304315878366349:=()
def tw14399317095146026885:=()
def tw3567989723717657908:=()
def tw7899631408287871615:=()
def tw531538959182190789:=()
def tw3135142357072162139:=()
def tw10881061059218252034:=()
def tw15420534145187237929:=()
def tw3819064393898211564:=()
def tw3574786294285946369:=()
def tw833567147665400066:=()
def tw4574030840546970348:=()
def tw3479314414000823636:=()
def tw1074232817452674925:=()
def tw9694503380999103195:=()
def tw14351208476259632746:=()
def tw13861400771319628662:=()
def tw17331645551710929527:=()
def tw18086630947301934067:=()
def tw15740899448840097503:=()
def tw17551302300131095403:=()
def tw219288047494405475:=()
def tw2555703928658438046:=()
def tw6932475787938472281:=()
def tw6894759670232712928:=()
def tw9075847591887782078:=()
def tw13899442345640243931:=()
def tw4331447448046879171:=()
def tw8469934214914448269:=()
def tw4456606437864418033:=()
def tw10761904464530774799:=()
def tw12843984904169718429:=()
def tw5810938855717646332:=()
def tw9769216111643267339:=()
def tw4439434778688828811:=()
def tw15786589643216555001:=()
def tw28193447857684086:=()
def tw14984633450819358010:=()
def tw5314716549770445853:=()
def tw15259191574983303458:=()
def tw9017035793823670163:=()
def tw2218521973014451972:=()
def tw8953577195246578059:=()
def tw1684057778068960372:=()
def tw1976373284617908377:=()
def tw3121174946747847090:=()
def tw9151926582882541188:=()
def tw14429271030419872523:=()
def tw1224070729681928617:=()
def tw10548002610806686549:=()
def tw15955232661321380394:=()
def tw6414929650614593481:=()
def tw15379256783384068496:=()
def tw13658748969293907721:=()
def tw14402238755046650168:=()
def tw2069391527646090322:=()
def tw17574788812908115882:=()
def tw14019672044500829722:=()
def tw824674550425529331:=()
def tw8015105918911303966:=()
def tw8692117987827208867:=()
def tw17528536052020092703:=()
def tw7856621057217423681:=()
def tw4537098856803681808:=()
def tw16785019500514332887:=()
def tw18044451026963560003:=()
def tw14352206225028596972:=()
def tw14238469348132649332:=()
end PySem.W.Fast
set_option compiler.extract_closed false
local macro_rules| `(tactic| walk_at"oi")=> `(tactic| first|exact Or.inl rfl|exact Or.inr rfl)
set_option Elab.async false
set_option linter.all false
set_option maxRecDepth 100000
namespace L2
open PySem PySem.Spec PyProof.Rows
abbrev Key:=Sum Int Str
def AH:Key->Value->Bool
 | .inl k,v=>Value.isInt k v
 | .inr x,v=>Value.isStrOf x v
def aFq (w:World):Key->Int
 | .inl k=>hashInt k
 | .inr x=>hashStr w x
theorem dY:∀{k:Key}{v:Value},AH k v=true->(∃i t,k=Sum.inl i/\v=Value.int i t)∨(∃x t,k=Sum.inr x/\v=Value.str x t)
 | .inl i,v,h=>by
  obtain⟨t,e⟩:=Value.isInt_shape (k:=i) (v:=v) h;exact .inl ⟨i,t,rfl,e⟩
 | .inr x,v,h=>by
  obtain⟨t,e⟩:=Value.isStrOf_shape (x:=x) (v:=v) h;exact .inr ⟨x,t,rfl,e⟩
theorem U8 (i:Int)(t:Tok):AH (.inl i) (.int i t)=true:=by simp[AH,Value.isInt]
theorem SU (x:Str)(t:Tok):AH (.inr x) (.str x t)=true:=by simp[AH,Value.isStrOf]
theorem aC9 (a b:Int):decide ((Sum.inl a:Key)=Sum.inl b)=(a==b):=by
 by_cases e:a=b
 ·subst e;simp
 ·have h:¬(Sum.inl a:Key)=Sum.inl b:=fun q=>e (Sum.inl.inj q);rw[decide_eq_false h];exact(beq_eq_false_iff_ne.mpr e).symm
theorem aD0 (a b:Str):decide ((Sum.inr a:Key)=Sum.inr b)=decide (a=b):=by
 by_cases e:a=b
 ·subst e;simp
 ·have h:¬(Sum.inr a:Key)=Sum.inr b:=fun q=>e (Sum.inr.inj q);rw[decide_eq_false h,decide_eq_false e]
theorem aDN (a:Int)(b:Str):decide ((Sum.inl a:Key)=Sum.inr b)=false:=decide_eq_false (fun q=>nomatch q)
theorem aCO (a:Str)(b:Int):decide ((Sum.inr a:Key)=Sum.inl b)=false:=decide_eq_false (fun q=>nomatch q)
def cH (prog:Program)(w:World):PySem.KeyKind prog w Key where
 is:=AH
 hash:=aFq w
 inj:=fun v a b ha hb=>by
  rcases dY ha with⟨i,t,rfl,rfl⟩|⟨x,t,rfl,rfl⟩
  ·rcases dY hb with⟨j,u,rfl,e⟩|⟨y,u,rfl,e⟩
   ·injection e with e1 _;rw[e1]
   ·exact nomatch e
  ·rcases dY hb with⟨j,u,rfl,e⟩|⟨y,u,rfl,e⟩
   ·exact nomatch e
   ·injection e with e1 _;rw[e1]
 byValue:=fun k v h=>by
  rcases dY h with⟨i,t,rfl,rfl⟩|⟨x,t,rfl,rfl⟩<;>rfl
 pyHash:=fun hv h=>by
  rcases dY hv with⟨i,t,rfl,rfl⟩|⟨x,t,rfl,rfl⟩
  ·exact wpAny_pyHash_int h
  ·exact wpAny_pyHash_str h
 eqBool:=fun hu hv h=>by
  rcases dY hu with⟨i,t,rfl,rfl⟩|⟨x,t,rfl,rfl⟩
  ·rcases dY hv with⟨j,u,rfl,rfl⟩|⟨y,u,rfl,rfl⟩
   ·rw[aC9]at h;exact wpAny_eqBool_int h
   ·rw[aDN]at h;exact SeqAt.EqAt.int_str i t y u _ _ _ _ h
  ·rcases dY hv with⟨j,u,rfl,rfl⟩|⟨y,u,rfl,rfl⟩
   ·rw[aCO]at h;exact SeqAt.EqAt.str_int x t j u _ _ _ _ h
   ·rw[aD0]at h;exact wpAny_eqBool_str h
 «strs»:=fun k x t v h=>by
  rcases dY h with⟨i,u,rfl,e⟩|⟨y,u,rfl,e⟩
  ·exact nomatch e
  ·injection e with e1 _;subst e1;cases v<;>rfl
theorem N6 (prog:Program)(w:World)(i:Int)(t:Tok):(cH prog w).is (.inl i) (.int i t)=true:=U8 i t
theorem OL (prog:Program)(w:World)(x:Str)(t:Tok):(cH prog w).is (.inr x) (.str x t)=true:=SU x t
end L2
namespace L2
open PySem PySem.Spec PyProof.Rows
inductive V where
 | non|bl (b:Bool)|int (i:Int)|str (x:Str)|byt (b:Array UInt8)|flt (b:UInt64)|ref (a:Addr)|ty (n:String)
 deriving DecidableEq
def RelV:V->Value->Prop
 | .non,u=>u=Value.none
 | .bl b,u=>u=Value.bool b
 | .int i,u=>∃t,u=Value.int i t
 | .str x,u=>∃t,u=Value.str x t
 | .byt b,u=>∃t,u=Value.bytes b t
 | .flt b,u=>∃t,u=Value.float b t
 | .ref a,u=>u=Value.ref a
 | .ty n,u=>u=Value.type n
abbrev Vals:List V->List Value->Prop:=Paired RelV
theorem Vals.length {xs:List V}{us:List Value} (r:Vals xs us):xs.length=us.length:=Paired.length r
theorem Vals.get:∀{xs:List V}{us:List Value}{i:Nat}{x:V},Vals xs us->xs[i]? =some x->∃u,us[i]? =some u/\RelV x u
 | _,_,_,_,.nil,e=>by simp at e
 | _,_,0,_,.cons r _,e=>by simp at e;subst e;exact⟨_,rfl,r⟩
 | _,_,i+1,x,.cons _ t,e=>by
  obtain⟨u,h1,h2⟩:=Vals.get (i:=i) (x:=x) t (by simpa using e);exact⟨u,by simpa using h1,h2⟩
theorem Vals.append:∀{xs ys:List V}{us ws:List Value},Vals xs us->Vals ys ws->Vals (xs++ys) (us++ws)
 | _,_,_,_,.nil,s=>s
 | _,_,_,_,.cons r t,s=> .cons r (Vals.append t s)
theorem Vals.take:∀{xs:List V}{us:List Value} (n:Nat),Vals xs us->Vals (xs.take n) (us.take n)
 | _,_,0,_=> .nil
 | _,_,_+1,.nil=> .nil
 | _,_,n+1,.cons r t=> .cons r (Vals.take n t)
theorem Vals.drop:∀{xs:List V}{us:List Value} (n:Nat),Vals xs us->Vals (xs.drop n) (us.drop n)
 | _,_,0,r=>r
 | _,_,_+1,.nil=> .nil
 | _,_,n+1,.cons _ t=>Vals.drop n t
def RelO:Option V->Option Value->Prop
 | some v,some u=>RelV v u
 | none,none=>True
 | _,_=>False
def KV {κ:Type}:List (κ×V)->List (κ×Value)->Prop:=Paired fun (p:κ×V) (q:κ×Value)=>p.1=q.1/\RelV p.2 q.2
def kV:Key->V
 | .inl i=> .int i
 | .inr x=> .str x
inductive HO where
  | lst (xs:List V)
  | tup (xs:List V)
  | dK (kvs:List (Key×V))|dT (kvs:List (List Key×V))
  | set (S:Int->Bool) (n:Nat)
  | ins (C dx:Addr) (fs:List (Str×V))
  | own (x:Addr)
  | xd (fs:List (Str×V))
  | met (f x:Addr)
  | rng (lo hi:Int)
  | frz (o:Obj) (u:HO)
  | tbl (ps:Array Value)
  | ext (φ:Heap->Prop)
abbrev Hp:=Addr->Option HO
def upd (H:Hp)(a:Addr)(o:HO):Hp:=fun b=>if b=a then some o else H b
theorem bJ {H:Hp}{a:Addr}{o:HO}:upd H a o a=some o:=by unfold upd;rw[if_pos rfl]
theorem aU {H:Hp}{a b:Addr}{o:HO} (h:b≠a):upd H a o b=H b:=by unfold upd;rw[if_neg h]
theorem aAl {H:Hp}{a:Addr}{o u:HO}:upd (upd H a o) a u=upd H a u:=by
 funext b;unfold upd;split<;>rfl
theorem aE6 {H:Hp}{a b:Addr}{o u:HO} (h:H a=some o) (h':H b=some u) (d:o≠u):a≠b:=by
 intro e;subst e;rw[h]at h';exact d (Option.some.inj h')
theorem bM {H:Hp}{a b:Addr}{o:HO} (h:H a=some o) (h':H b=none):a≠b:=by
 intro e;subst e;rw[h]at h';cases h'
section
variable (P:Program)(w:World)
def ObjOk (H:Hp)(h:Heap)(a:Addr):HO->Prop
 | .lst xs=>xs.length<=sizeLine/\∃(its:List Value) (n:Nat),Vals xs its/\h.get? a=some { cls:= .type "list",data:= .seq its.toArray n }
 | .tup xs=>xs.length<=sizeLine/\∃its:List Value,Vals xs its/\IsTup h a its.toArray
 | .dK kvs=>kvs.length<=sizeLine/\(a==sysModules)=false/\∃vs,KV kvs vs/\h.DictOf (cH P w) a vs
 | .dT kvs=>kvs.length<=sizeLine/\(a==sysModules)=false/\∃xs:List (List Key×Addr×Value),
   Paired (fun (p:List Key×V) (q:List Key×Addr×Value)=>p.1=q.1/\H q.2.1=some (.tup (p.1.map kV))/\RelV p.2 q.2.2) kvs xs ∧
   ∃o es ep,h.get? a=some o/\o.ExactDict/\o.data= .dict es ep/\es.toList=xs.map (entryOfKey (tupleKind (cH P w)))/\(xs.map (·.1)).Nodup
 | .set S n=>h.SetOf (intKind P w) a S n
 | .ins C dx fs=>H dx=some (.own a)/\fs.length<=1000/\dx≠a/\h.get? a=some (PySem.W.instObj C dx) ∧
   ∃mA,h.Ns1 dx mA/\(∀f,RelO (fs.lookup f) (mA f))/\PySem.Within mA (fs.map (·.1))
 | .own _=>∃o,h.get? a=some o
 | .xd fs=>∃mA,h.Ns1 a mA/\∀f,RelO (fs.lookup f) (mA f)
 | .rng lo hi=>∃t u v,h.get? a=some { cls:= .type "range",data:= .fields #[.int lo t,.int hi u,.int 1 v] }
 | .frz o u=>h.get? a=some o/\ObjOk H h a u
 | .tbl ps=>h.get? a=some { cls:= .none,data:= .fields ps }
 | .met f x=>h.get? a=some (PySem.W.methodObj (.ref f) (.ref x))
 | .ext φ=>φ h/\(∃o,h.get? a=some o)/\∀h1 h2:Heap,φ h1->(∀o,h1.get? a=some o->h2.get? a=some o)->φ h2
def HOk (H:Hp)(h:Heap):Prop:=∀a o,H a=some o->ObjOk P w H h a o
end
section
variable {P:Program}{w:World}{H H':Hp}{h h':Heap}{a:Addr}{o:HO}
theorem ObjOk.lt (x:ObjOk P w H h a o):a<h.objs.size:=by
 cases o with
 | lst xs=>obtain⟨_,_,_,_,e⟩:=x;exact Heap.lt_size e
 | tup xs=>obtain⟨_,_,_,p⟩:=x;exact p.lt
 | dK kvs=>obtain⟨_,_,_,_,o,_,_,e,_⟩:=x;exact Heap.lt_size e
 | dT kvs=>obtain⟨_,_,_,_,o,_,_,e,_⟩:=x;exact Heap.lt_size e
 | set S n=>obtain⟨o,_,_,_,e,_⟩:=x;exact Heap.lt_size e
 | ins C dx fs=>obtain⟨_,_,_,e,_⟩:=x;exact Heap.lt_size e
 | own y=>obtain⟨_,e⟩:=x;exact Heap.lt_size e
 | xd fs=>obtain⟨_,⟨_,_,_,e,_⟩,_⟩:=x;exact Heap.lt_size e
 | rng lo hi=>obtain⟨_,_,_,e⟩:=x;exact Heap.lt_size e
 | frz ob u=>obtain⟨e,_⟩:=x;exact Heap.lt_size e
 | tbl ps=>exact Heap.lt_size (show h.get? a=some _ from x)
 | met f y=>exact Heap.lt_size (show h.get? a=some _ from x)
 | ext φ=>obtain⟨_,⟨_,e⟩,_⟩:=x;exact Heap.lt_size e
theorem Paired.mapP {α β:Type}{F G:α->β->Prop}:∀{l₁:List α}{l₂:List β},Paired F l₁ l₂->(∀a b,F a b->G a b)->Paired G l₁ l₂
 | _,_,.nil,_=> .nil
 | _,_,.cons r t,f=> .cons (f _ _ r) (Paired.mapP t f)
theorem Paired.imp' {α β:Type}{F G:α->β->Prop} (f:∀a b,F a b->G a b) {l₁:List α}{l₂:List β} (r:Paired F l₁ l₂):Paired G l₁ l₂:=Paired.mapP r f
theorem ObjOk.stay (x:ObjOk P w H h a o)(k:∀b u,(b=a∨H b=some (.own a))->h.get? b=some u->h'.get? b=some u)
  (ho:∀b,H b=some (.own a)->H' b=some (.own a))(ht:∀b xs,H b=some (.tup xs)->H' b=some (.tup xs)):ObjOk P w H' h' a o:=by
 induction o with
 | lst xs=>obtain⟨z,its,n,r,e⟩:=x;exact⟨z,its,n,r,k _ _ (.inl rfl) e⟩
 | tup xs=>obtain⟨z,its,r,ob,e,c⟩:=x;exact⟨z,its,r,ob,k _ _ (.inl rfl) e,c⟩
 | dK kvs=>obtain⟨z,y,vs,r,ob,es,ep,e,c⟩:=x;exact⟨z,y,vs,r,ob,es,ep,k _ _ (.inl rfl) e,c⟩
 | dT kvs =>
  obtain⟨z,y,xs,r,ob,es,ep,e,c⟩:=x;exact⟨z,y,xs,Paired.mapP r fun p q z=>⟨z.1,ht _ _ z.2.1,z.2.2⟩,ob,es,ep,k _ _ (.inl rfl) e,c⟩
 | set S n=>obtain⟨ob,es,ep,t,e,c⟩:=x;exact⟨ob,es,ep,t,k _ _ (.inl rfl) e,c⟩
 | ins C dx fs =>
  obtain⟨d,z,ne,e,mA,⟨od,es,ep,e2,c⟩,r⟩:=x;exact⟨ho _ d,z,ne,k _ _ (.inl rfl) e,mA,⟨od,es,ep,k _ _ (.inr d) e2,c⟩,r⟩
 | own y=>obtain⟨ob,e⟩:=x;exact⟨ob,k _ _ (.inl rfl) e⟩
 | xd fs=>obtain⟨mA,⟨od,es,ep,e,c⟩,r⟩:=x;exact⟨mA,⟨od,es,ep,k _ _ (.inl rfl) e,c⟩,r⟩
 | rng lo hi=>obtain⟨t,u,v,e⟩:=x;exact⟨t,u,v,k _ _ (.inl rfl) e⟩
 | frz ob u ih=>obtain⟨e,q⟩:=x;exact⟨k _ _ (.inl rfl) e,ih q⟩
 | tbl ps =>
  have e:h.get? a=some { cls:= .none,data:= .fields ps }:=x;show h'.get? a=some { cls:= .none,data:= .fields ps };exact k a _ (.inl rfl) e
 | met f y =>
  have e:h.get? a=some (PySem.W.methodObj (.ref f) (.ref y)):=x;show h'.get? a=some (PySem.W.methodObj (.ref f) (.ref y));exact k a _ (.inl rfl) e
 | ext φ=>obtain⟨p,⟨o,e⟩,st⟩:=x;exact⟨st _ _ p fun o q=>k _ _ (.inl rfl) q,⟨o,k _ _ (.inl rfl) e⟩,st⟩
theorem HOk.lt (x:HOk P w H h)(e:H a=some o):a<h.objs.size:=(x a o e).lt
theorem HOk.fresh (x:HOk P w H h)(e:h.objs.size<=a):H a=none:=by
 cases q:H a with
 | none=>rfl
 | some u=>exact absurd (Nat.lt_of_lt_of_le (x.lt q) e) (Nat.lt_irrefl _)
theorem HOk.kept (x:HOk P w H h)(k:∀b u,h.get? b=some u->h'.get? b=some u):HOk P w H h':=fun a o e =>
 (x a o e).stay (fun b u _ q=>k b u q) (fun _ q=>q) fun _ _ q=>q
theorem HOk.laid (x:HOk P w H h)(k:∀b u,h.get? b=some u->h'.get? b=some u)(hp:h.objs.size<=a)(new:ObjOk P w (upd H a o) h' a o):HOk P w (upd H a o) h':=fun b u e=>by
 have hn:=x.fresh hp
 by_cases hb:b=a
 ·subst hb;rw[bJ]at e;cases e;exact new
 ·rw[aU hb]at e;exact(x b u e).stay (fun c v _ q=>k c v q) (fun c q=>by rw[aU (bM q hn)];exact q) fun c xs q=>by rw[aU (bM q hn)];exact q
end
def Rd (H:Hp)(a:Addr)(u:HO):Prop:=H a=some u∨∃o,H a=some (.frz o u)
theorem Rd.ok {P:Program}{w:World}{H:Hp}{h:Heap}{a:Addr}{u:HO} (r:Rd H a u) (x:HOk P w H h):ObjOk P w H h a u:=by
 rcases r with r|⟨o,r⟩
 ·exact x a u r
 ·obtain⟨_,q⟩:=x a _ r;exact q
def Mut:Option HO->Prop
 | some (.lst _)=>True
 | some (.dK _)=>True
 | some (.dT _)=>True
 | some (.set _ _)=>True
 | some (.ins _ _ _)=>True
 | some (.ext _)=>True
 | _=>False
section
variable {P:Program}{w:World}{H:Hp}{h h':Heap}{x e:Addr}{o':HO}
theorem HOk.write (ok:HOk P w H h)(mu:Mut (H x))(he:e=x∨H e=some (.own x))(k:∀b u,b≠e->h.get? b=some u->h'.get? b=some u)(heo:∃u,h'.get? e=some u)
  (new:ObjOk P w (upd H x o') h' x o'):HOk P w (upd H x o') h':=fun b u q=>by
 have nown:∀c y,H c=some (.own y)->c≠x:=fun c y r z=>by subst z;rw[r]at mu;exact mu
 have ntup:∀c xs,H c=some (.tup xs)->c≠x:=fun c xs r z=>by subst z;rw[r]at mu;exact mu
 by_cases hb:b=x
 ·subst hb;rw[bJ]at q;cases q;exact new
 ·rw[aU hb]at q
  by_cases hbe:b=e
  ·have q':H b=some (.own x):=by
    rcases he with z|z
    ·exact absurd (hbe.trans z) hb
    ·rw[hbe];exact z
   rw[q]at q';cases q';obtain⟨v,hv⟩:=heo;exact⟨v,by rw[hbe];exact hv⟩
  ·refine(ok b u q).stay (fun c v hc r=>k c v ?_ r) (fun c r=>by rw[aU (nown c b r)];exact r) fun c xs r=>by rw[aU (ntup c xs r)];exact r
   rcases hc with rfl|hc
   ·exact hbe
   ·rintro rfl;rcases he with z|z
    ·exact nown c b hc z
    ·rw[hc]at z;cases z;exact hb rfl
end
structure Un (fs ex:List Addr)(H H':Hp)(h h':Heap):Prop where
 keep:∀b o,h.get? b=some o->H b=none->b∉fs->b∉ex->h'.get? b=some o
 slot:∀b o,h.get? b=some o->H b=none->b∈fs->b∉ex->∃sl,h'.get? b=some { o with slots:=sl }
 free:∀b o,h.get? b=some o->H b=none->b∉ex->H' b=none
 there:∀b o,h.get? b=some o->b∉ex->∃o',h'.get? b=some o'
 tups:∀b xs,H b=some (.tup xs)->H' b=some (.tup xs)
 frzs:∀b o u,H b=some (.frz o u)->H' b=some (.frz o u)
 tbls:∀b ps,H b=some (.tbl ps)->∃more,H' b=some (.tbl (ps++more))
section
variable {fs fs' ex ex':List Addr}{H H1 H2:Hp}{h h1 h2 h':Heap}{a x e:Addr}{o:HO}
theorem Un.any (u:Un fs ex H H1 h h1){b:Addr}{ob:Obj} (q:h.get? b=some ob) (n:H b=none) (hx:b∉ex):∃sl,h1.get? b=some { ob with slots:=sl }:=by
 by_cases hb:b∈fs
 ·exact u.slot b ob q n hb hx
 ·exact⟨ob.slots,u.keep b ob q n hb hx⟩
theorem Un.kept (k:∀b u,h.get? b=some u->h'.get? b=some u):Un fs ex H H h h' :=
 ⟨fun b ob q _ _ _=>k b ob q,fun b ob q _ _ _=>⟨ob.slots,k b ob q⟩,fun _ _ _ n _=>n,fun b ob q _=>⟨ob,k b ob q⟩,fun _ _ q=>q,fun _ _ _ q=>q,fun _ ps q=>⟨#[],by rw[q];simp⟩⟩
theorem Un.refl:Un fs ex H H h h:=Un.kept fun _ _ q=>q
theorem Un.laid (k:∀b u,h.get? b=some u->h'.get? b=some u)(hp:h.objs.size<=a)(hn:H a=none):Un fs ex H (upd H a o) h h' where
 keep:=fun b u q _ _ _=>k b u q
 slot:=fun b u q _ _ _=>⟨u.slots,k b u q⟩
 free:=fun b u q n _=>by rw[aU (Nat.ne_of_lt (Nat.lt_of_lt_of_le (Heap.lt_size q) hp))];exact n
 there:=fun b u q _=>⟨u,k b u q⟩
 tups:=fun b xs q=>by rw[aU (bM q hn)];exact q
 frzs:=fun b u xs q=>by rw[aU (bM q hn)];exact q
 tbls:=fun b ps q=>⟨#[],by rw[aU (bM q hn),q];simp⟩
theorem Un.write (mu:Mut (H x))(he:e=x∨H e=some (.own x))(k:∀b u,b≠e->h.get? b=some u->h'.get? b=some u)(heo:∃u,h'.get? e=some u):Un fs ex H (upd H x o) h h':=by
 have hx:∀b,H b=none->b≠x:=fun b n z=>by subst z;rw[n]at mu;exact mu
 have hb:∀b,H b=none->b≠e:=fun b n z=>by
  subst z;rcases he with r|r
  ·exact hx b n r
  ·rw[n]at r;cases r
 have hm:∀b u,H b=some u->¬Mut (some u)->b≠x:=fun b u q nm z=>by subst z;rw[q]at mu;exact nm mu
 refine⟨fun b u q n _ _=>k b u (hb b n) q,fun b u q n _ _=>⟨u.slots,k b u (hb b n) q⟩,fun b u q n _=>by rw[aU (hx b n)];exact n,fun b u q _=> ?_,
  fun b xs q=>by rw[aU (hm b _ q fun z=>z)];exact q,fun b u xs q=>by rw[aU (hm b _ q fun z=>z)];exact q,fun b ps q=>⟨#[],by rw[aU (hm b _ q fun z=>z),q];simp⟩⟩
 by_cases hbe:b=e
 ·subst hbe;exact heo
 ·exact⟨u,k b u hbe q⟩
end
def trk (h:Heap)(H:Hp):List Addr:=(List.range h.objs.size).filter fun a=>(H a).isSome
def tK (h:Heap)(H:Hp):Heap:=PySem.W.hideAll h (trk h H)
theorem VD (h:Heap)(H:Hp):(tK h H).objs.size=h.objs.size:=PySem.W.hideAll_size _ _
theorem XI {h:Heap}{H:Hp}{b:Addr}{o:Obj} (e:h.get? b=some o) (n:H b=none):(tK h H).get? b=some o :=
 PySem.W.hideAll_get _ e fun hm=>by
  have q:(H b).isSome=true:=(List.mem_filter.mp hm).2;rw[n]at q;simp at q
theorem aAA {h:Heap}{H:Hp}{b:Addr}{o:Obj} (e:(tK h H).get? b=some o):h.get? b=some o/\H b=none:=by
 have e':h.get? b=some o:=PySem.W.of_hideAll (trk h H) e;refine⟨e',?_⟩;cases q:H b with
 | none=>rfl
 | some x =>
  have hm:b∈trk h H:=List.mem_filter.mpr ⟨List.mem_range.mpr (Heap.lt_size e'),by simp[q]⟩;have z:(tK h H).get? b=none:=PySem.W.hideAll_none (trk h H) hm;rw[z]at e;cases e
end L2
namespace L2
open PySem PySem.Spec PyProof.Rows
structure Mod (K:PySem.W.Frag)(mg:Str->Option Value)(base:Heap):Prop where
 kin:K.In base
 glob:base.Ns mainGlobals mg
 blt:∃mb,base.Ns builtinsNs mb/\∀x:Str,x≠ "__name__" ->mb x=bootBuiltins x
 nolimit:base.NoLimit
structure Cx where
 prog:Program
 w:World
 K:PySem.W.Frag
 mg:Str->Option Value
 base:Heap
 A:Around
 N:List Str
 s₀:Shared
 H₀:Hp
 env:Env
 outer:List Env
 stack:List Env
 ex:List Addr
 fn:Str->Bool
 calm:Bool
 pn:List (Addr×Obj)
 xe:Value->Shared->Prop
def frs (l:List Env):List Addr:=l.filterMap (·.frame)
abbrev Cx.fs (X:Cx):List Addr:=frs X.outer
def Vis (sc:Scope)(x:Str):Prop:=sc.names.lookup x=some .local∨sc.names.lookup x=some .cell∨sc.names.lookup x=some .free
def Loc (sc:Scope)(x:Str):Prop:=sc.names.lookup x=some .local∨sc.names.lookup x=some .cell
def aFs (env:Env)(h:Heap)(m:Str->Option Value)(x:Str)(u:Value):Prop :=
 (env.kindOf x=some .local/\m x=some u)∨((env.kindOf x=some .cell∨env.kindOf x=some .free)/\∃c,env.cells.lookup x=some c/\h.IsCell c (some u))
structure Cx.Ok (X:Cx):Prop where
 mod:Mod X.K X.mg X.base
 kind:X.env.scope.kind= .function
 glob:X.env.globals=mainGlobals
 blt:X.env.builtins=builtinsNs
 above:X.s₀.heap.objs.size<=X.env.locals
 inj:∀x y c,X.env.cells.lookup x=some c->X.env.cells.lookup y=some c->x=y
 has:∀x,(X.env.kindOf x=some .cell∨X.env.kindOf x=some .free)->∃c,X.env.cells.lookup x=some c
 cab:∀x c,X.fn x=true->X.env.cells.lookup x=some c->X.s₀.heap.objs.size<=c
 hd:X.calm=true->X.A.handled=none
 frames:X.A.frames=some X.stack
 stk:X.stack=X.outer∨(X.stack=X.env::X.outer/\X.env.frame=some X.env.locals)
 exf:∀b∈X.ex,b≠X.env.locals/\∀x c,X.env.cells.lookup x=some c->c≠b
 bs:∀b o,X.base.get? b=some o->X.s₀.heap.get? b=some o/\X.H₀ b=none
 bsz:X.base.objs.size<=X.s₀.heap.objs.size
 noex:∀b o,X.base.get? b=some o->b∉X.ex
 exfs:∀b∈X.ex,b∉X.fs
 funs:X.s₀.heap.FunFrames X.base X.outer
 frf:∀b∈X.fs,X.H₀ b=none
structure Inv (X:Cx)(pins:List (Addr×Obj))(σ:List (Option V))(H:Hp)(s:Shared):Prop where
 ok:X.Ok
 os:s.os=X.s₀.os
 bare:AllBare s.gens
 base:Un X.fs X.ex X.H₀ H X.s₀.heap s.heap
 loc:∃m,s.heap.Ns X.env.locals m/\∀(i:Nat) (x:Str) (v:V),X.N[i]? =some x->σ[i]? =some (some v)->Vis X.env.scope x->∃u,RelV v u/\aFs X.env s.heap m x u
 cell:∀x c,X.env.cells.lookup x=some c->∃v,s.heap.IsCell c v
 free:H X.env.locals=none
 freeC:∀x c,X.env.cells.lookup x=some c->H c=none
 pin:∀p∈X.pn++pins,s.heap.get? p.1=some p.2/\H p.1=none/\p.1≠X.env.locals/\p.1∉X.fs/\∀v,p.2.data≠ .cell v
 hok:HOk X.prog X.w H s.heap
 len:σ.length=X.N.length
section
variable {X:Cx}{pins:List (Addr×Obj)}{σ:List (Option V)}{H H':Hp}{s:Shared}{h':Heap}
theorem Cx.Ok.nofr (ok:X.Ok){b:Addr}{o:Obj} (e:X.base.get? b=some o):b∉X.fs:=fun hb=>by
 have:=(ok.funs.mem hb).1;rw[e]at this;cases this
theorem Inv.bs (I:Inv X pins σ H s):∀b o,X.base.get? b=some o->s.heap.get? b=some o/\H b=none:=fun b o e =>
 ⟨I.base.keep b o (I.ok.bs b o e).1 (I.ok.bs b o e).2 (I.ok.nofr e) (I.ok.noex b o e),I.base.free b o (I.ok.bs b o e).1 (I.ok.bs b o e).2 (I.ok.noex b o e)⟩
theorem Inv.bk (I:Inv X pins σ H s):∀b o,X.base.get? b=some o->s.heap.get? b=some o:=fun b o e=>(I.bs b o e).1
theorem Inv.mod (I:Inv X pins σ H s):Mod X.K X.mg X.base:=I.ok.mod
theorem Inv.kIn (I:Inv X pins σ H s):X.K.In s.heap:=I.ok.mod.kin.keeps I.bk
theorem Inv.lt (I:Inv X pins σ H s):X.env.locals<s.heap.objs.size:=let ⟨_,hn,_⟩:=I.loc;hn.lt
theorem Inv.sz (I:Inv X pins σ H s):X.s₀.heap.objs.size<=s.heap.objs.size:=Nat.le_trans I.ok.above (Nat.le_of_lt I.lt)
theorem Inv.nofs (I:Inv X pins σ H s){a:Addr}(h:s.heap.objs.size<=a):a∉X.fs:=fun hb=>by
 obtain⟨_,o,ho,_⟩:=I.ok.funs.mem hb;exact absurd (Nat.lt_of_lt_of_le (Heap.lt_size ho) (Nat.le_trans I.sz h)) (Nat.lt_irrefl _)
theorem Inv.cne (I:Inv X pins σ H s):∀x c,X.env.cells.lookup x=some c->c≠X.env.locals:=fun x c e z=>by
 obtain⟨v,o,ho,hd⟩:=I.cell x c e;obtain⟨m,⟨o',es,ep,ho',hd',_⟩,_⟩:=I.loc;rw[z,ho']at ho;cases ho;rw[hd']at hd;cases hd
theorem Inv.funs (I:Inv X pins σ H s):s.heap.FunFrames X.base X.outer:=by
 have all:∀(l:List Env),(∀b∈frs l,b∈X.fs)->X.s₀.heap.FunFrames X.base l->s.heap.FunFrames X.base l:=by
  intro l
  induction l with
  | nil=>intro _ _;trivial
  | cons env r ih =>
   intro hs hl;obtain⟨hk,⟨L,o,hf,hn,ho,hd⟩,hr⟩:=hl;have hL:L∈X.fs:=hs L (by unfold frs;rw[List.filterMap_cons,hf];exact List.mem_cons_self);obtain⟨sl,e⟩:=I.base.slot L o ho (I.ok.frf L hL) hL fun z=>I.ok.exfs L z hL;exact⟨hk,⟨L,_,hf,hn,e,hd⟩,ih (fun b hb=>hs b (by unfold frs;rw[List.filterMap_cons,hf];exact List.mem_cons_of_mem _ hb)) hr⟩
 exact all X.outer (fun _ hb=>hb) I.ok.funs
theorem Inv.stack (I:Inv X pins σ H s):s.heap.FunFrames X.base X.stack:=by
 rcases I.ok.stk with e|⟨e,hf⟩
 ·rw[e];exact I.funs
 ·rw[e];obtain⟨m,hn,_⟩:=I.loc;refine .cons (by rw[I.ok.kind];decide) hf hn ?_ I.funs;exact Heap.get?_none_of_le (Nat.le_trans I.ok.bsz I.ok.above)
theorem Inv.stkSub (I:Inv X pins σ H s):∀b∈frs X.stack,b∈X.env.locals::X.fs:=fun b hb=>by
 rcases I.ok.stk with e|⟨e,hf⟩
 ·rw[e]at hb;exact List.mem_cons_of_mem _ hb
 ·rw[e]at hb;unfold frs at hb;rw[List.filterMap_cons,hf]at hb;exact hb
theorem Inv.stkFree (I:Inv X pins σ H s):∀b∈frs X.stack,H b=none:=fun b hb=>by
 rcases List.mem_cons.mp (I.stkSub b hb) with e|hb
 ·rw[e];exact I.free
 ·obtain⟨_,o,ho,_⟩:=I.ok.funs.mem hb;exact I.base.free b o ho (I.ok.frf b hb) fun z=>I.ok.exfs b z hb
theorem Inv.step {g':Array GenState}{t':Nat}{d':Drawn}{ch:List Addr} (I:Inv X pins σ H s)
  (hch:∀b∈ch,(b∈X.ex∨X.s₀.heap.objs.size<=b)/\b≠X.env.locals/\(∀x c,X.env.cells.lookup x=some c->c≠b)/\∀p∈X.pn++pins,p.1≠b)
  (keep:∀b o,b≠X.env.locals->b∉X.fs->b∉ch->s.heap.get? b=some o->H b=none->h'.get? b=some o)
  (slot:∀b o,b≠X.env.locals->b∈X.fs->b∉ch->s.heap.get? b=some o->H b=none->∃sl,h'.get? b=some { o with slots:=sl })(free:∀b o,b∉ch->s.heap.get? b=some o->H b=none->H' b=none)
  (there:∀b o,b∉ch->s.heap.get? b=some o->∃o',h'.get? b=some o')
  (tups:∀b xs,H b=some (.tup xs)->H' b=some (.tup xs))(frzs:∀b o u,H b=some (.frz o u)->H' b=some (.frz o u))(tbls:∀b ps,H b=some (.tbl ps)->∃more,H' b=some (.tbl (ps++more)))
  (ns:∀m,s.heap.Ns X.env.locals m->h'.Ns X.env.locals m)(hok:HOk X.prog X.w H' h')(hg:AllBare g') :
  Inv X pins σ H' { s with heap:=h',gens:=g',drawn:=d',toks:=t' }:=by
 have neL:∀b o,X.s₀.heap.get? b=some o->b≠X.env.locals:=fun b o e=>Nat.ne_of_lt (Nat.lt_of_lt_of_le (Heap.lt_size e) I.ok.above);have neC:∀b o,X.s₀.heap.get? b=some o->b∉X.ex->b∉ch:=fun b o e hx hb=>by
  rcases (hch b hb).1 with z|z
  ·exact hx z
  ·exact absurd (Nat.lt_of_lt_of_le (Heap.lt_size e) z) (Nat.lt_irrefl _)
 have cellK:∀x c,X.env.cells.lookup x=some c->∀v,s.heap.IsCell c v->h'.IsCell c v:=fun x c e v ⟨o,ho,hd⟩=>by
  have nch:c∉ch:=fun z=>(hch c z).2.2.1 x c e rfl
  by_cases hc:c∈X.fs
  ·obtain⟨sl,q⟩:=slot c o (I.cne x c e) hc nch ho (I.freeC x c e);exact⟨_,q,hd⟩
  ·exact⟨o,keep c o (I.cne x c e) hc nch ho (I.freeC x c e),hd⟩
 refine⟨I.ok,I.os,hg,⟨fun b o e n hb hx=> ?_,fun b o e n hb hx=> ?_,fun b o e n hx=> ?_,fun b o e hx=> ?_,fun b xs e=>tups b xs (I.base.tups b xs e),fun b o xs e=>frzs b o xs (I.base.frzs b o xs e),fun b ps e=> ?_⟩,?_,fun x c e=> ?_,?_,fun x c e=> ?_,fun p hp=> ?_,hok,I.len⟩
 ·exact keep b o (neL b o e) hb (neC b o e hx) (I.base.keep b o e n hb hx) (I.base.free b o e n hx)
 ·obtain⟨sl,e1⟩:=I.base.slot b o e n hb hx;obtain⟨sl',e2⟩:=slot b _ (neL b o e) hb (neC b o e hx) e1 (I.base.free b o e n hx);exact⟨sl',e2⟩
 ·obtain⟨o',e1⟩:=I.base.there b o e hx;exact free b o' (neC b o e hx) e1 (I.base.free b o e n hx)
 ·obtain⟨o',e1⟩:=I.base.there b o e hx;exact there b o' (neC b o e hx) e1
 ·obtain⟨m1,e1⟩:=I.base.tbls b ps e;obtain⟨m2,e2⟩:=tbls b _ e1;exact⟨m1++m2,by rw[e2,Array.append_assoc]⟩
 ·obtain⟨m,hn,hl⟩:=I.loc;refine⟨m,ns m hn,fun i x v e1 e2 e3=> ?_⟩;obtain⟨u,r,l⟩:=hl i x v e1 e2 e3;refine⟨u,r,?_⟩;rcases l with l|⟨k,c,e,z⟩
  ·exact .inl l
  ·exact .inr ⟨k,c,e,cellK x c e _ z⟩
 ·obtain⟨v,z⟩:=I.cell x c e;exact⟨v,cellK x c e v z⟩
 ·obtain⟨m,⟨o,_,_,ho,_⟩,_⟩:=I.loc;exact free _ o (fun z=>(hch _ z).2.1 rfl) ho I.free
 ·obtain⟨v,o,ho,hd⟩:=I.cell x c e;exact free c o (fun z=>(hch c z).2.2.1 x c e rfl) ho (I.freeC x c e)
 ·obtain⟨e,n,ne,nf,d⟩:=I.pin p hp;have nch:p.1∉ch:=fun z=>(hch p.1 z).2.2.2 p hp rfl;exact⟨keep p.1 p.2 ne nf nch e n,free p.1 p.2 nch e n,ne,nf,d⟩
theorem Inv.un {t':Nat}(I:Inv X pins σ H s)(u:Un X.fs [] H H' s.heap h')(hok:HOk X.prog X.w H' h'):Inv X pins σ H' { s with heap:=h',toks:=t' }:=by
 obtain⟨m,⟨o,es,ep,ho,r⟩,_⟩:=id I.loc;obtain⟨sl,hL⟩:=u.any ho I.free (by simp);exact I.step (g':=s.gens) (d':=s.drawn) (ch:=[]) (fun _ z=>nomatch z) (fun b o _ hb _ e n=>u.keep b o e n hb (by simp)) (fun b o _ hb _ e n=>u.slot b o e n hb (by simp)) (fun b o _ e n=>u.free b o e n (by simp)) (fun b o _ e=>u.there b o e (by simp)) u.tups u.frzs u.tbls (fun m' hm=>by
  obtain⟨o',es',ep',ho',r'⟩:=hm;rw[ho]at ho';cases ho';exact⟨_,es',ep',hL,r'⟩) hok I.bare
theorem Inv.call {g':Array GenState}{t':Nat}{d':Drawn}{ch:List Addr} (I:Inv X pins σ H s) (u:Un (frs X.stack) ch H H' s.heap h') (hok:HOk X.prog X.w H' h') (hg:AllBare g')
  (hch:∀b∈ch,(b∈X.ex∨X.s₀.heap.objs.size<=b)/\b≠X.env.locals/\(∀x c,X.env.cells.lookup x=some c->c≠b)/\∀p∈X.pn++pins,p.1≠b) :
  Inv X pins σ H' { s with heap:=h',gens:=g',drawn:=d',toks:=t' }:=by
 obtain⟨m,⟨o,es,ep,ho,r⟩,_⟩:=id I.loc;obtain⟨sl,hL⟩:=u.any ho I.free fun z=>(hch _ z).2.1 rfl;exact I.step (ch:=ch) hch (fun b o hL hb hc e n=>u.keep b o e n (fun z=>(List.mem_cons.mp (I.stkSub b z)).elim hL hb) hc) (fun b o _ _ hc e n=>u.any e n hc) (fun b o hc e n=>u.free b o e n hc) (fun b o hc e=>u.there b o e hc) u.tups u.frzs u.tbls (fun m' hm=>by
  obtain⟨o',es',ep',ho',r'⟩:=hm;rw[ho]at ho';cases ho';exact⟨_,es',ep',hL,r'⟩) hok hg
theorem Inv.turned {t':Nat}{it:Addr} (I:Inv X pins σ H s) (k:∀b o,b≠it->s.heap.get? b=some o->h'.get? b=some o) (hn:H it=none) (hL:it≠X.env.locals)
  (h1:it∈X.ex∨X.s₀.heap.objs.size<=it)(h2:∀x c,X.env.cells.lookup x=some c->c≠it)(h3:∀p∈X.pn++pins,p.1≠it):Inv X pins σ H { s with heap:=h',toks:=t' }:=by
 have nit:∀b u,H b=some u->b≠it:=fun b u e z=>by rw[z,hn]at e;cases e
 refine I.step (g':=s.gens) (d':=s.drawn) (ch:=[it]) (fun b hb=> ?_) (fun b o _ _ hc e _=>k b o (fun z=>hc (by simp[z])) e) (fun b o _ _ hc e _=>⟨o.slots,k b o (fun z=>hc (by simp[z])) e⟩) (fun _ _ _ _ n=>n)
  (fun b o hc e=>⟨o,k b o (fun z=>hc (by simp[z])) e⟩) (fun _ _ e=>e) (fun _ _ _ e=>e) (fun b ps e=>⟨#[],by rw[e];simp⟩) (fun m hm=> ?_) (fun b u e=> ?_) I.bare
 ·have e:b=it:=by simpa using hb
  subst e;exact⟨h1,hL,h2,h3⟩
 ·obtain⟨o,es,ep,ho,r⟩:=hm;exact⟨o,es,ep,k _ o (Ne.symm hL) ho,r⟩
 ·refine(I.hok b u e).stay (fun c v hc q=>k c v ?_ q) (fun _ q=>q) fun _ _ q=>q;rcases hc with z|z
  ·rw[z];exact nit b u e
  ·exact nit c _ z
theorem Inv.tok (I:Inv X pins σ H s)(t:Nat):Inv X pins σ H { s with toks:=t }:=I.un (h':=s.heap) (t':=t) Un.refl I.hok
theorem Inv.kept {t':Nat}(I:Inv X pins σ H s)(k:∀b u,s.heap.get? b=some u->h'.get? b=some u):Inv X pins σ H { s with heap:=h',toks:=t' }:=I.un (Un.kept k) (I.hok.kept k)
theorem Inv.laid {a:Addr}{o:HO}{t':Nat} (I:Inv X pins σ H s) (k:∀b u,s.heap.get? b=some u->h'.get? b=some u) (hp:s.heap.objs.size<=a) (new:ObjOk X.prog X.w (upd H a o) h' a o) :
  Inv X pins σ (upd H a o) { s with heap:=h',toks:=t' }:=I.un (Un.laid k hp (I.hok.fresh hp)) (I.hok.laid k hp new)
theorem Inv.write {x e:Addr}{o:HO}{t':Nat} (I:Inv X pins σ H s) (mu:Mut (H x)) (he:e=x∨H e=some (.own x)) (k:∀b u,b≠e->s.heap.get? b=some u->h'.get? b=some u) (heo:∃u,h'.get? e=some u)
  (new:ObjOk X.prog X.w (upd H x o) h' x o):Inv X pins σ (upd H x o) { s with heap:=h',toks:=t' }:=I.un (Un.write mu he k heo) (I.hok.write mu he k heo new)
theorem Inv.weak {σ':List (Option V)}(I:Inv X pins σ H s)(hl:σ'.length=σ.length)(w:∀(i:Nat) v,σ'[i]? =some (some v)->σ[i]? =some (some v)):Inv X pins σ' H s :=
 ⟨I.ok,I.os,I.bare,I.base,let ⟨m,hn,hl'⟩:=I.loc;⟨m,hn,fun i x v e1 e2 e3=>hl' i x v e1 (w i v e2) e3⟩,I.cell,I.free,I.freeC,I.pin,I.hok,hl.trans I.len⟩
theorem Inv.pins_of {pins':List (Addr×Obj)}(I:Inv X pins σ H s)(h:∀p∈pins',s.heap.get? p.1=some p.2/\H p.1=none/\p.1≠X.env.locals/\p.1∉X.fs/\∀v,p.2.data≠ .cell v):Inv X pins' σ H s :=
 ⟨I.ok,I.os,I.bare,I.base,I.loc,I.cell,I.free,I.freeC,fun p hp=>(List.mem_append.mp hp).elim (fun z=>I.pin p (List.mem_append_left _ z)) (h p),I.hok,I.len⟩
theorem MQ {N:List Str}(hN:N.Nodup){i j:Nat}{x:Str} (a:N[i]? =some x) (b:N[j]? =some x):i=j:=by
 obtain⟨h1,e1⟩:=List.getElem?_eq_some_iff.mp a;obtain⟨h2,e2⟩:=List.getElem?_eq_some_iff.mp b;exact(List.getElem_inj hN).mp (e1.trans e2.symm)
theorem T8 {M:Model}{A:Around}{E:Value->Shared->Prop}{i:Nat}{x:Str}{v:V}{u:Value}{Q:Unit->Shared->Prop} (I:Inv X pins σ H s) (hN:X.N.Nodup) (hi:X.N[i]? =some x) (hx:Loc X.env.scope x) (r:RelV v u)
  (h:∀s',Inv X pins (σ.set i (some v)) H s'->(∃a,Heap.SameBut a s.heap s'.heap/\(a=X.env.locals∨X.env.cells.lookup x=some a))->Q () s')(hf:X.fn x=true∨X.env.scope.names.lookup x=some .local:=by first|exact .inl rfl|exact .inr rfl|assumption):wpAny M A (storeName X.env x u) Q E s:=by
 obtain⟨m,hn,hl⟩:=id I.loc;have hcls:(X.env.scope.kind== .class||(X.env.scope.kind== .module&&X.env.locals !=X.env.globals))=false:=by rw[I.ok.kind];rfl
 have hiσ:i<σ.length:=by rw[I.len];exact(List.getElem?_eq_some_iff.mp hi).1
 have cne:=I.cne;have tracked:∀{a:Addr}{h':Heap},(∃o,s.heap.get? a=some o/\H a=none)->Heap.SameBut a s.heap h'->HOk X.prog X.w H h':=fun {a h'} ha hs b ob e=>by
  obtain⟨_,_,hfree⟩:=ha;refine(I.hok b ob e).stay (fun c w' hc q=>(hs.2 c ?_).trans q) (fun _ q=>q) fun _ _ q=>q;rintro rfl;rcases hc with rfl|hc
  ·rw[hfree]at e;cases e
  ·rw[hfree]at hc;cases hc
 rcases hx with hk|hk
 ·refine wpAny_storeName_local hk hn (fun h' hn' hs=> ?_) hcls;obtain⟨oL,_,_,hoL,_⟩:=id hn;refine h _ ⟨I.ok,I.os,I.bare,⟨fun b o e n hb hx=> ?_,fun b o e n hb hx=> ?_,I.base.free,fun b o e hx=> ?_,I.base.tups,I.base.frzs,I.base.tbls⟩,⟨_,hn',fun j y v' e1 e2 e3=> ?_⟩,fun y c e=> ?_,I.free,I.freeC,fun p hp=> ?_,tracked ⟨oL,hoL,I.free⟩ hs,by simpa using I.len⟩ ⟨_,hs,.inl rfl⟩
  ·exact(hs.2 b (Nat.ne_of_lt (Nat.lt_of_lt_of_le (Heap.lt_size e) I.ok.above))).trans (I.base.keep b o e n hb hx)
  ·obtain⟨sl,e1⟩:=I.base.slot b o e n hb hx;exact⟨sl,(hs.2 b (Nat.ne_of_lt (Nat.lt_of_lt_of_le (Heap.lt_size e) I.ok.above))).trans e1⟩
  ·obtain⟨o',e1⟩:=I.base.there b o e hx;exact⟨o',(hs.2 b (Nat.ne_of_lt (Nat.lt_of_lt_of_le (Heap.lt_size e) I.ok.above))).trans e1⟩
  ·by_cases hj:j=i
   ·subst hj;rw[hi]at e1;cases e1;rw[List.getElem?_set_self hiσ]at e2;cases e2;exact⟨u,r,.inl ⟨hk,by simp⟩⟩
   ·rw[List.getElem?_set_ne (Ne.symm hj)]at e2;obtain⟨u',r',q⟩:=hl j y v' e1 e2 e3;refine⟨u',r',?_⟩;rcases q with⟨k,e⟩|⟨k,c,e,z⟩
    ·refine .inl ⟨k,?_⟩;have:y≠x:=fun e=>hj (MQ hN e1 (e▸hi));simp[this,e]
    ·exact .inr ⟨k,c,e,z.sameBut hs (cne y c e)⟩
  ·obtain⟨w',z⟩:=I.cell y c e;exact⟨w',z.sameBut hs (cne y c e)⟩
  ·obtain⟨e,n,ne,nf,d⟩:=I.pin p hp;exact⟨(hs.2 p.1 ne).trans e,n,ne,nf,d⟩
 ·have hfn:X.fn x=true:=by
   rcases hf with z|z
   ·exact z
   ·rw[z]at hk;cases hk
  obtain⟨c,hc⟩:=I.ok.has x (.inl hk);obtain⟨w',z⟩:=I.cell x c hc;refine wpAny_storeName_cell I.ok.kind hk hc z (fun h' hc' hs=> ?_);obtain⟨oc,hoc,hocd⟩:=id z;refine h { s with heap:=h' } ⟨I.ok,I.os,I.bare,⟨fun b o e n hb hx=> ?_,fun b o e n hb hx=> ?_,I.base.free,fun b o e hx=> ?_,I.base.tups,I.base.frzs,I.base.tbls⟩,⟨m,hn.sameBut hs (Ne.symm (cne x c hc)),fun j y v' e1 e2 e3=> ?_⟩,fun y c' e=> ?_,I.free,I.freeC,fun p hp=> ?_,tracked ⟨oc,hoc,I.freeC x c hc⟩ hs,by simpa using I.len⟩ ⟨c,hs,.inr hc⟩
  ·exact(hs.2 b (Nat.ne_of_lt (Nat.lt_of_lt_of_le (Heap.lt_size e) (I.ok.cab x c hfn hc)))).trans (I.base.keep b o e n hb hx)
  ·obtain⟨sl,e1⟩:=I.base.slot b o e n hb hx;exact⟨sl,(hs.2 b (Nat.ne_of_lt (Nat.lt_of_lt_of_le (Heap.lt_size e) (I.ok.cab x c hfn hc)))).trans e1⟩
  ·obtain⟨o',e1⟩:=I.base.there b o e hx;exact⟨o',(hs.2 b (Nat.ne_of_lt (Nat.lt_of_lt_of_le (Heap.lt_size e) (I.ok.cab x c hfn hc)))).trans e1⟩
  ·by_cases hj:j=i
   ·subst hj;rw[hi]at e1;cases e1;rw[List.getElem?_set_self hiσ]at e2;cases e2;exact⟨u,r,.inr ⟨.inl hk,c,hc,hc'⟩⟩
   ·rw[List.getElem?_set_ne (Ne.symm hj)]at e2;obtain⟨u',r',q⟩:=hl j y v' e1 e2 e3;refine⟨u',r',?_⟩;rcases q with q|⟨k,c',e,z'⟩
    ·exact .inl q
    ·refine .inr ⟨k,c',e,z'.sameBut hs ?_⟩;rintro rfl;exact hj (MQ hN e1 (I.ok.inj _ _ _ e hc▸hi))
  ·by_cases hcc:c'=c
   ·subst hcc;exact⟨_,hc'⟩
   ·obtain⟨w2,z2⟩:=I.cell y c' e;exact⟨w2,z2.sameBut hs hcc⟩
  ·obtain⟨e,n,ne,nf,d⟩:=I.pin p hp;refine⟨(hs.2 p.1 ?_).trans e,n,ne,nf,d⟩;intro q;rw[q,hoc]at e;have q':oc=p.2:=Option.some.inj e;exact d w' (by rw[←q'];exact hocd)
theorem C4 {M:Model}{A:Around}{E:Value->Shared->Prop}{i:Nat}{x:Str}{v:V}{u:Value}{Q:Unit->Shared->Prop} (I:Inv X pins σ H s) (hN:X.N.Nodup) (hi:X.N[i]? =some x) (hx:Loc X.env.scope x) (r:RelV v u)
  (h:∀s',Inv X pins (σ.set i (some v)) H s'->Q () s')(hf:X.fn x=true∨X.env.scope.names.lookup x=some .local:=by first|exact .inl rfl|exact .inr rfl|assumption):wpAny M A (storeName X.env x u) Q E s :=
 T8 I hN hi hx r (fun s' I' _=>h s' I') hf
theorem Inv.call' {s':Shared}{ch:List Addr} (I:Inv X pins σ H s) (ho:s'.os=s.os) (u:Un (frs X.stack) ch H H' s.heap s'.heap) (hok:HOk X.prog X.w H' s'.heap) (hg:AllBare s'.gens)
  (hch:∀b∈ch,(b∈X.ex∨X.s₀.heap.objs.size<=b)/\b≠X.env.locals/\(∀x c,X.env.cells.lookup x=some c->c≠b)/\∀p∈X.pn++pins,p.1≠b):Inv X pins σ H' s':=by
 obtain⟨h',g',d',t',o'⟩:=s';have e:o'=s.os:=ho;subst e;exact I.call (g':=g') (t':=t') (d':=d') u hok hg hch
end
abbrev XK:=Value->Option Addr->Hp->Prop
abbrev St:=List (Option V)
abbrev VK:=V->Hp->Prop
abbrev TE:=St->Hp->VK->Prop
abbrev TT:=St->Hp->(Bool->Hp->Prop)->Prop
abbrev TA:=St->Hp->(List V->Hp->Prop)->Prop
structure jB where
 nx:St->Hp->Prop
 rt:VK
 bk:St->Hp->Prop:=fun _ _=>False
 ct:St->Hp->Prop:=fun _ _=>False
abbrev TS:=jB->St->Hp->Prop
def EP (X:Cx)(pins:List (Addr×Obj))(σ:St)(Q:VK)(u:Value)(s':Shared):Prop:=∃v H',Inv X pins σ H' s'/\RelV v u/\Q v H'
def TP (X:Cx)(pins:List (Addr×Obj))(σ:St)(Q:Bool->Hp->Prop)(b:Bool)(s':Shared):Prop:=∃H',Inv X pins σ H' s'/\Q b H'
def AP (X:Cx)(pins:List (Addr×Obj))(σ:St)(Q:List V->Hp->Prop)(us:List Value)(s':Shared):Prop:=∃vs H',Inv X pins σ H' s'/\Vals vs us/\Q vs H'
def SP (X:Cx)(pins:List (Addr×Obj))(D:jB)(f:Flow)(s':Shared):Prop :=
 match f with
 | .next=>∃σ' H',Inv X pins σ' H' s'/\D.nx σ' H'
 | .brk=>∃σ' H',Inv X pins σ' H' s'/\D.bk σ' H'
 | .cont=>∃σ' H',Inv X pins σ' H' s'/\D.ct σ' H'
 | .ret u=>∃v σ' H',Inv X pins σ' H' s'/\RelV v u/\D.rt v H'
def PE (X:Cx)(e:Expr)(t:TE):Prop :=
 ∀(pins:List (Addr×Obj)) (s:Shared) (σ:St) (H:Hp) (Q:VK),Inv X pins σ H s->t σ H Q->wpAny (model X.prog X.w) X.A (eval e X.env) (EP X pins σ Q) X.xe s
def PT (X:Cx)(e:Expr)(t:TT):Prop :=
 ∀(pins:List (Addr×Obj)) (s:Shared) (σ:St) (H:Hp) (Q:Bool->Hp->Prop),Inv X pins σ H s->t σ H Q->wpAny (model X.prog X.w) X.A (isTrue e X.env (eval e X.env)) (TP X pins σ Q) X.xe s
def PW (X:Cx)(e:Expr)(t:TT):Prop :=
 ∀(whole:Sem Value) (pins:List (Addr×Obj)) (s:Shared) (σ:St) (H:Hp) (Q:Bool->Hp->Prop),Inv X pins σ H s->t σ H Q->wpAny (model X.prog X.w) X.A (isTrue e X.env whole) (TP X pins σ Q) X.xe s
theorem PW.pt {X:Cx}{e:Expr}{t:TT} (h:PW X e t):PT X e t:=h _
def PA (X:Cx)(es:List Expr)(t:TA):Prop :=
 ∀(pos:Pos) (pins:List (Addr×Obj)) (s:Shared) (σ:St) (H:Hp) (Q:List V->Hp->Prop),Inv X pins σ H s->t σ H Q->wpAny (model X.prog X.w) X.A (spliced (backTo pos (starEach es X.env))) (AP X pins σ Q) X.xe s
def PS (X:Cx)(st:Stmt)(t:TS):Prop :=
 ∀(pins:List (Addr×Obj)) (s:Shared) (σ:St) (H:Hp) (D:jB),Inv X pins σ H s->t D σ H->wpAny (model X.prog X.w) X.A (exec st X.env) (SP X pins D) X.xe s
def PSs (X:Cx)(st:List Stmt)(t:TS):Prop :=
 ∀(pins:List (Addr×Obj)) (s:Shared) (σ:St) (H:Hp) (D:jB),Inv X pins σ H s->t D σ H->wpAny (model X.prog X.w) X.A (execs st X.env) (SP X pins D) X.xe s
theorem thn {α:Type}{t:Sem α}{Q Q':α->Shared->Prop}{M:Model}{A:Around}{E:Value->Shared->Prop}{s:Shared} (h:wpAny M A t Q E s) (hQ:∀a s,Q a s->Q' a s):wpAny M A t Q' E s:=wpAny_mono h hQ fun _ _ x=>x
end L2
namespace L2
open PySem PySem.Spec PyProof.Rows
section
variable {X:Cx}
def i4 (i:Nat):TE:=fun σ H Q=>∃v,σ[i]? =some (some v)/\Q v H
def tC (v:V):TE:=fun _ H Q=>Q v H
theorem SV {i:Nat}{x:Str}{pos:Pos} (hN:X.N[i]? =some x) (hv:Vis X.env.scope x) (hd:(x==("__debug__" :Str))=false:=by decide) (hcd:(x==("__classdict__" :Str))=false:=by decide):PE X (.Name x pos) (i4 i):=by
 intro pins s σ H Q I h;obtain⟨v,e,h⟩:=h;obtain⟨m,hn,hl⟩:=I.loc;obtain⟨u,r,l⟩:=hl i x v hN e hv;have fin:EP X pins σ Q u s:=⟨v,H,I,r,h⟩
 rcases l with⟨hk,hm⟩|⟨hk,c,hc,hcell⟩
 ·exact wpAny_Name (wpAny_loadName_local I.ok.kind hk hn hm fin) hd
 ·rcases hk with hk|hk
  ·exact wpAny_Name (wpAny_loadName_cell I.ok.kind hk hc hcell fin) hd
  ·exact wpAny_Name (wpAny_loadName_free I.ok.kind hk hc hcell fin hcd) hd
theorem aC {i j pos}:PE X (.Constant (.int i) j pos) (tC (.int i)):=fun _ _ _ H _ I h=>wpAny_Constant_int ⟨.int i,H,I.tok _,⟨_,rfl⟩,h⟩
theorem AW {b j pos}:PE X (.Constant (.bool b) j pos) (tC (.bl b)):=fun _ _ _ H _ I h=>Constant_bool ⟨.bl b,H,I,rfl,h⟩
theorem qO {j pos}:PE X (.Constant .none j pos) (tC .non):=fun _ _ _ H _ I h=>Constant_none ⟨.non,H,I,rfl,h⟩
theorem fE {x j pos}:PE X (.Constant (.str x) j pos) (tC (.str x)):=fun _ _ _ H _ I h=>Calls.Constant_str ⟨.str x,H,I.tok _,⟨_,rfl⟩,h⟩
def Gl (X:Cx)(x:Str):Prop:=X.env.kindOf x=some .globalImplicit
theorem vY {E:Value->Shared->Prop}{pins:List (Addr×Obj)}{s:Shared}{σ:St}{H:Hp}{x:Str}{u:Value}{pos:Pos}{Q:Value->Shared->Prop} (I:Inv X pins σ H s) (hg:Gl X x) (hm:X.mg x=some u) (h:Q u s)
  (hd:(x==("__debug__" :Str))=false:=by decide):wpAny (model X.prog X.w) X.A (eval (.Name x pos) X.env) Q E s :=
 Calls.Name_function_global I.ok.kind hg (Calls.loadGlobal_global (by rw[I.ok.glob];exact I.mod.glob.keeps I.bk) hm h) hd
theorem zY {E:Value->Shared->Prop}{pins:List (Addr×Obj)}{s:Shared}{σ:St}{H:Hp}{x:Str}{u:Value}{pos:Pos}{Q:Value->Shared->Prop} (I:Inv X pins σ H s) (hg:Gl X x) (hm:X.mg x=none) (hv:bootBuiltins x=some u) (h:Q u s)
  (hn:x≠ "__name__" :=by decide)(hd:(x==("__debug__" :Str))=false:=by decide):wpAny (model X.prog X.w) X.A (eval (.Name x pos) X.env) Q E s:=by
 obtain⟨mb,h1,h2⟩:=I.mod.blt;exact Calls.Name_function_global I.ok.kind hg (Calls.loadGlobal_builtin (by rw[I.ok.glob];exact I.mod.glob.keeps I.bk) hm (by rw[I.ok.blt];exact h1.keeps I.bk) ((h2 x hn).trans hv) h) hd
theorem aBj {x:Str}{v:V}{u:Value}{pos:Pos} (hg:Gl X x) (hm:X.mg x=some u) (r:RelV v u) (hd:(x==("__debug__" :Str))=false:=by decide):PE X (.Name x pos) (tC v) :=
 fun _ _ _ H _ I h=>vY I hg hm ⟨v,H,I,r,h⟩ hd
theorem aBq {x:Str}{v:V}{u:Value}{pos:Pos} (hg:Gl X x) (hm:X.mg x=none) (hv:bootBuiltins x=some u) (r:RelV v u) (hn:x≠ "__name__" :=by decide) (hd:(x==("__debug__" :Str))=false:=by decide):PE X (.Name x pos) (tC v) :=
 fun _ _ _ H _ I h=>zY I hg hm hv ⟨v,H,I,r,h⟩ hn hd
variable {a b:Expr}{ta tb:TE}{pos:Pos}
def PC (X:Cx)(op:CmpOp)(a b:Expr)(t:TE):Prop :=
 ∀(pins:List (Addr×Obj)) (s:Shared) (σ:St) (H:Hp) (Q:VK),Inv X pins σ H s->t σ H Q →
  wpAny (model X.prog X.w) X.A (eval a X.env) (fun v s₁=>wpAny (model X.prog X.w) X.A (eval b X.env) (fun u s₂=>wpAny (model X.prog X.w) X.A (compareOp op v u) (EP X pins σ Q) X.xe s₂) X.xe s₁) X.xe s
def tB (t:TE):TT:=fun σ H Q=>t σ H fun x H1=>∃c,x= .bl c/\Q c H1
theorem qN {op:CmpOp}{t:TE} (h:PC X op a b t) (h1:behindInMarks op b=false:=by first|exact nobehind _ (by decide) (by decide)|rfl):PT X (.Compare a [op] [b] pos) (tB t):=by
 intro pins s σ H Q I hw;refine wpAny_isTrue_Compare1 (thn (h pins s σ H _ I hw) fun v s1 h1=>thn h1 fun u s2 h2=>thn h2 fun c s3 ⟨x,H1,I1,r1,q1⟩=> ?_) h1;obtain⟨d,rfl,q⟩:=q1;cases r1;exact wpAny_truthy_bool ⟨H1,I1,q⟩
theorem nO {e:Expr}{t:TE} (h:PE X e t) (he:∀whole,isTrue e X.env whole=(do let v ←whole;standAt e.pos;holding [v] (truthy v)):=by intro _;rfl):PT X e (tB t):=by
 intro pins s σ H Q I hw;refine isTrue_plain (thn (h pins s σ H _ I hw) fun v s1 ⟨x,H1,I1,r1,q1⟩=> ?_) (he _);obtain⟨d,rfl,q⟩:=q1;cases r1;exact wpAny_truthy_bool ⟨H1,I1,q⟩
variable {tA tB':TT}{rest:List Expr}
def aDw (t u:TT):TT:=fun σ H Q=>t σ H fun c H1=>if c=true then u σ H1 Q else Q false H1
def tOr (t u:TT):TT:=fun σ H Q=>t σ H fun c H1=>if c=true then Q true H1 else u σ H1 Q
def aCk (t:TT):TT:=fun σ H Q=>t σ H fun c H1=>Q (!c) H1
theorem o9 (ha:PT X a tA):PW X (.BoolOp .And [a] pos) tA:=by
 intro wh pins s σ H Q I h;refine isTrue_and (thn (ha pins s σ H Q I h) fun c s1 e=> ?_);cases c with
 | true=>exact isTrue_and_nil e
 | false=>exact e
theorem zG (ha:PT X a tA):PW X (.BoolOp .Or [a] pos) tA:=by
 intro wh pins s σ H Q I h;refine isTrue_or (thn (ha pins s σ H Q I h) fun c s1 e=> ?_);cases c with
 | false=>exact isTrue_or_nil e
 | true=>exact e
theorem tG (ha:PT X a tA)(hb:PW X (.BoolOp .And (b::rest) pos) tB'):PW X (.BoolOp .And (a::b::rest) pos) (aDw tA tB'):=by
 intro wh pins s σ H Q I h;refine isTrue_and (thn (ha pins s σ H _ I h) fun c s1 ⟨H1,I1,q1⟩=> ?_);cases c with
 | true=>exact hb wh pins s1 σ H1 Q I1 q1
 | false=>exact⟨H1,I1,q1⟩
theorem EH (ha:PT X a tA)(hb:PW X (.BoolOp .Or (b::rest) pos) tB'):PW X (.BoolOp .Or (a::b::rest) pos) (tOr tA tB'):=by
 intro wh pins s σ H Q I h;refine isTrue_or (thn (ha pins s σ H _ I h) fun c s1 ⟨H1,I1,q1⟩=> ?_);cases c with
 | true=>exact⟨H1,I1,q1⟩
 | false=>exact hb wh pins s1 σ H1 Q I1 q1
theorem zO (ha:PT X a tA):PT X (.UnaryOp .Not a pos) (aCk tA):=by
 intro pins s σ H Q I h;exact isTrue_not (ha pins s σ H (fun c H1=>Q (!c) H1) I h)
def aEG (ta tb:TE):TE:=fun σ H Q=>ta σ H fun x H1=>∃c,x= .bl c/\if c=true then tb σ H1 Q else Q (.bl false) H1
def aFc (ta:TE):TE:=fun σ H Q=>ta σ H fun x H1=>∃c,x= .bl c/\Q (.bl (!c)) H1
theorem TD {op}{t:TE} (h:PE X a t):PE X (.BoolOp op [a] pos) t:=fun pins s σ H Q I hw=>BoolOp_one (h pins s σ H Q I hw)
theorem V1 (ha:PE X a ta)(hb:PE X (.BoolOp .And (b::rest) pos) tb):PE X (.BoolOp .And (a::b::rest) pos) (aEG ta tb):=by
 intro pins s σ H Q I h;refine BoolOp_and (thn (ha pins s σ H _ I h) fun v s1 ⟨x,H1,I1,r1,q1⟩=> ?_);obtain⟨c,rfl,q1⟩:=q1;cases r1;refine wpAny_truthy_bool ?_;cases c with
 | true=>exact hb pins s1 σ H1 Q I1 q1
 | false=>exact⟨.bl false,H1,I1,rfl,q1⟩
theorem aC8 (ha:PE X a ta):PE X (.UnaryOp .Not a pos) (aFc ta):=by
 intro pins s σ H Q I h;refine UnaryOp_ (thn (ha pins s σ H _ I h) fun v s1 ⟨x,H1,I1,r1,q1⟩=> ?_);obtain⟨c,rfl,q1⟩:=q1;cases r1;exact not_of (wpAny_truthy_bool ⟨.bl (!c),H1,I1,rfl,q1⟩)
def tIf (t:TT)(ta tb:TE):TE:=fun σ H Q=>t σ H fun c H1=>if c=true then ta σ H1 Q else tb σ H1 Q
theorem wZ {c:Expr}(hc:PT X c tA)(ha:PE X a ta)(hb:PE X b tb):PE X (.IfExp c a b pos) (tIf tA ta tb):=by
 intro pins s σ H Q I h;refine wpAny_IfExp (thn (hc pins s σ H _ I h) fun d s1 ⟨H1,I1,q1⟩=> ?_);cases d with
 | true=>exact ha pins s1 σ H1 Q I1 q1
 | false=>exact hb pins s1 σ H1 Q I1 q1
end
end L2
namespace L2
open PySem PySem.Spec PyProof.Rows
def SqL (K:PySem.W.Frag)(H:Hp)(a:Addr)(xs:List V):Prop :=
 Rd H a (.lst xs) ∨
  ∃(o:Obj) (its:Array Value) (n:Nat),K.lookup a=some o/\o.cls= .type "list" /\o.dict=none/\o.data= .seq its n/\its.size<=sizeLine/\Vals xs its.toList
def SqT (K:PySem.W.Frag)(H:Hp)(a:Addr)(xs:List V):Prop :=
 Rd H a (.tup xs) ∨
  ∃(o:Obj) (its:Array Value) (n:Nat),K.lookup a=some o/\o.cls= .type "tuple" /\o.data= .seq its n/\its.size<=sizeLine/\Vals xs its.toList
def aFC:Value->Option V
 | .none=>some .non
 | .bool b=>some (.bl b)
 | .int i _=>some (.int i)
 | .str x _=>some (.str x)
 | .bytes b _=>some (.byt b)
 | .float b _=>some (.flt b)
 | .ref a=>some (.ref a)
 | .type n=>some (.ty n)
 | _=>none
theorem RelV.abs {x:V}{u:Value} (r:RelV x u):aFC u=some x:=by
 cases x with
 | non=>cases r;rfl
 | bl _=>cases r;rfl
 | int _=>obtain⟨t,rfl⟩:=r;rfl
 | str _=>obtain⟨t,rfl⟩:=r;rfl
 | byt _=>obtain⟨t,rfl⟩:=r;rfl
 | flt _=>obtain⟨t,rfl⟩:=r;rfl
 | ref _=>cases r;rfl
 | ty _=>cases r;rfl
theorem RelV.inj {x y:V}{u:Value} (r:RelV x u) (q:RelV y u):x=y:=Option.some.inj (r.abs.symm.trans q.abs)
theorem Vals.inj:∀{xs ys:List V}{us:List Value},Vals xs us->Vals ys us->xs=ys
 | _,_,_,.nil,.nil=>rfl
 | _,_,_,.cons r t,.cons r' t'=>by rw[r.inj r',Vals.inj t t']
section
variable {X:Cx}{pins:List (Addr×Obj)}{σ:St}{H:Hp}{s:Shared}{a:Addr}{xs ys:List V}
theorem SqL.of {K:PySem.W.Frag}(h:H a=some (.lst xs)):SqL K H a xs:= .inl (.inl h)
theorem SqT.of {K:PySem.W.Frag}(h:H a=some (.tup xs)):SqT K H a xs:= .inl (.inl h)
theorem Inv.list (I:Inv X pins σ H s)(h:SqL X.K H a xs):∃its:List Value,Vals xs its/\PlainL s.heap a its.toArray/\xs.length<=sizeLine:=by
 rcases h with h|⟨o,its,n,hk,hc,hd,hs,hz,r⟩
 ·obtain⟨z,its,n,r,e⟩:=h.ok I.hok;exact⟨its,r,⟨_,n,e,rfl,rfl,rfl⟩,z⟩
 ·refine⟨its.toList,r,⟨o,n,I.kIn a o hk,hc,hd,by simpa using hs⟩,?_⟩;have e:=r.length;simp only[Array.length_toList]at e;omega
theorem Inv.tuple (I:Inv X pins σ H s)(h:SqT X.K H a xs):∃its:List Value,Vals xs its/\IsTup s.heap a its.toArray/\xs.length<=sizeLine:=by
 rcases h with h|⟨o,its,n,hk,hc,hs,hz,r⟩
 ·obtain⟨z,its,r,p⟩:=h.ok I.hok;exact⟨its,r,p,z⟩
 ·refine⟨its.toList,r,⟨o,I.kIn a o hk,hc,n,by simpa using hs⟩,?_⟩;have e:=r.length;simp only[Array.length_toList]at e;omega
theorem Inv.list_inj (I:Inv X pins σ H s)(h:SqL X.K H a xs)(h':SqL X.K H a ys):xs=ys:=by
 obtain⟨its,r,⟨o,n,e,_,_,d⟩,_⟩:=I.list h;obtain⟨its',r',⟨o',n',e',_,_,d'⟩,_⟩:=I.list h';rw[e]at e';cases e';rw[d]at d';injection d' with d1 _;have:its=its':=by simpa using congrArg Array.toList d1
 subst this;exact r.inj r'
end
abbrev Cx.wish (X:Cx)(E:Value->Shared->Prop):Cx:={ X with xe:=E }
abbrev Cx.nox (X:Cx):Cx:=X.wish fun _ _=>False
theorem Cx.Ok.wish {X:Cx}(ok:X.Ok)(E:Value->Shared->Prop):(X.wish E).Ok :=
 ⟨ok.mod,ok.kind,ok.glob,ok.blt,ok.above,ok.inj,ok.has,ok.cab,ok.hd,ok.frames,ok.stk,ok.exf,ok.bs,ok.bsz,ok.noex,ok.exfs,ok.funs,ok.frf⟩
theorem Cx.Ok.unwish {X:Cx}{E:Value->Shared->Prop} (ok:(X.wish E).Ok):X.Ok :=
 ⟨ok.mod,ok.kind,ok.glob,ok.blt,ok.above,ok.inj,ok.has,ok.cab,ok.hd,ok.frames,ok.stk,ok.exf,ok.bs,ok.bsz,ok.noex,ok.exfs,ok.funs,ok.frf⟩
section
variable {X:Cx}{pins:List (Addr×Obj)}{σ:St}{H:Hp}{s:Shared}{E:Value->Shared->Prop}
theorem Inv.wish (I:Inv X pins σ H s)(E:Value->Shared->Prop):Inv (X.wish E) pins σ H s:=⟨I.ok.wish E,I.os,I.bare,I.base,I.loc,I.cell,I.free,I.freeC,I.pin,I.hok,I.len⟩
theorem Inv.unwish (I:Inv (X.wish E) pins σ H s):Inv X pins σ H s:=⟨I.ok.unwish,I.os,I.bare,I.base,I.loc,I.cell,I.free,I.freeC,I.pin,I.hok,I.len⟩
theorem SP.unwish {D:jB}{f:Flow}{s':Shared} (h:SP (X.wish E) pins D f s'):SP X pins D f s':=by
 cases f with
 | next=>obtain⟨σ',H',I,q⟩:=h;exact⟨σ',H',I.unwish,q⟩
 | brk=>obtain⟨σ',H',I,q⟩:=h;exact⟨σ',H',I.unwish,q⟩
 | cont=>obtain⟨σ',H',I,q⟩:=h;exact⟨σ',H',I.unwish,q⟩
 | ret u=>obtain⟨v,σ',H',I,r,q⟩:=h;exact⟨v,σ',H',I.unwish,r,q⟩
theorem PE.nox {e:Expr}{t:TE} (h:PE X.nox e t):PE X e t:=fun pins s σ H Q I hw =>
 wpAny_mono (h pins s σ H Q (I.wish _) hw) (fun _ _ ⟨v,H',I',r,q⟩=>⟨v,H',I'.unwish,r,q⟩) fun _ _ z=>False.elim z
theorem PSs.nox {st:List Stmt}{t:TS} (h:PSs X.nox st t):PSs X st t:=fun pins s σ H D I hw =>
 wpAny_mono (h pins s σ H D (I.wish _) hw) (fun _ _ q=>q.unwish) fun _ _ z=>False.elim z
end
section
variable {X:Cx}{st:Stmt}{rest:List Stmt}{t u:TS}{e:Expr}{te:TE}{pos:Pos}
def Z2:TS:=fun D σ H=>D.nx σ H
def K0 (t u:TS):TS:=fun D σ H=>t { D with nx:=u D } σ H
theorem bC:PSs X [] Z2:=fun _ _ σ H _ I h=>wpAny_execs_nil ⟨σ,H,I,h⟩
theorem aB (h1:PS X st t)(h2:PSs X rest u):PSs X (st::rest) (K0 t u):=by
 intro pins s σ H D I h;refine wpAny_execs_cons (thn (h1 pins s σ H { D with nx:=u D } I h) fun f s1 q=> ?_);cases f with
 | next =>
  obtain⟨σ',H',I',q⟩:=q;exact h2 pins s1 σ' H' D I' q
 | ret v=>exact q
 | brk=>exact q
 | cont=>exact q
theorem aF (h1:PS X st t):PSs X [st] t:=by
 intro pins s σ H D I h;refine wpAny_execs_cons (thn (h1 pins s σ H D I h) fun f s1 q=> ?_);cases f with
 | next=>exact wpAny_execs_nil q
 | ret v=>exact q
 | brk=>exact q
 | cont=>exact q
theorem Inv.quiet {pins:List (Addr×Obj)}{σ:St}{H:Hp}{s:Shared} (I:Inv X pins σ H s):interactive X.env=false:=by simp[interactive,I.ok.kind]
def ZQ (te:TE):TS:=fun D σ H=>te σ H fun _ H1=>D.nx σ H1
theorem bT (he:PE X e te)(hs:swapsWith e none pos.line X.env=pure false:=by rfl):PS X (.Expr e pos) (ZQ te):=by
 intro pins s σ H D I h;exact wpAny_Expr_any (thn (he pins s σ H _ I h) fun v s1 ⟨x,H1,I1,r1,q1⟩=>⟨σ,H1,I1,q1⟩) I.quiet hs
def aCr (te:TE):TS:=fun D σ H=>te σ H D.rt
theorem aV (he:PE X e te):PS X (.Return (some e) pos) (aCr te):=by
 intro pins s σ H D I h;exact wpAny_Return_some (thn (he pins s σ H _ I h) fun v s1 ⟨x,H1,I1,r1,q1⟩=>⟨x,σ,H1,I1,r1,q1⟩)
def RJ (c:TT)(t u:TS):TS:=fun D σ H=>c σ H fun b H1=>if b=true then t D σ H1 else u D σ H1
theorem bR {c:Expr}{a b:List Stmt}{tc:TT} (hc:PT X c tc) (ha:PSs X a t) (hb:PSs X b u):PS X (.If c a b pos) (RJ tc t u):=by
 intro pins s σ H D I h;refine wpAny_If (thn (hc pins s σ H _ I h) fun d s1 ⟨H1,I1,q1⟩=> ?_);cases d with
 | true=>exact ha pins s1 σ H1 D I1 q1
 | false=>exact hb pins s1 σ H1 D I1 q1
def aDo:TS:=fun _ _ _=>False
theorem jF:PS X st aDo:=fun _ _ _ _ _ _ h=>h.elim
end
abbrev TG:=V->St->Hp->(St->Hp->Prop)->Prop
abbrev TGs:=List V->St->Hp->(St->Hp->Prop)->Prop
def PG (X:Cx)(target:Expr)(t:TG):Prop :=
 ∀(pins:List (Addr×Obj)) (s:Shared) (σ:St) (H:Hp) (v:V) (u:Value) (Q:St->Hp->Prop),Inv X pins σ H s->RelV v u->t v σ H Q →
  wpAny (model X.prog X.w) X.A (assign target X.env u) (fun _ s'=>∃σ' H',Inv X pins σ' H' s'/\Q σ' H') X.xe s
def PGs (X:Cx)(ts:List Expr)(t:TGs):Prop :=
 ∀(pins:List (Addr×Obj)) (s:Shared) (σ:St) (H:Hp) (vs:List V) (us:List Value) (Q:St->Hp->Prop),Inv X pins σ H s->Vals vs us->t vs σ H Q →
  wpAny (model X.prog X.w) X.A (assignInOrder ((assignEach ts X.env).map (·.2)) us) (fun _ s'=>∃σ' H',Inv X pins σ' H' s'/\Q σ' H') X.xe s
abbrev TIp:=V->V->Hp->VK->Prop
def PIp (X:Cx)(op:Operator)(t:TIp):Prop :=
 ∀(pins:List (Addr×Obj)) (s:Shared) (σ:St) (H:Hp) (x y:V) (v u:Value) (Q:VK),Inv X pins σ H s->RelV x v->RelV y u->t x y H Q →
  wpAny (model X.prog X.w) X.A (inplaceOp op v u) (EP X pins σ Q) X.xe s
section
variable {X:Cx}{pos:Pos}
def cF (i:Nat):TG:=fun v σ H Q=>Q (σ.set i (some v)) H
theorem aH {i:Nat}{x:Str} (hN:X.N.Nodup) (hi:X.N[i]? =some x) (hx:Loc X.env.scope x) (hf:X.fn x=true∨X.env.scope.names.lookup x=some .local:=by first|exact .inl rfl|exact .inr rfl|assumption):PG X (.Name x pos) (cF i):=by
 intro pins s σ H v u Q I r h;exact wpAny_assign_Name (C4 I hN hi hx r (fun s' I'=>⟨_,H,I',h⟩) hf)
def GP:TGs:=fun vs σ H Q=>vs=[]/\Q σ H
def nS (t:TG)(u:TGs):TGs:=fun vs σ H Q=>∃v r,vs=v::r/\t v σ H fun σ' H'=>u r σ' H' Q
theorem cM:PGs X [] GP:=by
 intro pins s σ H vs us Q I r h;obtain⟨e,h⟩:=h;subst e;cases r;exact assignInOrder_nil ⟨σ,H,I,h⟩
theorem aN {e:Expr}{es:List Expr}{t:TG}{u:TGs} (h1:PG X e t) (h2:PGs X es u)
  (hs:(assignEach (e::es) X.env).map (·.2)=assign e X.env::(assignEach es X.env).map (·.2):=by rfl):PGs X (e::es) (nS t u):=by
 intro pins s σ H vs us Q I r h;obtain⟨v,vr,e1,h⟩:=h;subst e1;cases r with
 | cons r rr =>
  rw[hs];refine assignInOrder_cons (thn (h1 pins s σ H _ _ _ I r h) fun _ s1 ⟨σ1,H1,I1,q1⟩=> ?_);exact h2 pins s1 σ1 H1 _ _ Q I1 rr q1
def CZ (K:PySem.W.Frag)(n:Nat)(t:TGs):TG:=fun v σ H Q=>∃a xs,v= .ref a/\SqT K H a xs/\xs.length=n/\t xs σ H Q
theorem i3 {es:List Expr}{k:Nat}{t:TGs}{n:Nat} (hc:X.calm=true) (h:PGs X es t)
  (hn:(assignEach es X.env).length=n:=by rfl)(hst:(assignEach es X.env).findIdx? (·.1)=none:=by rfl):PG X (.Tuple es k pos) (CZ X.K n t):=by
 intro pins s σ H v u Q I r hw;obtain⟨a,xs,e1,hq,hl,hw⟩:=hw;subst e1;cases r;obtain⟨its,rv,ht,hz⟩:=I.tuple hq;refine assign_Tuple_tuple (I.ok.hd hc) ht (by simp[hn,←hl,rv.length]) hst fun h' hx=> ?_;have I1:Inv X pins σ H { s with heap:=h' }:=I.kept (t':=s.toks) fun b o e=>hx b o (Nat.ne_of_lt (Heap.lt_size e)) e;exact h pins _ σ H xs _ Q I1 (by simpa using rv) hw
def QX (te:TE)(g:TG):TS:=fun D σ H=>te σ H fun x H1=>g x σ H1 D.nx
theorem tM {tg e:Expr}{te:TE}{g:TG} (he:PE X e te) (hg:PG X tg g) (hs:swapsWithSole [tg] e pos.line X.env=pure false:=by rfl) (hw:swappedStores [tg] e X.env=pure none:=by rfl)
  (h1:(assignEach [tg] X.env).map (·.2)=[assign tg X.env]:=by rfl):PS X (.Assign [tg] e pos) (QX te g):=by
 intro pins s σ H D I h;refine wpAny_Assign_stores (thn (he pins s σ H _ I h) fun v s1 ⟨x,H1,I1,r1,q1⟩=> ?_) hs hw;rw[h1];exact thn (hg pins s1 σ H1 x v _ I1 r1 q1) fun _ s2 q=>q
theorem aP {i:Nat}{x:Str}{e:Expr}{te:TE}{pos':Pos} (hN:X.N.Nodup) (hi:X.N[i]? =some x) (hx:Loc X.env.scope x) (he:PE X e te) (hs:swapsWith e (some (.Name x pos')) pos.line X.env=pure false:=by rfl) (hf:X.fn x=true∨X.env.scope.names.lookup x=some .local:=by first|exact .inl rfl|exact .inr rfl|assumption) :
  PS X (.Assign [.Name x pos'] e pos) (QX te (cF i)):=by
 intro pins s σ H D I h;refine wpAny_Assign_Name (thn (he pins s σ H _ I h) fun v s1 ⟨y,H1,I1,r1,q1⟩=> ?_) hs;exact C4 I1 hN hi hx r1 (fun s2 I2=>⟨_,H1,I2,q1⟩) hf
def aEf (i:Nat)(te:TE)(ti:TIp):TS:=fun D σ H=>∃x,σ[i]? =some (some x)/\te σ H fun y H1=>ti x y H1 fun z H2=>D.nx (σ.set i (some z)) H2
theorem WB {i:Nat}{x:Str}{e:Expr}{te:TE}{op:Operator}{ti:TIp}{pos':Pos} (hN:X.N.Nodup) (hi:X.N[i]? =some x) (hx:Loc X.env.scope x) (he:PE X e te) (ho:PIp X op ti) (hf:X.fn x=true∨X.env.scope.names.lookup x=some .local:=by first|exact .inl rfl|exact .inr rfl|assumption) :
  PS X (.AugAssign (.Name x pos') op e pos) (aEf i te ti):=by
 intro pins s σ H D I h;obtain⟨v,e1,h⟩:=h;obtain⟨m,hn,hl⟩:=I.loc;have vis:Vis X.env.scope x:=by rcases hx with k|k;exact .inl k;exact .inr (.inl k)
 obtain⟨u,r,l⟩:=hl i x v hi e1 vis;refine wpAny_AugAssign_Name ?_;have go:wpAny (model X.prog X.w) X.A (eval e X.env) (fun w s₂=>wpAny (model X.prog X.w) X.A (inplaceOp op u w) (fun r s₃=>wpAny (model X.prog X.w) X.A (storeName X.env x r) (fun _=>SP X pins D .next) X.xe s₃) X.xe s₂) X.xe s:=by
  refine thn (he pins s σ H _ I h) fun w s1 ⟨y,H1,I1,r1,q1⟩=> ?_;refine thn (ho pins s1 σ H1 v y u w _ I1 r r1 q1) fun z s2 ⟨zv,H2,I2,r2,q2⟩=> ?_;exact C4 I2 hN hi hx r2 (fun s3 I3=>⟨_,H2,I3,q2⟩) hf
 rcases l with⟨hk,hm⟩|⟨hk,c,hc,hcell⟩
 ·exact wpAny_loadName_local I.ok.kind hk hn hm go
 ·rcases hk with hk|hk
  ·exact wpAny_loadName_cell I.ok.kind hk hc hcell go
  ·rcases hx with k|k
   ·have:X.env.scope.names.lookup x=some .free:=hk;rw[k]at this;cases this
   ·have:X.env.scope.names.lookup x=some .free:=hk;rw[k]at this;cases this
def ipI (f:Int->Int->Int):TIp:=fun x y H Q=>∃i j,x= .int i/\y= .int j/\Q (.int (f i j)) H
theorem UP:PIp X .Add (ipI fun i j=>i+j):=by
 intro pins s σ H x y v u Q I r1 r2 h;obtain⟨i,j,e1,e2,q⟩:=h;subst e1;subst e2;obtain⟨t,rfl⟩:=r1;obtain⟨t',rfl⟩:=r2;exact iadd_int ⟨.int _,H,I.tok _,⟨_,rfl⟩,q⟩
end
section
variable {X:Cx}{pos:Pos}
def aDK (c:TT)(tb:TS):TS:=fun D σ H=>∃W:Nat->St->Hp->Prop,(∃m,W m σ H)/\∀m σ H,W m σ H →
 c σ H fun b H1=>if b=true then ∃N:St->Hp->Prop,(∀σ' H',N σ' H'->∃m',m'<m/\W m' σ' H')/\tb { D with nx:=N,ct:=N,bk:=D.nx } σ H1 else D.nx σ H1
theorem X7 {c:Expr}{body:List Stmt}{tc:TT}{tb:TS} (hp:PassesOwn (model X.prog X.w) X.A X.env X.xe) (hc:PT X c tc) (hb:PSs X body tb):PS X (.While c body [] pos) (aDK tc tb):=by
 intro pins s σ H D I h;obtain⟨W,⟨m0,w0⟩,turn⟩:=h;refine wpAny_While (codeAny_whileLoop (fun n s'=>∃σ' H',Inv X pins σ' H' s'/\W n σ' H') ?_ m0 ⟨σ,H,I,w0⟩);rintro n s1 ⟨σ1,H1,I1,w1⟩;refine wpAny_passesOwn hp (thn (hc pins s1 σ1 H1 _ I1 (turn n σ1 H1 w1)) fun b s2 ⟨H2,I2,q2⟩=> ?_);cases b with
 | true =>
  obtain⟨N,hN,q2⟩:=q2;rw[if_pos rfl];refine wpAny_passesOwn hp (thn (hb pins s2 σ1 H2 _ I2 q2) fun f s3 q3=> ?_);cases f with
  | next =>
   obtain⟨σ3,H3,I3,n3⟩:=q3;obtain⟨m',hm,w3⟩:=hN σ3 H3 n3;exact⟨m',hm,σ3,H3,I3,w3⟩
  | cont =>
   obtain⟨σ3,H3,I3,n3⟩:=q3;obtain⟨m',hm,w3⟩:=hN σ3 H3 n3;exact⟨m',hm,σ3,H3,I3,w3⟩
  | brk=>exact q3
  | ret v=>exact q3
 | false =>
  rw[if_neg Bool.false_ne_true];exact wpAny_execs_nil ⟨σ1,H2,I2,q2⟩
end
structure It where
 go:Nat->Hp->Prop
 yld:Nat->Hp->V->Hp->Prop
 stop:Nat->Hp->Prop
def tH (X:Cx)(pins:List (Addr×Obj))(H:Hp)(b:Addr):Prop :=
 H b=none/\b≠X.env.locals/\b∉X.fs/\(b∈X.ex∨X.s₀.heap.objs.size<=b)/\(∀x c,X.env.cells.lookup x=some c->c≠b)/\∀p∈X.pn++pins,p.1≠b
theorem Inv.fpOk {X:Cx}{pins:List (Addr×Obj)}{σ:St}{H H':Hp}{s:Shared}{b:Addr} (I:Inv X pins σ H s) (hb:s.heap.objs.size<=b) (hn:H' b=none):tH X pins H' b:=by
 refine⟨hn,Nat.ne_of_gt (Nat.lt_of_lt_of_le I.lt hb),I.nofs hb,.inr (Nat.le_trans I.sz hb),fun x c e z=> ?_,fun p hp z=> ?_⟩
 ·obtain⟨v,q⟩:=I.cell x c e;exact absurd (Nat.lt_of_lt_of_le q.lt (by rw[z];exact hb)) (Nat.lt_irrefl _)
 ·exact absurd (Nat.lt_of_lt_of_le (Heap.lt_size (I.pin p hp).1) (by rw[z];exact hb)) (Nat.lt_irrefl _)
structure zI (P:Program)(w:World)(K:PySem.W.Frag)(tg:Expr)(J:It)(fp:List Addr)(it:Addr)(tn:Nat->Heap->Prop):Prop where
 mem:it∈fp
 obj:∀i h,tn i h->∀b∈fp,∃o,h.get? b=some o/\∀v,o.data≠ .cell v
 keep:∀i h h',tn i h->(∀b∈fp,∀o,h.get? b=some o->h'.get? b=some o)->tn i h'
 item:∀(X:Cx),X.prog=P->X.w=w->X.K=K->X.calm=true->∀(i:Nat) (pins:List (Addr×Obj)) (s:Shared) (σ:St) (H:Hp) (E:Value->Shared->Prop),Inv X pins σ H s->(∀b∈fp,tH X pins H b)->tn i s.heap->J.go i H →
  wpAny (model P w) X.A (pyNext (.ref it)) (fun r s1=>∃u,r=some u ∧
   wpAny (model P w) X.A (letOwnedTupleGo tg (.ref it) u) (fun _ s2=>∃x H',Inv X pins σ H' s2/\RelV x u/\J.yld i H x H'/\tn (i+1) s2.heap/\∀b∈fp,H' b=none) E s1) E s
 done:∀(X:Cx),X.prog=P->X.w=w->X.K=K->X.calm=true->∀(i:Nat) (pins:List (Addr×Obj)) (s:Shared) (σ:St) (H:Hp) (E:Value->Shared->Prop),Inv X pins σ H s->(∀b∈fp,tH X pins H b)->tn i s.heap->J.stop i H →
  wpAny (model P w) X.A (pyNext (.ref it)) (fun r s1=>r=none/\Inv X pins σ H s1) E s
 self:∀(A:Around) (i:Nat) (s:Shared) (Q:Value->Shared->Prop) (E:Value->Shared->Prop),tn i s.heap->Q (.ref it) s->wpAny (model P w) A (pyIter (.ref it)) Q E s
abbrev TI:=St->Hp->(It->Hp->Prop)->Prop
def PIE (X:Cx)(pins:List (Addr×Obj))(σ:St)(tg:Expr)(R:It->Hp->Prop)(itv:Value)(s2:Shared):Prop :=
 ∃(it:Addr) (fp:List Addr) (tn:Nat->Heap->Prop) (J:It) (H':Hp),itv= .ref it/\Inv X pins σ H' s2/\zI X.prog X.w X.K tg J fp it tn/\tn 0 s2.heap/\(∀b∈fp,tH X pins H' b)/\R J H'
def PI (X:Cx)(tg iter:Expr)(wi:TI):Prop :=
 ∀(pins:List (Addr×Obj)) (s:Shared) (σ:St) (H:Hp) (R:It->Hp->Prop),Inv X pins σ H s->wi σ H R →
  wpAny (model X.prog X.w) X.A (eval iter X.env) (fun v s1=>wpAny (model X.prog X.w) X.A (pyIter v) (PIE X pins σ tg R) X.xe s1) X.xe s
theorem R4 {M:Model}{A:Around}{E:Value->Shared->Prop}{s:Shared}{tg:Expr}{it:Addr}{u:Value}{o:Obj}{n:String}{vs:Array Value}{Q:Unit->Shared->Prop} (ho:s.heap.get? it=some o) (hc:o.cls= .type n) (hd:o.data= .fields vs)
  (hn:["enumerate","zip","dict_itemiterator","dict_reverseitemiterator","odict_iterator","itertools.zip_longest","itertools.pairwise"].contains n=false)(hQ:Q () s):wpAny M A (letOwnedTupleGo tg (.ref it) u) Q E s:=by
 unfold letOwnedTupleGo;cases tg<;>first
  | exact wpAny_pure hQ
  | (cases u<;>first
    | exact wpAny_pure hQ
    | (refine wpAny_bind (wpAny_load ho ?_);rw[hc,hd];show wpAny M A (if (["enumerate","zip","dict_itemiterator","dict_reverseitemiterator","odict_iterator","itertools.zip_longest","itertools.pairwise"].contains n&&vs[0]? ==some (rawInt _))=true then _ else _) Q E s;rw[if_neg (by intro h;rw[hn,Bool.false_and]at h;cases h)];exact wpAny_pure hQ))
def Itl (K:PySem.W.Frag)(a:Addr):It :=
 ⟨fun i H=>∃xs x,SqL K H a xs/\xs[i]? =some x,fun i H x H'=>H'=H/\∀xs,SqL K H a xs->xs[i]? =some x,fun i H=>∃xs,SqL K H a xs/\xs.length<=i⟩
def Itr (lo:Int)(n:Nat):It:=⟨fun i _=>i<n,fun i H x H'=>H'=H/\x= .int (lo+i),fun i _=>n<=i⟩
theorem UA {P:Program}{w:World}{K:PySem.W.Frag}{tg:Expr} (a it:Addr):zI P w K tg (Itl K a) [it] it (fun i h=>h.IsListIter it a i) where
 mem:=by simp
 obj:=fun i h st b hb=>by
  have e:b=it:=by simpa using hb
  subst e;obtain⟨o,e,c,d⟩:=st;exact⟨o,e,fun v z=>by rw[d]at z;cases z⟩
 keep:=fun i h h' st k=>st.at fun o e=>k it (by simp) o e
 item:=by
  intro X hP hw hK hc i pins s σ H E I hf st hg;subst hP hw hK;obtain⟨xs,x,hq,hx⟩:=hg;obtain⟨its,rv,p,hz⟩:=I.list hq;obtain⟨u,hu,ru⟩:=rv.get hx;obtain⟨f0,f1,f2,f3,f4,f5⟩:=hf it (by simp);refine wpAny_pyNext_list_item st p.isList (x:=u) (by simpa using hu) fun h' st' sb=> ?_;have I1:Inv X pins σ H { s with heap:=h' }:=I.turned (t':=s.toks) (fun b o hb e=>(sb.2 b hb).trans e) f0 f1 f3 f4 f5;obtain⟨o,e,c,d⟩:=id st';exact⟨u,rfl,R4 (s:={ s with heap:=h' }) e c d (by decide) ⟨x,H,I1,ru,⟨rfl,fun ys hy=>by rw[I.list_inj hy hq];exact hx⟩,st',fun b hb=>(hf b hb).1⟩⟩
 done:=by
  intro X hP hw hK hc i pins s σ H E I hf st hg;subst hP hw hK;obtain⟨xs,hq,hx⟩:=hg;obtain⟨its,rv,p,hz⟩:=I.list hq;obtain⟨f0,f1,f2,f3,f4,f5⟩:=hf it (by simp);have hl:=rv.length;exact wpAny_pyNext_list_end (I.ok.hd hc) st p.isList (by simp;omega) fun h' eb=>⟨rfl,I.turned (t':=s.toks) (fun b o hb e=>eb b o hb e) f0 f1 f3 f4 f5⟩
 self:=fun _ _ _ _ _ st h=>wpAny_pyIter_listiter st h
theorem RI {P:Program}{w:World}{K:PySem.W.Frag}{tg:Expr} (it:Addr) (lo:Int) (n:Nat):zI P w K tg (Itr lo n) [it] it (fun i h=>IsRangeIter h it (lo+(i:Nat) * 1) ((n:Int) - (i:Nat)) 1) where
 mem:=by simp
 obj:=fun i h st b hb=>by
  have e:b=it:=by simpa using hb
  subst e;exact⟨_,st,fun v z=>by
   have z':Data.fields _=Data.cell v:=z;cases z'⟩
 keep:=fun i h h' st k=>k it (by simp) _ st
 item:=by
  intro X hP hw hK hc i pins s σ H E I hf st hg;subst hP hw hK;obtain⟨f0,f1,f2,f3,f4,f5⟩:=hf it (by simp);have W:=Walks.range (prog:=X.prog) (w:=X.w) (I.ok.hd hc) it lo 1 n;refine W.item i s _ _ hg st fun v h' tk hv st' kk=> ?_;obtain⟨t,rfl⟩:=hv;have I1:Inv X pins σ H { s with heap:=h',toks:=tk }:=I.turned (fun b o hb e=>kk b o (by simpa using hb) e) f0 f1 f3 f4 f5;refine⟨_,rfl,R4 (s:={ s with heap:=h',toks:=tk }) (n:= "range_iterator") st' rfl rfl (by decide) ⟨.int (lo+i),H,I1,⟨t,?_⟩,⟨rfl,rfl⟩,st',fun b hb=>(hf b hb).1⟩⟩;rw[Int.mul_one]
 done:=by
  intro X hP hw hK hc i pins s σ H E I hf st hg;subst hP hw hK;obtain⟨f0,f1,f2,f3,f4,f5⟩:=hf it (by simp);exact wpAny_pyNext_range_end (I.ok.hd hc) st (by have:n<=i:=hg;omega) fun h' eb=>⟨rfl,I.turned (t':=s.toks) (fun b o hb e=>eb b o hb e) f0 f1 f3 f4 f5⟩
 self:=fun _ _ _ _ _ st h=>wpAny_pyIter_rangeiter st h
end L2
namespace L2
open PySem PySem.Spec PyProof.Rows
section
variable {X:Cx}{tg:Expr}
def ZM (K:PySem.W.Frag)(tl:TE):TI:=fun σ H R=>tl σ H fun x H1=>∃a,x= .ref a/\(∃xs,SqL K H1 a xs)/\R (Itl K a) H1
theorem bH {l:Expr}{tl:TE} (hl:PE X l tl):PI X tg l (ZM X.K tl):=by
 intro pins s σ H R I h;refine thn (hl pins s σ H _ I h) fun v s1 ⟨x,H1,I1,r1,q1⟩=> ?_;obtain⟨a,e,⟨xs,hq⟩,q⟩:=q1;subst e;cases r1;obtain⟨its,rv,p,hz⟩:=I1.list hq;refine wpAny_pyIter_list p.isList ?_;refine⟨s1.heap.objs.size,[s1.heap.objs.size],_,_,H1,rfl,I1.kept (t':=s1.toks) fun b o e=>Heap.get?_push_of_some _ e,UA a _,⟨_,Heap.get?_push_size _ rfl,rfl,rfl⟩,fun b hb=> ?_,q⟩;have e:b=s1.heap.objs.size:=by simpa using hb
 subst e;exact I1.fpOk (Nat.le_refl _) (I1.hok.fresh (Nat.le_refl _))
theorem LJ {pins:List (Addr×Obj)}{σ:St}{H:Hp}{s:Shared}{R:It->Hp->Prop}{E:Value->Shared->Prop}{lo hi:Int}{t u v:Tok}{tk:Nat} (I:Inv X pins σ H s) (h1: -(2^62)<=lo) (h2:lo<2^62) (h3: -(2^62)<=hi) (h4:hi<2^62)
  (q:R (Itr lo (hi - lo).toNat) H):wpAny (model X.prog X.w) X.A (pyIter (.ref s.heap.objs.size)) (PIE X pins σ tg R) E { s with heap:=s.heap.push { cls:= .type "range",data:= .fields #[.int lo t,.int hi u,.int 1 v] },toks:=tk }:=by
 refine wpAny_pyIter_range (IsRange.new ..) (small_one h1 h2 h3 h4) ?_;have I1:Inv X pins σ H { s with heap:=s.heap.push { cls:= .type "range",data:= .fields #[.int lo t,.int hi u,.int 1 v] },toks:=tk }:=I.kept fun b o e=>Heap.get?_push_of_some _ e;refine⟨(s.heap.push { cls:= .type "range",data:= .fields #[.int lo t,.int hi u,.int 1 v] }).objs.size,[(s.heap.push { cls:= .type "range",data:= .fields #[.int lo t,.int hi u,.int 1 v] }).objs.size],_,_,H,rfl,
  I1.kept (t':=tk) fun b o e=>Heap.get?_push_of_some _ e,RI _ lo (hi - lo).toNat,?_,fun b hb=> ?_,q⟩
 ·have e1:lo+((0:Nat):Int) * 1=lo:=by simp
  have e2:(((hi - lo).toNat:Nat):Int) - ((0:Nat):Int)=Builtin.Range.rangeSize lo hi 1:=by rw[rangeSize_one];split<;>omega
  show IsRangeIter _ _ (lo+((0:Nat):Int) * 1) ((((hi - lo).toNat:Nat):Int) - ((0:Nat):Int)) 1;rw[e1,e2];exact Heap.get?_push_size _ rfl
 ·have e:b=(s.heap.push { cls:= .type "range",data:= .fields #[.int lo t,.int hi u,.int 1 v] }).objs.size:=by simpa using hb
  subst e;exact I1.fpOk (Nat.le_refl _) (I1.hok.fresh (Nat.le_refl _))
def Z8 (ta:TA):TI:=fun σ H R=>ta σ H fun vs H1=>∃j:Int,vs=[.int j]/\ -(2^62)<=j/\j<2^62/\R (Itr 0 j.toNat) H1
def ZS (ta:TA):TI:=fun σ H R=>ta σ H fun vs H1=>∃i j:Int,vs=[.int i,.int j]/\(-(2^62)<=i/\i<2^62/\ -(2^62)<=j/\j<2^62)/\R (Itr i (j - i).toNat) H1
theorem i8 {a:Expr}{ta:TA}{p pos:Pos} (hg:Gl X "range") (hm:X.mg "range" =none) (ha:PA X [a] ta) (hs:starEach [a] X.env=[(false,eval a X.env)]:=by rfl):PI X tg (.Call (.Name "range" p) [a] [] pos) (Z8 ta):=by
 intro pins s σ H R I h;refine Call_ (zY I hg hm boot_range (PyProof.Rows.callWith_type1 (thn (ha pos pins s σ H _ I h) fun us s1 ⟨vs,H1,I1,r1,q1⟩=> ?_) hs rfl));obtain⟨j,e,q1,q2,q⟩:=q1;subst e;cases r1 with
 | cons r rr =>
  cases rr;obtain⟨t,rfl⟩:=r;exact call_range_1 (LJ I1 (by omega) (by omega) q1 q2 (by simpa using q))
theorem kI {a b:Expr}{ta:TA}{p pos:Pos} (hg:Gl X "range") (hm:X.mg "range" =none) (ha:PA X [a,b] ta) (hs:starEach [a,b] X.env=[(false,eval a X.env),(false,eval b X.env)]:=by rfl) (hs2:starEach [b] X.env=[(false,eval b X.env)]:=by rfl) :
  PI X tg (.Call (.Name "range" p) [a,b] [] pos) (ZS ta):=by
 intro pins s σ H R I h;refine Call_ (zY I hg hm boot_range (PyProof.Rows.callWith_type1 (thn (ha pos pins s σ H _ I h) fun us s1 ⟨vs,H1,I1,r1,q1⟩=> ?_) (by rw[hs,hs2]) (by rw[hs2];rfl)));obtain⟨i,j,e,⟨q1,q2,q3,q4⟩,q⟩:=q1;subst e;cases r1 with
 | cons r rr =>
  cases rr with
  | cons r' rr =>
   cases rr;obtain⟨t,rfl⟩:=r;obtain⟨t',rfl⟩:=r';exact call_range_2 (LJ I1 q1 q2 q3 q4 q)
def aEb (wi:TI)(g:TG)(tb:TS):TS:=fun D σ H=>wi σ H fun J H1=>∃W:Nat->Nat->St->Hp->Prop,(∃m,W 0 m σ H1)/\∀i m σ H,W i m σ H →
 (J.stop i H/\D.nx σ H)∨(J.go i H/\∃N:St->Hp->Prop,(∀σ' H',N σ' H'->∃m',m'<m/\W (i+1) m' σ' H')/\∀x H',J.yld i H x H'->g x σ H' fun σ2 H2=>tb { D with nx:=N,ct:=N,bk:=D.nx } σ2 H2)
def qR (fp:List Addr)(h:Heap):List (Addr×Obj):=fp.filterMap fun b=>(h.get? b).map fun o=>(b,o)
theorem nG {fp:List Addr}{h:Heap}{b:Addr}{o:Obj} (hb:b∈fp) (e:h.get? b=some o):(b,o)∈qR fp h:=List.mem_filterMap.mpr ⟨b,hb,by rw[e];rfl⟩
theorem IK {fp:List Addr}{h:Heap}{p:Addr×Obj} (hp:p∈qR fp h):p.1∈fp/\h.get? p.1=some p.2:=by
 obtain⟨b,hb,e⟩:=List.mem_filterMap.mp hp;cases q:h.get? b with
 | none=>rw[q]at e;cases e
 | some o =>
  rw[q]at e;have e':(b,o)=p:=Option.some.inj e;subst e';exact⟨hb,q⟩
theorem Inv.pinned {pins:List (Addr×Obj)}{σ:St}{H:Hp}{s:Shared}{fp:List Addr} (I:Inv X pins σ H s) (hf:∀b∈fp,tH X pins H b) (ho:∀b∈fp,∃o,s.heap.get? b=some o/\∀v,o.data≠ .cell v):Inv X (pins++qR fp s.heap) σ H s :=
 I.pins_of fun p hp=>(List.mem_append.mp hp).elim (fun z=>I.pin p (List.mem_append_right _ z)) fun z=>by
  obtain⟨hb,e⟩:=IK z;obtain⟨f0,f1,f2,_⟩:=hf p.1 hb;obtain⟨o,e',d⟩:=ho p.1 hb;rw[e]at e';cases e';exact⟨e,f0,f1,f2,d⟩
theorem Inv.unpinned {pins pl:List (Addr×Obj)}{σ:St}{H:Hp}{s:Shared} (I:Inv X (pins++pl) σ H s):Inv X pins σ H s:=I.pins_of fun p hp=>I.pin p (List.mem_append_right _ (List.mem_append_left _ hp))
theorem cJ {iter:Expr}{body:List Stmt}{wi:TI}{g:TG}{tb:TS}{pos:Pos} (hp:PassesOwn (model X.prog X.w) X.A X.env X.xe) (hc:X.calm=true) (hi:PI X tg iter wi) (hg:PG X tg g) (hb:PSs X body tb)
  (hs:∀x,foldedSetIterable iter X.env x=pure x:=by intro _;rfl):PS X (.For tg iter body [] pos) (aEb wi g tb):=by
 intro pins s σ H D I h;refine wpAny_For (thn (hi pins s σ H _ I h) fun v s1 h1=>thn h1 fun itv s2 h2=> ?_) hs;obtain⟨it,fp,tn,J,H2,e,I2,T,st2,f2,W,⟨m0,w0⟩,turn⟩:=h2;subst e;have stat:∀{H':Hp},(∀b∈fp,H' b=none)->∀b∈fp,tH X pins H' b:=fun hn b hb=>⟨hn b hb,(f2 b hb).2⟩
 refine codeAny_forLoop_any (fun n s'=>∃i σ' H',Inv X pins σ' H' s'/\tn i s'.heap/\(∀b∈fp,H' b=none)/\W i n σ' H') ?_ m0 ⟨0,σ,H2,I2,st2,fun b hb=>(f2 b hb).1,w0⟩;rintro n s3 ⟨i,σ3,H3,I3,st3,fr3,w3⟩;rcases turn i n σ3 H3 w3 with⟨stop,qn⟩|⟨go,N,hN,step⟩
 ·refine wpAny_passesOwn hp (thn (T.done X rfl rfl rfl hc i pins s3 σ3 H3 X.xe I3 (stat fr3) st3 stop) fun r s4 ⟨hr,I4⟩=> ?_);subst hr;exact wpAny_execs_nil ⟨σ3,H3,I4,qn⟩
 ·refine wpAny_passesOwn hp (thn (T.item X rfl rfl rfl hc i pins s3 σ3 H3 X.xe I3 (stat fr3) st3 go) fun r s4 ⟨u,hr,h4⟩=> ?_);subst hr;refine wpAny_passesOwn hp (thn h4 fun _ s5 ⟨x,H5,I5,r5,y5,st5,fr5⟩=> ?_);have I5':=I5.pinned (stat fr5) (T.obj _ _ st5);refine wpAny_passesOwn hp (thn (hg _ s5 σ3 H5 x u _ I5' r5 (step x H5 y5)) fun _ s6 ⟨σ6,H6,I6,q6⟩=> ?_);refine wpAny_passesOwn hp (thn (hb _ s6 σ6 H6 _ I6 q6) fun f s7 q7=> ?_);have again:∀{σ7:St}{H7:Hp},Inv X (pins++qR fp s5.heap) σ7 H7 s7->N σ7 H7->∃m,m<n/\∃i σ' H',Inv X pins σ' H' s7/\tn i s7.heap/\(∀b∈fp,H' b=none)/\W i m σ' H':=fun {σ7 H7} I7 n7=>by
   obtain⟨m',hm,w7⟩:=hN σ7 H7 n7;refine⟨m',hm,i+1,σ7,H7,I7.unpinned,T.keep _ _ _ st5 fun b hb o e=>(I7.pin (b,o) (List.mem_append_right _ (List.mem_append_right _ (nG hb e)))).1,fun b hb=> ?_,w7⟩;obtain⟨o,e,d⟩:=T.obj _ _ st5 b hb;exact(I7.pin (b,o) (List.mem_append_right _ (List.mem_append_right _ (nG hb e)))).2.1
  cases f with
  | next=>obtain⟨σ7,H7,I7,n7⟩:=q7;exact again I7 n7
  | cont=>obtain⟨σ7,H7,I7,n7⟩:=q7;exact again I7 n7
  | brk=>obtain⟨σ7,H7,I7,q7⟩:=q7;exact⟨σ7,H7,I7.unpinned,q7⟩
  | ret v=>obtain⟨x7,σ7,H7,I7,r7,q7⟩:=q7;exact⟨x7,σ7,H7,I7.unpinned,r7,q7⟩
end
theorem YJ {K:PySem.W.Frag}{a:Addr}{xs:List V}{g:TG}{tb:TS}{D:jB}{σ:St}{H:Hp} (Pv:Nat->St->Hp->Prop) (h0:Pv 0 σ H) (hl:∀i σ H,i<=xs.length->Pv i σ H->SqL K H a xs)
  (hs:∀i x σ H,xs[i]? =some x->Pv i σ H->g x σ H fun σ2 H2=>tb { D with nx:=Pv (i+1),ct:=Pv (i+1),bk:=D.nx } σ2 H2)(hd:∀σ H,Pv xs.length σ H->D.nx σ H) :
  ∃W:Nat->Nat->St->Hp->Prop,(∃m,W 0 m σ H)/\∀i m σ H,W i m σ H →
   ((Itl K a).stop i H/\D.nx σ H)∨((Itl K a).go i H/\∃N:St->Hp->Prop,(∀σ' H',N σ' H'->∃m',m'<m/\W (i+1) m' σ' H')/\∀x H',(Itl K a).yld i H x H'->g x σ H' fun σ2 H2=>tb { D with nx:=N,ct:=N,bk:=D.nx } σ2 H2):=by
 refine⟨fun i m σ H=>m=xs.length - i/\i<=xs.length/\Pv i σ H,⟨xs.length,by simp,Nat.zero_le _,h0⟩,?_⟩;rintro i m σ H ⟨rfl,hi,p⟩;have q:=hl i σ H hi p
 by_cases hlt:i<xs.length
 ·refine .inr ⟨⟨xs,xs[i],q,by simp[hlt]⟩,Pv (i+1),fun σ' H' p'=>⟨xs.length - (i+1),by omega,rfl,hlt,p'⟩,fun x H' y=> ?_⟩;obtain⟨e,y⟩:=y;subst e;exact hs i x σ _ (y xs q) p
 ·have e:i=xs.length:=by omega
  subst e;exact .inl ⟨⟨xs,q,Nat.le_refl _⟩,hd σ H p⟩
theorem V9 {lo:Int}{n:Nat}{g:TG}{tb:TS}{D:jB}{σ:St}{H:Hp} (Pv:Nat->St->Hp->Prop) (h0:Pv 0 σ H)
  (hs:∀i σ H,i<n->Pv i σ H->g (.int (lo+i)) σ H fun σ2 H2=>tb { D with nx:=Pv (i+1),ct:=Pv (i+1),bk:=D.nx } σ2 H2)(hd:∀σ H,Pv n σ H->D.nx σ H) :
  ∃W:Nat->Nat->St->Hp->Prop,(∃m,W 0 m σ H)/\∀i m σ H,W i m σ H →
   ((Itr lo n).stop i H/\D.nx σ H)∨((Itr lo n).go i H/\∃N:St->Hp->Prop,(∀σ' H',N σ' H'->∃m',m'<m/\W (i+1) m' σ' H')/\∀x H',(Itr lo n).yld i H x H'->g x σ H' fun σ2 H2=>tb { D with nx:=N,ct:=N,bk:=D.nx } σ2 H2):=by
 refine⟨fun i m σ H=>m=n - i/\i<=n/\Pv i σ H,⟨n,by simp,Nat.zero_le _,h0⟩,?_⟩;rintro i m σ H ⟨rfl,hi,p⟩
 by_cases hlt:i<n
 ·refine .inr ⟨hlt,Pv (i+1),fun σ' H' p'=>⟨n - (i+1),by omega,rfl,hlt,p'⟩,fun x H' y=> ?_⟩;obtain⟨e,y⟩:=y;subst e y;exact hs i σ _ hlt p
 ·have e:i=n:=by omega
  subst e;exact .inl ⟨Nat.le_refl _,hd σ H p⟩
end L2
namespace L2
open PySem PySem.Spec PyProof.Rows
abbrev R2:=V->V->Hp->VK->Prop
def OpR (X:Cx)(f:Value->Value->Sem Value)(r:R2):Prop :=
 ∀(pins:List (Addr×Obj)) (s:Shared) (σ:St) (H:Hp) (x y:V) (v u:Value) (Q:VK),Inv X pins σ H s->RelV x v->RelV y u->r x y H Q →
  wpAny (model X.prog X.w) X.A (f v u) (EP X pins σ Q) X.xe s
def fK (X:Cx)(f:Value)(r:List V->Hp->VK->Prop):Prop :=
 ∀(pins:List (Addr×Obj)) (s:Shared) (σ:St) (H:Hp) (xs:List V) (us:List Value) (Q:VK),Inv X pins σ H s->Vals xs us->r xs H Q →
  wpAny (model X.prog X.w) X.A (call f us) (EP X pins σ Q) X.xe s
def tOp (r:R2)(ta tb:TE):TE:=fun σ H Q=>ta σ H fun x H1=>tb σ H1 fun y H2=>r x y H2 Q
def rI (C:Int->Int->Prop)(g:Int->Int->V):R2:=fun x y H Q=>∃i j,x= .int i/\y= .int j/\C i j/\Q (g i j) H
def rI0 (g:Int->Int->V):R2:=fun x y H Q=>∃i j,x= .int i/\y= .int j/\Q (g i j) H
section
variable {X:Cx}{a b c:Expr}{ta tb tc:TE}{pos:Pos}
theorem XH (ha:PE X a ta)(hb:PE X b tb){pins:List (Addr×Obj)}{s:Shared}{σ:St}{H:Hp}{R:V->V->Hp->Prop} (I:Inv X pins σ H s)
  (h:ta σ H fun x H1=>tb σ H1 fun y H2=>R x y H2){Q:Value->Shared->Prop}{f:Value->Value->Sem Value}
  (hf:∀v u s2 x y H2,Inv X pins σ H2 s2->RelV x v->RelV y u->R x y H2->wpAny (model X.prog X.w) X.A (f v u) Q X.xe s2) :
  wpAny (model X.prog X.w) X.A (eval a X.env) (fun v s₁=>wpAny (model X.prog X.w) X.A (eval b X.env) (fun u s₂=>wpAny (model X.prog X.w) X.A (f v u) Q X.xe s₂) X.xe s₁) X.xe s:=by
 refine thn (ha pins s σ H _ I h) fun v s1 ⟨x,H1,I1,r1,q1⟩=> ?_;refine thn (hb pins s1 σ H1 _ I1 q1) fun u s2 ⟨y,H2,I2,r2,q2⟩=> ?_;exact hf v u s2 x y H2 I2 r1 r2 q2
theorem aI {op:Operator}{r:R2} (ho:OpR X (binaryOp op) r) (ha:PE X a ta) (hb:PE X b tb):PE X (.BinOp a op b pos) (tOp r ta tb):=by
 intro pins s σ H Q I h;exact wpAny_BinOp (XH ha hb I h fun v u s2 x y H2 I2 rx ry q=>ho pins s2 σ H2 x y v u Q I2 rx ry q)
theorem opI {f:Value->Value->Sem Value}{C:Int->Int->Prop}{g:Int->Int->Int}
  (rule:∀(i j:Int) (t u:Tok) (s:Shared) (Q:Value->Shared->Prop) (E:Value->Shared->Prop),C i j->Q (.int (g i j) s.toks) { s with toks:=s.toks+1 }->wpAny (model X.prog X.w) X.A (f (.int i t) (.int j u)) Q E s) :
  OpR X f (rI C fun i j=> .int (g i j)):=by
 intro pins s σ H x y v u Q I rx ry h;obtain⟨i,j,rfl,rfl,hc,q⟩:=h;obtain⟨t,rfl⟩:=rx;obtain⟨t',rfl⟩:=ry;exact rule i j t t' s _ _ hc ⟨.int (g i j),H,I.tok _,⟨_,rfl⟩,q⟩
theorem aD4 {f:Value->Value->Sem Value}{g:Int->Int->Int}
  (rule:∀(i j:Int) (t u:Tok) (s:Shared) (Q:Value->Shared->Prop) (E:Value->Shared->Prop),Q (.int (g i j) s.toks) { s with toks:=s.toks+1 }->wpAny (model X.prog X.w) X.A (f (.int i t) (.int j u)) Q E s) :
  OpR X f (rI0 fun i j=> .int (g i j)):=by
 intro pins s σ H x y v u Q I rx ry h;obtain⟨i,j,rfl,rfl,q⟩:=h;obtain⟨t,rfl⟩:=rx;obtain⟨t',rfl⟩:=ry;exact rule i j t t' s _ _ ⟨.int (g i j),H,I.tok _,⟨_,rfl⟩,q⟩
theorem RU {f:Value->Value->Sem Value}{g:Int->Int->Bool}
  (rule:∀(i j:Int) (t u:Tok) (s:Shared) (Q:Value->Shared->Prop) (E:Value->Shared->Prop),Q (.bool (g i j)) s->wpAny (model X.prog X.w) X.A (f (.int i t) (.int j u)) Q E s) :
  OpR X f (rI0 fun i j=> .bl (g i j)):=by
 intro pins s σ H x y v u Q I rx ry h;obtain⟨i,j,rfl,rfl,q⟩:=h;obtain⟨t,rfl⟩:=rx;obtain⟨t',rfl⟩:=ry;exact rule i j t t' s _ _ ⟨.bl (g i j),H,I,rfl,q⟩
def aDU (i j:Int):Prop:=0<j/\j<1073741824
def aCB (i j:Int):Prop:=0<=j/\j<=1000000/\i.natAbs<2^64
def CMul (i j:Int):Prop:=(-(2^64)<i/\i<2^64)∨(-(2^64)<j/\j<2^64)
theorem CMul.ok {i j:Int}(h:CMul i j):IntMulOk i j:=by
 rcases h with⟨h1,h2⟩|⟨h1,h2⟩
 ·exact .of_left (intBits_le_64 h1 h2)
 ·exact .of_right (intBits_le_64 h1 h2)
theorem QP (k:Nat):(0:Int)<=2^k:=by
 rw[two_pow_cast];exact Int.natCast_nonneg _
theorem bO:OpR X (binaryOp .Add) (rI0 fun i j=> .int (i+j)):=aD4 fun _ _ _ _ _ _ _ q=>add_int q
theorem kR:OpR X (binaryOp .Sub) (rI0 fun i j=> .int (i - j)):=aD4 fun _ _ _ _ _ _ _ q=>sub_int q
theorem i5:OpR X (binaryOp .Mult) (rI CMul fun i j=> .int (i * j)):=opI fun _ _ _ _ _ _ _ hc q=>mul_int q hc.ok
theorem cI:OpR X (binaryOp .FloorDiv) (rI aDU fun i j=> .int (i/j)):=opI fun i j _ _ _ _ _ hc q=>by
 have h1:(0:Int)<j:=hc.1;have h2:j<1073741824:=hc.2;exact floordiv_int (by omega) (by rw[Int.fdiv_eq_ediv_of_nonneg i (by omega)];exact q) (.inl (PyProof.noPylong_small (by omega)))
theorem bN:OpR X (binaryOp .Mod) (rI (fun _ j=>0<j) fun i j=> .int (i%j)):=opI fun i j _ _ _ _ _ hc q=>by
 have h1:(0:Int)<j:=hc;exact mod_int' (by omega) (by rw[Int.fmod_eq_emod_of_nonneg i (by omega)];exact q)
theorem aC7:OpR X (binaryOp .Pow) (rI aCB fun i j=> .int (i^j.toNat)):=opI fun _ _ _ _ _ _ _ hc q=>pow_int_small hc.1 hc.2.1 hc.2.2 q
theorem SX:OpR X (binaryOp .RShift) (rI (fun _ j=>0<=j) fun i j=> .int (i/2^j.toNat)):=opI fun i j _ _ _ _ _ hc q =>
 rshift_int hc (by rw[Int.fdiv_eq_ediv_of_nonneg i (QP _)];exact q)
end
def aFm:V->V->Bool
 | .non,.non=>true| .non,.int _=>true| .int _,.non=>true| .non,.bl _=>true| .bl _,.non=>true| .non,.str _=>true| .str _,.non=>true
 | .int _,.int _=>true| .bl _,.bl _=>true| .str _,.str _=>true| .byt _,.byt _=>true
 | .int _,.str _=>true| .str _,.int _=>true| .bl _,.str _=>true| .str _,.bl _=>true
 | _,_=>false
def rEq:R2:=fun x y H Q=>aFm x y=true/\Q (.bl (decide (x=y))) H
theorem aAP {i j:Int}:decide (V.int i=V.int j)=(i==j):=by
 rw[Bool.eq_iff_iff];simp
theorem aCA {i j:Bool}:decide (V.bl i=V.bl j)=(i==j):=by
 rw[Bool.eq_iff_iff];simp
theorem aBo {i j:Str}:decide (V.str i=V.str j)=(i==j):=by
 rw[Bool.eq_iff_iff];simp
theorem aAO {i j:Array UInt8}:decide (V.byt i=V.byt j)=(i.toList==j.toList):=by
 rw[Bool.eq_iff_iff];cases i;cases j;simp
section
variable {X:Cx}{a b c:Expr}{ta tb tc:TE}{pos:Pos}
theorem fF {pins:List (Addr×Obj)}{σ:St}{H:Hp}{s:Shared}{Q:VK}{k k':Bool} (I:Inv X pins σ H s) (q:Q (.bl k) H) (e:k=k'):EP X pins σ Q (.bool k') s:=by
 subst e;exact⟨.bl k,H,I,rfl,q⟩
theorem dG:OpR X (compareOp .Eq) rEq:=by
 intro pins s σ H x y v u Q I rx ry h;obtain⟨hs,q⟩:=h;cases x with
 | non =>
  cases rx;cases y with
  | non=>cases ry;exact PySem.EqNone.eq_none_none (fF I q (by simp))
  | bl j=>cases ry;exact PySem.EqNone.eq_none_bool (fF I q (by simp))
  | int j=>obtain⟨t',rfl⟩:=ry;exact PySem.EqNone.eq_none_int (fF I q (by simp))
  | str j=>obtain⟨t',rfl⟩:=ry;exact PySem.EqNone.eq_none_str (fF I q (by simp))
  | _=>exact absurd (show false=true from hs) Bool.false_ne_true
 | bl i =>
  cases rx;cases y with
  | non=>cases ry;exact PySem.EqNone.eq_bool_none (fF I q (by simp))
  | bl j=>cases ry;exact eq_bool (fF I q aCA)
  | str j=>obtain⟨t',rfl⟩:=ry;exact PySem.EqMixed.eq_bool_str (fF I q (by simp))
  | _=>exact absurd (show false=true from hs) Bool.false_ne_true
 | int i =>
  obtain⟨t,rfl⟩:=rx;cases y with
  | non=>cases ry;exact PySem.EqNone.eq_int_none (fF I q (by simp))
  | int j=>obtain⟨t',rfl⟩:=ry;exact eq_int (fF I q aAP)
  | str j=>obtain⟨t',rfl⟩:=ry;exact PySem.EqMixed.eq_int_str (fF I q (by simp))
  | _=>exact absurd (show false=true from hs) Bool.false_ne_true
 | str i =>
  obtain⟨t,rfl⟩:=rx;cases y with
  | non=>cases ry;exact PySem.EqNone.eq_str_none (fF I q (by simp))
  | bl j=>cases ry;exact PySem.EqMixed.eq_str_bool (fF I q (by simp))
  | int j=>obtain⟨t',rfl⟩:=ry;exact PySem.EqMixed.eq_str_int (fF I q (by simp))
  | str j=>obtain⟨t',rfl⟩:=ry;exact eq_str (fF I q aBo)
  | _=>exact absurd (show false=true from hs) Bool.false_ne_true
 | byt i =>
  obtain⟨t,rfl⟩:=rx;cases y with
  | byt j=>obtain⟨t',rfl⟩:=ry;exact PySem.W.eq_bytes (fF I q aAO)
  | _=>exact absurd (show false=true from hs) Bool.false_ne_true
 | _=>cases y<;>exact absurd (show false=true from hs) Bool.false_ne_true
theorem j6:OpR X (compareOp .Lt) (rI0 fun i j=> .bl (decide (i<j))):=RU fun _ _ _ _ _ _ _ q=>lt_int q
theorem Q1:OpR X (compareOp .LtE) (rI0 fun i j=> .bl (decide (i<=j))):=RU fun _ _ _ _ _ _ _ q=>le_int q
theorem lX:OpR X (compareOp .Gt) (rI0 fun i j=> .bl (decide (j<i))):=RU fun _ _ _ _ _ _ _ q=>gt_int q
theorem E5:OpR X (compareOp .GtE) (rI0 fun i j=> .bl (decide (j<=i))):=RU fun _ _ _ _ _ _ _ q=>ge_int q
theorem aDn:OpR X (compareOp .Is) (fun x y H Q=>y= .non/\Q (.bl (decide (x= .non))) H):=by
 intro pins s σ H x y v u Q I rx ry h;obtain⟨rfl,q⟩:=h;cases ry;refine is_none_gen (fF I q ?_);cases x<;>first
  | (cases rx;rfl)
  | (obtain⟨t,rfl⟩:=rx;rfl)
theorem aBg:OpR X (compareOp .IsNot) (fun x y H Q=>y= .non/\Q (.bl (!decide (x= .non))) H):=by
 intro pins s σ H x y v u Q I rx ry h;obtain⟨rfl,q⟩:=h;cases ry;refine isnot_none_gen (fF I q ?_);cases x<;>first
  | (cases rx;rfl)
  | (obtain⟨t,rfl⟩:=rx;rfl)
theorem aY (b:Expr){op:CmpOp}(h:op≠ .In:=by decide)(h2:op≠ .NotIn:=by decide):behindInMarks op b=false:=by
 have e1:(op==CmpOp.In)=false:=by cases op<;>first|rfl|exact absurd rfl h
 have e2:(op==CmpOp.NotIn)=false:=by cases op<;>first|rfl|exact absurd rfl h2
 cases b<;>simp[behindInMarks,e1,e2]
theorem v9 {op:CmpOp}{r:R2} (ho:OpR X (compareOp op) r) (ha:PE X a ta) (hb:PE X b tb) (hm:behindInMarks op b=false):PE X (.Compare a [op] [b] pos) (tOp r ta tb):=by
 intro pins s σ H Q I h;exact wpAny_Compare1 (XH ha hb I h fun v u s2 x y H2 I2 rx ry q=>ho pins s2 σ H2 x y v u Q I2 rx ry q) hm
def QV (t:TE):TT:=fun σ H Q=>t σ H fun x H'=>∃k,x= .bl k/\Q k H'
theorem aW {op:CmpOp}{r:R2} (ho:OpR X (compareOp op) r) (ha:PE X a ta) (hb:PE X b tb) (hm:behindInMarks op b=false):PT X (.Compare a [op] [b] pos) (QV (tOp r ta tb)):=by
 intro pins s σ H Q I h;refine wpAny_isTrue_Compare1 (thn (ha pins s σ H _ I h) fun v s1 ⟨x,H1,I1,r1,q1⟩=>thn (hb pins s1 σ H1 _ I1 q1) fun u s2 ⟨y,H2,I2,r2,q2⟩ =>
  thn (ho pins s2 σ H2 x y v u _ I2 r1 r2 q2) fun c s3 ⟨z,H3,I3,r3,k,e,q3⟩=> ?_) hm
 subst e;cases r3;exact wpAny_truthy_bool ⟨H3,I3,q3⟩
def KS (r r':R2)(ta tb tc:TE):TE:=fun σ H Q=>ta σ H fun x H1=>tb σ H1 fun y H2=>r x y H2 fun z H3=>∃k,z= .bl k ∧
 (if k=true then tc σ H3 fun w' H4=>r' y w' H4 Q else Q (.bl false) H3)
theorem MY {op op':CmpOp}{r r':R2} (ho:OpR X (compareOp op) r) (ho':OpR X (compareOp op') r') (ha:PE X a ta) (hb:PE X b tb) (hc:PE X c tc)
  (hm:lastMarks [op,op'] [b,c]=false:=by with_unfolding_all rfl):PE X (.Compare a [op,op'] [b,c] pos) (KS r r' ta tb tc):=by
 intro pins s σ H Q I h;refine Compare_chain (thn (ha pins s σ H _ I h) fun v s1 ⟨x,H1,I1,r1,q1⟩=>chain_link (thn (hb pins s1 σ H1 _ I1 q1) fun u s2 ⟨y,H2,I2,r2,q2⟩ =>
  thn (ho pins s2 σ H2 x y v u _ I2 r1 r2 q2) fun d s3 ⟨z,H3,I3,r3,k,e,q3⟩=> ?_)) hm
 subst e;cases r3;refine wpAny_truthy_bool ?_;cases k with
 | false=>exact ite_ff ⟨.bl false,H3,I3,rfl,q3⟩
 | true=>exact ite_tt (chain_last (thn (hc pins s3 σ H3 _ I3 q3) fun w' s4 ⟨z',H4,I4,r4,q4⟩=>ho' pins s4 σ H4 y z' u w' Q I4 r2 r4 q4))
theorem XG {op op':CmpOp}{r r':R2} (ho:OpR X (compareOp op) r) (ho':OpR X (compareOp op') r') (ha:PE X a ta) (hb:PE X b tb) (hc:PE X c tc)
  (hm:lastMarks [op,op'] [b,c]=false:=by with_unfolding_all rfl):PT X (.Compare a [op,op'] [b,c] pos) (QV (KS r r' ta tb tc)):=by
 intro pins s σ H Q I h;refine isTrue_chain (thn (ha pins s σ H _ I h) fun v s1 ⟨x,H1,I1,r1,q1⟩=>test_link (thn (hb pins s1 σ H1 _ I1 q1) fun u s2 ⟨y,H2,I2,r2,q2⟩ =>
  thn (ho pins s2 σ H2 x y v u _ I2 r1 r2 q2) fun d s3 ⟨z,H3,I3,r3,k,e,q3⟩=> ?_)) hm
 subst e;cases r3;refine wpAny_truthy_bool ?_;cases k with
 | false =>
  obtain⟨k',e',q'⟩:=q3;cases e';exact ite_ff ⟨H3,I3,q'⟩
 | true =>
  refine ite_tt (test_last (thn (hc pins s3 σ H3 _ I3 q3) fun w' s4 ⟨z',H4,I4,r4,q4⟩=>thn (ho' pins s4 σ H4 y z' u w' _ I4 r2 r4 q4) fun d' s5 ⟨z2,H5,I5,r5,k2,e2,q5⟩=> ?_));subst e2;cases r5;exact wpAny_truthy_bool ⟨H5,I5,q5⟩
theorem zE:(sizeLine:Nat)<2^63:=by rw[sizeLine_eq];decide
theorem R5:OpR X (binaryOp .Add) (fun x y H Q=>∃i j,x= .str i/\y= .str j/\i.length+j.length<=sizeLine/\Q (.str (i++j)) H):=by
 intro pins s σ H x y v u Q I rx ry h;obtain⟨i,j,rfl,rfl,hz,q⟩:=h;obtain⟨t,rfl⟩:=rx;obtain⟨t',rfl⟩:=ry;exact add_str (fun t' tk=>⟨.str (i++j),H,I.tok _,⟨_,rfl⟩,q⟩) hz
theorem qH {x:V}{us:List Value} (r:Vals [x] us):∃u,us=[u]/\RelV x u:=by
 cases r with
 | cons r1 r2=>cases r2;exact⟨_,rfl,r1⟩
theorem Z1 {x y:V}{us:List Value} (r:Vals [x,y] us):∃u w',us=[u,w']/\RelV x u/\RelV y w':=by
 cases r with
 | cons r1 r2 =>
  cases r2 with
  | cons r3 r4=>cases r4;exact⟨_,_,rfl,r1,r3⟩
theorem UC (hc:X.calm=true):fK X (.builtin "min") (fun xs H Q=>∃i j,xs=[.int i,.int j]/\Q (.int (if j<i then j else i)) H):=by
 intro pins s σ H xs us Q I r h;obtain⟨i,j,rfl,q⟩:=h;obtain⟨u,w',rfl,⟨t,rfl⟩,⟨t',rfl⟩⟩:=Z1 r;refine min_two_ints (I.ok.hd hc) fun h' tk k=>⟨_,H,I.kept k,?_,q⟩
 by_cases hj:j<i
 ·rw[if_pos hj,if_pos hj];exact⟨_,rfl⟩
 ·rw[if_neg hj,if_neg hj];exact⟨_,rfl⟩
end
end L2
namespace L2
open PySem PySem.Spec PyProof.Rows
structure ObjM (h:Heap)(x dx C:Addr)(mA:Str->Option Value):Prop where
 obj:h.get? x=some (PySem.W.instObj C dx)
 ns:h.Ns1 dx mA
 ne:dx≠x
theorem U5 {h:Heap}{dx:Addr}{mA:Str->Option Value} (n:h.Ns1 dx mA):∃od,h.get? dx=some od/\∀name,PySem.W.lookIn name od=some (mA name):=by
 obtain⟨o,es,ep,ho,hd,hk,_,hm⟩:=n;refine⟨o,ho,fun name=> ?_⟩;have e:=hm name;unfold nsFind findBy at e;rw[←Array.find?_toList]at e;unfold PySem.W.lookIn;rw[hd]
 dsimp only
 split
 ·rename_i y q;rw[q]at e;exact congrArg some e
 ·rename_i q;rw[q]at e;have a:es.toList.any (·.refKey)=false:=by
   rw[List.any_eq_false];intro y hy;obtain⟨z,t,hkey⟩:=hk y (Array.mem_toList_iff.mp hy);simp[DictEntry.refKey,hkey]
  have a':¬es.toList.any (·.refKey)=true:=by rw[a];exact Bool.false_ne_true
  rw[if_neg a'];exact congrArg some e
theorem ObjM.look {h:Heap}{x dx C:Addr}{mA:Str->Option Value} (I:ObjM h x dx C mA):∃od,PySem.W.InstAt h x (PySem.W.instObj C dx) C (some od)/\∀name,PySem.W.lookIn name od=some (mA name) :=
 let ⟨od,ho,hl⟩:=U5 I.ns
 ⟨od,⟨I.obj,rfl,rfl,ho⟩,hl⟩
section
variable {prog:Program}{w:World}{A:Around}{E:Value->Shared->Prop}{s:Shared}{K:PySem.W.Frag}{x dx C f:Addr}{mA:Str->Option Value}{name:Str}{v:Value}
theorem aAx {expr:Bool}{Q:Value->Shared->Prop} (X:K.In s.heap) (I:ObjM s.heap x dx C mA) (hg:PySem.W.plainGet K C name=true) (hh:PySem.W.hasDictIn K C=true)
  (ha:PySem.W.findIn K (.ref C) name=some none)(hv:mA name=some v)(hv':PySem.W.handedIn v=true)(h:Q v { s with toks:=s.toks+1 }) :
  wpAny (model prog w) A (getAttr (.ref x) name expr) Q E s:=by
 obtain⟨od,J,hl⟩:=I.look;exact PySem.W.get_value X J (PySem.W.plainGet_of hg).1 (PySem.W.findObj_own hh ha rfl (by rw[hl,hv])) hv' h
theorem W3 {pl:Sem Bool}{Q:Value×List Value->Shared->Prop} (X:K.In s.heap) (I:ObjM s.heap x dx C mA) (hg:PySem.W.plainGet K C name=true)
  (hf:PySem.W.findIn K (.ref C) name=some (some (.ref f)))(ht:PySem.W.isFn K (.ref f)=true)(hv:mA name=none)(h:Q (.ref f,[.ref x]) s) :
  wpAny (model prog w) A (getMethod (.ref x) name pl) Q E s:=by
 obtain⟨od,J,hl⟩:=I.look;exact PySem.W.method_fn X J (PySem.W.plainGet_of hg).1 (PySem.W.plainGet_of hg).2 hf (beq_iff_eq.mp ht) (by show (PySem.W.lookIn name od).map (·.isSome)=some false;rw[hl,hv];rfl) h
theorem aA0 {ns:List Str}{Q:Unit->Shared->Prop} (X:K.In s.heap) (I:ObjM s.heap x dx C mA)
  (hs:PySem.W.findIn K (.ref C) "__setattr__" =some (some (.builtin "object.__setattr__")))(hp:PySem.W.plainOver K C=true)(ht:PySem.W.takerIn K C name=some none)(hh:PySem.W.hasDictIn K C=true)
  (hw:PySem.Within mA ns)(hsz:ns.length<=sizeLine)
  (h:∀h',ObjM h' x dx C (fun y=>if y=name then some v else mA y)->Heap.SameBut dx s.heap h'->Q () { s with heap:=h',toks:=s.toks+2 }) :
  wpAny (model prog w) A (setAttr (.ref x) name v) Q E s:=by
 obtain⟨od,J,hl⟩:=I.look;refine PySem.W.set_plain X J hs (PySem.W.osa_open (s:={ s with toks:=s.toks+1 }) (r:=none) X J hp ht fun b=> ?_);obtain⟨cd,hc,hd'⟩:=PySem.W.any_some hh;have hx:s.heap.get? x=some ⟨.ref C,some dx,.plain,#[]⟩:=I.obj;refine wpAny_bind (wpAny_pure (wpAny_bind (wpAny_bind (wpAny_loadPart hx (wpAny_bind (PySem.W.Looks.here (s:={ s with toks:=s.toks+1 }) (PySem.W.looks_clsIn X hc) ?_))))));rw[hd'];refine wpAny_pure (a:=some dx) (wpAny_bind (wpAny_pure (wpAny_bind ?_)));refine wpAny_nsSet1 (s:={ s with toks:=s.toks+1 }) I.ns fun h' hn2 hs2=> ?_;obtain⟨oD,esD,epD,hoD,hdD,hcD⟩:=hn2.count (PySem.Within.cons name v hw);refine wpAny_bind (wpAny_lookBehind hoD (by rw[hdD];exact pastItsLine_dict (Nat.le_trans hcD (by rw[List.length_cons];omega))) ?_);exact wpAny_pure (h _ ⟨(hs2.2 _ (Ne.symm I.ne)).trans I.obj,hn2,I.ne⟩ hs2)
theorem XX {R:Result->Shared->Prop}{vs:List Value}{kw:List (Str×Value)} (X:K.In s.heap) (hm:PySem.W.makesIn K C=true)
  (hi:PySem.W.findIn K (.ref C) "__init__" =some (some (.ref f)))(hf:PySem.W.typeIn K (.ref f)=some (.type "function"))
  (h:codeAny (model prog w) (A.under (.builtin "type.__call__" ⟨.ref C::vs,kw⟩)) (.call (.ref f) ⟨.ref (s.heap.objs.size+1)::vs,kw⟩) (PySem.W.InitBack (s.heap.objs.size+1) R)
   { s with heap:=(s.heap.push PySem.W.emptyDict).push (PySem.W.instObj C s.heap.objs.size) }) :
  codeAny (model prog w) A (.call (.ref C) ⟨vs,kw⟩) R s:=by
 obtain⟨hh,g,d,t,os⟩:=s;exact PySem.W.make_core (PySem.W.makes_of X hm) (PySem.W.looks_findIn X hi) (fun self=>PySem.W.bind_fn X self hf) (.inl rfl) h
end
def cZ (f:Str)(v:V):List (Str×V)->List (Str×V)
 | []=>[(f,v)]
 | (g,x)::r=>if g=f then (g,v)::r else (g,x)::cZ f v r
theorem qI (f g:Str)(v:V):∀fs:List (Str×V),(cZ f v fs).lookup g=if g=f then some v else fs.lookup g
 | []=>by
  show List.lookup g [(f,v)]=_
  by_cases h:g=f
  ·have hb:(g==f)=true:=beq_iff_eq.mpr h;simp only[List.lookup,hb,if_pos h]
  ·have hb:(g==f)=false:=beq_eq_false_iff_ne.mpr h;simp only[List.lookup,hb,if_neg h]
 | (k,x)::r=>by
  have ih:=qI f g v r;rw[show cZ f v ((k,x)::r)=(if k=f then (k,v)::r else (k,x)::cZ f v r) from rfl]
  by_cases hk:k=f
  ·rw[if_pos hk]
   by_cases h:g=k
   ·have hb:(g==k)=true:=beq_iff_eq.mpr h;simp only[List.lookup,hb,if_pos (h.trans hk)]
   ·have hb:(g==k)=false:=beq_eq_false_iff_ne.mpr h;simp only[List.lookup,hb,if_neg (fun e:g=f=>h (e.trans hk.symm))]
  ·rw[if_neg hk]
   by_cases h:g=k
   ·have hb:(g==k)=true:=beq_iff_eq.mpr h;simp only[List.lookup,hb,if_neg (fun e:g=f=>hk (h.symm.trans e))]
   ·have hb:(g==k)=false:=beq_eq_false_iff_ne.mpr h;simp only[List.lookup,hb];exact ih
theorem zD (f:Str)(v:V):∀fs:List (Str×V),f∈(cZ f v fs).map (·.1)/\∀g,g∈fs.map (·.1)->g∈(cZ f v fs).map (·.1)
 | []=>⟨by simp[cZ],fun g h=>by simp at h⟩
 | (k,x)::r=>by
  obtain⟨i1,i2⟩:=zD f v r;rw[show cZ f v ((k,x)::r)=(if k=f then (k,v)::r else (k,x)::cZ f v r) from rfl]
  by_cases hk:k=f
  ·rw[if_pos hk];subst hk;exact⟨by simp,fun g h=>by simpa using h⟩
  ·rw[if_neg hk];refine⟨?_,fun g h=> ?_⟩
   ·rw[List.map_cons];exact List.mem_cons_of_mem _ i1
   ·rw[List.map_cons]at h ⊢;rcases List.mem_cons.mp h with e|e
    ·exact List.mem_cons.mpr (.inl e)
    ·exact List.mem_cons_of_mem _ (i2 g e)
theorem CH (f:Str)(v:V):∀fs:List (Str×V),(cZ f v fs).length<=fs.length+1
 | []=>by simp[cZ]
 | (k,x)::r=>by
  have ih:=CH f v r;rw[show cZ f v ((k,x)::r)=(if k=f then (k,v)::r else (k,x)::cZ f v r) from rfl]
  by_cases hk:k=f
  ·rw[if_pos hk,List.length_cons,List.length_cons];omega
  ·rw[if_neg hk,List.length_cons,List.length_cons];omega
theorem RelO.some_of {v:V}{o:Option Value} (r:RelO (some v) o):∃u,o=some u/\RelV v u:=by
 cases o with
 | none=>exact(show False from r).elim
 | some u=>exact⟨u,rfl,r⟩
theorem RelO.none_of {o:Option Value}(r:RelO none o):o=none:=by
 cases o with
 | none=>rfl
 | some u=>exact(show False from r).elim
theorem zV {v:V}{u:Value} (r:RelV v u):PySem.W.handedIn u=true:=by
 cases v with
 | non=>cases (show u=Value.none from r);rfl
 | bl b=>cases (show u=Value.bool b from r);rfl
 | int i=>obtain⟨t,e⟩:=(show ∃t,u=Value.int i t from r);cases e;rfl
 | str x=>obtain⟨t,e⟩:=(show ∃t,u=Value.str x t from r);cases e;rfl
 | byt b=>obtain⟨t,e⟩:=(show ∃t,u=Value.bytes b t from r);cases e;rfl
 | flt b=>obtain⟨t,e⟩:=(show ∃t,u=Value.float b t from r);cases e;rfl
 | ref a=>cases (show u=Value.ref a from r);rfl
 | ty n=>cases (show u=Value.type n from r);rfl
section
variable {P:Program}{w:World}{H H':Hp}{h h':Heap}{a C dx:Addr}{fs fs':List (Str×V)}
theorem AJ (hok:HOk P w H h)(e:H a=some (.ins C dx fs)):∃mA,ObjM h a dx C mA/\(∀f,RelO (fs.lookup f) (mA f))/\PySem.Within mA (fs.map (·.1))/\fs.length<=1000/\H dx=some (.own a):=by
 obtain⟨d,z,ne,ob,mA,n,r,q⟩:=(show ObjOk P w H h a (.ins C dx fs) from hok a _ e)
 exact⟨mA,⟨ob,n,ne⟩,r,q,z,d⟩
end
structure Cls (K:PySem.W.Frag)(C:Addr):Prop where
 pg:PySem.W.plainGet K C Str.empty=true
 hd:PySem.W.hasDictIn K C=true
 po:PySem.W.plainOver K C=true
 sa:PySem.W.findIn K (.ref C) "__setattr__" =some (some (.builtin "object.__setattr__"))
theorem Cls.get {K:PySem.W.Frag}{C:Addr} (c:Cls K C) (f:Str):PySem.W.plainGet K C f=true:=c.pg
def NoAttr (K:PySem.W.Frag)(C:Addr)(f:Str):Prop:=PySem.W.findIn K (.ref C) f=some none
theorem NoAttr.taker {K:PySem.W.Frag}{C:Addr}{f:Str} (n:NoAttr K C f):PySem.W.takerIn K C f=some none:=by
 unfold PySem.W.takerIn;rw[show PySem.W.findIn K (.ref C) f=some none from n];rfl
structure dP (K:PySem.W.Frag)(C:Addr)(m:Str)(f:Addr):Prop where
 at_:PySem.W.findIn K (.ref C) m=some (some (.ref f))
 fn:PySem.W.isFn K (.ref f)=true
 kp:PySem.W.keepIn K (.ref f)=true
section
variable {X:Cx}{pins:List (Addr×Obj)}{σ:St}{H:Hp}{s:Shared}{a C dx:Addr}{fs:List (Str×V)}{f:Str}{v:V}{A:Around}{E:Value->Shared->Prop}
theorem RB {b:Bool}{Q:Value->Shared->Prop} (I:Inv X pins σ H s) (e:H a=some (.ins C dx fs)) (c:Cls X.K C) (n:NoAttr X.K C f) (l:fs.lookup f=some v)
  (h:∀u s',Inv X pins σ H s'->RelV v u->Q u s'):wpAny (model X.prog X.w) A (getAttr (.ref a) f b) Q E s:=by
 obtain⟨mA,O,r,_,_,_⟩:=AJ I.hok e;obtain⟨u,hu,ru⟩:=RelO.some_of (v:=v) (o:=mA f) (by rw[←l];exact r f);exact aAx I.kIn O (c.get f) c.hd n hu (zV ru) (h u _ (I.tok _) ru)
theorem E2 {m:Str}{g:Addr}{pl:Sem Bool}{Q:Value×List Value->Shared->Prop} (I:Inv X pins σ H s) (e:H a=some (.ins C dx fs)) (c:Cls X.K C) (k:dP X.K C m g) (l:fs.lookup m=none)
  (h:Q (.ref g,[.ref a]) s):wpAny (model X.prog X.w) A (getMethod (.ref a) m pl) Q E s:=by
 obtain⟨mA,O,r,_,_,_⟩:=AJ I.hok e;have hn:mA m=none:=RelO.none_of (by rw[←l];exact r m);exact W3 I.kIn O (c.get m) k.at_ k.fn hn h
theorem QQ {y:V}{u:Value}{Q:Unit->Shared->Prop} (I:Inv X pins σ H s) (e:H a=some (.ins C dx fs)) (c:Cls X.K C) (n:NoAttr X.K C f) (hl:fs.length<1000) (ry:RelV y u)
  (h:∀s',Inv X pins σ (upd H a (.ins C dx (cZ f y fs))) s'->Q () s'):wpAny (model X.prog X.w) A (setAttr (.ref a) f u) Q E s:=by
 obtain⟨mA,O,r,wi,_,ho⟩:=AJ I.hok e;have hz:(fs.map (·.1)).length<=sizeLine:=by rw[List.length_map,sizeLine_eq];omega
 refine aA0 I.kIn O c.sa c.po n.taker c.hd wi hz fun h' O' sb=>h _ ?_;have hd:∃o,h'.get? dx=some o:=let ⟨o,_,_,e',_⟩:=O'.ns;⟨o,e'⟩;refine I.write (x:=a) (e:=dx) (by rw[e];exact True.intro) (.inr ho) (fun b q hb z=>(sb.2 b hb).trans z) hd ?_;refine⟨by rw[aU O.ne];exact ho,?_,O.ne,O'.obj,_,O'.ns,fun g=> ?_,fun g hg=> ?_⟩
 ·have:=CH f y fs;omega
 ·show RelO ((cZ f y fs).lookup g) (if g=f then some u else mA g);rw[qI]
  by_cases q:g=f
  ·rw[if_pos q,if_pos q];exact ry
  ·rw[if_neg q,if_neg q];exact r g
 ·by_cases q:g=f
  ·rw[q];exact(zD f y fs).1
  ·refine(zD f y fs).2 g (wi g fun z=>hg ?_);show (if g=f then some u else mA g)=none;rw[if_neg q];exact z
theorem Inv.made (I:Inv X pins σ H s):Inv X pins σ (upd (upd H s.heap.objs.size (.own (s.heap.objs.size+1))) (s.heap.objs.size+1) (.ins C s.heap.objs.size []))
  { s with heap:=(s.heap.push PySem.W.emptyDict).push (PySem.W.instObj C s.heap.objs.size) }:=by
 have e1:(s.heap.push PySem.W.emptyDict).get? s.heap.objs.size=some PySem.W.emptyDict:=Heap.get?_push_size s.heap rfl;have e2:((s.heap.push PySem.W.emptyDict).push (PySem.W.instObj C s.heap.objs.size)).get? (s.heap.objs.size+1)=some (PySem.W.instObj C s.heap.objs.size):=by
  have:=Heap.get?_push_size (s.heap.push PySem.W.emptyDict) (o:=PySem.W.instObj C s.heap.objs.size) rfl
  rwa [Heap.size_push]at this
 have e3:(s.heap.push PySem.W.emptyDict).Ns s.heap.objs.size (fun _=>none):=⟨PySem.W.emptyDict,#[],_,e1,rfl,(fun e he=>absurd he (by simp)),fun _=>rfl⟩
 have I1:=I.laid (a:=s.heap.objs.size) (o:= .own (s.heap.objs.size+1)) (h':=s.heap.push PySem.W.emptyDict) (t':=s.toks) (fun b u q=>Heap.get?_push_of_some _ q) (Nat.le_refl _) ⟨_,e1⟩;refine I1.laid (a:=s.heap.objs.size+1) (o:= .ins C s.heap.objs.size []) (t':=s.toks) (fun b u q=>Heap.get?_push_of_some _ q) (Nat.le_of_eq (Heap.size_push _ _)) ?_;have ne:s.heap.objs.size≠s.heap.objs.size+1:=Nat.ne_of_lt (Nat.lt_succ_self _);refine⟨by rw[aU ne,bJ],Nat.zero_le _,ne,e2,fun _=>none,(Heap.Ns1.of_empty e3).at fun o q=>Heap.get?_push_of_some _ q,fun _=>True.intro,fun y hy=>absurd rfl hy⟩
theorem aAQ {prog:Program}{w:World}{env:Env}{e:Expr}{f:Str}{pos:Pos}{s:Shared}{Q:Value->Shared->Prop} (hb:attributeBase e f env (eval e env)=eval e env)
  (h:wpAny (model prog w) A (eval e env) (fun o s₁=>wpAny (model prog w) A (getAttr o f true) Q E s₁) E s):wpAny (model prog w) A (eval (.Attribute e f pos) env) Q E s :=
 Attribute_any_ h (by rw[arm_eval_Attribute,hb])
end
def W9 (K:PySem.W.Frag)(ta:TE)(f:Str):TE:=fun σ H Q=>ta σ H fun x H1=>∃a C dx fs v,x= .ref a/\H1 a=some (.ins C dx fs)/\Cls K C/\NoAttr K C f/\fs.lookup f=some v/\Q v H1
def aCp (K:PySem.W.Frag)(ta tv:TE)(f:Str):TS:=fun D σ H=>tv σ H fun y H1=>ta σ H1 fun x H2=>∃a C dx fs,x= .ref a/\H2 a=some (.ins C dx fs)/\Cls K C/\NoAttr K C f/\fs.length<1000 ∧
 D.nx σ (upd H2 a (.ins C dx (cZ f y fs)))
def aDF (X:Cx)(op:Operator)(rd:V->V->Hp->VK->Prop):Prop :=
 ∀(pins:List (Addr×Obj)) (s:Shared) (σ:St) (H:Hp) (x y:V) (u v:Value) (Q:VK),Inv X pins σ H s->RelV x u->RelV y v->rd x y H Q->wpAny (model X.prog X.w) X.A (inplaceOp op u v) (EP X pins σ Q) X.xe s
section
variable {X:Cx}{o e value:Expr}{f:Str}{pos pos' tpos:Pos}{ta tv:TE}
theorem bV (he:PE X e ta)(hb:attributeBase e f X.env (eval e X.env)=eval e X.env):PE X (.Attribute e f pos) (W9 X.K ta f):=by
 intro pins s σ H Q I h;refine aAQ hb (thn (he pins s σ H _ I h) fun u s1 ⟨x,H1,I1,rx,a,C,dx,fs,v,ex,ea,c,n,l,q⟩=> ?_);subst ex;obtain rfl:u=Value.ref a:=rx;exact RB I1 ea c n l fun u' s2 I2 ru=>⟨v,H1,I2,ru,q⟩
theorem gQ (ha:PE X o ta)(hv:PE X value tv)(hs:swapsWith value (some (.Attribute o f pos')) pos.line X.env=pure false):PS X (.Assign [.Attribute o f pos'] value pos) (aCp X.K ta tv f):=by
 intro pins s σ H D I h;refine plainObj_wpAny_Assign_Attribute (thn (hv pins s σ H _ I h) fun u s1 ⟨y,H1,I1,ry,q⟩=>thn (ha pins s1 σ H1 _ I1 q) fun ov s2 ⟨x,H2,I2,rx,a,C,dx,fs,ex,ea,c,n,l,q2⟩=> ?_) hs;subst ex;obtain rfl:ov=Value.ref a:=rx;exact QQ I2 ea c n l ry fun s3 I3=>⟨σ,_,I3,q2⟩
def aDz:V->V->Hp->VK->Prop:=fun x y H Q=>∃i j,x= .int i/\y= .int j/\Q (.int (i+j)) H
theorem aDJ:aDF X .Add aDz:=by
 rintro pins s σ H x y u v Q I rx ry ⟨i,j,rfl,rfl,q⟩;obtain⟨t,rfl⟩:=(show ∃t,u=Value.int i t from rx)
 obtain⟨t',rfl⟩:=(show ∃t',v=Value.int j t' from ry)
 exact PyProof.Rows.iadd_int ⟨.int (i+j),H,I.tok _,⟨_,rfl⟩,q⟩
end
section
variable {X:Cx}{pins:List (Addr×Obj)}{σ:St}{H:Hp}{s:Shared}{A:Around}{E:Value->Shared->Prop}{Q:Value->Shared->Prop}{c:Value}{b:Bool}
inductive mB (K:PySem.W.Frag)(H:Hp):V->Value->Prop where
 | non:mB K H .non (.type "NoneType")
 | bl (x:Bool):mB K H (.bl x) (.type "bool")
 | int (i:Int):mB K H (.int i) (.type "int")
 | str (x:Str):mB K H (.str x) (.type "str")
 | flt (x:UInt64):mB K H (.flt x) (.type "float")
 | lst {a:Addr}{xs:List V} (e:H a=some (.lst xs)):mB K H (.ref a) (.type "list")
 | frz {a:Addr}{o:Obj}{xs:List V} (e:H a=some (.frz o (.lst xs))):mB K H (.ref a) (.type "list")
 | tup {a:Addr}{xs:List V} (e:H a=some (.tup xs)):mB K H (.ref a) (.type "tuple")
 | dK {a:Addr}{kvs:List (Key×V)} (e:H a=some (.dK kvs)):mB K H (.ref a) (.type "dict")
 | dT {a:Addr}{kvs:List (List Key×V)} (e:H a=some (.dT kvs)):mB K H (.ref a) (.type "dict")
 | ins {a C dx:Addr}{fs:List (Str×V)} (e:H a=some (.ins C dx fs)) (cl:Cls K C) (ha:PySem.W.findIn K (.ref C) "__class__" =some (some (.builtin "object.__class__")))
   (hn:PySem.W.specialIn K (.builtin "object.__class__") "__get__" =some (some (.builtin "getset_descriptor.__get__")))(htk:PySem.W.takesIn K (.builtin "object.__class__")=some true)
   (hm:PySem.W.mroIn K C (.type "object")=some true):mB K H (.ref a) (.ref C)
theorem U0 {x:V}{u t:Value} (I:Inv X pins σ H s) (rx:RelV x u) (ty:mB X.K H x t) (e:PySem.W.kitOne X.K t c=some b) (h:∀tk,Q (.bool b) { s with toks:=tk }) :
  wpAny (model X.prog X.w) A (call (.builtin "isinstance") [u,c]) Q E s:=by
 cases ty with
 | non=>cases (show u=Value.none from rx);exact PySem.W.kia_one PySem.W.kitx_none I.kIn True.intro e (fun z=>nomatch z) h
 | bl y=>cases (show u=Value.bool y from rx);exact PySem.W.kia_one PySem.W.kitx_bool I.kIn True.intro e (fun z=>nomatch z) h
 | int i=>obtain⟨t,q⟩:=(show ∃t,u=Value.int i t from rx);cases q;exact PySem.W.kia_one PySem.W.kitx_int I.kIn True.intro e (fun z=>nomatch z) h
 | str y=>obtain⟨t,q⟩:=(show ∃t,u=Value.str y t from rx);cases q;exact PySem.W.kia_one PySem.W.kitx_str I.kIn True.intro e (fun z=>nomatch z) h
 | flt y=>obtain⟨t,q⟩:=(show ∃t,u=Value.float y t from rx);cases q;exact PySem.W.kia_one PySem.W.kitx_float I.kIn True.intro e (fun z=>nomatch z) h
 | @lst a xs ea =>
  cases (show u=Value.ref a from rx);obtain⟨_,_,n,_,h1⟩:=(show ObjOk X.prog X.w H s.heap a (.lst xs) from I.hok a _ ea)
  exact PySem.W.kia_one PySem.W.kitx_list I.kIn ⟨_,h1,rfl⟩ e (fun z=>nomatch z) h
 | @frz a ob xs ea =>
  cases (show u=Value.ref a from rx);obtain⟨_,_,_,n,_,h1⟩:=(show ObjOk X.prog X.w H s.heap a (.frz ob (.lst xs)) from I.hok a _ ea)
  exact PySem.W.kia_one PySem.W.kitx_list I.kIn ⟨_,h1,rfl⟩ e (fun z=>nomatch z) h
 | @tup a xs ea =>
  cases (show u=Value.ref a from rx);obtain⟨_,_,_,p⟩:=(show ObjOk X.prog X.w H s.heap a (.tup xs) from I.hok a _ ea)
  obtain⟨o,h1,h2,_⟩:=p;exact PySem.W.kia_one PySem.W.kitx_tuple I.kIn ⟨o,h1,h2⟩ e (fun z=>nomatch z) h
 | @dK a kvs ea =>
  cases (show u=Value.ref a from rx);obtain⟨_,_,vs,_,p⟩:=(show ObjOk X.prog X.w H s.heap a (.dK kvs) from I.hok a _ ea)
  obtain⟨o,es,ep,h1,h2,_⟩:=p;exact PySem.W.kia_one PySem.W.kitx_dict I.kIn ⟨o,h1,h2.1⟩ e (fun z=>nomatch z) h
 | @dT a kvs ea =>
  cases (show u=Value.ref a from rx);obtain⟨_,_,xs,_,o,es,ep,h1,h2,_⟩:=(show ObjOk X.prog X.w H s.heap a (.dT kvs) from I.hok a _ ea)
  exact PySem.W.kia_one PySem.W.kitx_dict I.kIn ⟨o,h1,h2.1⟩ e (fun z=>nomatch z) h
 | @ins a C dx fs ea cl ha hn htk hm =>
  cases (show u=Value.ref a from rx);obtain⟨mA,O,_⟩:=AJ I.hok ea;obtain⟨od,J,_⟩:=O.look;exact PySem.W.kia_one (PySem.W.kitx_own (cl.get _) cl.hd ha hn htk hm) I.kIn J e (fun z=>nomatch z) h
end
end L2
namespace L2
open PySem PySem.Spec PyProof.Rows
structure Room (k:Nat)(A:Around):Prop where
 hd:A.handled=none
 dp:A.depth+3 * k+5<recursionLimit
 un:A.units+16 * k+200<cLine
theorem Room.mono {j k:Nat}{A:Around} (r:Room k A) (h:j<=k):Room j A:=⟨r.hd,by have:=r.dp;omega,by have:=r.un;omega⟩
theorem Room.deeper {k:Nat}{A:Around} (r:Room (k+1) A) (env:Env):Room k (A.deeper env) :=
 ⟨r.hd,by have:=r.dp;show A.depth+1+3 * k+5<_;omega,by have:=r.un;show A.units+3+16 * k+200<_;omega⟩
theorem RF {A:Around}{C:Addr}{us:List Value}{kw:List (Str×Value)}:(A.under (.builtin "type.__call__" ⟨.ref C::us,kw⟩)).depth=A.depth+1:=by
 first|rfl|simp[Around.under,Code.weight,Code.isCreation,Code.isGuard,Code.isCaller,Code.frames,Code.isFrame,guardIds]
theorem RL {A:Around}{C:Addr}{us:List Value}{kw:List (Str×Value)}:(A.under (.builtin "type.__call__" ⟨.ref C::us,kw⟩)).units=A.units+1:=by
 first|rfl|simp[Around.under,Code.cUnits,Code.frames,Code.isFrame]
theorem Room.make {k:Nat}{A:Around} (r:Room (k+1) A) (C:Addr) (us:List Value) (kw:List (Str×Value)):Room k (A.under (.builtin "type.__call__" ⟨.ref C::us,kw⟩)) :=
 ⟨r.hd,by have:=r.dp;rw[RF];omega,by have:=r.un;rw[RL];omega⟩
theorem Room.depth {k:Nat}{A:Around} (r:Room k A):A.depth<recursionLimit:=by have:=r.dp;omega
theorem Room.units0 {k:Nat}{A:Around} (r:Room k A):A.units<cLine:=by have:=r.un;omega
def RT:TA:=fun _ H Q=>Q [] H
def Z5 (ta:TE)(tr:TA):TA:=fun σ H Q=>ta σ H fun x H1=>tr σ H1 fun xs H2=>Q (x::xs) H2
section
variable {X:Cx}{e:Expr}{es:List Expr}{te:TE}{t:TA}{pos:Pos}
theorem aE:PA X [] RT:=fun _ _ _ _ H Q I h=>Calls.spliced_nil ⟨[],H,I,.nil,h⟩
theorem aA (ha:PE X e te)(hr:PA X es t)(hs:starEach (e::es) X.env=(false,eval e X.env)::starEach es X.env:=by rfl):PA X (e::es) (Z5 te t):=by
 intro pos pins s σ H Q I h;rw[hs];show wpAny _ _ (spliced ((false,eval e X.env)::backTo pos (starEach es X.env))) _ _ s;refine Calls.spliced_cons (thn (ha pins s σ H _ I h) fun u s1 ⟨x,H1,I1,r1,q1⟩=> ?_);exact thn (hr pos pins s1 σ H1 _ I1 q1) fun us s2 ⟨xs,H2,I2,r2,q2⟩=>⟨x::xs,H2,I2,.cons r1 r2,q2⟩
def aDH (t:TA):TE:=fun σ H Q=>t σ H fun xs H1=>xs.length<=sizeLine/\∀p,H1 p=none->Q (.ref p) (upd H1 p (.tup xs))
def aDg (t:TA):TE:=fun σ H Q=>t σ H fun xs H1=>xs.length<=sizeLine/\∀p,H1 p=none->Q (.ref p) (upd H1 p (.lst xs))
theorem bU {x1}(h:PA X es t):PE X (.Tuple es x1 pos) (aDH t):=by
 intro pins s σ H Q I hq;refine wpAny_Tuple_spliced (thn (h pos pins s σ H _ I hq) fun us s1 ⟨xs,H1,I1,r,z,q⟩=>⟨by rw[←r.length];exact z,?_⟩);have hf:H1 s1.heap.objs.size=none:=I1.hok.fresh (Nat.le_refl _);refine⟨.ref s1.heap.objs.size,upd H1 s1.heap.objs.size (.tup xs),I1.laid (t':=s1.toks) (fun b u e=>Heap.get?_push_of_some _ e) (Nat.le_refl _) ?_,rfl,q _ hf⟩;exact⟨z,us,r,⟨_,Heap.get?_push_size _ rfl,rfl,_,rfl⟩⟩
theorem dU (h:PA X es t):PE X (.List es pos) (aDg t):=by
 intro pins s σ H Q I hq;refine wpAny_List_spliced (thn (h pos pins s σ H _ I hq) fun us s1 ⟨xs,H1,I1,r,z,q⟩=>⟨by rw[←r.length];exact z,?_⟩);have hf:H1 s1.heap.objs.size=none:=I1.hok.fresh (Nat.le_refl _);refine⟨.ref s1.heap.objs.size,upd H1 s1.heap.objs.size (.lst xs),I1.laid (t':=s1.toks) (fun b u e=>Heap.get?_push_of_some _ e) (Nat.le_refl _) ?_,rfl,q _ hf⟩;exact⟨z,us,0,r,Heap.get?_push_size _ rfl⟩
end
abbrev Sp:=List V->Hp->VK->XK->Prop
abbrev CXT:=List Env->Hp->Shared->XK->Value->Shared->Prop
structure Env0 (P:Program)(w:World)(K:PySem.W.Frag)(mg:Str->Option Value)(base:Heap)(A:Around)(outer:List Env)(s:Shared)(H:Hp):Prop where
 frames:A.frames=some outer
 mod:Mod K mg base
 bs:∀b o,base.get? b=some o->s.heap.get? b=some o/\H b=none
 bsz:base.objs.size<=s.heap.objs.size
 funs:s.heap.FunFrames base outer
 frf:∀b∈frs outer,H b=none
 hok:HOk P w H s.heap
 bare:AllBare s.gens
def CE (outer:List Env)(P:Program)(w:World)(H:Hp)(s:Shared)(Q:VK)(u:Value)(s':Shared):Prop :=
 ∃v H',s'.os=s.os/\AllBare s'.gens/\Un (frs outer) [] H H' s.heap s'.heap/\HOk P w H' s'.heap/\RelV v u/\Q v H'
def CR (CX:CXT)(outer:List Env)(P:Program)(w:World)(H:Hp)(s:Shared)(Q:VK)(E:XK)(r:Result)(s':Shared):Prop :=
 match r with
 | .ok (.ret u)=>CE outer P w H s Q u s'
 | .ok _=>False
 | .error e=>CX outer H s E e s'
structure FnOk (P:Program)(w:World)(K:PySem.W.Frag)(mg:Str->Option Value)(base:Heap)(CX:CXT)(k:Nat)(f:Addr)(fd:FuncData)(ps:List Str)(sp:Sp):Prop where
 len:∀vs H Q E,sp vs H Q E->vs.length=ps.length
 run:∀(A:Around) (outer:List Env) (s:Shared) (H:Hp) (args:Args) (us:List Value) (vs:List V) (Q:VK) (E:XK),Room k A->Env0 P w K mg base A outer s H->BindsTo s fd args (ps.zip us)->Vals vs us->sp vs H Q E →
  codeAny (model P w) A (.call (.ref f) args) (CR CX outer P w H s Q E) s
theorem FnOk.mono {P:Program}{w:World}{K:PySem.W.Frag}{mg:Str->Option Value}{base:Heap}{CX:CXT}{j k:Nat}{f:Addr}{fd:FuncData}{ps:List Str}{sp:Sp} (F:FnOk P w K mg base CX j f fd ps sp) (h:j<=k) :
  FnOk P w K mg base CX k f fd ps sp:=⟨F.len,fun A outer s H args us vs Q E hr=>F.run A outer s H args us vs Q E (hr.mono h)⟩
theorem Env0.make {P:Program}{w:World}{K:PySem.W.Frag}{mg:Str->Option Value}{base:Heap}{A:Around}{outer:List Env}{s:Shared}{H:Hp} (e:Env0 P w K mg base A outer s H) (C:Addr) (us:List Value) (kw:List (Str×Value)) :
  Env0 P w K mg base (A.under (.builtin "type.__call__" ⟨.ref C::us,kw⟩)) outer s H:=⟨by first|exact e.frames|(simpa [Around.under,Code.envs,Code.isFrame,pushEnvs] using e.frames),e.mod,e.bs,e.bsz,e.funs,e.frf,e.hok,e.bare⟩
section
variable {X:Cx}{pins:List (Addr×Obj)}{σ:St}{H:Hp}{s s':Shared}
theorem Inv.env0 (I:Inv X pins σ H s):Env0 X.prog X.w X.K X.mg X.base X.A X.stack s H :=
 ⟨I.ok.frames,I.ok.mod,I.bs,Nat.le_trans I.ok.bsz I.sz,I.stack,I.stkFree,I.hok,I.bare⟩
theorem Inv.after {Q:VK}{u:Value} (I:Inv X pins σ H s) (h:CE X.stack X.prog X.w H s Q u s'):EP X pins σ Q u s':=by
 obtain⟨v,H',os,bare,un,hok,r,q⟩:=h;obtain⟨hh,g,d,t,os'⟩:=s';obtain rfl:os'=s.os:=os;exact⟨v,H',I.call (h':=hh) (g':=g) (d':=d) (t':=t) (ch:=[]) un hok bare (fun b z=>absurd z (by simp)),r,q⟩
end
def wX (sp:Sp)(dvs:List V)(E:XK)(t:TA):TE:=fun σ H Q=>t σ H fun vs H1=>sp (vs++dvs) H1 Q E
def RS (C:Addr)(sp:Sp)(dvs:List V)(E:XK)(t:TA):TE:=fun σ H Q=>t σ H fun vs H1=>∀x dx,H1 x=none->H1 dx=none->dx≠x →
 sp (.ref x::(vs++dvs)) (upd (upd H1 dx (.own x)) x (.ins C dx [])) (fun v H2=>v= .non/\Q (.ref x) H2) E
def Binds (K:PySem.W.Frag)(fd:FuncData)(ps:List Str)(ds:List Value):Prop :=
 ∀(s:Shared) (us:List Value),K.In s.heap->(us++ds).length=ps.length->BindsTo s fd ⟨us,[]⟩ (ps.zip (us++ds))
theorem Binds.all {K:PySem.W.Frag}{fd:FuncData}{ps:List Str} (h:∀us:List Value,us.length=ps.length->bindArgs fd ⟨us,[]⟩=pure (ps.zip us)):Binds K fd ps []:=fun s us _ hl=>by
 rw[List.append_nil]at hl ⊢;exact .of_eq (h us hl)
def yM (CX:CXT)(X:Cx)(E:XK):Prop:=∀(pins:List (Addr×Obj)) (σ:St) (H:Hp) (s:Shared) (e:Value) (s':Shared),Inv X pins σ H s->CX X.stack H s E e s'->X.xe e s'
section
variable {X:Cx}{CX:CXT}{k:Nat}{f C:Addr}{fd:FuncData}{ps:List Str}{sp:Sp}{dvs:List V}{ds:List Value}{E:XK}{x m:Str}{p pos apos:Pos}{e o:Expr}{es:List Expr}{ta:TE}{t:TA}
theorem v7 {pins:List (Addr×Obj)}{σ:St}{H:Hp}{s:Shared}{Q:VK}{us:List Value}{vs:List V} (F:FnOk X.prog X.w X.K X.mg X.base CX k f fd ps sp) (hr:Room k X.A) (hb:Binds X.K fd ps ds) (hd:Vals dvs ds) (hx:yM CX X E)
  (I:Inv X pins σ H s)(r:Vals vs us)(h:sp (vs++dvs) H Q E):wpAny (model X.prog X.w) X.A (call (.ref f) us) (EP X pins σ Q) X.xe s:=by
 have r2:Vals (vs++dvs) (us++ds):=r.append hd;have hl:(us++ds).length=ps.length:=by rw[←r2.length];exact F.len _ _ _ _ h
 refine wpAny_call (codeAny_mono (F.run X.A X.stack s H ⟨us,[]⟩ (us++ds) (vs++dvs) Q E hr I.env0 (hb s us I.kIn hl) r2 h) fun r s' hq=> ?_);cases r with
 | error e=>exact hx pins σ H s e s' I hq
 | ok fl =>
  cases fl with
  | ret u=>exact I.after hq
  | next=>exact False.elim hq
  | brk=>exact False.elim hq
  | cont=>exact False.elim hq
theorem aBi (F:FnOk X.prog X.w X.K X.mg X.base CX k f fd ps sp)(hr:Room k X.A)(hg:Gl X x)(hm:X.mg x=some (.ref f))(hk:PySem.W.keepIn X.K (.ref f)=true)(hb:Binds X.K fd ps ds)(hd:Vals dvs ds)(hx:yM CX X E)
  (ha:PA X (e::es) t)(hdb:(x==("__debug__" :Str))=false:=by decide)(he:starEach (e::es) X.env=(false,eval e X.env)::starEach es X.env:=by rfl)(hpl:(backTo pos (starEach es X.env)).any (·.1)=false:=by rfl) :
  PE X (.Call (.Name x p) (e::es) [] pos) (wX sp dvs E t):=by
 intro pins s σ H Q I h;refine wpAny_Call_Name_kw (vY I hg hm ?_ hdb);refine PySem.W.callWith_K (h₀:=X.base) I.ok.mod.kin hk (thn (ha pos pins s σ H _ I h) fun us s1 ⟨vs,H1,I1,r,q⟩=>⟨I1.kIn,?_⟩) he hpl;exact v7 F hr hb hd hx I1 r q
structure Mk (K:PySem.W.Frag)(C f:Addr):Prop where
 makes:PySem.W.makesIn K C=true
 init:PySem.W.findIn K (.ref C) "__init__" =some (some (.ref f))
 fn:PySem.W.isFn K (.ref f)=true
 kp:PySem.W.keepIn K (.ref C)=true
theorem YY {pins:List (Addr×Obj)}{σ:St}{H:Hp}{s:Shared}{Q:VK}{us:List Value}{vs:List V} (M:Mk X.K C f) (F:FnOk X.prog X.w X.K X.mg X.base CX k f fd ps sp) (hr:Room (k+1) X.A) (hb:Binds X.K fd ps ds) (hd:Vals dvs ds)
  (hx:yM CX X E)(I:Inv X pins σ H s)(r:Vals vs us)
  (h:∀x dx,H x=none->H dx=none->dx≠x->sp (.ref x::(vs++dvs)) (upd (upd H dx (.own x)) x (.ins C dx [])) (fun v H2=>v= .non/\Q (.ref x) H2) E) :
  wpAny (model X.prog X.w) X.A (call (.ref C) us) (EP X pins σ Q) X.xe s:=by
 have hq:=h (s.heap.objs.size+1) s.heap.objs.size (I.hok.fresh (Nat.le_succ _)) (I.hok.fresh (Nat.le_refl _)) (Nat.ne_of_lt (Nat.lt_succ_self _));have I2:=Inv.made (C:=C) I;have r2:Vals (V.ref (s.heap.objs.size+1)::(vs++dvs)) (Value.ref (s.heap.objs.size+1)::(us++ds)):= .cons rfl (r.append hd);have hl:(Value.ref (s.heap.objs.size+1)::us++ds).length=ps.length:=by
  have e:=r2.length;rw[F.len _ _ _ _ hq]at e;exact e.symm
 refine wpAny_call (XX (f:=f) I.kIn M.makes M.init (beq_iff_eq.mp M.fn) (codeAny_mono (F.run _ X.stack _ _ ⟨Value.ref (s.heap.objs.size+1)::us,[]⟩ (Value.ref (s.heap.objs.size+1)::(us++ds)) _ _ E (hr.make C us [])
  (I2.env0.make C us []) (hb _ (Value.ref (s.heap.objs.size+1)::us) I2.kIn hl) r2 hq) fun r s' hq'=> ?_))
 cases r with
 | error e=>exact hx pins σ _ _ e s' I2 hq'
 | ok fl =>
  cases fl with
  | ret u =>
   obtain⟨v,H',I3,rv,ev,q3⟩:=I2.after hq';subst ev;exact⟨rv,⟨V.ref (s.heap.objs.size+1),H',I3,rfl,q3⟩⟩
  | next=>exact False.elim hq'
  | brk=>exact False.elim hq'
  | cont=>exact False.elim hq'
theorem aBr (M:Mk X.K C f)(F:FnOk X.prog X.w X.K X.mg X.base CX k f fd ps sp)(hr:Room (k+1) X.A)(hg:Gl X x)(hm:X.mg x=some (.ref C))(hb:Binds X.K fd ps ds)(hd:Vals dvs ds)(hx:yM CX X E)
  (ha:PA X (e::es) t)(hdb:(x==("__debug__" :Str))=false:=by decide)(he:starEach (e::es) X.env=(false,eval e X.env)::starEach es X.env:=by rfl)(hpl:(backTo pos (starEach es X.env)).any (·.1)=false:=by rfl) :
  PE X (.Call (.Name x p) (e::es) [] pos) (RS C sp dvs E t):=by
 intro pins s σ H Q I h;refine wpAny_Call_Name_kw (vY I hg hm ?_ hdb);refine PySem.W.callWith_K (h₀:=X.base) I.ok.mod.kin M.kp (thn (ha pos pins s σ H _ I h) fun us s1 ⟨vs,H1,I1,r,q⟩=>⟨I1.kIn,?_⟩) he hpl;exact YY M F hr hb hd hx I1 r q
end
section
variable {X:Cx}{CX:CXT}{k:Nat}{f C:Addr}{fd:FuncData}{ps ks:List Str}{sp:Sp}{E:XK}{x m:Str}{p pos apos kpos:Pos}{e o:Expr}{es:List Expr}{kws:List Keyword}{te ta:TE}{t tk:TA}{nm:Option Str}
variable {g:List Value->List Value->List Value}{gV:List V->List V->List V}
end
structure aS (N P:List Str)(sc:Scope):Prop where
 kind:sc.kind= .function
 co:sc.isCoroutine=false
 gen:sc.isGenerator=false
 nd:N.Nodup
 pre:N.take P.length=P
 par:∀x∈P,sc.names.lookup x=some .local∨sc.names.lookup x=some .cell
 nofree:∀y∈sc.names,y.2≠ .free
theorem IN {kindOf:Str->Option NameKind}{x:Str}:∀{binds:List (Str×Value)}{m:Str->Option Value},(∀v,(x,v)∉binds)->bindL kindOf binds m x=m x
 | [],_,_=>rfl
 | (n,v)::r,m,h=>by
  unfold bindL;rw[IN fun w hw=>h w (List.mem_cons_of_mem _ hw)]
  split
  ·have:x≠n:=by rintro rfl;exact h v List.mem_cons_self
   simp[this]
  ·rfl
theorem II {kindOf:Str->Option NameKind}{x:Str}:∀{binds:List (Str×Value)}{m:Str->Option Value},(∀v,(x,v)∉binds)->bindC kindOf binds m x=m x
 | [],_,_=>rfl
 | (n,v)::r,m,h=>by
  unfold bindC;rw[II fun w hw=>h w (List.mem_cons_of_mem _ hw)]
  split
  ·rfl
  ·have:x≠n:=by rintro rfl;exact h v List.mem_cons_self
   simp[this]
theorem HZ {kindOf:Str->Option NameKind}{x:Str}{v:Value}:∀{P:List Str}{vs:List Value}{i:Nat}{m:Str->Option Value},P.Nodup->P[i]? =some x->vs[i]? =some v->kindOf x=some .local →
  bindL kindOf (P.zip vs) m x=some v
 | [],_,_,_,_,h,_,_=>by simp at h
 | _::_,[],_,_,_,_,h,_=>by simp at h
 | p::P,w::vs,0,m,nd,h1,h2,hk=>by
  simp at h1 h2;subst h1;subst h2;show bindL kindOf ((p,w)::P.zip vs) m p=_;unfold bindL;rw[IN fun v hv=>(List.nodup_cons.mp nd).1 (List.of_mem_zip hv).1,if_pos hk];simp
 | p::P,w::vs,i+1,m,nd,h1,h2,hk=>by
  show bindL kindOf ((p,w)::P.zip vs) m x=_;unfold bindL;exact HZ (i:=i) (List.nodup_cons.mp nd).2 (by simpa using h1) (by simpa using h2) hk
theorem IH {kindOf:Str->Option NameKind}{x:Str}{v:Value}:∀{P:List Str}{vs:List Value}{i:Nat}{m:Str->Option Value},P.Nodup->P[i]? =some x->vs[i]? =some v->kindOf x≠some .local →
  bindC kindOf (P.zip vs) m x=some v
 | [],_,_,_,_,h,_,_=>by simp at h
 | _::_,[],_,_,_,_,h,_=>by simp at h
 | p::P,w::vs,0,m,nd,h1,h2,hk=>by
  simp at h1 h2;subst h1;subst h2;show bindC kindOf ((p,w)::P.zip vs) m p=_;unfold bindC;rw[II fun v hv=>(List.nodup_cons.mp nd).1 (List.of_mem_zip hv).1,if_neg hk];simp
 | p::P,w::vs,i+1,m,nd,h1,h2,hk=>by
  show bindC kindOf ((p,w)::P.zip vs) m x=_;unfold bindC;exact IH (i:=i) (List.nodup_cons.mp nd).2 (by simpa using h1) (by simpa using h2) hk
def jH (N:List Str)(vs:List V):St:=vs.map some++List.replicate (N.length - vs.length) none
def xA (CX:CXT)(P:Program)(w:World)(K:PySem.W.Frag)(mg:Str->Option Value)(base:Heap)(N:List Str)(qual:Str)(scope:Scope)(f:Addr)(cd:Value)(A:Around)(outer:List Env)(s:Shared)(H:Hp)(E:XK):Cx where
 prog:=P
 w:=w
 K:=K
 mg:=mg
 base:=base
 A:=A.deeper (envOfC qual scope s.heap.objs.size f cd)
 N:=N
 s₀:=s
 H₀:=H
 env:=envOfC qual scope s.heap.objs.size f cd
 outer:=outer
 stack:=envOfC qual scope s.heap.objs.size f cd::outer
 ex:=[]
 calm:=true
 fn:=fun _=>true
 pn:=[]
 xe:=fun e s'=>wpAny (model P w) (A.deeper (envOfC qual scope s.heap.objs.size f cd)) (leaving (envOfC qual scope s.heap.objs.size f cd) e) (fun _ s''=>CX outer H s E e s'') (fun e' s''=>CX outer H s E e' s'') s'
theorem wQ {sc:Scope}{n:Nat}{x:Str} (h:sc.names.lookup x=some .cell):∃c,(cellsFrom n sc.names []).lookup x=some c:=by
 have q:=PySem.W.cellsFrom_some sc.names n [] (.inl h);exact Option.isSome_iff_exists.mp q
theorem IF {CX:CXT}{P:Program}{w:World}{K:PySem.W.Frag}{mg:Str->Option Value}{base:Heap}{N ps:List Str}{qual:Str}{scope:Scope}{f:Addr}{cd:Value}{A:Around}{outer:List Env}{s s1:Shared}{H:Hp}{E:XK}{us:List Value}{vs:List V}
  (S:aS N ps scope)(hd:A.handled=none)(e0:Env0 P w K mg base A outer s H)(hl:vs.length=ps.length)(r:Vals vs us)
  (x:InCallC s s.heap.objs.size (bindL (envOfC qual scope s.heap.objs.size f cd).kindOf (ps.zip us) fun _=>none) (cellsFrom (s.heap.objs.size+1) scope.names []) (bindC (envOfC qual scope s.heap.objs.size f cd).kindOf (ps.zip us) fun _=>none) s1) :
  Inv (xA CX P w K mg base N qual scope f cd A outer s H E) [] (jH N vs) H s1:=by
 have hpl:ps.length<=N.length:=by have:=congrArg List.length S.pre;rw[List.length_take]at this;omega
 obtain⟨h1,tk,rfl,hk⟩:=x.done;have noA:∀b:Addr,b∉(xA CX P w K mg base N qual scope f cd A outer s H E).ex:=fun b z=>absurd (show b∈([]:List Addr) from z) (by simp);refine⟨⟨e0.mod,S.kind,rfl,rfl,Nat.le_refl _,fun y z c h1 h2=> ?_,fun y hy=> ?_,fun y c _ h=> ?_,fun _=>hd,Around.frames_deeper e0.frames,.inr ⟨rfl,rfl⟩,fun b z=>absurd z (noA b),e0.bs,e0.bsz,fun b _ _=>noA b,fun b z=>absurd z (noA b),e0.funs,e0.frf⟩,
  rfl,e0.bare,Un.kept hk,⟨_,x.toInCall.ns,fun i y v h1 h2 h3=> ?_⟩,fun y c h=>⟨_,x.cell y c h⟩,e0.hok.fresh (Nat.le_refl _),fun y c h=> ?_,fun p hp=>absurd (show p∈([]:List (Addr×Obj)) from hp) (by simp),e0.hok.kept hk,?_⟩
 ·exact name_of_addr x.apart (PySem.mem_of_lookup h1) (PySem.mem_of_lookup h2)
 ·have hy:scope.names.lookup y=some .cell∨scope.names.lookup y=some .free:=hy;rcases hy with hy|hy
  ·exact wQ hy
  ·exact absurd rfl (S.nofree _ (PySem.mem_of_lookup hy))
 ·exact Nat.le_of_lt (x.above y c (PySem.mem_of_lookup h))
 ·have hi:i<vs.length:=by
   unfold jH at h2
   by_cases hi:i<vs.length
   ·exact hi
   ·rw[List.getElem?_append_right (by simpa using hi)]at h2;rw[List.getElem?_replicate]at h2
    split at h2<;>cases h2
  have ha:vs[i]? =some v:=by
   unfold jH at h2;rw[List.getElem?_append_left (by simpa using hi),List.getElem?_map]at h2;cases e:vs[i]? with
   | none=>rw[e]at h2;cases h2
   | some a=>rw[e]at h2;cases h2;rfl
  obtain⟨u,hu,rv⟩:=r.get ha;have hp:ps[i]? =some y:=by
   rw[←S.pre,List.getElem?_take_of_lt (by omega)];exact h1
  have ndP:ps.Nodup:=by rw[←S.pre];exact S.nd.sublist (List.take_sublist _ _)
  refine⟨u,rv,?_⟩;rcases S.par y (List.mem_of_getElem? hp) with k|k
  ·exact .inl ⟨k,HZ ndP hp hu k⟩
  ·obtain⟨c,e⟩:=wQ (n:=s.heap.objs.size+1) k;refine .inr ⟨.inl k,c,e,?_⟩;have q:=x.cell y c e;rw[IH ndP hp hu (by show scope.names.lookup y≠_;rw[k];decide)]at q;exact q
 ·exact e0.hok.fresh (Nat.le_of_lt (x.above y c (PySem.mem_of_lookup h)))
 ·unfold jH;show _=N.length;rw[List.length_append,List.length_map,List.length_replicate];omega
theorem aE2 {CX:CXT}{P:Program}{w:World}{K:PySem.W.Frag}{mg:Str->Option Value}{base:Heap}{k:Nat}{f:Addr}{name qual:Str}{params:Arguments}{body:List Stmt}{scope:Scope}{dV kV doc pm cdv ct oc:Value}{an od:Option Addr}
  {osl:Array (Option Value)}{N ps:List Str}{sp:Sp} (lk:K.lookup f=some ⟨oc,od,.func (PySem.W.fnOf name qual params body scope dV kV doc pm an cdv ct),osl⟩) (hcd:PySem.W.codeIn K cdv qual=true) (S:aS N ps scope)
  (len:∀vs H Q E,sp vs H Q E->vs.length=ps.length)
  (hbody:∀(A:Around) (outer:List Env) (s:Shared) (H:Hp) (vs:List V) (Q:VK) (E:XK),Room k (A.deeper (envOfC qual scope s.heap.objs.size f cdv))->sp vs H Q E →
   ∃t,PSs (xA CX P w K mg base N qual scope f cdv A outer s H E) body t/\t { nx:=fun _ H'=>Q .non H',rt:=Q } (jH N vs) H) :
  FnOk P w K mg base CX (k+1) f (PySem.W.fnOf name qual params body scope dV kV doc pm an cdv ct) ps sp:=by
 refine⟨len,fun A outer s H args us vs Q E hr e0 hb r hsp=> ?_⟩;have hl:=len _ _ _ _ hsp;have KX:K.In s.heap:=e0.mod.kin.keeps fun b o e=>(e0.bs b o e).1;have lim:s.heap.NoLimit:=e0.mod.nolimit.keeps fun b o e=>(e0.bs b o e).1;have hkind:∀y∈ps.zip us,scope.names.lookup y.1=some .local∨(scope.names.lookup y.1=some .cell/\((cellsFrom (s.heap.objs.size+1) scope.names []).lookup y.1).isSome=true):=fun⟨n,v⟩ hy=>by
  rcases S.par n (List.of_mem_zip hy).1 with q|q
  ·exact .inl q
  ·exact .inr ⟨q,PySem.W.cellsFrom_some _ _ _ (.inl q)⟩
 refine codeAny_call_function hr.depth (KX _ _ lk) rfl S.co S.gen rfl (PySem.W.codeRec_of KX hcd) (hb _ _ _ _ ?_);refine wpAny_newFunctionEnv_cells S.kind hkind fun env he s1 x=> ?_;subst he;refine⟨lim.keeps x.toInCall.keep,codeAny_func ?_⟩;obtain⟨t,ht,hq⟩:=hbody A outer s H vs Q E (hr.deeper _) hsp;have I:Inv (xA CX P w K mg base N qual scope f cdv A outer s H E) [] (jH N vs) H s1:=IF S hr.hd e0 hl r x;refine wpAny_mono (ht [] s1 (jH N vs) H _ I hq) (fun fl s' hs=> ?_) fun e s' hs=>hs;have fin:∀{σ':St}{H':Hp}{v:V}{u:Value},Inv (xA CX P w K mg base N qual scope f cdv A outer s H E) [] σ' H' s'->RelV v u->Q v H'->CE outer P w H s Q u s' :=
  fun {σ' H' v u} J rv q=>⟨v,H',J.os,J.bare,J.base,J.hok,rv,q⟩
 cases fl with
 | ret u =>
  obtain⟨v,σ',H',J,rv,q⟩:=hs;exact fin J rv q
 | next =>
  obtain⟨σ',H',J,q⟩:=hs;exact fin (v:=V.non) (u:=Value.none) J rfl q
 | brk =>
  obtain⟨_,_,_,q⟩:=hs;exact False.elim q
 | cont =>
  obtain⟨_,_,_,q⟩:=hs;exact False.elim q
end L2
namespace L2
open PySem PySem.Spec PyProof.Rows
section
variable {X:Cx}{x:Str}{p pos:Pos}{e:Expr}{es:List Expr}{t:TA}{id T:String}{r:List V->Hp->VK->Prop}
def tCB (r:List V->Hp->VK->Prop)(t:TA):TE:=fun σ H Q=>t σ H fun vs H1=>r vs H1 Q
theorem bP (hc:fK X (.builtin id) r)(hg:Gl X x)(hm:X.mg x=none)(hv:bootBuiltins x=some (.builtin id))(ha:PA X (e::es) t)(hn:x≠ "__name__" :=by decide)(hdb:(x==("__debug__" :Str))=false:=by decide)
  (he:starEach (e::es) X.env=(false,eval e X.env)::starEach es X.env:=by rfl)(hpl:(backTo pos (starEach es X.env)).any (·.1)=false:=by rfl):PE X (.Call (.Name x p) (e::es) [] pos) (tCB r t):=by
 intro pins s σ H Q I h;refine wpAny_Call_Name_kw (zY I hg hm hv ?_ hn hdb);exact PyProof.Rows.callWith_builtin1 (thn (ha pos pins s σ H _ I h) fun us s1 ⟨vs,H1,I1,r1,q1⟩=>hc pins s1 σ H1 vs us Q I1 r1 q1) he hpl
theorem mV (hc:fK X (.type T) r)(hg:Gl X x)(hm:X.mg x=none)(hv:bootBuiltins x=some (.type T))(ha:PA X (e::es) t)(hn:x≠ "__name__" :=by decide)(hdb:(x==("__debug__" :Str))=false:=by decide)
  (he:starEach (e::es) X.env=(false,eval e X.env)::starEach es X.env:=by rfl)(hpl:(backTo pos (starEach es X.env)).any (·.1)=false:=by rfl):PE X (.Call (.Name x p) (e::es) [] pos) (tCB r t):=by
 intro pins s σ H Q I h;refine wpAny_Call_Name_kw (zY I hg hm hv ?_ hn hdb);exact PyProof.Rows.callWith_type1 (thn (ha pos pins s σ H _ I h) fun us s1 ⟨vs,H1,I1,r1,q1⟩=>hc pins s1 σ H1 vs us Q I1 r1 q1) he hpl
end
end L2
namespace HT
open PySem PyProof.Rows
section
open PySem.SeqAt
open PySem.AutoSeq1 (wpAny_loadPart')
open PySem.MeetsSeq PySem.MeetsSeq2 PySem.MeetsSeq3
end
section
variable {prog:Program}{w:World}{A:Around}{E:Value->Shared->Prop}{s:Shared}
def sIx (n d:Nat):Option Int->Nat
 | none=>d
 | some v=>if v<0 then (v+(n:Int)).toNat else min v.toNat n
theorem aDt (n d:Nat)(hd:d<=n)(o:Option Int):sIx n d o<=n:=by
 cases o with
 | none=>exact hd
 | some v =>
  show (if v<0 then (v+(n:Int)).toNat else min v.toNat n)<=n
  by_cases hv:v<0
  ·rw[if_pos hv];omega
  ·rw[if_neg hv];exact Nat.min_le_right _ _
theorem O9 (v:Int)(n d:Nat):(if v<0 then max (v+(n:Int)) 0 else min v (n:Int))=((sIx n d (some v):Nat):Int):=by
 show (if v<0 then max (v+(n:Int)) 0 else min v (n:Int))=(((if v<0 then (v+(n:Int)).toNat else min v.toNat n):Nat):Int)
 by_cases hv:v<0
 ·simp only[if_pos hv];omega
 ·simp only[if_neg hv];omega
theorem RZ (lo hi:Option Int)(n:Nat):Builtin.Slice.sliceAdjust lo hi 1 (n:Int)=(((sIx n 0 lo:Nat):Int),((sIx n n hi:Nat):Int)):=by
 have h1:¬((1:Int)<0):=by omega
 unfold Builtin.Slice.sliceAdjust;simp only[h1,if_false];refine Prod.ext ?_ ?_
 ·cases lo with
  | none=>rfl
  | some v=>exact O9 v n 0
 ·cases hi with
  | none=>rfl
  | some v=>exact O9 v n n
theorem QU (i j:Nat):Builtin.Slice.slicePlaces (i:Int) (j:Int) 1=j - i:=by
 unfold Builtin.Slice.slicePlaces;have h1:(1:Int)>0:=by omega
 simp only[h1,if_true,Int.ediv_one]
 split<;>omega
theorem E7 {v:Value}{o:Option Int}{Q:Option Int->Shared->Prop} (p:IsPart v o) (h:Q o s):wpAny (model prog w) A (Builtin.Slice.slicePartIndex v) Q E s:=by
 cases p with
 | none=>exact slicePart_none h
 | int i t=>exact slicePart_int h
theorem CW {sl:Addr}{vl vu:Value}{lo hi:Option Int}{n:Nat}{Q:Int×Int×Nat->Shared->Prop} (hs:s.heap.IsSliceOf sl vl vu .none) (pl:IsPart vl lo) (pu:IsPart vu hi)
  (h:Q (((sIx n 0 lo:Nat):Int),1,sIx n n hi - sIx n 0 lo) s):wpAny (model prog w) A (Builtin.Slice.sliceApplied (.ref sl) (pure (n:Int))) Q E s:=by
 obtain⟨os,hos,hcs,hds⟩:=id hs;unfold Builtin.Slice.sliceApplied Builtin.Slice.sliceFields;refine wpAny_bind (wpAny_bind (wpAny_field hos hds (x:=vl) rfl (wpAny_bind (wpAny_field hos hds (x:=vu) rfl (wpAny_bind (wpAny_field hos hds (x:= .none) rfl (wpAny_pure ?_)))))));refine wpAny_bind (slicePart_none ?_);show wpAny _ _ (if ((1:Int)==0)=true then _ else _) _ _ s;rw[if_neg (by decide)];refine wpAny_bind (E7 pl (wpAny_bind (E7 pu (wpAny_bind (wpAny_pure ?_)))));show wpAny _ _ (match Builtin.Slice.sliceAdjust lo hi 1 (n:Int) with|(lo,hi)=>pure (lo,(1:Int),Builtin.Slice.slicePlaces lo hi 1)) _ _ s;rw[RZ lo hi n];show wpAny _ _ (pure (((sIx n 0 lo:Nat):Int),(1:Int),Builtin.Slice.slicePlaces ((sIx n 0 lo:Nat):Int) ((sIx n n hi:Nat):Int) 1)) _ _ s;rw[QU];exact wpAny_pure h
theorem W5 (xs:Array Value)(i k:Nat):((List.range k).filterMap fun (m:Nat)=>xs[((i:Int)+(m:Int) * 1).toNat]?).toArray=((xs.toList.drop i).take k).toArray:=by
 have e:(fun (m:Nat)=>xs[((i:Int)+(m:Int) * 1).toNat]?)=fun m=>xs[i+m]? :=by
  funext m
  have:((i:Int)+(m:Int) * 1).toNat=i+m:=by omega
  rw[this]
 rw[e];have:=pick_run xs i k;rw[List.filterMap_map]at this;have e2:((fun x=>xs[x]?)∘fun x=>i+x)=fun m=>xs[i+m]? :=rfl;rw[e2]at this;rw[this]
theorem getItem_tuple_cut {t sl:Addr}{items:Array Value}{vl vu:Value}{lo hi:Option Int}{Q:Value->Shared->Prop} (ht:IsTup s.heap t items) (hs:s.heap.IsSliceOf sl vl vu .none) (pl:IsPart vl lo) (pu:IsPart vu hi)
  (hw:¬(sIx items.size 0 lo=0/\sIx items.size items.size hi=items.size))
  (h:Q (.ref s.heap.objs.size) { s with heap:=s.heap.push { cls:= .type "tuple",data:= .seq ((items.toList.drop (sIx items.size 0 lo)).take (sIx items.size items.size hi - sIx items.size 0 lo)).toArray } })
  (hsz:items.size<=sizeLine):wpAny (model prog w) A (getItem (.ref t) (.ref sl)) Q E s:=by
 have htake:sizeOk (.seq ((items.toList.drop (sIx items.size 0 lo)).take (sIx items.size items.size hi - sIx items.size 0 lo)).toArray):=by
  show ((items.toList.drop (sIx items.size 0 lo)).take (sIx items.size items.size hi - sIx items.size 0 lo)).toArray.size<=sizeLine;rw[List.size_toArray,List.length_take,List.length_drop,Array.length_toList];omega
 have hj:sIx items.size items.size hi<=items.size:=aDt _ _ (Nat.le_refl _) hi;obtain⟨os,hos,hcs,hds⟩:=id hs;have hTs:s.TypeIs (.ref sl) "slice" :=⟨os,hos,hcs⟩
 unfold getItem
 try with_reducible refine wpAny_holding ?_
 first|refine wpAny_bind (wpAny_pure ?_)|skip
 refine wpAny_bind (wpAny_sequenceKey ht.typeIs (by decide) ?_);refine wpAny_bind (wpAny_callSpecial?_slot (name:=Str.ofString "__getitem__") ht.typeIs PyProof.Rows.slot_tuple_getitem
  (wpAny_call_entry PyProof.Rows.slot_tuple_getitem ht.typeIs entry_tuple_getitem ?_ (args_tuple_getitem _ _)))
 show wpAny _ _ (Builtin.Tuple.tupleItemsOf (.ref t) >>= _) _ _ s;refine wpAny_bind (tupleItemsOf_ ht ?_);refine wpAny_bind (wpAny_typeOf hTs ?_);rw[if_pos (by decide)];refine wpAny_bind (CW hs pl pu ?_);have hno:¬((((sIx items.size 0 lo:Nat):Int)==0&&(1:Int)==1&&(sIx items.size items.size hi - sIx items.size 0 lo)==items.size)=true):=by
  intro q;rw[Bool.and_eq_true,Bool.and_eq_true]at q;have q1:((sIx items.size 0 lo:Nat):Int)=0:=eq_of_beq q.1.1;have q2:sIx items.size items.size hi - sIx items.size 0 lo=items.size:=eq_of_beq q.2;exact hw ⟨by omega,by omega⟩
 show wpAny _ _ (if (((sIx items.size 0 lo:Nat):Int)==0&&(1:Int)==1&&(sIx items.size items.size hi - sIx items.size 0 lo)==items.size)=true then _ else _) _ _ s;rw[if_neg hno,W5]
 first
  | exact wpAny_bind (m:=Builtin.Tuple.tupleExact _) (wpAny_newObj_type (wpAny_pure ⟨_,rfl,wpAny_pure h⟩) htake)
  | exact wpAny_bind (m:=Builtin.Tuple.tupleExact _) (wpAny_newObj_type (wpAny_bind (wpAny_pure (wpAny_pure ⟨_,rfl,wpAny_pure h⟩))) htake)
  | exact wpAny_bind (wpAny_bind (m:=Builtin.Tuple.tupleExact _) (wpAny_newObj_type (wpAny_pure (wpAny_pure ⟨_,rfl,wpAny_pure h⟩)) htake))
  | exact wpAny_bind (wpAny_bind (m:=Builtin.Tuple.tupleExact _) (wpAny_newObj_type (wpAny_pure ⟨_,rfl,wpAny_pure h⟩) htake))
end
end HT
namespace L2
open PySem PySem.Spec PyProof.Rows
abbrev TO:=St->Hp->(Option Int->Hp->Prop)->Prop
def PO (X:Cx)(e:Option Expr)(t:TO):Prop :=
 ∀(pins:List (Addr×Obj)) (s:Shared) (σ:St) (H:Hp) (Q:Option Int->Hp->Prop),Inv X pins σ H s->t σ H Q →
  wpAny (model X.prog X.w) X.A (evalPart e X.env) (fun u s'=>∃o H',Inv X pins σ H' s'/\IsPart u o/\Q o H') X.xe s
def PY:TO:=fun _ H Q=>Q none H
def Z7 (t:TE):TO:=fun σ H Q=>t σ H fun x H1=>∃i,x= .int i/\Q (some i) H1
section
variable {X:Cx}{e:Expr}{te:TE}{lo hi:Option Expr}{tl th:TO}{pos p2:Pos}
theorem GA:PO X none PY:=by
 intro pins s σ H Q I h;rw[evalPart_none];exact wpAny_pure ⟨none,H,I,.none,h⟩
theorem GQ (h:PE X e te):PO X (some e) (Z7 te):=by
 intro pins s σ H Q I hw;rw[evalPart_some];refine thn (h pins s σ H _ I hw) fun u s1 ⟨x,H1,I1,r1,q1⟩=> ?_;obtain⟨i,rfl,q⟩:=q1;obtain⟨t,rfl⟩:=r1;exact⟨some i,H1,I1,.int i t,q⟩
def SlR (X:Cx)(r:V->Option Int->Option Int->Hp->VK->Prop):Prop :=
 ∀(pins:List (Addr×Obj)) (s:Shared) (σ:St) (H:Hp) (x:V) (v vl vu:Value) (lo hi:Option Int) (sl:Addr) (Q:VK),Inv X pins σ H s->RelV x v->s.heap.IsSliceOf sl vl vu .none->IsPart vl lo->IsPart vu hi->r x lo hi H Q →
  ∃T id,typeLookup (.type T) "__getitem__" =pure (some (.builtin id))/\s.TypeIs v T/\wpAny (model X.prog X.w) X.A (getItem v (.ref sl)) (EP X pins σ Q) X.xe s
def tSl (r:V->Option Int->Option Int->Hp->VK->Prop)(te:TE)(tl th:TO):TE:=fun σ H Q=>te σ H fun x H1=>tl σ H1 fun l H2=>th σ H2 fun u H3=>r x l u H3 Q
theorem DE {r:V->Option Int->Option Int->Hp->VK->Prop}(hr:SlR X r)(he:PE X e te)(hl:PO X lo tl)(hu:PO X hi th):PE X (.Subscript e (.Slice lo hi none p2) pos) (tSl r te tl th):=by
 intro pins s σ H Q I h;refine Subscript_ (thn (he pins s σ H _ I h) fun v s1 ⟨x,H1,I1,r1,q1⟩=> ?_);refine wpAny_Slice (thn (hl pins s1 σ H1 _ I1 q1) fun vl s2 ⟨l,H2,I2,pl,q2⟩=>thn (hu pins s2 σ H2 _ I2 q2) fun vu s3 ⟨u,H3,I3,pu,q3⟩=> ?_);rw[evalPart_none];refine wpAny_pure ?_;have I4:Inv X pins σ H3 { s3 with heap:=s3.heap.push { cls:= .type "slice",data:= .fields #[vl,vu,.none] } }:=I3.kept (t':=s3.toks) fun b ob q=>Heap.get?_push_of_some _ q;obtain⟨T,id,hT,ht,hg⟩:=hr pins { s3 with heap:=s3.heap.push { cls:= .type "slice",data:= .fields #[vl,vu,.none] } } σ H3 x v vl vu l u s3.heap.objs.size Q I4 r1 (Heap.IsSliceOf.new ..) pl pu q3;show wpAny (model X.prog X.w) X.A (subscriptTail e (.Slice lo hi none p2) v (.ref s3.heap.objs.size)) (EP X pins σ Q) X.xe { s3 with heap:=s3.heap.push { cls:= .type "slice",data:= .fields #[vl,vu,.none] } };exact tail_any (ops:=[.ref s3.heap.objs.size,v]) ht hT hg (by with_unfolding_all rfl)
def zF (xs:List V)(lo hi:Option Int):List V:=(xs.drop (HT.sIx xs.length 0 lo)).take (HT.sIx xs.length xs.length hi - HT.sIx xs.length 0 lo)
theorem B1 (xs:List V)(lo hi:Option Int):(zF xs lo hi).length<=xs.length:=by
 unfold zF;rw[List.length_take,List.length_drop];omega
def YI (K:PySem.W.Frag):V->Option Int->Option Int->Hp->VK->Prop:=fun x lo hi H Q=>∃a xs,x= .ref a/\SqT K H a xs ∧
 ¬(HT.sIx xs.length 0 lo=0/\HT.sIx xs.length xs.length hi=xs.length)/\∀p,H p=none->Q (.ref p) (upd H p (.tup (zF xs lo hi)))
theorem UQ:SlR X (YI X.K):=by
 intro pins s σ H x v vl vu lo hi sl Q I rx hs pl pu h;obtain⟨a,xs,rfl,hx,hw,q⟩:=h;cases rx;obtain⟨its,r,ht,hz⟩:=I.tuple hx;have hlen:its.toArray.size=xs.length:=by rw[List.size_toArray];exact r.length.symm
 refine⟨"tuple",_,PyProof.Rows.slot_tuple_getitem.lookup,ht.typeIs,?_⟩;refine HT.getItem_tuple_cut ht hs pl pu (by rw[hlen];exact hw) ?_ (by rw[hlen];exact hz);rw[hlen];refine⟨.ref s.heap.objs.size,_,I.laid (t':=s.toks) (o:= .tup (zF xs lo hi)) (fun b ob q=>Heap.get?_push_of_some _ q) (Nat.le_refl _) ?_,rfl,q _ (I.hok.fresh (Nat.le_refl _))⟩;exact⟨Nat.le_trans (B1 xs lo hi) hz,_,(r.drop (HT.sIx xs.length 0 lo)).take (HT.sIx xs.length xs.length hi - HT.sIx xs.length 0 lo),IsTup.new _ _⟩
end
end L2
namespace L2
open PySem PySem.Spec PyProof.Rows
def ixN (n:Nat)(i:Int):Option Nat:=if 0<=i then (if i<n then some i.toNat else none) else if -(n:Int)<=i then some (i+n).toNat else none
def atI {α:Type}(xs:List α)(i:Int):Option α:=(ixN xs.length i).bind fun j=>xs[j]?
theorem aBG {n:Nat}{i:Int}{j:Nat} (h:ixN n i=some j):seqIndex? i n=some j/\j<n/\ -(n:Int)<=i/\i<n:=by
 unfold ixN at h
 by_cases h0:0<=i
 ·rw[if_pos h0]at h
  by_cases h1:i<n
  ·rw[if_pos h1]at h;have e:i.toNat=j:=Option.some.inj h;exact⟨by rw[seqIndex_of h0 h1,e],by omega,by omega,h1⟩
  ·rw[if_neg h1]at h;cases h
 ·rw[if_neg h0]at h
  by_cases h1: -(n:Int)<=i
  ·rw[if_pos h1]at h;have e:(i+n).toNat=j:=Option.some.inj h;exact⟨by rw[seqIndex_neg (by omega) h1,e],by omega,h1,by omega⟩
  ·rw[if_neg h1]at h;cases h
theorem FO {α:Type}{xs:List α}{i:Int}{v:α} (h:atI xs i=some v):∃j,seqIndex? i xs.length=some j/\xs[j]? =some v/\j<xs.length/\ -(xs.length:Int)<=i/\i<xs.length:=by
 unfold atI at h;cases e:ixN xs.length i with
 | none=>rw[e]at h;cases h
 | some j =>
  rw[e]at h;obtain⟨h1,h2,h3,h4⟩:=aBG e;exact⟨j,h1,h,h2,h3,h4⟩
theorem AR {α:Type}{xs:List α}{j:Nat}{v:α} (h:xs[j]? =some v):atI xs (j:Int)=some v:=by
 have hj:j<xs.length:=(List.getElem?_eq_some_iff.mp h).1;have e:ixN xs.length (j:Int)=some j:=by
  unfold ixN;rw[if_pos (by omega),if_pos (by omega)];simp
 unfold atI;rw[e];exact h
def aBc (b:Expr):Prop:=∀o i,subscripted b false o i=operate [o,i] (getItem o i)
def IxR (X:Cx)(r:R2):Prop :=
 ∀(value slice:Expr) (pins:List (Addr×Obj)) (s:Shared) (σ:St) (H:Hp) (x y:V) (v u:Value) (Q:VK),Inv X pins σ H s->RelV x v->RelV y u->r x y H Q →
  subscripted slice false v u=operate [v,u] (getItem v u)->wpAny (model X.prog X.w) X.A (subscriptTail value slice v u) (EP X pins σ Q) X.xe s
def MtR (X:Cx)(id:String)(r:V->List V->Hp->VK->Prop):Prop :=
 ∀(pins:List (Addr×Obj)) (s:Shared) (σ:St) (H:Hp) (x:V) (xs:List V) (v:Value) (us:List Value) (Q:VK),Inv X pins σ H s->RelV x v->Vals xs us->r x xs H Q →
  wpAny (model X.prog X.w) X.A (call (.builtin id) (v::us)) (EP X pins σ Q) X.xe s
section
variable {X:Cx}{a b:Expr}{ta tb:TE}{pos:Pos}
theorem bA {r:R2}(hr:IxR X r)(ha:PE X a ta)(hb:PE X b tb)(hs:aBc b):PE X (.Subscript a b pos) (tOp r ta tb):=by
 intro pins s σ H Q I h;exact Subscript_ (XH ha hb I h fun v u s2 x y H2 I2 rx ry q=>hr a b pins s2 σ H2 x y v u Q I2 rx ry q (hs _ _))
def GM (K:PySem.W.Frag):R2:=fun x y H Q=>∃p xs i v,x= .ref p/\y= .int i/\SqL K H p xs/\atI xs i=some v/\Q v H
def aCx (K:PySem.W.Frag):R2:=fun x y H Q=>∃p xs i v,x= .ref p/\y= .int i/\SqT K H p xs/\atI xs i=some v/\Q v H
def aFn:R2:=fun x y H Q=>∃z i c,x= .str z/\y= .int i/\z.length<=sizeLine/\atI z.cps.toList i=some c/\Q (.str ⟨#[c]⟩) H
theorem b9:IxR X (GM X.K):=by
 intro value slice pins s σ H x y v u Q I rx ry h hs;obtain⟨p,xs,i,z,rfl,rfl,hq,he,q⟩:=h;cases rx;obtain⟨t,rfl⟩:=ry;obtain⟨its,r,pl,hz⟩:=I.list hq;obtain⟨j,h1,h2,h3,h4,h5⟩:=FO he;obtain⟨w,ew,rw'⟩:=r.get h2;have hl:=r.length;have hn:=zE;have fin:EP X pins σ Q w s:=⟨z,H,I,rw',q⟩
 by_cases h0:0<=i
 ·have hj:i.toNat=j:=by
   rw[seqIndex_of h0 h5]at h1;exact Option.some.inj h1
  exact item_listR pl.isList h0 (by omega) (by rw[hj];simpa using ew) fin hs
 ·have hj:(i+(its.toArray.size:Int)).toNat=j:=by
   rw[seqIndex_neg (by omega) h4]at h1;rw[List.size_toArray,←hl];exact Option.some.inj h1
  exact subscriptTail_builtinR (x:=w) pl.isList.typeIs slot_list_getitem.lookup
   (wpAny_getItem_list_neg (Q:=fun r s'=>r=w/\EP X pins σ Q r s') pl.isList (by omega) (by rw[List.size_toArray]<;>omega) (by omega) (by rw[hj];simpa using ew) ⟨rfl,fin⟩) hs
theorem cG:IxR X (aCx X.K):=by
 intro value slice pins s σ H x y v u Q I rx ry h hs;obtain⟨p,xs,i,z,rfl,rfl,hq,he,q⟩:=h;cases rx;obtain⟨t,rfl⟩:=ry;obtain⟨its,r,pl,hz⟩:=I.tuple hq;obtain⟨j,h1,h2,h3,h4,h5⟩:=FO he;obtain⟨w,ew,rw'⟩:=r.get h2;have hl:=r.length;have hn:=zE;have fin:EP X pins σ Q w s:=⟨z,H,I,rw',q⟩
 exact subscriptTail_builtinR (x:=w) pl.typeIs slot_tuple_getitem.lookup
  (getItem_tuple (j:=j) (Q:=fun r s'=>r=w/\EP X pins σ Q r s') pl (by omega) (by omega) (by rw[List.size_toArray,←hl];exact h1) (by simpa using ew) ⟨rfl,fin⟩) hs
theorem aCu:IxR X aFn:=by
 intro value slice pins s σ H x y v u Q I rx ry h hs;obtain⟨z,i,c,rfl,rfl,hz,he,q⟩:=h;obtain⟨t,rfl⟩:=rx;obtain⟨t',rfl⟩:=ry;obtain⟨j,h1,h2,h3,h4,h5⟩:=FO he;have hl:z.cps.toList.length=z.length:=by simp[Str.length]
 rw[hl]at h1 h4 h5;have hn:=zE;exact tail_any (typeIs_str s z t) slot_str_getitem.lookup (getItem_str (c:=c) (by
  have e1:decide (i< -(2^63:Int))=false:=decide_eq_false (by omega);have e2:decide (i≥2^63)=false:=decide_eq_false (by omega);rw[e1,e2,Bool.or_false]) (by rw[h1];simpa using h2) ⟨.str ⟨#[c]⟩,H,I.tok _,⟨_,rfl⟩,q⟩) hs
theorem LP (lo hi:Option Int)(n:Nat):(sliceBounds lo hi none n).1=((HT.sIx n 0 lo:Nat):Int)/\(sliceBounds lo hi none n).2.1=((HT.sIx n n hi:Nat):Int)/\(sliceBounds lo hi none n).2.2=1:=by
 refine⟨?_,?_,rfl⟩
 ·cases lo with
  | none=>simp[sliceBounds,HT.sIx]
  | some i =>
   simp only[sliceBounds,HT.sIx,Option.getD_none,show (1:Int)>0 by decide,if_true]
   by_cases h:i<0
   ·simp only[h,if_true]<;>omega
   ·simp only[h,if_false]<;>omega
 ·cases hi with
  | none=>simp[sliceBounds,HT.sIx]
  | some i =>
   simp only[sliceBounds,HT.sIx,Option.getD_none,show (1:Int)>0 by decide,if_true]
   by_cases h:i<0
   ·simp only[h,if_true]<;>omega
   ·simp only[h,if_false]<;>omega
theorem JE (its:List Value)(lo hi:Option Int):slicePick its.toArray lo hi none=((its.drop (HT.sIx its.length 0 lo)).take (HT.sIx its.length its.length hi - HT.sIx its.length 0 lo)).toArray:=by
 obtain⟨h1,h2,h3⟩:=LP lo hi its.toArray.size;unfold slicePick;rw[h1,h2,h3];simp only[sliceRange_one,pick_run,List.size_toArray]<;>rfl
def aD8 (K:PySem.W.Frag):V->Option Int->Option Int->Hp->VK->Prop:=fun x lo hi H Q=>∃a xs,x= .ref a/\SqL K H a xs/\∀p,H p=none->Q (.ref p) (upd H p (.lst (zF xs lo hi)))
theorem aA7:SlR X (aD8 X.K):=by
 intro pins s σ H x v vl vu lo hi sl Q I rx hs pl pu h;obtain⟨a,xs,rfl,hx,q⟩:=h;cases rx;obtain⟨its,r,ht,hz⟩:=I.list hx;have hlen:=r.length;refine⟨"list",_,slot_list_getitem.lookup,ht.isList.typeIs,?_⟩;refine wpAny_getItem_list_slice ht.isList hs pl pu .none (by simp) ?_ (by rw[List.size_toArray]<;>omega);rw[JE,←hlen];refine⟨.ref s.heap.objs.size,_,I.laid (t':=s.toks) (o:= .lst (zF xs lo hi)) (fun b ob q=>Heap.get?_push_of_some _ q) (Nat.le_refl _) ?_,rfl,q _ (I.hok.fresh (Nat.le_refl _))⟩;exact⟨Nat.le_trans (B1 xs lo hi) hz,_,0,(r.drop (HT.sIx xs.length 0 lo)).take (HT.sIx xs.length xs.length hi - HT.sIx xs.length 0 lo),Heap.get?_push_size _ rfl⟩
def uV:V->Bool
 | .non=>true
 | .bl _=>true
 | .int _=>true
 | .str _=>true
 | _=>false
def eqV:V->V->Bool
 | .non,.non=>true
 | .bl a,.bl b=>a==b
 | .bl a,.int b=>(if a then 1 else 0)==b
 | .int a,.bl b=>a==(if b then 1 else 0)
 | .int a,.int b=>a==b
 | .str a,.str b=>a==b
 | _,_=>false
theorem aCm {A:Around}{s:Shared}{y x:V}{u v:Value} (ry:RelV y u) (rx:RelV x v) (fy:uV y=true) (fx:uV x=true):SeqAt.EqAt A s u v (eqV y x):=by
 cases y with
 | non =>
  cases ry;cases x with
  | non=>cases rx;exact SeqAt.EqAt.same _
  | bl b=>cases rx;exact SeqAt.EqAt.none_bool b
  | int b=>obtain⟨t,rfl⟩:=rx;exact SeqAt.EqAt.none_int b t
  | str b=>obtain⟨t,rfl⟩:=rx;exact SeqAt.EqAt.none_str b t
  | _=>exact absurd (show false=true from fx) Bool.false_ne_true
 | bl a =>
  cases ry;cases x with
  | non=>cases rx;exact SeqAt.EqAt.bool_none a
  | bl b=>cases rx;exact SeqAt.EqAt.bool_bool a b
  | int b=>obtain⟨t,rfl⟩:=rx;exact SeqAt.EqAt.bool_int a b t
  | str b=>obtain⟨t,rfl⟩:=rx;exact SeqAt.EqAt.bool_str a b t
  | _=>exact absurd (show false=true from fx) Bool.false_ne_true
 | int a =>
  obtain⟨t',rfl⟩:=ry;cases x with
  | non=>cases rx;exact SeqAt.EqAt.int_none a t'
  | bl b=>cases rx;exact SeqAt.EqAt.int_bool a t' b
  | int b=>obtain⟨t,rfl⟩:=rx;exact SeqAt.EqAt.int_int a t' b t
  | str b=>obtain⟨t,rfl⟩:=rx;exact SeqAt.EqAt.int_str a t' b t
  | _=>exact absurd (show false=true from fx) Bool.false_ne_true
 | str a =>
  obtain⟨t',rfl⟩:=ry;cases x with
  | non=>cases rx;exact SeqAt.EqAt.str_none a t'
  | bl b=>cases rx;exact SeqAt.EqAt.str_bool a t' b
  | int b=>obtain⟨t,rfl⟩:=rx;exact SeqAt.EqAt.str_int a t' b t
  | str b=>obtain⟨t,rfl⟩:=rx;exact SeqAt.EqAt.str_str a t' b t
  | _=>exact absurd (show false=true from fx) Bool.false_ne_true
 | _=>exact absurd (show false=true from fy) Bool.false_ne_true
def eqU (x:V)(u:Value):Bool:=match u with
 | .none=>eqV .non x
 | .bool b=>eqV (.bl b) x
 | .int i _=>eqV (.int i) x
 | .str z _=>eqV (.str z) x
 | _=>false
theorem UE {x y:V}{u:Value} (r:RelV y u) (f:uV y=true):eqU x u=eqV y x:=by
 cases y with
 | non=>cases r;rfl
 | bl b=>cases r;rfl
 | int i=>obtain⟨t,rfl⟩:=r;rfl
 | str z=>obtain⟨t,rfl⟩:=r;rfl
 | _=>exact absurd (show false=true from f) Bool.false_ne_true
theorem wC {x:V}:∀{xs:List V}{us:List Value},Vals xs us->xs.all uV=true->us.any (eqU x)=xs.any fun y=>eqV y x
 | _,_,.nil,_=>rfl
 | y::xs,u::us,.cons r t,f=>by
  rw[List.all_cons,Bool.and_eq_true]at f;rw[List.any_cons,List.any_cons,UE r f.1,wC t f.2]
theorem sY {A:Around}{s:Shared}{x:V}{v:Value} (rx:RelV x v) (fx:uV x=true):∀{xs:List V}{us:List Value},Vals xs us->xs.all uV=true->∀u∈us,SeqAt.EqAt A s u v (eqU x u)
 | _,_,.nil,_=>fun u hu=>by cases hu
 | y::xs,u::us,.cons r t,f=>fun u' hu=>by
  rw[List.all_cons,Bool.and_eq_true]at f;rcases List.mem_cons.mp hu with rfl|hu
  ·rw[UE r f.1];exact aCm r rx f.1 fx
  ·exact sY rx fx t f.2 u' hu
def inV (x:V)(xs:List V):Bool:=xs.any fun y=>eqV y x
def rIn (K:PySem.W.Frag)(neg:Bool):R2:=fun x y H Q=>∃p xs,y= .ref p/\(SqL K H p xs∨SqT K H p xs)/\uV x=true/\xs.all uV=true/\Q (.bl (if neg then !inV x xs else inV x xs)) H
theorem T0:OpR X (compareOp .In) (rIn X.K false):=by
 intro pins s σ H x y v u Q I rx ry h;obtain⟨p,xs,rfl,hq,fx,fs,q⟩:=h;cases ry;rcases hq with hq|hq
 ·obtain⟨its,r,pl,hz⟩:=I.list hq;refine SeqAt.in_listAt (eqU x) pl.isList (fun w hw=>sY rx fx r fs w (by simpa using hw)) ⟨.bl _,H,I,rfl,?_⟩;rw[show its.toArray.any (eqU x)=its.any (eqU x) by simp,wC r fs];exact q
 ·obtain⟨its,r,pl,hz⟩:=I.tuple hq;refine SeqAt.in_tupleAt (eqU x) pl (fun w hw=>sY rx fx r fs w (by simpa using hw)) ⟨.bl _,H,I,rfl,?_⟩;rw[show its.toArray.any (eqU x)=its.any (eqU x) by simp,wC r fs];exact q
theorem ML:OpR X (compareOp .NotIn) (rIn X.K true):=by
 intro pins s σ H x y v u Q I rx ry h;obtain⟨p,xs,rfl,hq,fx,fs,q⟩:=h;cases ry;rcases hq with hq|hq
 ·obtain⟨its,r,pl,hz⟩:=I.list hq;refine SeqAt.notIn_listAt (eqU x) pl.isList (fun w hw=>sY rx fx r fs w (by simpa using hw)) ⟨.bl _,H,I,rfl,?_⟩;rw[show its.toArray.any (eqU x)=its.any (eqU x) by simp,wC r fs];exact q
 ·obtain⟨its,r,pl,hz⟩:=I.tuple hq;refine SeqAt.notIn_tupleAt (eqU x) pl (fun w hw=>sY rx fx r fs w (by simpa using hw)) ⟨.bl _,H,I,rfl,?_⟩;rw[show its.toArray.any (eqU x)=its.any (eqU x) by simp,wC r fs];exact q
theorem MC:fK X (.builtin "len") (fun xs H Q=>∃p ys,xs=[.ref p]/\(SqL X.K H p ys∨SqT X.K H p ys)/\Q (.int ys.length) H):=by
 intro pins s σ H xs us Q I r h;obtain⟨p,ys,rfl,hq,q⟩:=h;obtain⟨u,rfl,rx⟩:=qH r;cases rx;have hn:=zE;rcases hq with hq|hq
 ·obtain⟨its,r',pl,hz⟩:=I.list hq;have hlen:=r'.length;exact Calls.call_len_list pl.isList (by simp only[List.size_toArray]<;>omega) ⟨.int ys.length,H,I.tok _,⟨s.toks+1,by rw[List.size_toArray,hlen]⟩,q⟩
 ·obtain⟨its,r',pl,hz⟩:=I.tuple hq;have hlen:=r'.length;exact len_tuple pl (by simp only[List.size_toArray]<;>omega) ⟨.int ys.length,H,I.tok _,⟨s.toks+1,by rw[List.size_toArray,hlen]⟩,q⟩
theorem MP:fK X (.builtin "len") (fun xs H Q=>∃z,xs=[.str z]/\z.length<=sizeLine/\Q (.int z.length) H):=by
 intro pins s σ H xs us Q I r h;obtain⟨z,rfl,hz,q⟩:=h;obtain⟨u,rfl,t,rfl⟩:=qH r;have hn:=zE;exact len_str (by omega) ⟨.int z.length,H,I.tok _,⟨_,rfl⟩,q⟩
theorem MZ:fK X (.type "list") (fun xs H Q=>∃p ys,xs=[.ref p]/\(SqL X.K H p ys∨SqT X.K H p ys)/\∀l,H l=none->Q (.ref l) (upd H l (.lst ys))):=by
 intro pins s σ H xs us Q I r h;obtain⟨p,ys,rfl,hq,q⟩:=h;obtain⟨u,rfl,rx⟩:=qH r;cases rx;have fin:∀(its:List Value),Vals ys its->ys.length<=sizeLine->∀(h':Heap) (c':Nat),(∀b o',s.heap.get? b=some o'->h'.get? b=some o') →
   h'.get? s.heap.objs.size=some { cls:= .type "list",dict:=none,data:= .seq its.toArray c',slots:= #[] }->EP X pins σ Q (.ref s.heap.objs.size) { s with heap:=h' }:=fun its r' hz h' c' kp e =>
  ⟨.ref s.heap.objs.size,_,I.laid (t':=s.toks) kp (Nat.le_refl _) (show ObjOk X.prog X.w _ h' _ (.lst ys) from⟨hz,its,c',r',e⟩),rfl,q _ (I.hok.fresh (Nat.le_refl _))⟩
 rcases hq with hq|hq
 ·obtain⟨its,r',pl,hz⟩:=I.list hq;have hlen:=r'.length;obtain⟨o,ho,hc,n,hd⟩:=pl.isList;exact call_list_seq p (.inl rfl) ho hc hd (fun h' c' kp e=>fin its r' hz h' c' kp e) (by simp only[List.size_toArray]<;>omega)
 ·obtain⟨its,r',pl,hz⟩:=I.tuple hq;have hlen:=r'.length;obtain⟨o,ho,hc,n,hd⟩:=pl;exact call_list_seq p (.inr rfl) ho hc hd (fun h' c' kp e=>fin its r' hz h' c' kp e) (by simp only[List.size_toArray]<;>omega)
def tyV (K:PySem.W.Frag)(T:String)(x:V)(H:Hp):Prop:=match x with
 | .str _=>T= "str"
 | .int _=>T= "int"
 | .ref p=>(T= "list" /\∃xs,SqL K H p xs)∨(T= "tuple" /\∃o,K.lookup p=some o/\o.cls= .type "tuple" /\o.dict=none) ∨
   (T= "dict" /\((∃kvs,H p=some (.dK kvs))∨∃kvs,H p=some (.dT kvs)))∨(T= "set" /\∃S n,H p=some (.set S n))
 | _=>False
theorem VU {pins:List (Addr×Obj)}{σ:St}{H:Hp}{s:Shared}{T:String}{x:V}{v:Value} (I:Inv X pins σ H s) (r:RelV x v) (ty:tyV X.K T x H) :
  s.TypeIs v T/\∀a,v= .ref a->∃ob,s.heap.get? a=some ob/\ob.dict=none:=by
 cases x with
 | str z =>
  obtain⟨t,rfl⟩:=r;cases (show T= "str" from ty);exact⟨typeIs_str s z t,fun _ e=>nomatch e⟩
 | int i =>
  obtain⟨t,rfl⟩:=r;cases (show T= "int" from ty);exact⟨typeIs_int s i t,fun _ e=>nomatch e⟩
 | ref p =>
  cases r;rcases ty with⟨rfl,xs,hq⟩|⟨rfl,o,hk,hc,hd⟩|⟨rfl,hk⟩|⟨rfl,S,n,hk⟩
  ·obtain⟨its,_,pl,_⟩:=I.list hq;refine⟨pl.isList.typeIs,fun a e=> ?_⟩;cases e;obtain⟨o,n,e,c,hd,_⟩:=pl;exact⟨o,e,hd⟩
  ·refine⟨⟨o,I.kIn p o hk,hc⟩,fun a e=> ?_⟩;cases e;exact⟨o,I.kIn _ o hk,hd⟩
  ·have z:∃o,s.heap.get? p=some o/\o.ExactDict:=by
    rcases hk with⟨kvs,hk⟩|⟨kvs,hk⟩
    ·obtain⟨_,_,_,_,o,_,_,e,ex,_⟩:=I.hok p _ hk;exact⟨o,e,ex⟩
    ·obtain⟨_,_,_,_,o,_,_,e,ex,_⟩:=I.hok p _ hk;exact⟨o,e,ex⟩
   obtain⟨o,e,ex⟩:=z;refine⟨⟨o,e,ex.1⟩,fun a e2=> ?_⟩;cases e2;exact⟨o,e,ex.2.1⟩
  ·obtain⟨o,_,_,_,e,ex,_⟩:=I.hok p _ hk;refine⟨⟨o,e,ex.1⟩,fun a e2=> ?_⟩;cases e2;exact⟨o,e,ex.2.1⟩
 | _=>exact False.elim ty
def aCS (K:PySem.W.Frag)(T:String)(r:V->List V->Hp->VK->Prop)(to:TE):TE:=fun σ H Q=>to σ H fun x H1=>tyV K T x H1/\r x [] H1 Q
def tBM (K:PySem.W.Frag)(T:String)(r:V->List V->Hp->VK->Prop)(to:TE)(t:TA):TE:=fun σ H Q=>to σ H fun x H1=>tyV K T x H1/\t σ H1 fun xs H2=>r x xs H2 Q
variable {o e:Expr}{es:List Expr}{to:TE}{t:TA}{name:Str}{apos cpos:Pos}{T id:String}{r:V->List V->Hp->VK->Prop}
theorem aCU (pa:PlainAttrs T)(slot:Slot T name id)(hty:typeOf (.builtin id)=pure (.type "method_descriptor"))(hm:MtR X id r)(ho:PE X o to)
  (hbase:attributeBase o name X.env (eval o X.env)=eval o X.env:=by rfl)(hline:(apos.endLine==cpos.line)=true:=by rfl):PE X (.Call (.Attribute o name apos) [] [] cpos) (aCS X.K T r to):=by
 intro pins s σ H Q I h;refine wpAny_Call_method0_late hbase hline (thn (ho pins s σ H _ I h) fun v s1 ⟨x,H1,I1,r1,ty,q1⟩=> ?_);obtain⟨h1,h2⟩:=VU I1 r1 ty;exact⟨T,id,pa,slot,hty,h1,h2,Calls.callWith_builtin rfl (PySem.evalArgs_none (hm pins s1 σ H1 x [] v [] Q I1 r1 .nil q1))⟩
theorem sI (pa:PlainAttrs T)(slot:Slot T name id)(hty:typeOf (.builtin id)=pure (.type "method_descriptor"))(hm:MtR X id r)(ho:PE X o to)(ha:PA X (e::es) t)
  (hbase:attributeBase o name X.env (eval o X.env)=eval o X.env:=by rfl)
  (hfew:((backTo cpos (starEach (e::es) X.env)).all (fun x=> !x.1)&&(backToKw cpos (keywordEach [] X.env)).all (fun x=>x.1.isSome)
   && decide ((e::es).length+([]:List Keyword).length+(if ([]:List Keyword).isEmpty then 0 else 1)<30))=true:=by rfl)
  (hline:(apos.endLine==cpos.line)=true:=by rfl)(hs:starEach (e::es) X.env=(false,eval e X.env)::starEach es X.env:=by rfl)(hplain:(backTo cpos (starEach es X.env)).any (·.1)=false:=by rfl) :
  PE X (.Call (.Attribute o name apos) (e::es) [] cpos) (tBM X.K T r to t):=by
 intro pins s σ H Q I h;refine wpAny_Call_method_late hbase hfew hline rfl (thn (ho pins s σ H _ I h) fun v s1 ⟨x,H1,I1,r1,ty,q1⟩=> ?_);obtain⟨h1,h2⟩:=VU I1 r1 ty;refine⟨T,id,pa,slot,hty,h1,h2,?_⟩;have hA:=ha cpos pins s1 σ H1 _ I1 q1;rw[hs]at hA ⊢;refine Calls.callWith_builtin (by show (false||(backTo cpos (starEach es X.env)).any (·.1))=false;rw[hplain]<;>rfl) (Calls.evalArgs_plain ?_);exact thn hA fun us s2 ⟨vs,H2,I2,r2,q2⟩=>hm pins s2 σ H2 x vs v us Q I2 r1 r2 q2
end
end L2
namespace L2
open PySem PySem.Spec PyProof.Rows
def MtM (X:Cx)(id:String)(r:V->List V->Hp->VK->Prop):Prop :=
 ∀(pins:List (Addr×Obj)) (s:Shared) (σ:St) (H:Hp) (x:V) (xs:List V) (v:Value) (us:List Value) (Q:VK),Inv X pins σ H s->RelV x v->Vals xs us->r x xs H Q →
  wpAny (model X.prog X.w) X.A (call (.builtin id) (v::us)) (EP X pins σ Q) X.xe s
theorem Vals.one:∀{x:V}{us:List Value},Vals [x] us->∃u,us=[u]/\RelV x u
 | _,_,.cons r .nil=>⟨_,rfl,r⟩
section
variable {X:Cx}{pins:List (Addr×Obj)}{σ:St}{H:Hp}{s:Shared}{l b:Addr}{xs ys zs:List V}
theorem Inv.lset {its its':List Value}{n:Nat}{f:Array Value->Array Value}{t':Nat} (I:Inv X pins σ H s) (hH:H l=some (.lst xs))
  (e:s.heap.get? l=some { cls:= .type "list",data:= .seq its.toArray n })(hf:f its.toArray=its'.toArray)(hv:Vals ys its')(hz:ys.length<=sizeLine) :
  Inv X pins σ (upd H l (.lst ys)) { s with heap:=s.heap.update l (Obj.mapSeq f),toks:=t' }:=by
 have q:=PySem.IsL.update e f;rw[hf]at q;refine I.write (x:=l) (e:=l) (by rw[hH];exact trivial) (.inl rfl) (fun b' u hb hu=>(Heap.get?_update_other s.heap (Obj.mapSeq f) (Ne.symm hb)).trans hu) ⟨_,q⟩ ?_;exact⟨hz,its',_,hv,q⟩
theorem Inv.lnew {its:List Value}{t':Nat} (I:Inv X pins σ H s) (hv:Vals ys its) (hz:ys.length<=sizeLine) :
  Inv X pins σ (upd H s.heap.objs.size (.lst ys)) { s with heap:=s.heap.push { cls:= .type "list",data:= .seq its.toArray },toks:=t' } :=
 I.laid (fun _ _ q=>Heap.get?_push_of_some _ q) (Nat.le_refl _) ⟨hz,its,0,hv,Heap.get?_push_size _ rfl⟩
theorem Inv.fresh (I:Inv X pins σ H s):H s.heap.objs.size=none:=I.hok.fresh (Nat.le_refl _)
theorem Inv.lstM (I:Inv X pins σ H s)(hH:H l=some (.lst xs)):xs.length<=sizeLine/\∃(its:List Value) (n:Nat),Vals xs its/\xs.length=its.length/\s.heap.get? l=some { cls:= .type "list",data:= .seq its.toArray n }:=by
 obtain⟨z,its,n,r,e⟩:=I.hok l _ hH;exact⟨z,its,n,r,r.length,e⟩
theorem Y7 {n:Nat}(h:n<=sizeLine):Builtin.List.listTooLong n=false:=by
 unfold Builtin.List.listTooLong;exact decide_eq_false (by omega)
end
section
variable {X:Cx}
def O8:V->List V->Hp->VK->Prop:=fun x vs H Q=>∃l xs y,x= .ref l/\vs=[y]/\H l=some (.lst xs)/\xs.length<sizeLine/\Q .non (upd H l (.lst (xs++[y])))
theorem iB:MtM X "list.append" O8:=by
 intro pins s σ H x vs v us Q I rx rv h;obtain⟨l,xs,y,rfl,rfl,hH,hz,q⟩:=h;cases rx;obtain⟨u,rfl,ru⟩:=rv.one;obtain⟨z,its,n,r,hl,e⟩:=I.lstM hH;refine call_meets F.slot_list_append ⟨_,e,rfl⟩ F.entry_list_append (F.args_list_append_2 _ _) (PySem.list_append l its.toArray n u (by rw[List.size_toArray];omega)) ⟨e,?_⟩;refine⟨.non,_,I.lset (its':=its++[u]) hH e (by simp) (r.append (.cons ru .nil)) ?_,rfl,q⟩;rw[List.length_append,List.length_singleton];omega
def PX:V->List V->Hp->VK->Prop:=fun x vs H Q=>∃l b xs zs,x= .ref l/\vs=[.ref b]/\H l=some (.lst xs)/\H b=some (.lst zs)/\xs.length+zs.length<=sizeLine/\Q .non (upd H l (.lst (xs++zs)))
theorem U2:MtM X "list.extend" PX:=by
 intro pins s σ H x vs v us Q I rx rv h;obtain⟨l,b,xs,zs,rfl,rfl,hH,hB,hz,q⟩:=h;cases rx;obtain⟨u,rfl,ru⟩:=rv.one;cases ru;obtain⟨z,its,n,r,hl,e⟩:=I.lstM hH;obtain⟨z2,its2,n2,r2,hl2,e2⟩:=I.lstM hB;have hsz:its.toArray.size+its2.toArray.size<=sizeLine:=by rw[List.size_toArray,List.size_toArray];omega
 have hlong:¬(!its.toArray.isEmpty&&Builtin.List.listTooLong (its.toArray.size+its2.toArray.size))=true:=by
  rw[Y7 hsz,Bool.and_false];exact Bool.false_ne_true
 refine call_meets F.slot_list_extend ⟨_,e,rfl⟩ F.entry_list_extend (F.args_list_extend_2 _ _)
  (AutoSeq1.list_extend_list_list_0 l its.toArray n b its2.toArray n2 hlong (by rw[List.size_toArray];omega) (by omega)) ⟨e,e2,?_⟩
 refine⟨.non,_,I.lset (its':=its++its2) hH e (by simp) (r.append r2) ?_,rfl,q⟩;rw[List.length_append];omega
def aCD:R2:=fun x y H Q=>∃l b xs zs,x= .ref l/\y= .ref b/\H l=some (.lst xs)/\H b=some (.lst zs)/\xs.length+zs.length<=sizeLine/\∀p,H p=none->Q (.ref p) (upd H p (.lst (xs++zs)))
theorem E3:OpR X (binaryOp .Add) aCD:=by
 intro pins s σ H x y v u Q I rx ry h;obtain⟨l,b,xs,zs,rfl,rfl,hH,hB,hz,q⟩:=h;cases rx;cases ry;obtain⟨z,its,n,r,hl,e⟩:=I.lstM hH;obtain⟨z2,its2,n2,r2,hl2,e2⟩:=I.lstM hB;refine PySem.P.add_list e e2 ?_ (by rw[List.size_toArray,List.size_toArray];omega);have ea:its.toArray++its2.toArray=(its++its2).toArray:=by simp
 rw[ea];exact⟨.ref _,_,I.lnew (t':=s.toks) (r.append r2) (by rw[List.length_append];omega),rfl,q _ I.fresh⟩
end
section
variable {prog:Program}{w:World}{A:Around}{E:Value->Shared->Prop}{s:Shared}
set_option maxRecDepth 100000 in
end
section
variable {X:Cx}
end
end L2
namespace Att
open PySem PySem.W PySem.Calls PyProof.Rows
theorem D3 {P:Params}{h:Heap}:∀(ns:List Int) (vs:List Value),WellAll P h vs (ns.map WData.int)->IntsAre vs ns:=by
 intro ns
 induction ns with
 | nil =>
  intro vs w;rw[List.map_nil]at w;cases w;exact .nil
 | cons n ns ih =>
  intro vs w;rw[List.map_cons]at w;cases w with
  | cons a b =>
   cases a;exact .cons _ _ (ih _ b)
theorem SR {l:OpenLaw}{n:Nat} (hn:l.most=some n) {P:Params}{h:Heap}{args:List WData}{vals:List Value}
  (hpre:l.row.toRowW.claim.pre args=true)(hwl:WellAll P h vals args) :
  ∃a vs ns,vals=[Value.ref a]/\args=[WData.list (ns.map WData.int)]/\h.get? a=some { cls:= .type "list",data:= .seq vs.toArray }/\IntsAre vs ns/\ns.length<=n:=by
 have hsh:WShape.hasAll [] args [.list .int]=true:=(pre_splitW hpre).1;have hc:l.pre.holds [] { args:=args }=true:=(pre_splitW hpre).2;obtain⟨d,r,rfl,h1,h2⟩:=hasAllW_cons hsh;obtain rfl:=hasAllW_nil h2;obtain⟨xs,rfl,h3⟩:=hasW_list h1;obtain⟨ns,rfl⟩:=items_int h3;have hlen:ns.length<=n:=by
  unfold OpenLaw.pre at hc;have h4:(WTm.not (.lt (.lit (.int (n:Int))) (.len (.arg 0)))).holds [] { args:=[.list (ns.map .int)] }=true:=by
   have h4:=(holds_andW hc).1;rw[hn]at h4;exact h4
  have h5:=condW_of h4 (w_not (w_lt w_lit (w_len_list (w_arg rfl))));rw[List.length_map]at h5;refine Nat.le_of_not_lt fun q=> ?_;have q':(n:Int)<((ns.length:Nat):Int):=by omega
  first
   | (rw[decide_eq_true q']at h5;exact absurd h5 (by decide))
   | (simp at h5;omega)
 cases hwl with
 | cons w1 w2 =>
  cases w2;cases w1 with
  | list ho hall=>exact⟨_,_,ns,rfl,rfl,ho,D3 ns _ hall,hlen⟩
theorem UI (l:OpenLaw)(args:List WData):l.row.toRowW.claim.post args (.bool true) args=true :=
 postW_of (r:=l.row.toRowW) (X:=(true==true))
  (show WShape.has [] (.bool true) .bool=true by first|rfl|decide|simp[WShape.has,WShape.arms,WShape.armsAll])
  (show (WTm.eq .res (.lit (.bool true))).value [] { args:=args,res:=some (.bool true),after:=args }=some (.bool (true==true)) from w_eq_bool (w_res rfl) w_lit) rfl
theorem attach_call {l:OpenLaw}{n:Nat}{q:Program}{loose:List Str}{XP:(Str->Option Value)->Heap->Prop}{YP:World->Heap->Prop}{d:DefRec}
  (hn:l.most=some n)(hdf:d.params.defaults=[])
  (call:∀(w:World) (s₀ s₁:Shared) (mg mb:Str->Option Value) (fa:Addr) (o:Obj) (pm cd doc:Value) (a:Addr) (vs:List Value) (ns:List Int),
   Ground q loose [] XP w s₀ mg mb s₁.heap->YP w s₁.heap →
   s₁.heap.get? fa=some o->o.data= .func (docDef d.name d.params d.body d.scope pm cd doc)->s₁.heap.CodeRec cd d.name->mg d.name=some (.ref fa) →
   s₁.heap.get? a=some { cls:= .type "list",data:= .seq vs.toArray }->IntsAre vs ns->ns.length<=n->s₁.gens= #[] →
   codeAny (model l.prog w) callerA (.call (.ref fa) ⟨[.ref a],[]⟩) (fun r s'=>r= .ok (.ret (.bool true))/\OldK s₁.heap s'.heap/\s'.os=s₁.os/\AllBare s'.gens) s₁) :
  WalkO q loose XP YP l.row.toRowW d [] (fun f vs=>PySem.call f vs):=by
 intro w s₀ s₁ mg mb G Y fa o pm cd doc dV kV ho hd hcd hD hmg hg args vals as hpre hlay hrd hwl hlo;obtain rfl:dV= .none:=Dflts.none hD hdf;obtain rfl:kV= .none:=Dflts.noKw hD;obtain⟨a,vs,ns,rfl,rfl,hobj,hints,hlen⟩:=SR hn hpre hwl;refine enter_call (codeAny_mono (call w s₀ s₁ mg mb fa o pm cd doc a vs ns G Y ho (fd_plain hd) hcd hmg hobj hints hlen hg) fun r s' hq=> ?_);obtain⟨rfl,h2,h3,h4⟩:=hq;exact⟨.inl ⟨.bool true,.bool true,[],rfl,fun _=>rfl,.bool true,UI l _,fun _=>⟨List.Pairwise.nil,fun _ hm=>(nomatch hm)⟩⟩,h2,h3,h4⟩
section
variable {prog:Program}{w:World}{A:Around}{E:Value->Shared->Prop}{s:Shared}{K:Frag}
end
end Att
namespace L2
open PySem PySem.Spec PyProof.Rows
theorem HS:∀{vs:List Value}{ns:List Int},IntsAre vs ns->Vals (ns.map V.int) vs
 | _,_,.nil=> .nil
 | _,_,.cons n t h=> .cons ⟨t,rfl⟩ (HS h)
end L2
namespace L2
open PySem PySem.Spec PyProof.Rows
end L2
namespace L2
open PySem PySem.Spec PyProof.Rows
def bX (s:Stmt)(j:Nat):Stmt:=match s with
 | .ClassDef _ _ _ body _ _ _ _ _ _ _=>body.getD j (.Pass ⟨0,0,0,0⟩)
 | _=> .Pass ⟨0,0,0,0⟩
def aK (s:Stmt):Arguments:=match s with
 | .FunctionDef _ a _ _ _ _ _ _ _ _=>a
 | _=>{ posonlyargs:=[],args:=[],vararg:=none,kwonlyargs:=[],kw_defaults:=[],kwarg:=none,defaults:=[] }
def aJ (s:Stmt):List Stmt:=match s with
 | .FunctionDef _ _ b _ _ _ _ _ _ _=>b
 | _=>[]
def aD (s:Stmt):Scope:=match s with
 | .FunctionDef _ _ _ _ _ _ sc _ _ _=>sc
 | _=>{ kind:= .function,names:=[],isGenerator:=false,isCoroutine:=false }
abbrev CX0:CXT:=fun _ _ _ _ _ _=>False
abbrev E0:XK:=fun _ _ _=>False
theorem wW {X:Cx}:yM CX0 X E0:=fun _ _ _ _ _ _ _ h=>h.elim
section
variable {P:Program}{w:World}{K:PySem.W.Frag}{mg:Str->Option Value}{base:Heap}
end
theorem UM {n:Nat}(h:n<=1000):n<sizeLine:=Nat.lt_of_le_of_lt h (by decide)
section
variable {X:Cx}
theorem pv (i:Nat){x:Str}{pos:Pos} (hN:X.N[i]? =some x:=by rfl) (hv:Vis X.env.scope x:=by first|exact Or.inl rfl|exact Or.inr (Or.inl rfl)|exact Or.inr (Or.inr rfl)) (hd:(x==("__debug__" :Str))=false:=by decide)
  (hcd:(x==("__classdict__" :Str))=false:=by decide):PE X (.Name x pos) (i4 i):=SV hN hv hd hcd
end
theorem GI {c A B:Prop}[Decidable c](h1:c->A)(h2:¬c->B):if c then A else B:=by
 by_cases h:c
 ·rw[if_pos h];exact h1 h
 ·rw[if_neg h];exact h2 h
def Same (H H':Hp):Prop:=∀b o,H b=some o->H' b=some o
theorem Same.refl (H:Hp):Same H H:=fun _ _ h=>h
theorem Same.trans {H H1 H2:Hp}(a:Same H H1)(b:Same H1 H2):Same H H2:=fun c o h=>b c o (a c o h)
theorem Same.seq {K:PySem.W.Frag}{H H':Hp}{a:Addr}{xs:List V} (e:Same H H') (h:SqL K H a xs):SqL K H' a xs:=by
 rcases h with (h|⟨o,h⟩)|h
 ·exact .inl (.inl (e _ _ h))
 ·exact .inl (.inr ⟨o,e _ _ h⟩)
 ·exact .inr h
end L2
namespace L2
open PySem PySem.Spec PyProof.Rows
section
variable {X:Cx}{pins:List (Addr×Obj)}{σ:St}{H:Hp}{s:Shared}{D:Addr}{ys:List V}
theorem HOk.adds {P:Program}{w:World}{h:Heap}{o:HO} (x:HOk P w H h) (hn:H D=none) (new:ObjOk P w (upd H D o) h D o):HOk P w (upd H D o) h:=fun b u e=>by
 by_cases hb:b=D
 ·subst hb;rw[bJ]at e;cases e;exact new
 ·rw[aU hb]at e;exact(x b u e).stay (fun c v _ q=>q) (fun c q=>by rw[aU (bM q hn)];exact q) fun c xs q=>by rw[aU (bM q hn)];exact q
theorem HOk.drops {P:Program}{w:World}{h:Heap} (x:HOk P w (upd H D (.lst ys)) h) (hn:H D=none):HOk P w H h:=fun b u e=>by
 have hb:b≠D:=bM e hn;refine(x b u (by rw[aU hb];exact e)).stay (fun c v _ q=>q) (fun c q=> ?_) fun c xs q=> ?_
 ·by_cases hc:c=D
  ·subst hc;rw[bJ]at q;cases q
  ·rw[aU hc]at q;exact q
 ·by_cases hc:c=D
  ·subst hc;rw[bJ]at q;cases q
  ·rw[aU hc]at q;exact q
theorem Inv.track {its:List Value}{n:Nat} (I:Inv X pins σ H s) (hn:H D=none) (e:s.heap.get? D=some { cls:= .type "list",data:= .seq its.toArray n }) (r:Vals ys its) (hz:ys.length<=sizeLine)
  (h0:X.s₀.heap.objs.size<=D)(h1:D≠X.env.locals)(h2:∀x c,X.env.cells.lookup x=some c->c≠D)(h3:∀p∈X.pn++pins,p.1≠D):Inv X pins σ (upd H D (.lst ys)) s where
 ok:=I.ok
 os:=I.os
 bare:=I.bare
 base:=by
  have lt:∀b o,X.s₀.heap.get? b=some o->b≠D:=fun b o q=>Nat.ne_of_lt (Nat.lt_of_lt_of_le (Heap.lt_size q) h0);refine⟨I.base.keep,I.base.slot,fun b o q n' hx=> ?_,I.base.there,fun b xs q=> ?_,fun b o u q=> ?_,fun b ps q=> ?_⟩
  ·rw[aU (lt b o q)];exact I.base.free b o q n' hx
  ·have z:=I.base.tups b xs q;rw[aU (bM z hn)];exact z
  ·have z:=I.base.frzs b o u q;rw[aU (bM z hn)];exact z
  ·obtain⟨more,z⟩:=I.base.tbls b ps q;exact⟨more,by rw[aU (bM z hn)];exact z⟩
 loc:=I.loc
 cell:=I.cell
 free:=by rw[aU (Ne.symm h1)];exact I.free
 freeC:=fun x c q=>by rw[aU (h2 x c q)];exact I.freeC x c q
 pin:=fun p hp=>by
  obtain⟨a,b,c⟩:=I.pin p hp;exact⟨a,by rw[aU (h3 p hp)];exact b,c⟩
 hok:=I.hok.adds hn ⟨hz,its,n,r,e⟩
 len:=I.len
theorem Inv.untrack (I:Inv X pins σ (upd H D (.lst ys)) s)(hn:H D=none):Inv X pins σ H s where
 ok:=I.ok
 os:=I.os
 bare:=I.bare
 base:=by
  have low:∀b u,upd H D (.lst ys) b=some u->(∀xs,u≠ .lst xs)->H b=some u:=fun b u q nl=>by
   by_cases hb:b=D
   ·subst hb;rw[bJ]at q;cases q;exact absurd rfl (nl ys)
   ·rw[aU hb]at q;exact q
  refine⟨I.base.keep,I.base.slot,fun b o q n' hx=> ?_,I.base.there,fun b xs q=> ?_,fun b o u q=> ?_,fun b ps q=> ?_⟩
  ·have z:=I.base.free b o q n' hx
   by_cases hb:b=D
   ·subst hb;exact hn
   ·rw[aU hb]at z;exact z
  ·exact low _ _ (I.base.tups b xs q) (fun _ z=>by cases z)
  ·exact low _ _ (I.base.frzs b o u q) (fun _ z=>by cases z)
  ·obtain⟨more,z⟩:=I.base.tbls b ps q;exact⟨more,low _ _ z (fun _ z=>by cases z)⟩
 loc:=I.loc
 cell:=I.cell
 free:=by
  have z:=I.free
  by_cases hb:X.env.locals=D
  ·rw[hb];exact hn
  ·rw[aU hb]at z;exact z
 freeC:=fun x c q=>by
  have z:=I.freeC x c q
  by_cases hb:c=D
  ·rw[hb];exact hn
  ·rw[aU hb]at z;exact z
 pin:=fun p hp=>by
  obtain⟨a,b,c⟩:=I.pin p hp;refine⟨a,?_,c⟩
  by_cases hb:p.1=D
  ·rw[hb];exact hn
  ·rw[aU hb]at b;exact b
 hok:=I.hok.drops hn
 len:=I.len
end
def cB (X:Cx)(scope:Scope)(cl:List (Str×Addr))(N:List Str)(C:Addr)(s0:Shared)(H0:Hp)(fp:List Addr):Cx where
 prog:=X.prog
 w:=X.w
 K:=X.K
 mg:=X.mg
 base:=X.base
 A:=X.A
 N:=N
 s₀:=s0
 H₀:=H0
 env:=compEnvC scope cl C X.env
 outer:=X.stack
 stack:=X.stack
 ex:=fp
 fn:=fun _=>false
 calm:=X.calm
 pn:=[]
 xe:=fun _ _=>False
structure Blk (X:Cx)(scope:Scope)(cl:List (Str×Addr))(N:List Str)(nl:Nat)(ci:List Nat):Prop where
 kind:scope.kind= .function
 names:∀y∈scope.names,y.2= .local->scope.names.lookup y.1=some .local
 nocell:∀y∈scope.names,y.2≠ .cell
 clos:closureFor scope X.env=pure cl
 sub:∀n c,cl.lookup n=some c->X.env.cells.lookup n=some c
 has:∀n,((relabel scope X.env).names.lookup n=some .cell∨(relabel scope X.env).names.lookup n=some .free)->∃c,cl.lookup n=some c
 len:N.length=nl+ci.length
 cap:∀(j i:Nat),ci[j]? =some i->∃n,N[nl+j]? =some n/\X.N[i]? =some n/\(X.env.scope.names.lookup n=some .cell∨X.env.scope.names.lookup n=some .free) ∧
  ((relabel scope X.env).names.lookup n=some .cell∨(relabel scope X.env).names.lookup n=some .free)/\cl.lookup n=X.env.cells.lookup n
def cN (nl:Nat)(ci:List Nat)(σ:St):St:=List.replicate nl none++ci.map fun i=>(σ[i]?).join
theorem VV {nl:Nat}{ci:List Nat}{σ:St}{k:Nat}{v:V} (h:(cN nl ci σ)[k]? =some (some v)):∃j i,k=nl+j/\ci[j]? =some i/\σ[i]? =some (some v):=by
 unfold cN at h
 by_cases hk:k<nl
 ·rw[List.getElem?_append_left (by simpa using hk),List.getElem?_replicate]at h
  split at h<;>cases h
 ·rw[List.getElem?_append_right (by simpa using hk),List.length_replicate,List.getElem?_map]at h;cases e:ci[k - nl]? with
  | none=>rw[e]at h;cases h
  | some i =>
   rw[e]at h;have h':(σ[i]?).join=some v:=by simpa using h
   refine⟨k - nl,i,by omega,e,?_⟩;cases q:σ[i]? with
   | none=>rw[q]at h';cases h'
   | some o=>rw[q]at h';simp at h';rw[h']
theorem LA {nl:Nat}{ci:List Nat}{σ:St}:(cN nl ci σ).length=nl+ci.length:=by unfold cN;simp
section
variable {X:Cx}{scope:Scope}{cl:List (Str×Addr)}{N:List Str}{nl:Nat}{ci:List Nat}{pins:List (Addr×Obj)}{σ:St}{H2:Hp}{s2:Shared}{fp:List Addr}
theorem ON (B:Blk X scope cl N nl ci)(I:Inv X pins σ H2 s2)(f2:∀b∈fp,tH X pins H2 b)(fo:∀b∈fp,∃o,s2.heap.get? b=some o){C:Addr}{h4:Heap}{t4:Nat}{m4:Str->Option Value} (hC:s2.heap.objs.size<=C) (hns:h4.Ns C m4)
  (hk:∀b o,s2.heap.get? b=some o->h4.get? b=some o):Inv (cB X scope cl N C s2 H2 fp) [] (cN nl ci σ) H2 { s2 with heap:=h4,toks:=t4 }:=by
 have lt2:∀b∈fp,b<s2.heap.objs.size:=fun b hb=>by obtain⟨o,e⟩:=fo b hb;exact Heap.lt_size e
 have ok:(cB X scope cl N C s2 H2 fp).Ok:=by
  refine⟨I.ok.mod,B.kind,I.ok.glob,I.ok.blt,hC,fun x y c h1 h2=>I.ok.inj x y c (B.sub x c h1) (B.sub y c h2),fun x hx=>B.has x hx,fun x c hf _=>(by cases hf),I.ok.hd,I.ok.frames,.inl rfl,fun b hb=>⟨?_,?_⟩,I.bs,?_,fun b o e hb=> ?_,fun b hb z=> ?_,I.stack,I.stkFree⟩
  ·exact Nat.ne_of_lt (Nat.lt_of_lt_of_le (lt2 b hb) hC)
  ·exact fun x c h=>(f2 b hb).2.2.2.2.1 x c (B.sub x c h)
  ·exact Nat.le_trans I.ok.bsz I.sz
  ·rcases (f2 b hb).2.2.2.1 with z|z
   ·exact I.ok.noex b o e z
   ·exact absurd (Nat.lt_of_lt_of_le (Heap.lt_size e) (Nat.le_trans I.ok.bsz z)) (Nat.lt_irrefl _)
  ·rcases List.mem_cons.mp (I.stkSub b z) with q|q
   ·exact(f2 b hb).2.1 q
   ·exact(f2 b hb).2.2.1 q
 refine⟨ok,rfl,I.bare,Un.kept hk,⟨m4,hns,fun k x v e1 e2 e3=> ?_⟩,fun x c e=> ?_,I.hok.fresh hC,fun x c e=>I.freeC x c (B.sub x c e),fun p hp=>(by cases hp),I.hok.kept hk,?_⟩
 ·obtain⟨j,i,rfl,hj,hσ⟩:=VV e2;obtain⟨n,hn1,hn2,hk1,hk2,hl⟩:=B.cap j i hj;have en:x=n:=by
   have e1':N[nl+j]? =some x:=e1;rw[hn1]at e1';exact(Option.some.inj e1').symm
  subst en;obtain⟨m,hm,hloc⟩:=I.loc;have vis:Vis X.env.scope x:= .inr hk1;obtain⟨u,ru,lk⟩:=hloc i x v hn2 hσ vis;refine⟨u,ru,.inr ⟨hk2,?_⟩⟩;rcases lk with⟨kl,_⟩|⟨_,c,ec,hc⟩
  ·have kl':X.env.scope.names.lookup x=some .local:=kl;rcases hk1 with z|z<;>· rw[z]at kl';cases kl'
  ·refine⟨c,hl.trans ec,?_⟩;obtain⟨o,ho,hd⟩:=hc;exact⟨o,hk _ _ ho,hd⟩
 ·obtain⟨v,o,ho,hd⟩:=I.cell x c (B.sub x c e);exact⟨v,o,hk _ _ ho,hd⟩
 ·show (cN nl ci σ).length=N.length;rw[LA,B.len]
theorem TN {C:Addr}{σ':St}{H':Hp}{s':Shared}{pb:List (Addr×Obj)} (I:Inv X pins σ H2 s2) (f2:∀b∈fp,tH X pins H2 b) (J:Inv (cB X scope cl N C s2 H2 fp) pb σ' H' s'):Inv X pins σ H' s' :=
 I.call' J.os J.base J.hok J.bare fun b hb=>⟨(f2 b hb).2.2.2.1,(f2 b hb).2.1,(f2 b hb).2.2.2.2.1,(f2 b hb).2.2.2.2.2⟩
end
section
variable {prog:Program}{w:World}{A:Around}{R:Result->Shared->Prop}{s:Shared}
theorem OK {elt target iter:Expr}{ifs:List Expr}{scope:Scope}{pos:Pos}{it acc:Value}{env:Env} (I:Nat->Shared->Prop)
  (turn:∀n s,I n s->wpAny (model prog w) A (pyNext it) (fun r s₁=>match r with
   | none=>R (.ok .next) s₁
   | some v=>wpAny (model prog w) A (letOwnedTupleGo target it v) (fun _ s₁'=>wpAny (model prog w) A (assign target env v) (fun _ s₂ =>
     wpAny (model prog w) A (forIn ifs true fun c r=>if r=true then do let ok ←isTrue c env (eval c env);pure (ForInStep.yield ok) else pure (ForInStep.yield r)) (fun ok s₃ =>
      if ok=true then wpAny (model prog w) A (eval elt env) (fun x s₄ =>
       wpAny (model prog w) A (call (.builtin "list.append") [acc,x]) (fun _ s₅=>∃m,m<n/\I m s₅) (notedBy (model prog w) A env fun e s'=>R (.error e) s') s₄) (notedBy (model prog w) A env fun e s'=>R (.error e) s') s₃
      else ∃m,m<n/\I m s₃) (notedBy (model prog w) A env fun e s'=>R (.error e) s') s₂) (notedBy (model prog w) A env fun e s'=>R (.error e) s') s₁') (notedBy (model prog w) A env fun e s'=>R (.error e) s') s₁) (notedBy (model prog w) A env fun e s'=>R (.error e) s') s)
  (n:Nat)(h:I n s) :
  codeAny (model prog w) A (.compLoop (.ListComp elt [⟨target,iter,ifs,0⟩] scope pos) 0 it acc env) R s:=by
 refine codeAny_loop rfl I (fun n s hI=> ?_) n h;show wpAny _ A ((compTurn (.ListComp elt [⟨target,iter,ifs,0⟩] scope pos) 0 it acc env).onRaise (fun x=>do noteFrame x env;theTreesLotGoes x)) _ _ s;refine wpAny_noted ?_;rw[compTurn_list];refine wpAny_bind (wpAny_standAt (wpAny_bind (wpAny_mono (turn n s hI) (fun r s₁ h₁=> ?_) fun _ _ h'=>h')));cases r with
 | none=>exact wpAny_pure h₁
 | some v =>
  refine wpAny_bind (wpAny_mono h₁ (fun _ s₁' h₁'=> ?_) fun _ _ h'=>h');refine wpAny_bind (wpAny_mono h₁' (fun _ s₂ h₂=>wpAny_bind (wpAny_mono h₂ (fun ok s₃ h₃=> ?_) fun _ _ h'=>h')) fun _ _ h'=>h');cases ok with
  | false=>exact wpAny_pure ⟨rfl,h₃⟩
  | true =>
   exact wpAny_bind (wpAny_bind (wpAny_mono h₃ (fun x s₄ h₄=>wpAny_bind (wpAny_mono h₄ (fun _ s₅ h₅=>wpAny_pure (wpAny_pure ⟨rfl,h₅⟩)) fun _ _ h'=>h')) fun _ _ h'=>h'))
end
def PF (X:Cx)(ifs:List Expr)(t:TT):Prop :=
 ∀(pins:List (Addr×Obj)) (s:Shared) (σ:St) (H:Hp) (Q:Bool->Hp->Prop),Inv X pins σ H s->t σ H Q →
  wpAny (model X.prog X.w) X.A (forIn ifs true fun c r=>if r=true then do let ok ←isTrue c X.env (eval c X.env);pure (ForInStep.yield ok) else pure (ForInStep.yield r)) (TP X pins σ Q) X.xe s
def CJ:TT:=fun _ H Q=>Q true H
theorem fC {X:Cx}:PF X [] CJ:=fun _ _ _ H _ I h=>wpAny_tests_nil ⟨H,I,h⟩
theorem gY {X:Cx}{c:Expr}{t:TT} (h:PT X c t):PF X [c] t:=fun pins s σ H Q I q=>wpAny_tests_one (h pins s σ H Q I q)
def eJ (J:It)(g:TG)(ti:TT)(te:TE)(σ0:St)(fin:List V->Hp->Prop)(H1:Hp):Prop :=
 ∃W:Nat->Nat->List V->Hp->Prop,(∃m,W 0 m [] H1)/\∀i m ys H,W i m ys H →
  (J.stop i H/\fin ys H) ∨
  (J.go i H/\∀x H',J.yld i H x H'->g x σ0 H' fun σ2 H2=>(σ2.length=σ0.length/\∀(j:Nat) v,σ0[j]? =some (some v)->σ2[j]? =some (some v)) ∧
   ti σ2 H2 fun b H3=>if b=true then te σ2 H3 fun y H4=>ys.length<sizeLine/\∃m',m'<m/\W (i+1) m' (ys++[y]) H4 else ∃m',m'<m/\W (i+1) m' ys H3)
def Q4 (wi:TI)(nl:Nat)(ci:List Nat)(g:TG)(ti:TT)(te:TE):TE:=fun σ H Q =>
 wi σ H fun J H1=>eJ J g ti te (cN nl ci σ) (fun ys H'=>∀p,H' p=none->Q (.ref p) (upd H' p (.lst ys))) H1
section
variable {X:Cx}{scope:Scope}{cl:List (Str×Addr)}{N:List Str}{nl:Nat}{ci:List Nat}{tg elt iter:Expr}{ifs:List Expr}{pos:Pos}{wi:TI}{g:TG}{ti:TT}{te:TE}
theorem IM {pins:List (Addr×Obj)}{σ:St}{H2:Hp}{s2:Shared}{fp:List Addr}{it:Addr}{J:It}{tn:Nat->Heap->Prop}{E:Value->Shared->Prop}{RR:Value->Addr->Result->Shared->Prop}{fin:List V->Hp->Prop}
  (hc:X.calm=true)(B:Blk X scope cl N nl ci)(hg:∀C s0 H0 fp,PG (cB X scope cl N C s0 H0 fp) tg g)(hi:∀C s0 H0 fp,PF (cB X scope cl N C s0 H0 fp) ifs ti)(he:∀C s0 H0 fp,PE (cB X scope cl N C s0 H0 fp) elt te)
  (I2:Inv X pins σ H2 s2)(T:zI X.prog X.w X.K tg J fp it tn)(st2:tn 0 s2.heap)(f2:∀b∈fp,tH X pins H2 b)(hW:eJ J g ti te (cN nl ci σ) fin H2)
  (hfin:∀(D C:Addr) (s':Shared) (H':Hp) (ys:List V) (oC:Obj) (m:Str->Option Value),H' D=none->Inv X (pins++[(C,oC)]) σ (upd H' D (.lst ys)) s'->s'.heap.Ns C m->s2.heap.objs.size<=C->fin ys H'->RR (.ref D) C (.ok .next) s') :
  wpAny (model X.prog X.w) X.A (newList []) (fun acc s₃=>wpAny (model X.prog X.w) X.A (newFunctionEnv scope X.env.globals cl [] X.env.qual none .none (some X.env)) (fun cenv s₄ =>
   codeAny (model X.prog X.w) X.A (.compStart (.ListComp elt [⟨tg,iter,ifs,0⟩] scope pos) 0 (.ref it) acc { cenv with scope:=relabel scope X.env }) (RR acc cenv.locals) s₄) E s₃) E s2:=by
 obtain⟨W,⟨m0,w0⟩,turn⟩:=hW;refine wpAny_newObj_type (wpAny_newFunctionEnv B.nocell (by intro y hy;simp at hy) (fun h1 hns1 hsb1=> ?_) B.kind)
 dsimp only at hns1 hsb1 ⊢
 generalize hH2:s2.heap.push { cls:= .type "list",dict:=none,data:= .seq ([]:List Value).toArray }=G2 at hns1 hsb1 ⊢;have hCs:G2.objs.size=s2.heap.objs.size+1:=by rw[←hH2,Heap.size_push]
 generalize hCe:G2.objs.size=C at hns1 hsb1 hCs ⊢;have hDC:s2.heap.objs.size≠C:=by rw[hCs];exact Nat.ne_of_lt (Nat.lt_succ_self _)
 have hCle:s2.heap.objs.size<=C:=by rw[hCs];exact Nat.le_succ _
 have old:∀b o,s2.heap.get? b=some o->h1.get? b=some o:=fun b o e=>hsb1.extBut b o (by rw[hCs];exact Nat.ne_of_lt (Nat.lt_succ_of_lt (Heap.lt_size e))) (Heap.get?_push_of_some _ (hH2▸Heap.get?_push_of_some _ e));have hacc:h1.get? s2.heap.objs.size=some { cls:= .type "list",data:= .seq ([]:List Value).toArray 0 }:=hsb1.extBut _ _ hDC (Heap.get?_push_of_some _ (hH2▸Heap.get?_push_size _ rfl));have fo:∀b∈fp,∃o,s2.heap.get? b=some o:=fun b hb=>let ⟨o,e,_⟩:=T.obj 0 _ st2 b hb;⟨o,e⟩;have lt2:∀b∈fp,b<s2.heap.objs.size:=fun b hb=>let ⟨o,e⟩:=fo b hb;Heap.lt_size e;have hDfp:s2.heap.objs.size∉fp:=fun z=>Nat.lt_irrefl _ (lt2 _ z);have hCfp:C∉fp:=fun z=>Nat.lt_irrefl _ (Nat.lt_of_lt_of_le (lt2 _ z) hCle);generalize hDe:s2.heap.objs.size=D at hCs hDC hCle hacc hDfp lt2;have loop:∀s3:Shared,s3={ s2 with heap:=h1,toks:=s2.toks+([]:List (Str×Value)).length } →
   codeAny (model X.prog X.w) X.A (.compLoop (.ListComp elt [⟨tg,iter,ifs,0⟩] scope pos) 0 (.ref it) (.ref D) (compEnvC scope cl C X.env)) (RR (.ref D) C) s3:=by
  rintro s3 rfl;have I4:Inv (cB X scope cl N C s2 H2 fp) [] (cN nl ci σ) H2 { s2 with heap:=h1,toks:=s2.toks+([]:List (Str×Value)).length }:=ON B I2 f2 fo (by rw[hDe];exact hCle) hns1 old;have fpk:∀{H':Hp},(∀b∈fp,H' b=none)->∀b∈fp,tH (cB X scope cl N C s2 H2 fp) [] H' b:=fun hn b hb =>
   ⟨hn b hb,(I4.ok.exf b hb).1,I4.ok.exfs b hb,.inl hb,(I4.ok.exf b hb).2,fun p hp=>by cases hp⟩
  have hDX:∀x c,(cB X scope cl N C s2 H2 fp).env.cells.lookup x=some c->c≠D:=fun x c e=>by
   obtain⟨v,o,ho,_⟩:=I2.cell x c (B.sub x c e);rw[←hDe];exact Nat.ne_of_lt (Heap.lt_size ho)
  have hDL:D≠(cB X scope cl N C s2 H2 fp).env.locals:=hDC;have hDf:D∉(cB X scope cl N C s2 H2 fp).fs:=fun z=>by
   rcases List.mem_cons.mp (I2.stkSub D z) with q|q
   ·exact Nat.lt_irrefl _ (by have:=I2.lt;rw[hDe,←q]at this;exact this)
   ·exact I2.nofs (by rw[hDe];exact Nat.le_refl _) q
  refine OK (fun n s'=>∃i ys its k H',W i n ys H'/\Inv (cB X scope cl N C s2 H2 fp) [] (cN nl ci σ) H' s'/\tn i s'.heap/\(∀b∈fp,H' b=none)/\H' D=none ∧
   s'.heap.get? D=some { cls:= .type "list",data:= .seq its.toArray k }/\Vals ys its/\ys.length<=sizeLine) ?_ m0 ?_
  ·rintro n s' ⟨i,ys,its,k,H',w',I',st',fr',hD',eD,rv,hz⟩;have IP:Inv (cB X scope cl N C s2 H2 fp) [(D,{ cls:= .type "list",data:= .seq its.toArray k })] (cN nl ci σ) H' s':=I'.pins_of fun p hp=>by
    obtain rfl:p=_:=by simpa using hp
    exact⟨eD,hD',hDL,hDf,fun v z=>by cases z⟩
   have fpD:∀{H'':Hp},(∀b∈fp,H'' b=none)->∀b∈fp,tH (cB X scope cl N C s2 H2 fp) [(D,{ cls:= .type "list",data:= .seq its.toArray k })] H'' b:=fun hn b hb =>
    ⟨hn b hb,(I4.ok.exf b hb).1,I4.ok.exfs b hb,.inl hb,(I4.ok.exf b hb).2,fun p hp=>by
     obtain rfl:p=_:=by simpa [cB] using hp
     exact fun z=>hDfp ((show D=b from z)▸hb)⟩
   rcases turn i n ys H' w' with⟨stop,q⟩|⟨go,step⟩
   ·refine thn (T.done (cB X scope cl N C s2 H2 fp) rfl rfl rfl hc i _ s' (cN nl ci σ) H' _ IP (fpD fr') st' stop) fun r s'' ⟨hr,I''⟩=> ?_;subst hr;have eD2:=(I''.pin (D,_) (List.mem_append_right _ List.mem_cons_self)).1;have J1:Inv (cB X scope cl N C s2 H2 fp) [] (cN nl ci σ) (upd H' D (.lst ys)) s'' :=
     (I''.pins_of (pins':=[]) fun p hp=>by cases hp).track hD' eD2 rv hz (by show s2.heap.objs.size<=D;rw[hDe];exact Nat.le_refl _) hDL hDX fun p hp=>by cases hp
    have K1:Inv X pins σ (upd H' D (.lst ys)) s'':=TN I2 f2 J1;obtain⟨mC,nsC,_⟩:=J1.loc;obtain⟨oC,es,ep,hoC,hdC,rC⟩:=id nsC;refine hfin D C s'' H' ys oC mC hD' (K1.pins_of fun p hp=> ?_) nsC (by rw[hDe];exact hCle) q;rcases List.mem_append.mp hp with hp|hp
    ·exact K1.pin p (List.mem_append_right _ hp)
    ·obtain rfl:p=(C,oC):=by simpa using hp
     refine⟨hoC,J1.free,Nat.ne_of_gt (Nat.lt_of_lt_of_le I2.lt (by rw[hDe];exact hCle)),I2.nofs (by rw[hDe];exact hCle),fun v z=> ?_⟩;rw[hdC]at z;cases z
   ·refine thn (T.item (cB X scope cl N C s2 H2 fp) rfl rfl rfl hc i _ s' (cN nl ci σ) H' _ IP (fpD fr') st' go) fun r s4 ⟨u,hr,h4⟩=> ?_;subst hr;refine thn h4 fun _ s5 ⟨x,H5,I5,r5,y5,st5,fr5⟩=> ?_;have I5':=I5.pinned (fpD fr5) (T.obj _ _ st5);refine wpAny_mono (hg C s2 H2 fp _ s5 (cN nl ci σ) H5 x u _ I5' r5 (step x H5 y5)) (fun _ s6 ⟨σ6,H6,I6,⟨hl6,hk6⟩,q6⟩=> ?_) fun _ _ f=>f.elim;refine wpAny_mono (hi C s2 H2 fp _ s6 σ6 H6 _ I6 q6) (fun b s7 ⟨H7,I7,q7⟩=> ?_) fun _ _ f=>f.elim;have pinD:∀{pp:List (Addr×Obj)}{σx:St}{Hx:Hp}{sx:Shared},Inv (cB X scope cl N C s2 H2 fp) ([(D,({ cls:= .type "list",data:= .seq its.toArray k }:Obj))]++qR fp s5.heap) σx Hx sx →
      sx.heap.get? D=some { cls:= .type "list",data:= .seq its.toArray k }/\Hx D=none/\tn (i+1) sx.heap/\(∀b∈fp,Hx b=none):=fun {pp σx Hx sx} Ix=>by
     refine⟨(Ix.pin (D,_) (List.mem_append_right _ (List.mem_append_left _ List.mem_cons_self))).1,(Ix.pin (D,_) (List.mem_append_right _ (List.mem_append_left _ List.mem_cons_self))).2.1,T.keep _ _ _ st5 fun b hb o e=>(Ix.pin (b,o) (List.mem_append_right _ (List.mem_append_right _ (nG hb e)))).1,fun b hb=> ?_⟩;obtain⟨o,e,d⟩:=T.obj _ _ st5 b hb;exact(Ix.pin (b,o) (List.mem_append_right _ (List.mem_append_right _ (nG hb e)))).2.1
    cases b with
    | false =>
     rw[if_neg Bool.false_ne_true]at q7 ⊢;obtain⟨m',hm',w7⟩:=q7;obtain⟨e7,n7,st7,fr7⟩:=pinD (pp:=[]) I7;exact⟨m',hm',i+1,ys,its,k,H7,w7,(I7.pins_of (pins':=[]) fun p hp=>by cases hp).weak hl6.symm hk6,st7,fr7,n7,e7,rv,hz⟩
    | true =>
     rw[if_pos rfl]at q7 ⊢;refine wpAny_mono (he C s2 H2 fp _ s7 σ6 H7 _ I7 q7) (fun y' s8 ⟨y,H8,I8,r8,hlt,m',hm',w8⟩=> ?_) fun _ _ f=>f.elim;obtain⟨e8,n8,st8,fr8⟩:=pinD (pp:=[]) I8;have I8f:Inv (cB X scope cl N C s2 H2 fp) (qR fp s5.heap) σ6 H8 s8:=I8.pins_of fun p hp=>I8.pin p (List.mem_append_right _ (List.mem_append_right _ hp));have I8t:=I8f.track n8 e8 rv hz (by show s2.heap.objs.size<=D;rw[hDe];exact Nat.le_refl _) hDL hDX fun p hp=>by
      have hp':p∈qR fp s5.heap:=by simpa [cB] using hp
      exact fun z=>hDfp (z▸(IK hp').1)
     refine wpAny_mono (iB (X:=cB X scope cl N C s2 H2 fp) (qR fp s5.heap) s8 σ6 _ (.ref D) [y] (.ref D) [y'] (fun _ H9=>H9=upd H8 D (.lst (ys++[y]))) I8t rfl (.cons r8 .nil)
      ⟨D,ys,y,rfl,rfl,bJ,hlt,aAl⟩) (fun _ s9 ⟨_,H9,I9,_,e9⟩=> ?_) fun _ _ f=>f.elim
     subst e9;obtain⟨hz9,its9,k9,rv9,e9⟩:=I9.hok D _ bJ;have I9u:=I9.untrack n8;refine⟨m',hm',i+1,ys++[y],its9,k9,H8,w8,(I9u.pins_of (pins':=[]) fun p hp=>by cases hp).weak hl6.symm hk6,?_,fr8,n8,e9,rv9,hz9⟩;exact T.keep _ _ _ st5 fun b hb o e=>(I9u.pin (b,o) (List.mem_append_right _ (nG hb e))).1
  ·exact⟨0,[],[],0,H2,w0,I4,T.keep _ _ _ st2 fun b hb o e=>old b o e,fun b hb=>(f2 b hb).1,I2.hok.fresh (by rw[hDe];exact Nat.le_refl _),hacc,.nil,Nat.zero_le _⟩
 exact codeAny_compStart_list (loop _ rfl) (T.self _ 0 _ _ _ (T.keep _ _ _ st2 fun b hb o e=>old b o e) (loop _ rfl))
theorem cV (hc:X.calm=true)(B:Blk X scope cl N nl ci)(hp:PI X tg iter wi)(hg:∀C s0 H0 fp,PG (cB X scope cl N C s0 H0 fp) tg g)(hi:∀C s0 H0 fp,PF (cB X scope cl N C s0 H0 fp) ifs ti)
  (he:∀C s0 H0 fp,PE (cB X scope cl N C s0 H0 fp) elt te)(hs:∀x,foldedSetIterable iter X.env x=pure x:=by intro _;rfl):PE X (.ListComp elt [⟨tg,iter,ifs,0⟩] scope pos) (Q4 wi nl ci g ti te):=by
 intro pins s σ H Q I h;rw[eval_ListComp];refine wpAny_comprehension_free (use:=none) rfl hs B.clos B.kind B.names (thn (hp pins s σ H _ I h) fun v s1 h1=>thn h1 fun itv s2 h2=> ?_);obtain⟨it,fp,tn,J,H2,e,I2,T,st2,f2,hW⟩:=h2;subst e;refine IM (RR:=fun acc C=>compPost (model X.prog X.w) X.A X.xe none (EP X pins σ Q) acc C) hc B hg hi he I2 T st2 f2 hW ?_;intro D C s' H' ys oC m hD K1 hn hC q;refine⟨m,hn,fun h' hs'=> ?_⟩;have hL:C≠X.env.locals:=(K1.pin (C,oC) (by simp)).2.2.1;have I9:Inv X pins σ (upd H' D (.lst ys)) { s' with heap:=h',toks:=s'.toks }:=K1.unpinned.turned (t':=s'.toks) (it:=C) (fun b o hb e=>hs'.extBut b o hb e) (K1.pin (C,oC) (by simp)).2.1 hL (.inr (Nat.le_trans I2.sz hC)) (fun x c e z=> ?_) fun p hp z=> ?_
 ·exact⟨.ref D,_,I9,rfl,q D hD⟩
 ·obtain⟨v,o,ho,_⟩:=I2.cell x c e;exact absurd (Nat.lt_of_lt_of_le (Heap.lt_size ho) (z▸hC)) (Nat.lt_irrefl _)
 ·exact absurd (Nat.lt_of_lt_of_le (Heap.lt_size (I2.pin p hp).1) (z▸hC)) (Nat.lt_irrefl _)
theorem d4 {i:Nat}{x:Str}{pos' spos:Pos} (hN:X.N.Nodup) (hix:X.N[i]? =some x) (hx:Loc X.env.scope x) (hc:X.calm=true) (B:Blk X scope cl N nl ci) (hp:PI X tg iter wi) (hg:∀C s0 H0 fp,PG (cB X scope cl N C s0 H0 fp) tg g)
  (hi:∀C s0 H0 fp,PF (cB X scope cl N C s0 H0 fp) ifs ti)(he:∀C s0 H0 fp,PE (cB X scope cl N C s0 H0 fp) elt te)
  (hsw:swapsWith (.ListComp elt [⟨tg,iter,ifs,0⟩] scope pos) (some (.Name x pos')) spos.line X.env=pure true:=by rfl)(hs:∀x,foldedSetIterable iter X.env x=pure x:=by intro _;rfl)
  (hf:X.fn x=true∨X.env.scope.names.lookup x=some .local:=by first|exact .inl rfl|exact .inr rfl|assumption) :
  PS X (.Assign [.Name x pos'] (.ListComp elt [⟨tg,iter,ifs,0⟩] scope pos) spos) (QX (Q4 wi nl ci g ti te) (cF i)):=by
 intro pins s σ H D I h;rw[exec_Assign_Name_used _ _ _ _ hsw];refine wpAny_bind (wpAny_standAt (wpAny_bind ?_));show wpAny _ X.A (do let _ ←comprehension (.ListComp elt [⟨tg,iter,ifs,0⟩] scope pos) scope X.env _ (newList []) false (eval iter X.env) (some (assign (.Name x pos') X.env))) _ _ s;refine wpAny_bind (wpAny_mono (wpAny_comprehension_free (use:=some (assign (.Name x pos') X.env)) (Q:=fun _ s'=>SP X pins D .next s') rfl hs B.clos B.kind B.names
  (thn (hp pins s σ H _ I h) fun v s1 h1=>thn h1 fun itv s2 h2=> ?_)) (fun _ s' hq=>wpAny_pure (wpAny_pure hq)) fun _ _ e=>e)
 obtain⟨it,fp,tn,J,H2,e,I2,T,st2,f2,hW⟩:=h2;subst e;refine IM (RR:=fun acc C=>compPost (model X.prog X.w) X.A X.xe (some (assign (.Name x pos') X.env)) (fun _ s'=>SP X pins D .next s') acc C) hc B hg hi he I2 T st2 f2 hW ?_;intro Dd C s' H' ys oC m hD K1 hn hC q;show wpAny _ X.A (assign (.Name x pos') X.env (.ref Dd)) _ _ _;refine thn (aH (i:=i) hN hix hx hf (pins++[(C,oC)]) s' σ (upd H' Dd (.lst ys)) (.ref Dd) (.ref Dd) (fun σ' H''=>D.nx σ' H'') K1 rfl (q Dd hD)) fun _ s'' ⟨σ',H'',K2,q2⟩=> ?_;have eC:=K2.pin (C,oC) (by simp);obtain⟨oC',es,ep,hoC,hdC,rC⟩:=id hn;have eo:oC'=oC:=by
  have:=(K1.pin (C,oC) (by simp)).1;rw[hoC]at this;exact Option.some.inj this
 subst eo;refine⟨m,⟨oC',es,ep,eC.1,hdC,rC⟩,fun h' hs'=> ?_⟩;have hL:C≠X.env.locals:=eC.2.2.1;have I9:Inv X pins σ' H'' { s'' with heap:=h',toks:=s''.toks }:=K2.unpinned.turned (t':=s''.toks) (it:=C) (fun b o hb e=>hs'.extBut b o hb e) eC.2.1 hL (.inr (Nat.le_trans I2.sz hC)) (fun x c e z=> ?_) fun p hp z=> ?_
 ·exact⟨σ',H'',I9,q2⟩
 ·obtain⟨v,o,ho,_⟩:=I2.cell x c e;exact absurd (Nat.lt_of_lt_of_le (Heap.lt_size ho) (z▸hC)) (Nat.lt_irrefl _)
 ·exact absurd (Nat.lt_of_lt_of_le (Heap.lt_size (I2.pin p hp).1) (z▸hC)) (Nat.lt_irrefl _)
end
end L2
namespace L2
open PySem PySem.Spec PyProof.Rows
def Its (x:Str):It:=⟨fun i _=>i<x.cps.size,fun i H v H'=>H'=H/\∃c,x.cps[i]? =some c/\v= .str ⟨#[c]⟩,fun i _=>i=x.cps.size⟩
theorem LU {P:Program}{w:World}{K:PySem.W.Frag}{tg:Expr} (it:Addr) (x:Str) (t:Tok) (ty:String)
  (hty:["enumerate","zip","dict_itemiterator","dict_reverseitemiterator","odict_iterator","itertools.zip_longest","itertools.pairwise"].contains ty=false)
  (W:∀A':Around,A'.handled=none->Walks P w A' it [it] [it] x.cps.size (SignAt x) (fun i h=>h.IsStrIter it ty x t i))
  (hself:∀(A:Around) (i:Nat) (s:Shared) (Q:Value->Shared->Prop) (E:Value->Shared->Prop),s.heap.IsStrIter it ty x t i->Q (.ref it) s->wpAny (model P w) A (pyIter (.ref it)) Q E s) :
  zI P w K tg (Its x) [it] it (fun i h=>h.IsStrIter it ty x t i) where
 mem:=by simp
 obj:=fun i h st b hb=>by
  have e:b=it:=by simpa using hb
  subst e;obtain⟨o,e,c,d⟩:=st;exact⟨o,e,fun v z=>by rw[d]at z;cases z⟩
 keep:=fun i h h' st k=>let ⟨o,ho,r⟩:=st;⟨o,k it (by simp) o ho,r⟩
 item:=by
  intro X hP hw hK hc i pins s σ H E I hf st hg;subst hP hw hK;obtain⟨f0,f1,f2,f3,f4,f5⟩:=hf it (by simp);refine(W X.A (I.ok.hd hc)).item i s _ _ hg st fun v h' tk hv st' kk=> ?_;obtain⟨c,u,hc',rfl⟩:=hv;have I1:Inv X pins σ H { s with heap:=h',toks:=tk }:=I.turned (fun b o hb e=>kk b o (by simpa using hb) e) f0 f1 f3 f4 f5;obtain⟨o,e,c1,d⟩:=id st';exact⟨_,rfl,R4 (s:={ s with heap:=h',toks:=tk }) e c1 d hty ⟨.str ⟨#[c]⟩,H,I1,⟨u,rfl⟩,⟨rfl,c,hc',rfl⟩,st',fun b hb=>(hf b hb).1⟩⟩
 done:=by
  intro X hP hw hK hc i pins s σ H E I hf st hg;subst hP hw hK;obtain⟨f0,f1,f2,f3,f4,f5⟩:=hf it (by simp);have e:i=x.cps.size:=hg;subst e;exact(W X.A (I.ok.hd hc)).done s _ _ st fun h' tk kk=>⟨rfl,I.turned (fun b o hb e=>kk b o (by simpa using hb) e) f0 f1 f3 f4 f5⟩
 self:=hself
def aFz (tl:TE):TI:=fun σ H R=>tl σ H fun x H1=>∃z,x= .str z/\R (Its z) H1
theorem aDd {X:Cx}{tg l:Expr}{tl:TE} (hl:PE X l tl):PI X tg l (aFz tl):=by
 intro pins s σ H R I h;refine thn (hl pins s σ H _ I h) fun v s1 ⟨x,H1,I1,rx,z,ez,q⟩=> ?_;subst ez;obtain⟨t,rfl⟩:=rx;cases ha:z.cps.all (·<128)
 ·refine wpAny_pyIter_wide ha ⟨s1.heap.objs.size,[s1.heap.objs.size],_,Its z,H1,rfl,I1.kept (t':=s1.toks) fun b u e=>Heap.get?_push_of_some _ e,LU _ z t "str_iterator" (by decide) (fun A' hA=>Walks.strWide hA _ z t) (fun _ _ _ _ _ st h=>wpAny_pyIter_striter_wide st h),⟨_,Heap.get?_push_size _ rfl,rfl,rfl⟩,fun b hb=> ?_,q⟩;have e:b=s1.heap.objs.size:=by simpa using hb
  subst e;exact I1.fpOk (Nat.le_refl _) (I1.hok.fresh (Nat.le_refl _))
 ·refine wpAny_pyIter_ascii ha ⟨s1.heap.objs.size,[s1.heap.objs.size],_,Its z,H1,rfl,I1.kept (t':=s1.toks) fun b u e=>Heap.get?_push_of_some _ e,LU _ z t "str_ascii_iterator" (by decide) (fun A' hA=>Walks.strAscii hA _ z t) (fun _ _ _ _ _ st h=>wpAny_pyIter_striter_ascii st h),⟨_,Heap.get?_push_size _ rfl,rfl,rfl⟩,fun b hb=> ?_,q⟩;have e:b=s1.heap.objs.size:=by simpa using hb
  subst e;exact I1.fpOk (Nat.le_refl _) (I1.hok.fresh (Nat.le_refl _))
theorem aAR {J:It}{g:TG}{ti:TT}{te:TE}{σ0:St}{fin:List V->Hp->Prop}{H1:Hp} (n:Nat) (f:Nat->V) (hn:n<=sizeLine) (Ok:Hp->Prop) (h0:Ok H1)
  (hst:∀H,Ok H->J.stop n H)(hgo:∀i H,i<n->Ok H->J.go i H)
  (hstep:∀i H x H',i<n->Ok H->J.yld i H x H'->g x σ0 H' fun σ2 H2=>(σ2.length=σ0.length/\∀(j:Nat) v,σ0[j]? =some (some v)->σ2[j]? =some (some v))/\ti σ2 H2 fun b H3=>b=true/\te σ2 H3 fun y H4=>y=f i/\Ok H4)
  (mono:∀σ H (Q Q':Bool->Hp->Prop),(∀b H',Q b H'->Q' b H')->ti σ H Q->ti σ H Q')(mono2:∀σ H (Q Q':VK),(∀b H',Q b H'->Q' b H')->te σ H Q->te σ H Q')(mono3:∀x σ H (Q Q':St->Hp->Prop),(∀σ' H',Q σ' H'->Q' σ' H')->g x σ H Q->g x σ H Q')
  (hfin:∀H,Ok H->fin ((List.range n).map f) H):eJ J g ti te σ0 fin H1:=by
 refine⟨fun i m ys H=>m=n - i/\i<=n/\ys=(List.range i).map f/\Ok H,⟨n,by simp,Nat.zero_le _,rfl,h0⟩,?_⟩;rintro i m ys H ⟨rfl,hi,rfl,ok⟩
 by_cases hlt:i<n
 ·refine .inr ⟨hgo i H hlt ok,fun x H' y=> ?_⟩;refine mono3 _ _ _ _ _ (fun σ' H'' q=>⟨q.1,mono _ _ _ _ (fun b H3 q=> ?_) q.2⟩) (hstep i H x H' hlt ok y);obtain⟨rfl,q⟩:=q;rw[if_pos rfl];refine mono2 _ _ _ _ (fun v H4 q=> ?_) q;obtain⟨rfl,ok4⟩:=q;refine⟨by rw[List.length_map,List.length_range];omega,n - (i+1),by omega,rfl,hlt,?_,ok4⟩;rw[List.range_succ,List.map_append];rfl
 ·have e:i=n:=by omega
  subst e;exact .inl ⟨hst H ok,hfin H ok⟩
section
variable {X:Cx}
theorem MB:∀bs:List Bool,(List.range bs.length).all (fun i=>bs.getD i true)=bs.all id
 | []=>rfl
 | b::bs=>by
  rw[List.length_cons,List.range_succ_eq_map,List.all_cons,List.all_map,List.all_cons,←MB bs];rfl
theorem F9 (hc:X.calm=true):fK X (.builtin "all") (fun xs H Q=>∃(p:Addr) (bs:List Bool),xs=[.ref p]/\SqL X.K H p (bs.map V.bl)/\Q (.bl (bs.all id)) H):=by
 intro pins s σ H xs us Q I r h;obtain⟨p,bs,rfl,hq,q⟩:=h;obtain⟨u,rfl,rx⟩:=qH r;cases rx;obtain⟨its,r',pl,hz⟩:=I.list hq;have hl:=pl.isList;have hlt:p<s.heap.objs.size:=by obtain⟨_,e,_⟩:=hl;exact Heap.lt_size e
 have hlen:bs.length=its.length:=by have:=r'.length;rw[List.length_map]at this;exact this
 refine call_all_walk (wpAny_pyIter_list hl ?_);refine⟨s.heap.objs.size,_,_,its.toArray.size,_,_,fun i=>bs.getD i true,rfl,Walks.list (show X.A.in1.handled=none from I.ok.hd hc) s.heap.objs.size p (Nat.ne_of_lt hlt) its.toArray,⟨⟨_,Heap.get?_push_size _ rfl,rfl,rfl⟩,hl.push _⟩,?_,?_⟩
 ·intro i v s' Q' E' hi hQ;have hi':its[i]? =some v:=by simpa using hi
  have hib:i<bs.length:=by rw[hlen];exact(List.getElem?_eq_some_iff.mp hi').1
  obtain⟨u,hu,ru⟩:=r'.get (i:=i) (x:=V.bl bs[i]) (by rw[List.getElem?_map,List.getElem?_eq_getElem hib];rfl);rw[hi']at hu;cases hu;have:v=Value.bool bs[i]:=ru;subst this;refine wpAny_truthy_bool ?_;have eb:bs.getD i true=bs[i]:=by rw[List.getD_eq_getElem?_getD,List.getElem?_eq_getElem hib];rfl
  have hQ':Q' (bs.getD i true) s':=hQ;rw[eb]at hQ';exact hQ'
 ·intro h' tk hk;have eall:(List.range its.toArray.size).all (fun i=>bs.getD i true)=bs.all id:=by
   rw[List.size_toArray,←hlen];exact MB bs
  rw[eall];refine⟨.bl (bs.all id),H,?_,rfl,q⟩;have I1:Inv X pins σ H { s with heap:=s.heap.push { cls:= .type "list_iterator",data:= .fields #[.ref p,.int 0 0] },toks:=s.toks }:=I.kept fun b u e=>Heap.get?_push_of_some _ e;obtain⟨f0,f1,f2,f3,f4,f5⟩:=I.fpOk (Nat.le_refl _) (I.hok.fresh (Nat.le_refl _));exact I1.turned (fun b o hb e=>hk b o (by simpa using hb) e) f0 f1 f3 f4 f5
theorem N7:fK X (.builtin "isinstance") (fun xs H Q=>∃x c t u b,xs=[x,c]/\mB X.K H x t/\RelV c u/\PySem.W.kitOne X.K t u=some b/\Q (.bl b) H):=by
 intro pins s σ H xs us Q I r h;obtain⟨x,c,t,u,b,rfl,ty,rc,e,q⟩:=h;obtain⟨v1,v2,rfl,r1,r2⟩:=Z1 r;have e2:v2=u:=by
  cases c with
  | non=>exact(show v2=_ from r2).trans (show u=_ from rc).symm
  | bl b=>exact(show v2=_ from r2).trans (show u=_ from rc).symm
  | ref b=>exact(show v2=_ from r2).trans (show u=_ from rc).symm
  | ty b=>exact(show v2=_ from r2).trans (show u=_ from rc).symm
  | int i =>
   obtain⟨t1,rfl⟩:=(show ∃t,u=_ from rc)
   cases ty<;>simp[PySem.W.kitOne,PySem.W.kitCls]at e
  | str i =>
   obtain⟨t1,rfl⟩:=(show ∃t,u=_ from rc)
   cases ty<;>simp[PySem.W.kitOne,PySem.W.kitCls]at e
  | byt i =>
   obtain⟨t1,rfl⟩:=(show ∃t,u=_ from rc)
   cases ty<;>simp[PySem.W.kitOne,PySem.W.kitCls]at e
  | flt i =>
   obtain⟨t1,rfl⟩:=(show ∃t,u=_ from rc)
   cases ty<;>simp[PySem.W.kitOne,PySem.W.kitCls]at e
 subst e2;exact U0 I r1 ty e fun tk=>⟨.bl b,H,I.tok tk,rfl,q⟩
theorem VF:OpR X (compareOp .LtE) (fun x y H Q=>∃i j,x= .str i/\y= .str j/\Q (.bl (!decide (j.cps.toList<i.cps.toList))) H):=by
 intro pins s σ H x y v u Q I rx ry h;obtain⟨i,j,rfl,rfl,q⟩:=h;obtain⟨t,rfl⟩:=rx;obtain⟨t',rfl⟩:=ry;exact P.le_str ⟨.bl _,H,I,rfl,q⟩
end
end L2
namespace L2
open PySem PySem.Spec PyProof.Rows
def ZV (xs:List (Str×NameKind))(XN:List Str)(ns:List (Str×NameKind))(N:List Str)(nl:Nat)(ci:List Nat):Bool :=
 (ns.all fun y=>y.2 != .cell&&(y.2 != .local||ns.lookup y.1==some .local)&&(y.2 != .free||(xs.lookup y.1==some .cell&&ns.lookup y.1==some .free))) &&
 (N.length==nl+ci.length) &&
 (List.range ci.length).all fun j=>match ci[j]?,N[nl+j]? with
  | some i,some n=>XN[i]? ==some n&&xs.lookup n==some .cell&&ns.lookup n==some .free
  | _,_=>false
def wR (ns:List (Str×NameKind))(cs:List (Str×Addr)):List (Str×Addr)->List (Str×Addr)
 | acc=>ns.foldl (fun acc y=>if y.2== .free then (y.1,(cs.lookup y.1).getD 0)::acc else acc) acc
theorem yD {env:Env}:∀(ns:List (Str×NameKind)) (acc:List (Str×Addr)),(∀y∈ns,y.2= .free->∃c,env.cells.lookup y.1=some c) →
  (forIn ns acc fun x r=>(do
   let (name,kind):=x
   if (kind==NameKind.free)=true then do
     let c ←cellOf env name
     pure (ForInStep.yield ((name,c)::r))
    else pure (ForInStep.yield r)):Sem (List (Str×Addr)))=pure (wR ns env.cells acc)
 | [],acc,_=>rfl
 | (n,k)::r,acc,h=>by
  have ih:=fun acc=>yD r acc fun y hy=>h y (List.mem_cons_of_mem _ hy);rw[List.forIn_cons]
  by_cases hk:k= .free
  ·subst hk;obtain⟨c,e⟩:=h (n,.free) List.mem_cons_self rfl;have e1:cellOf env n=pure c:=by unfold cellOf;rw[e]
   simp only[beq_self_eq_true,if_true,e1];show (forIn r ((n,c)::acc) _:Sem (List (Str×Addr)))=_;rw[ih];show _=pure (wR ((n,NameKind.free)::r) env.cells acc);simp only[wR,List.foldl_cons,beq_self_eq_true,if_true,e,Option.getD_some]
  ·have hb:(k==NameKind.free)=false:=by simpa using hk
   simp only[hb,Bool.false_eq_true,if_false];show (forIn r acc _:Sem (List (Str×Addr)))=_;rw[ih];simp only[wR,List.foldl_cons,hb,Bool.false_eq_true,if_false]
theorem lO {cs:List (Str×Addr)}:∀(ns:List (Str×NameKind)) (acc:List (Str×Addr)) (n:Str),(∀y∈ns,y.2= .free->∃c,cs.lookup y.1=some c) →
  ((n,NameKind.free)∈ns∨acc.lookup n=cs.lookup n)->(∀c,acc.lookup n=some c->cs.lookup n=some c)->(wR ns cs acc).lookup n=cs.lookup n
 | [],acc,n,_,h,_=>by
  rcases h with h|h
  ·cases h
  ·exact h
 | (m,k)::r,acc,n,hc,h,hs=>by
  have hc':∀y∈r,y.2= .free->∃c,cs.lookup y.1=some c:=fun y hy=>hc y (List.mem_cons_of_mem _ hy);show (wR r cs (if k== .free then (m,(cs.lookup m).getD 0)::acc else acc)).lookup n=cs.lookup n
  by_cases hk:k= .free
  ·subst hk;obtain⟨c,e⟩:=hc (m,.free) List.mem_cons_self rfl;simp only[beq_self_eq_true,if_true,e,Option.getD_some]
   by_cases hm:n=m
   ·subst hm;have q:List.lookup n ((n,c)::acc)=some c:=by simp[List.lookup_cons]
    exact lO r _ n hc' (.inr (q.trans e.symm)) fun c' z=>by rw[q]at z;cases z;exact e
   ·have hb:(n==m)=false:=by simpa using hm
    have q:List.lookup n ((m,c)::acc)=acc.lookup n:=by simp[List.lookup_cons,hb]
    refine lO r _ n hc' ?_ fun c' z=>hs c' (q▸z);rcases h with h|h
    ·rcases List.mem_cons.mp h with z|z
     ·cases z;exact absurd rfl hm
     ·exact .inl z
    ·exact .inr (q.trans h)
  ·have hb:(k==NameKind.free)=false:=by simpa using hk
   simp only[hb,Bool.false_eq_true,if_false];refine lO r _ n hc' ?_ hs;rcases h with h|h
   ·rcases List.mem_cons.mp h with z|z
    ·cases z;exact absurd rfl hk
    ·exact .inl z
   ·exact .inr h
theorem LX {cs:List (Str×Addr)}:∀(ns:List (Str×NameKind)) (acc:List (Str×Addr)),(∀y∈ns,y.2= .free->∃c,cs.lookup y.1=some c) →
  (∀n c,acc.lookup n=some c->cs.lookup n=some c)->∀n c,(wR ns cs acc).lookup n=some c->cs.lookup n=some c
 | [],acc,_,hs,n,c,h=>hs n c h
 | (m,k)::r,acc,hc,hs,n,c,h=>by
  have hc':∀y∈r,y.2= .free->∃c,cs.lookup y.1=some c:=fun y hy=>hc y (List.mem_cons_of_mem _ hy);have h':(wR r cs (if k== .free then (m,(cs.lookup m).getD 0)::acc else acc)).lookup n=some c:=h;refine LX r _ hc' ?_ n c h';intro n' c' z
  by_cases hk:k= .free
  ·subst hk;obtain⟨d,e⟩:=hc (m,.free) List.mem_cons_self rfl;simp only[beq_self_eq_true,if_true,e,Option.getD_some]at z
   by_cases hm:n'=m
   ·subst hm;simp[List.lookup_cons]at z;subst z;exact e
   ·have hb:(n'==m)=false:=by simpa using hm
    simp[List.lookup_cons,hb]at z;exact hs n' c' z
  ·have hb:(k==NameKind.free)=false:=by simpa using hk
   simp only[hb,Bool.false_eq_true,if_false]at z;exact hs n' c' z
theorem oJ {env:Env}(hkf:env.scope.kind= .function):∀{names:List (Str×NameKind)}{x:Str},names.lookup x=some .free->env.kindOf x=some .cell →
  (names.map fun (n,k)=>if (k==NameKind.free&&env.scope.kind== .function&&env.kindOf n==some .cell) then (n,NameKind.cell) else (n,k)).lookup x=some .cell
 | [],_,h,_=>by simp at h
 | (n,k)::r,x,h,hc=>by
  show List.lookup x ((if (k==NameKind.free&&env.scope.kind== .function&&env.kindOf n==some .cell)=true then (n,NameKind.cell) else (n,k))::_)=_;cases hx:x==n with
  | true =>
   simp only[List.lookup_cons,hx]at h;cases h;have e:x=n:=by simpa using hx
   subst e;rw[hkf,hc];simp[List.lookup_cons]
  | false =>
   simp only[List.lookup_cons,hx]at h;have ih:=oJ hkf h hc
   split
   ·simp only[List.lookup_cons,hx];exact ih
   ·simp only[List.lookup_cons,hx];exact ih
theorem j5 {env:Env}:∀{names:List (Str×NameKind)}{x:Str}{k':NameKind},(∀y∈names,y.2≠ .cell)->(k'= .cell∨k'= .free) →
  (names.map fun (n,k)=>if (k==NameKind.free&&env.scope.kind== .function&&env.kindOf n==some .cell) then (n,NameKind.cell) else (n,k)).lookup x=some k'->(x,NameKind.free)∈names
 | [],_,_,_,_,h=>by simp at h
 | (n,k)::r,x,k',hn,hk',h=>by
  have h':List.lookup x ((if (k==NameKind.free&&env.scope.kind== .function&&env.kindOf n==some .cell)=true then (n,NameKind.cell) else (n,k))::r.map _)=some k':=h;cases hx:x==n with
  | true =>
   have e:x=n:=by simpa using hx
   subst e
   by_cases hf:k= .free
   ·subst hf;exact List.mem_cons_self
   ·have hb:(k==NameKind.free)=false:=by simpa using hf
    simp only[hb,Bool.false_and,Bool.false_eq_true,if_false,List.lookup_cons,hx]at h';cases h';rcases hk' with z|z
    ·exact absurd z (hn (x,k) List.mem_cons_self)
    ·exact absurd z hf
  | false =>
   have h2:List.lookup x (r.map fun (n,k)=>if (k==NameKind.free&&env.scope.kind== .function&&env.kindOf n==some .cell) then (n,NameKind.cell) else (n,k))=some k':=by
    split at h'
    ·simp only[List.lookup_cons,hx]at h';exact h'
    ·simp only[List.lookup_cons,hx]at h';exact h'
   exact List.mem_cons_of_mem _ (j5 (fun y hy=>hn y (List.mem_cons_of_mem _ hy)) hk' h2)
theorem blk {X:Cx}{scope:Scope}{N:List Str}{nl:Nat}{ci:List Nat} (n0:Nat) (hX:X.env.cells=cellsFrom n0 X.env.scope.names []) (hkf:X.env.scope.kind= .function) (hk:scope.kind= .function)
  (h:ZV X.env.scope.names X.N scope.names N nl ci=true):Blk X scope (wR scope.names X.env.cells []) N nl ci:=by
 unfold ZV at h;rw[Bool.and_eq_true,Bool.and_eq_true]at h;obtain⟨⟨h1,h2⟩,h3⟩:=h;rw[List.all_eq_true]at h1;have h1':∀y∈scope.names,y.2≠ .cell/\(y.2= .local->scope.names.lookup y.1=some .local)/\(y.2= .free->X.env.scope.names.lookup y.1=some .cell/\scope.names.lookup y.1=some .free):=fun y hy=>by
  have q:=h1 y hy;simp only[Bool.and_eq_true,Bool.or_eq_true,bne_iff_ne,ne_eq,beq_iff_eq]at q;obtain⟨⟨q1,q2⟩,q3⟩:=q;exact⟨q1,fun e=>q2.resolve_left fun z=>z e,fun e=>q3.resolve_left fun z=>z e⟩
 have hcs:∀y∈scope.names,y.2= .free->∃c,X.env.cells.lookup y.1=some c:=fun y hy e=>by
  rw[hX];exact wQ ((h1' y hy).2.2 e).1
 refine⟨hk,fun y hy=>(h1' y hy).2.1,fun y hy=>(h1' y hy).1,?_,?_,?_,by simpa using h2,?_⟩
 ·unfold closureFor;refine(congrArg (fun m:Sem (List (Str×Addr))=>m >>= fun cs=>pure cs) (yD scope.names [] hcs)).trans ?_;rfl
 ·exact LX scope.names [] hcs fun n c z=>by cases z
 ·intro n hn;have hm:(n,NameKind.free)∈scope.names:=by
   rcases hn with z|z
   ·exact j5 (fun y hy=>(h1' y hy).1) (.inl rfl) z
   ·exact j5 (fun y hy=>(h1' y hy).1) (.inr rfl) z
  obtain⟨c,e⟩:=hcs _ hm rfl;exact⟨c,(lO scope.names [] n hcs (.inl hm) fun c z=>by cases z).trans e⟩
 ·intro j i hj;have hjl:j<ci.length:=(List.getElem?_eq_some_iff.mp hj).1;rw[List.all_eq_true]at h3;have q:=h3 j (List.mem_range.mpr hjl);rw[hj]at q;cases e:N[nl+j]? with
  | none=>rw[e]at q;cases q
  | some n =>
   rw[e]at q;simp only[Bool.and_eq_true,beq_iff_eq]at q;obtain⟨⟨q1,q2⟩,q3⟩:=q;refine⟨n,rfl,q1,.inl q2,.inl (oJ hkf q3 q2),?_⟩;exact lO scope.names [] n hcs (.inl (PySem.mem_of_lookup q3)) fun c z=>by cases z
structure Fc (P:Program)(w:World)(K:PySem.W.Frag)(mg:Str->Option Value)(base:Heap)(x:Str)(k:Nat)(ps:List Str)(sp:Sp):Prop where
 ex:∃f fd,mg x=some (.ref f)/\PySem.W.keepIn K (.ref f)=true/\Binds K fd ps []/\FnOk P w K mg base CX0 k f fd ps sp
theorem bF {X:Cx}{x:Str}{k k':Nat}{ps:List Str}{sp:Sp}{e:Expr}{es:List Expr}{t:TA}{p pos:Pos} (F:Fc X.prog X.w X.K X.mg X.base x k ps sp) (hr:Room k' X.A) (ha:PA X (e::es) t) (hk:k<=k':=by decide) (hg:Gl X x:=by rfl)
  (hdb:(x==("__debug__" :Str))=false:=by decide)(he:starEach (e::es) X.env=(false,eval e X.env)::starEach es X.env:=by rfl)(hpl:(backTo pos (starEach es X.env)).any (·.1)=false:=by rfl) :
  PE X (.Call (.Name x p) (e::es) [] pos) (wX sp [] E0 t):=by
 obtain⟨f,fd,hm,kp,b,G⟩:=F.ex;exact aBi G (hr.mono hk) hg hm kp b .nil wW ha hdb he hpl
theorem QM {X:Cx}{x:Str}{n:String}{pos:Pos} (hg:Gl X x) (hm:X.mg x=none) (hv:bootBuiltins x=some (.type n)) (hn:x≠ "__name__" :=by decide) (hd:(x==("__debug__" :Str))=false:=by decide):PE X (.Name x pos) (tC (.ty n)):=aBq hg hm hv rfl hn hd
theorem aAL {X:Cx}{x:Str}{i:Int}{t:Tok}{pos:Pos} (hg:Gl X x) (hm:X.mg x=some (.int i t)) (hd:(x==("__debug__" :Str))=false:=by decide):PE X (.Name x pos) (tC (.int i)):=aBj hg hm ⟨t,rfl⟩ hd
theorem qV:bootBuiltins "isinstance" =some (.builtin "isinstance"):=by decide +kernel
theorem aCY:bootBuiltins "all" =some (.builtin "all"):=by decide +kernel
theorem nL:bootBuiltins "len" =some (.builtin "len"):=by decide +kernel
theorem sW:bootBuiltins "min" =some (.builtin "min"):=by decide +kernel
theorem aDQ:bootBuiltins "int" =some (.type "int"):=by decide +kernel
theorem aDv:bootBuiltins "str" =some (.type "str"):=by decide +kernel
theorem aAZ:bootBuiltins "bool" =some (.type "bool"):=by decide +kernel
theorem F1:bootBuiltins "list" =some (.type "list"):=by decide +kernel
theorem GE:bootBuiltins "dict" =some (.type "dict"):=by decide +kernel
inductive BTy (K:PySem.W.Frag)(H:Hp):V->String->Prop where
 | non:BTy K H .non "NoneType"
 | bl (x:Bool):BTy K H (.bl x) "bool"
 | int (i:Int):BTy K H (.int i) "int"
 | str (x:Str):BTy K H (.str x) "str"
 | lst {a:Addr}{xs:List V} (e:H a=some (.lst xs)):BTy K H (.ref a) "list"
 | tup {a:Addr}{xs:List V} (e:H a=some (.tup xs)):BTy K H (.ref a) "tuple"
 | dK {a:Addr}{kvs:List (Key×V)} (e:H a=some (.dK kvs)):BTy K H (.ref a) "dict"
theorem BTy.ty {K:PySem.W.Frag}{H:Hp}{x:V}{n:String} (b:BTy K H x n):mB K H x (.type n):=by
 cases b with
 | non=>exact .non
 | bl=>exact .bl _
 | int=>exact .int _
 | str=>exact .str _
 | lst e=>exact .lst e
 | tup e=>exact .tup e
 | dK e=>exact .dK e
def isB (n c:String):Bool:=n==c||(n== "bool" &&c== "int")
theorem RW {K:PySem.W.Frag}{H:Hp}{x:V}{n:String} (b:BTy K H x n) (c:String) (hc:c= "int" ∨c= "bool" ∨c= "str"):PySem.W.kitOne K (.type n) (.type c)=some (isB n c):=by
 cases b<;>rcases hc with rfl|rfl|rfl<;>kernel_rfl
end L2
namespace L2
open PySem PySem.Spec PyProof.Rows
theorem VB {J:It}{te:TE}{σ0:St}{fin:List V->Hp->Prop}{H1:Hp} (n:Nat) (Ok:Nat->List V->Hp->Prop) (hn:n<=sizeLine) (h00:σ0[0]? =some none) (h0:Ok 0 [] H1) (hlen:∀i ys H,Ok i ys H->ys.length<=i)
  (hst:∀ys H,Ok n ys H->J.stop n H/\fin ys H)(hstep:∀i ys H,i<n->Ok i ys H->J.go i H/\∀x H',J.yld i H x H'->∀R:VK,(∀y H4,Ok (i+1) (ys++[y]) H4->R y H4)->te (σ0.set 0 (some x)) H' R):eJ J (cF 0) CJ te σ0 fin H1:=by
 refine⟨fun i m ys H=>m=n - i/\i<=n/\Ok i ys H,⟨n,by simp,Nat.zero_le _,h0⟩,?_⟩;rintro i m ys H ⟨rfl,hi,ok⟩
 by_cases hlt:i<n
 ·obtain⟨go,st⟩:=hstep i ys H hlt ok;refine .inr ⟨go,fun x H' y=>⟨⟨by simp,fun j v hv=> ?_⟩,?_⟩⟩
  ·cases j with
   | zero=>rw[h00]at hv;cases hv
   | succ j=>rw[List.getElem?_set_ne (by omega)];exact hv
  ·unfold CJ
   dsimp only
   rw[if_pos rfl];exact st x H' y _ fun z H4 ok4=>⟨by have:=hlen i ys H ok;omega,n - (i+1),by omega,rfl,hlt,ok4⟩
 ·have e:i=n:=by omega
  subst e;exact .inl (hst ys H ok)
theorem QD {lo:Int}{n:Nat}{te:TE}{σ0:St}{fin:List V->Hp->Prop}{H1:Hp} (Ok:Nat->List V->Hp->Prop) (hn:n<=sizeLine) (h00:σ0[0]? =some none) (h0:Ok 0 [] H1) (hlen:∀i ys H,Ok i ys H->ys.length<=i) (hfin:∀ys H,Ok n ys H->fin ys H)
  (hstep:∀i ys H,i<n->Ok i ys H->∀R:VK,(∀y H4,Ok (i+1) (ys++[y]) H4->R y H4)->te (σ0.set 0 (some (.int (lo+i)))) H R):eJ (Itr lo n) (cF 0) CJ te σ0 fin H1 :=
 VB n Ok hn h00 h0 hlen (fun ys H ok=>⟨Nat.le_refl _,hfin ys H ok⟩) fun i ys H hi ok=>⟨hi,fun x H' y=>by
  obtain⟨e1,e2⟩:=y;subst e1 e2;exact hstep i ys _ hi ok⟩
section
variable {X:Cx}
end
structure FunV (K:PySem.W.Frag)(x qual:Str)(st:Stmt)(f:Addr)(fd:FuncData):Prop where
 ex:∃(oc:Value) (od:Option Addr) (dV kV doc pm:Value) (an:Option Addr) (cdv ct:Value) (osl:Array (Option Value)),
  fd=PySem.W.fnOf x qual (aK st) (aJ st) (aD st) dV kV doc pm an cdv ct/\K.lookup f=some ⟨oc,od,.func fd,osl⟩/\PySem.W.codeIn K cdv qual=true
 kp:PySem.W.keepIn K (.ref f)=true
section
variable {P:Program}{w:World}{K:PySem.W.Frag}{mg:Str->Option Value}{base:Heap}
theorem FunV.ok {x qual:Str}{st:Stmt}{f:Addr}{fd:FuncData}{N ps:List Str}{k:Nat}{sp:Sp} (F:FunV K x qual st f fd) (S:aS N ps (aD st)) (len:∀vs H Q E,sp vs H Q E->vs.length=ps.length)
  (hbody:∀(cdv:Value) (A:Around) (outer:List Env) (s:Shared) (H:Hp) (vs:List V) (Q:VK) (E:XK),Room k (A.deeper (envOfC qual (aD st) s.heap.objs.size f cdv))->sp vs H Q E →
   ∃t,PSs (xA CX0 P w K mg base N qual (aD st) f cdv A outer s H E).nox (aJ st) t/\t { nx:=fun _ H'=>Q .non H',rt:=Q } (jH N vs) H):FnOk P w K mg base CX0 (k+1) f fd ps sp:=by
 obtain⟨oc,od,dV,kV,doc,pm,an,cdv,ct,osl,rfl,lk,hcd⟩:=F.ex;refine aE2 lk hcd S len fun A outer s H vs Q E hr h=> ?_;obtain⟨t,h1,h2⟩:=hbody cdv A outer s H vs Q E hr h;exact⟨t,PSs.nox h1,h2⟩
theorem aM {x qual:Str}{st:Stmt}{f:Addr}{oc:Value}{od an:Option Addr}{osl:Array (Option Value)}{dV kV doc pm cdv ct:Value} (l:K.lookup f=some ⟨oc,od,.func (PySem.W.fnOf x qual (aK st) (aJ st) (aD st) dV kV doc pm an cdv ct),osl⟩) (c:PySem.W.codeIn K cdv qual=true)
  (k:PySem.W.keepIn K (.ref f)=true):FunV K x qual st f (PySem.W.fnOf x qual (aK st) (aJ st) (aD st) dV kV doc pm an cdv ct):=⟨⟨oc,od,dV,kV,doc,pm,an,cdv,ct,osl,rfl,l,c⟩,k⟩
structure Mc (P:Program)(w:World)(K:PySem.W.Frag)(mg:Str->Option Value)(base:Heap)(C:Addr)(nm:Str)(k:Nat)(sp:Sp):Prop where
 ex:∃f fd ps,Cls K C/\dP K C nm f/\Binds K fd ps []/\FnOk P w K mg base CX0 k f fd ps sp
structure Kc (P:Program)(w:World)(K:PySem.W.Frag)(mg:Str->Option Value)(base:Heap)(x:Str)(C:Addr)(k:Nat)(dvs:List V)(sp:Sp):Prop where
 ex:∃f fd ps ds,mg x=some (.ref C)/\Mk K C f/\Vals dvs ds/\Binds K fd ps ds/\FnOk P w K mg base CX0 k f fd ps sp
end
section
variable {X:Cx}{k k':Nat}{sp:Sp}{x m:Str}{p pos apos:Pos}{e o:Expr}{es:List Expr}{ta:TE}{t:TA}{C:Addr}{dvs:List V}
def tMD (M:Addr->Sp->Prop)(m:Str)(ta:TE)(t:TA):TE:=fun σ H Q=>ta σ H fun x H1=>∃a C dx fs sp,x= .ref a/\H1 a=some (.ins C dx fs)/\fs.lookup m=none/\M C sp/\t σ H1 fun vs H2=>sp (x::vs) H2 Q E0
theorem kU (k:Nat){pl:Sem Bool}(hr:Room k' X.A)(ho:PE X o ta)(ha:PA X (e::es) t)(hk:k<=k':=by decide)
  (hst:starEach (e::es) X.env=(false,eval e X.env)::starEach es X.env:=by rfl)(hpl:(backTo pos (starEach es X.env)).any (·.1)=false:=by rfl)
  (ht:eval (.Call (.Attribute o m apos) (e::es) [] pos) X.env=(do
   let ov ←eval o X.env
   standAt apos.atName
   let (f,first) ←holding [ov] (getMethod ov m pl)
   callWith pos f first (backTo pos (starEach (e::es) X.env)) (backToKw pos (keywordEach [] X.env))):=by rfl) :
  PE X (.Call (.Attribute o m apos) (e::es) [] pos) (tMD (fun C sp=>Mc X.prog X.w X.K X.mg X.base C m k sp) m ta t):=by
 intro pins s σ H Q I h;refine PySem.W.methodCall_KW (pl:=pl) (thn (ho pins s σ H _ I h) fun u s1 ⟨x,H1,I1,rx,a,C,dx,fs,sp,ex,ea,l,M,q⟩=> ?_) ht;subst ex;obtain rfl:u=Value.ref a:=rx;obtain⟨f,fd,ps,c,hm,hb,F⟩:=M.ex;refine E2 I1 ea c hm l ?_;refine PySem.W.callWith_K (first:=[.ref a]) (h₀:=X.base) I.ok.mod.kin hm.kp (thn (ha pos pins s1 σ H1 _ I1 q) fun us s2 ⟨vs,H2,I2,r,q2⟩=>⟨I2.kIn,?_⟩) hst hpl;exact v7 (us:= .ref a::us) (vs:= .ref a::vs) (dvs:=[]) F (hr.mono hk) hb .nil wW I2 (.cons rfl r) (by rw[List.append_nil];exact q2)
theorem kC (k:Nat){pl:Sem Bool}(hr:Room k' X.A)(ho:PE X o ta)(hk:k<=k':=by decide)
  (ht:eval (.Call (.Attribute o m apos) [] [] pos) X.env=(do
   let ov ←eval o X.env
   standAt apos.atName
   let (f,first) ←holding [ov] (getMethod ov m pl)
   callWith pos f first (backTo pos (starEach [] X.env)) (backToKw pos (keywordEach [] X.env))):=by rfl) :
  PE X (.Call (.Attribute o m apos) [] [] pos) (tMD (fun C sp=>Mc X.prog X.w X.K X.mg X.base C m k sp) m ta RT):=by
 intro pins s σ H Q I h;refine PySem.W.methodCall_KW (pl:=pl) (thn (ho pins s σ H _ I h) fun u s1 ⟨x,H1,I1,rx,a,C,dx,fs,sp,ex,ea,l,M,q⟩=> ?_) ht;subst ex;obtain rfl:u=Value.ref a:=rx;obtain⟨f,fd,ps,c,hm,hb,F⟩:=M.ex;refine E2 I1 ea c hm l ?_;exact PySem.W.callWith_K0 (first:=[.ref a]) I1.kIn hm.kp (v7 (us:=[.ref a]) (vs:=[.ref a]) (dvs:=[]) F (hr.mono hk) hb .nil wW I1 (.cons rfl .nil) q)
theorem w5 (F:Kc X.prog X.w X.K X.mg X.base x C k dvs sp)(hr:Room k' X.A)(ha:PA X (e::es) t)(hk:k+1<=k':=by decide)(hg:Gl X x:=by rfl)
  (hdb:(x==("__debug__" :Str))=false:=by decide)(he:starEach (e::es) X.env=(false,eval e X.env)::starEach es X.env:=by rfl)(hpl:(backTo pos (starEach es X.env)).any (·.1)=false:=by rfl) :
  PE X (.Call (.Name x p) (e::es) [] pos) (RS C sp dvs E0 t):=by
 obtain⟨f,fd,ps,ds,hm,M,hd,hb,G⟩:=F.ex;exact aBr M G (hr.mono hk) hg hm hb hd wW ha hdb he hpl
structure Dc (P:Program)(w:World)(K:PySem.W.Frag)(mg:Str->Option Value)(base:Heap)(x m:Str)(k:Nat)(sp:Sp):Prop where
 ex:∃C f fd ps,mg x=some (.ref C)/\PySem.W.specialIn K (.ref C) "__getattribute__" =some (some (.builtin "type.__getattribute__"))/\PySem.W.readsIn K C (.type "type")=true/\PySem.W.findCls K (.ref C) (.type "type") m=some (.val (.ref f)) ∧
  PySem.W.keepIn K (.ref f)=true/\Binds K fd ps []/\FnOk P w K mg base CX0 k f fd ps sp
theorem KK {pl:Sem Bool}(F:Dc X.prog X.w X.K X.mg X.base x m k sp)(hr:Room k' X.A)(ha:PA X (e::es) t)(hk:k<=k':=by decide)(hg:Gl X x:=by rfl)(hdb:(x==("__debug__" :Str))=false:=by decide)
  (hst:starEach (e::es) X.env=(false,eval e X.env)::starEach es X.env:=by rfl)(hpl:(backTo pos (starEach es X.env)).any (·.1)=false:=by rfl)
  (ht:eval (.Call (.Attribute (.Name x p) m apos) (e::es) [] pos) X.env=(do
   let ov ←eval (.Name x p) X.env
   standAt apos.atName
   let (f,first) ←holding [ov] (getMethod ov m pl)
   callWith pos f first (backTo pos (starEach (e::es) X.env)) (backToKw pos (keywordEach [] X.env))):=by rfl) :
  PE X (.Call (.Attribute (.Name x p) m apos) (e::es) [] pos) (wX sp [] E0 t):=by
 intro pins s σ H Q I h;obtain⟨C,f,fd,ps,hm,hga,hrd,hfc,kp,hb,G⟩:=F.ex;refine PySem.W.methodCall_KW (pl:=pl) (vY I hg hm ?_ hdb) ht;refine PySem.W.method_cls I.kIn hga (PySem.W.cls_value I.kIn hrd hfc (zV (v:= .ref f) rfl) ?_);have I1:=I.tok (s.toks+1);refine PySem.W.callWith_K (first:=[]) (h₀:=X.base) I.ok.mod.kin kp (thn (ha pos pins _ σ H _ I1 h) fun us s2 ⟨vs,H2,I2,r,q2⟩=>⟨I2.kIn,?_⟩) hst hpl;exact v7 G (hr.mono hk) hb .nil wW I2 r q2
end
end L2
namespace L2
open PySem PySem.Spec PyProof.Rows
def ZT:R2:=fun x y H Q=>∃i j,x= .str i/\y= .str j/\i.length+j.length<=sizeLine/\Q (.str (i++j)) H
def QG:R2:=fun x y H Q=>y= .non/\Q (.bl (decide (x= .non))) H
def RM:R2:=fun x y H Q=>y= .non/\Q (.bl (!decide (x= .non))) H
def aFt:R2:=fun x y H Q=>∃i j,x= .str i/\y= .str j/\Q (.bl (!decide (j.cps.toList<i.cps.toList))) H
def aFB (K:PySem.W.Frag):List V->Hp->VK->Prop:=fun xs H Q=>∃x c t u b,xs=[x,c]/\mB K H x t/\RelV c u/\PySem.W.kitOne K t u=some b/\Q (.bl b) H
def aFp (K:PySem.W.Frag):List V->Hp->VK->Prop:=fun xs H Q=>∃(p:Addr) (bs:List Bool),xs=[.ref p]/\SqL K H p (bs.map V.bl)/\Q (.bl (bs.all id)) H
def aEy:List V->Hp->VK->Prop:=fun xs H Q=>∃z,xs=[.str z]/\z.length<=sizeLine/\Q (.int z.length) H
def ZW (K:PySem.W.Frag):List V->Hp->VK->Prop:=fun xs H Q=>∃p ys,xs=[.ref p]/\(SqL K H p ys∨SqT K H p ys)/\Q (.int ys.length) H
def ZZ:List V->Hp->VK->Prop:=fun xs H Q=>∃i j,xs=[.int i,.int j]/\Q (.int (if j<i then j else i)) H
def PQ (K:PySem.W.Frag):List V->Hp->VK->Prop:=fun xs H Q=>∃p ys,xs=[.ref p]/\(SqL K H p ys∨SqT K H p ys)/\∀l,H l=none->Q (.ref l) (upd H l (.lst ys))
section
variable {X:Cx}
theorem aA6:OpR X (binaryOp .Add) ZT:=R5
theorem UO:OpR X (compareOp .Is) QG:=aDn
theorem A3:OpR X (compareOp .IsNot) RM:=aBg
theorem T5:OpR X (compareOp .LtE) aFt:=VF
theorem DF:fK X (.builtin "isinstance") (aFB X.K):=N7
theorem WT (hc:X.calm=true):fK X (.builtin "all") (aFp X.K):=F9 hc
theorem TV:fK X (.builtin "len") aEy:=MP
theorem jA:fK X (.builtin "len") (ZW X.K):=MC
theorem kJ (hc:X.calm=true):fK X (.builtin "min") ZZ:=UC hc
theorem QF:fK X (.type "list") (PQ X.K):=MZ
theorem gD {i j:Int}(n:Int){k1 k2 p1 p2 pos}(h:i^j.toNat=n)(c:aCB i j):PE X (.BinOp (.Constant (.int i) k1 p1) .Pow (.Constant (.int j) k2 p2) pos) (tC (.int n)):=by
 subst h;intro pins s σ H Q I q;exact aI aC7 aC aC pins s σ H Q I ⟨i,j,rfl,rfl,c,q⟩
end
def KO (P:Bool->Hp->Prop):VK:=fun x H=>∃k,x= .bl k/\P k H
def aD7 (O:Option Int->Hp->Prop):VK:=fun x H=>∃i,x= .int i/\O (some i) H
def aCw (Q:VK):List V->Hp->Prop:=fun xs H=>xs.length<=sizeLine/\∀p,H p=none->Q (.ref p) (upd H p (.lst xs))
def aDA (Q:VK):List V->Hp->Prop:=fun xs H=>xs.length<=sizeLine/\∀p,H p=none->Q (.ref p) (upd H p (.tup xs))
def aCF (Q:VK):List V->Hp->Prop:=fun ys H=>∀p,H p=none->Q (.ref p) (upd H p (.lst ys))
def aDI (K:PySem.W.Frag)(f:Str)(Q:VK):VK:=fun x H=>∃a C dx fs v,x= .ref a/\H a=some (.ins C dx fs)/\Cls K C/\NoAttr K C f/\fs.lookup f=some v/\Q v H
def Z4 (K:PySem.W.Frag)(f:Str)(y:V)(q:Hp->Prop):VK:=fun x H=>∃a C dx fs,x= .ref a/\H a=some (.ins C dx fs)/\Cls K C/\NoAttr K C f/\fs.length<1000/\q (upd H a (.ins C dx (cZ f y fs)))
def MdP (M:Addr->Sp->Prop)(m:Str)(t:TA)(σ:St)(Q:VK):VK:=fun x H=>∃a C dx fs sp,x= .ref a/\H a=some (.ins C dx fs)/\fs.lookup m=none/\M C sp/\t σ H fun vs H2=>sp (x::vs) H2 Q E0
def rX (C:Addr)(sp:Sp)(dvs:List V)(E:XK)(Q:VK):List V->Hp->Prop:=fun vs H1=>∀x dx,H1 x=none->H1 dx=none->dx≠x →
 sp (.ref x::(vs++dvs)) (upd (upd H1 dx (.own x)) x (.ins C dx [])) (fun v H2=>v= .non/\Q (.ref x) H2) E
def BmP (K:PySem.W.Frag)(T:String)(r:V->List V->Hp->VK->Prop)(t:TA)(σ:St)(Q:VK):VK:=fun x H1=>tyV K T x H1/\t σ H1 fun xs H2=>r x xs H2 Q
def aCj (K:PySem.W.Frag)(T:String)(r:V->List V->Hp->VK->Prop)(Q:VK):VK:=fun x H1=>tyV K T x H1/\r x [] H1 Q
def aC2 (K:PySem.W.Frag)(R:It->Hp->Prop):VK:=fun x H1=>∃a,x= .ref a/\(∃xs,SqL K H1 a xs)/\R (Itl K a) H1
def aDy (R:It->Hp->Prop):List V->Hp->Prop:=fun vs H1=>∃j:Int,vs=[.int j]/\ -(2^62)<=j/\j<2^62/\R (Itr 0 j.toNat) H1
def aC3 (R:It->Hp->Prop):List V->Hp->Prop:=fun vs H1=>∃i j:Int,vs=[.int i,.int j]/\(-(2^62)<=i/\i<2^62/\ -(2^62)<=j/\j<2^62)/\R (Itr i (j - i).toNat) H1
section
variable {nx bk ct:St->Hp->Prop}{rt:VK}{σ:St}{H:Hp}{Q:VK}{t u:TS}{te ta tb tc:TE}{g:TG}{c d:TT}{v:V}{K:PySem.W.Frag}{E:XK}
theorem aD3 (h:t ⟨u ⟨nx,rt,bk,ct⟩,rt,bk,ct⟩ σ H):K0 t u ⟨nx,rt,bk,ct⟩ σ H:=h
theorem kW (R:St->Hp->Prop)(h2:∀σ' H',R σ' H'->u ⟨nx,rt,bk,ct⟩ σ' H')(h1:∀nx':St->Hp->Prop,(∀σ' H',R σ' H'->nx' σ' H')->t ⟨nx',rt,bk,ct⟩ σ H):K0 t u ⟨nx,rt,bk,ct⟩ σ H:=h1 _ h2
theorem WX {v:TS}(h:K0 (RJ c t u) v ⟨nx,rt,bk,ct⟩ σ H):K0 (RJ c t u) v ⟨nx,rt,bk,ct⟩ σ H:=h
theorem aBm (h:nx σ H):Z2 ⟨nx,rt,bk,ct⟩ σ H:=h
theorem aC6 (h:te σ H fun x H1=>g x σ H1 nx):QX te g ⟨nx,rt,bk,ct⟩ σ H:=h
theorem aDG (h:te σ H rt):aCr te ⟨nx,rt,bk,ct⟩ σ H:=h
theorem aBp (h:te σ H fun _ H1=>nx σ H1):ZQ te ⟨nx,rt,bk,ct⟩ σ H:=h
theorem aEE (h:c σ H fun b H1=>if b=true then t ⟨nx,rt,bk,ct⟩ σ H1 else u ⟨nx,rt,bk,ct⟩ σ H1):RJ c t u ⟨nx,rt,bk,ct⟩ σ H:=h
theorem U4 {i:Nat}{ti:TIp} (h:i4 i σ H fun x H0=>te σ H0 fun y H1=>ti x y H1 fun z H2=>cF i z σ H2 nx):aEf i te ti ⟨nx,rt,bk,ct⟩ σ H:=by
 obtain⟨x,e,q⟩:=h;exact⟨x,e,q⟩
def R0 (J:It)(g:TG)(tb:TS)(D:jB)(σ:St)(H:Hp):Prop :=
 ∃W:Nat->Nat->St->Hp->Prop,(∃m,W 0 m σ H)/\∀i m σ H,W i m σ H →
  (J.stop i H/\D.nx σ H)∨(J.go i H/\∃N:St->Hp->Prop,(∀σ' H',N σ' H'->∃m',m'<m/\W (i+1) m' σ' H')/\∀x H',J.yld i H x H'->g x σ H' fun σ2 H2=>tb { D with nx:=N,ct:=N,bk:=D.nx } σ2 H2)
theorem aDq {wi:TI}{tb:TS} (h:wi σ H fun J H1=>R0 J g tb ⟨nx,rt,bk,ct⟩ σ H1):aEb wi g tb ⟨nx,rt,bk,ct⟩ σ H:=h
theorem aEJ {l:St}(h:Q v H):i4 0 (some v::l) H Q:=⟨v,rfl,h⟩
theorem aEL {a0}{l:St} (h:Q v H):i4 1 (a0::some v::l) H Q:=⟨v,rfl,h⟩
theorem aEw {a0 a1}{l:St} (h:Q v H):i4 2 (a0::a1::some v::l) H Q:=⟨v,rfl,h⟩
theorem aEV {a0 a1 a2}{l:St} (h:Q v H):i4 3 (a0::a1::a2::some v::l) H Q:=⟨v,rfl,h⟩
theorem aEt {a0 a1 a2 a3}{l:St} (h:Q v H):i4 4 (a0::a1::a2::a3::some v::l) H Q:=⟨v,rfl,h⟩
theorem aE4 {a0 a1 a2 a3 a4}{l:St} (h:Q v H):i4 5 (a0::a1::a2::a3::a4::some v::l) H Q:=⟨v,rfl,h⟩
theorem aEI {a0 a1 a2 a3 a4 a5}{l:St} (h:Q v H):i4 6 (a0::a1::a2::a3::a4::a5::some v::l) H Q:=⟨v,rfl,h⟩
theorem aED {a0 a1 a2 a3 a4 a5 a6}{l:St} (h:Q v H):i4 7 (a0::a1::a2::a3::a4::a5::a6::some v::l) H Q:=⟨v,rfl,h⟩
theorem aEO {a0 a1 a2 a3 a4 a5 a6 a7}{l:St} (h:Q v H):i4 8 (a0::a1::a2::a3::a4::a5::a6::a7::some v::l) H Q:=⟨v,rfl,h⟩
theorem aEF {a0 a1 a2 a3 a4 a5 a6 a7 a8}{l:St} (h:Q v H):i4 9 (a0::a1::a2::a3::a4::a5::a6::a7::a8::some v::l) H Q:=⟨v,rfl,h⟩
theorem aCG {a0 a1 a2 a3 a4 a5 a6 a7 a8 a9}{l:St} (h:Q v H):i4 10 (a0::a1::a2::a3::a4::a5::a6::a7::a8::a9::some v::l) H Q:=⟨v,rfl,h⟩
theorem aC4 {a0 a1 a2 a3 a4 a5 a6 a7 a8 a9 a10}{l:St} (h:Q v H):i4 11 (a0::a1::a2::a3::a4::a5::a6::a7::a8::a9::a10::some v::l) H Q:=⟨v,rfl,h⟩
theorem aCX {a0 a1 a2 a3 a4 a5 a6 a7 a8 a9 a10 a11}{l:St} (h:Q v H):i4 12 (a0::a1::a2::a3::a4::a5::a6::a7::a8::a9::a10::a11::some v::l) H Q:=⟨v,rfl,h⟩
variable {q:St->Hp->Prop}
theorem aE8 {a}{l:St} (h:q (some v::l) H):cF 0 v (a::l) H q:=h
theorem aFb {a0 a}{l:St} (h:q (a0::some v::l) H):cF 1 v (a0::a::l) H q:=h
theorem aES {a0 a1 a}{l:St} (h:q (a0::a1::some v::l) H):cF 2 v (a0::a1::a::l) H q:=h
theorem aFd {a0 a1 a2 a}{l:St} (h:q (a0::a1::a2::some v::l) H):cF 3 v (a0::a1::a2::a::l) H q:=h
theorem aE7 {a0 a1 a2 a3 a}{l:St} (h:q (a0::a1::a2::a3::some v::l) H):cF 4 v (a0::a1::a2::a3::a::l) H q:=h
theorem aEM {a0 a1 a2 a3 a4 a}{l:St} (h:q (a0::a1::a2::a3::a4::some v::l) H):cF 5 v (a0::a1::a2::a3::a4::a::l) H q:=h
theorem aFa {a0 a1 a2 a3 a4 a5 a}{l:St} (h:q (a0::a1::a2::a3::a4::a5::some v::l) H):cF 6 v (a0::a1::a2::a3::a4::a5::a::l) H q:=h
theorem aEB {a0 a1 a2 a3 a4 a5 a6 a}{l:St} (h:q (a0::a1::a2::a3::a4::a5::a6::some v::l) H):cF 7 v (a0::a1::a2::a3::a4::a5::a6::a::l) H q:=h
theorem aEs {a0 a1 a2 a3 a4 a5 a6 a7 a}{l:St} (h:q (a0::a1::a2::a3::a4::a5::a6::a7::some v::l) H):cF 8 v (a0::a1::a2::a3::a4::a5::a6::a7::a::l) H q:=h
theorem aEY {a0 a1 a2 a3 a4 a5 a6 a7 a8 a}{l:St} (h:q (a0::a1::a2::a3::a4::a5::a6::a7::a8::some v::l) H):cF 9 v (a0::a1::a2::a3::a4::a5::a6::a7::a8::a::l) H q:=h
theorem aCR {a0 a1 a2 a3 a4 a5 a6 a7 a8 a9 a}{l:St} (h:q (a0::a1::a2::a3::a4::a5::a6::a7::a8::a9::some v::l) H):cF 10 v (a0::a1::a2::a3::a4::a5::a6::a7::a8::a9::a::l) H q:=h
theorem aDc {a0 a1 a2 a3 a4 a5 a6 a7 a8 a9 a10 a}{l:St} (h:q (a0::a1::a2::a3::a4::a5::a6::a7::a8::a9::a10::some v::l) H):cF 11 v (a0::a1::a2::a3::a4::a5::a6::a7::a8::a9::a10::a::l) H q:=h
theorem aD9 {a0 a1 a2 a3 a4 a5 a6 a7 a8 a9 a10 a11 a}{l:St} (h:q (a0::a1::a2::a3::a4::a5::a6::a7::a8::a9::a10::a11::some v::l) H):cF 12 v (a0::a1::a2::a3::a4::a5::a6::a7::a8::a9::a10::a11::a::l) H q:=h
theorem aFv (h:Q v H):tC v σ H Q:=h
theorem aEP {r:R2}(h:ta σ H fun x H1=>tb σ H1 fun y H2=>r x y H2 Q):tOp r ta tb σ H Q:=h
theorem aEx {f:Int->Int->V}{i j:Int} (h:Q (f i j) H):rI0 f (.int i) (.int j) H Q:=⟨i,j,rfl,rfl,h⟩
theorem aCP {f:Int->Int->V}{i j:Int} (h0:0<j) (h1:j<1073741824) (h:Q (f i j) H):rI aDU f (.int i) (.int j) H Q:=⟨i,j,rfl,rfl,⟨h0,h1⟩,h⟩
theorem aD1 {f:Int->Int->V}{i j:Int} (h0:0<j) (h:Q (f i j) H):rI (fun _ j=>0<j) f (.int i) (.int j) H Q:=⟨i,j,rfl,rfl,h0,h⟩
theorem aAu {f:Int->Int->V}{i j:Int} (h0: -18446744073709551616<i) (h1:i<18446744073709551616) (h:Q (f i j) H):rI CMul f (.int i) (.int j) H Q:=⟨i,j,rfl,rfl,.inl ⟨by omega,by omega⟩,h⟩
theorem aBw {f:Int->Int->V}{i j:Int} (h0: -18446744073709551616<j) (h1:j<18446744073709551616) (h:Q (f i j) H):rI CMul f (.int i) (.int j) H Q:=⟨i,j,rfl,rfl,.inr ⟨by omega,by omega⟩,h⟩
theorem VS {f:Int->Int->V}{i j:Int} (h0:0<=j) (h:Q (f i j) H):rI (fun _ j=>0<=j) f (.int i) (.int j) H Q:=⟨i,j,rfl,rfl,h0,h⟩
theorem aEX {i j:Int}:decide (V.int i=V.int j)=decide (i=j):=by simp
theorem aEU {i j:Str}:decide (V.str i=V.str j)=decide (i=j):=by simp
theorem aDD {i j:Int}(h:Q (.bl (decide (i=j))) H):rEq (.int i) (.int j) H Q:=⟨rfl,by rw[aEX];exact h⟩
theorem aCt {i j:Str}(h:Q (.bl (decide (i=j))) H):rEq (.str i) (.str j) H Q:=⟨rfl,by rw[aEU];exact h⟩
theorem aBE {i:Str}(h:Q (.bl false) H):rEq .non (.str i) H Q:=⟨rfl,by rw[decide_eq_false (fun z=>by cases z)];exact h⟩
theorem aA2 (h:Q (.bl true) H):QG .non .non H Q:=⟨rfl,h⟩
theorem aBR {i:Str}(h:Q (.bl false) H):QG (.str i) .non H Q:=⟨rfl,by rw[decide_eq_false (fun z=>by cases z)];exact h⟩
theorem aAy (h:Q (.bl (decide (v= .non))) H):QG v .non H Q:=⟨rfl,h⟩
theorem aBs (h:Q (.bl false) H):RM .non .non H Q:=⟨rfl,h⟩
theorem aAM {i:Str}(h:Q (.bl true) H):RM (.str i) .non H Q:=⟨rfl,by rw[decide_eq_false (fun z=>by cases z)];exact h⟩
theorem aBK {i j:Str}(hl:i.length+j.length<=sizeLine)(h:Q (.str (i++j)) H):ZT (.str i) (.str j) H Q:=⟨i,j,rfl,rfl,hl,h⟩
theorem aDb (h:c σ H fun k H1=>if k=true then ta σ H1 Q else tb σ H1 Q):tIf c ta tb σ H Q:=h
theorem YH {r r':R2}(h:ta σ H fun x H1=>tb σ H1 fun y H2=>r x y H2 (KO fun k H3=>if k=true then tc σ H3 fun w' H4=>r' y w' H4 Q else Q (.bl false) H3)):KS r r' ta tb tc σ H Q:=h
theorem aBM {sp:Sp}{t:TA} (h:t σ H fun vs H1=>sp vs H1 Q E):wX sp [] E t σ H Q:=by
 unfold wX;simp only[List.append_nil];exact h
theorem aE9 {r:List V->Hp->VK->Prop}{t:TA} (h:t σ H fun vs H1=>r vs H1 Q):tCB r t σ H Q:=h
theorem aC5 {t:TA}(h:t σ H (aCw Q)):aDg t σ H Q:=h
theorem aCE {t:TA}(h:t σ H (aDA Q)):aDH t σ H Q:=h
theorem fJ {o:HO}{R:V->Hp->Prop} (h:∀p H',H p=none->Same H H'->H' p=some o->R (.ref p) H'):∀p,H p=none->R (.ref p) (upd H p o) :=
 fun p hp=>h p _ hp (fun b u e=>by rw[aU (bM e hp)];exact e) bJ
theorem aAU {xs:List V}(hn:xs.length<=sizeLine)(h:∀p H',H p=none->Same H H'->H' p=some (.lst xs)->Q (.ref p) H'):aCw Q xs H:=⟨hn,fJ h⟩
theorem aBf {xs:List V}(hn:xs.length<=sizeLine)(h:∀p H',H p=none->Same H H'->H' p=some (.tup xs)->Q (.ref p) H'):aDA Q xs H:=⟨hn,fJ h⟩
theorem aAD {xs:List V}(h:∀p H',H p=none->Same H H'->H' p=some (.lst xs)->Q (.ref p) H'):aCF Q xs H:=fJ h
theorem aD5 {f:Str}(h:ta σ H (aDI K f Q)):W9 K ta f σ H Q:=h
theorem aBH {a C dx:Addr}{fs:List (Str×V)}{f:Str} (e:H a=some (.ins C dx fs)) (cl:Cls K C) (na:NoAttr K C f) (l:fs.lookup f=some v) (h:Q v H):aDI K f Q (.ref a) H:=⟨a,C,dx,fs,v,rfl,e,cl,na,l,h⟩
theorem aBk {f:Str}(h:ta σ H fun y H1=>tb σ H1 (Z4 K f y (nx σ))):aCp K tb ta f ⟨nx,rt,bk,ct⟩ σ H:=h
theorem WY {a C dx:Addr}{fs:List (Str×V)}{f:Str}{y:V}{w:Hp->Prop} (e:H a=some (.ins C dx fs)) (cl:Cls K C) (na:NoAttr K C f) (l:decide (fs.length<1000)=true)
  (h:∀H',(∀b o,H b=some o->b≠a->H' b=some o)->H' a=some (.ins C dx (cZ f y fs))->w H'):Z4 K f y w (.ref a) H :=
 ⟨a,C,dx,fs,rfl,e,cl,na,of_decide_eq_true l,h _ (fun b o q hb=>by rw[aU hb];exact q) bJ⟩
theorem aEZ {M:Addr->Sp->Prop}{m:Str}{t:TA} (h:ta σ H (MdP M m t σ Q)):tMD M m ta t σ H Q:=h
theorem aDE {M:Addr->Sp->Prop}{m:Str}{t:TA}{a C dx:Addr}{fs:List (Str×V)}{sp:Sp} (e:H a=some (.ins C dx fs)) (l:fs.lookup m=none) (F:M C sp) (h:t σ H fun vs H2=>sp (.ref a::vs) H2 Q E0):MdP M m t σ Q (.ref a) H :=
 ⟨a,C,dx,fs,sp,rfl,e,l,F,h⟩
theorem aA4 {C:Addr}{sp:Sp}{dvs:List V}{t:TA} (h:t σ H (rX C sp dvs E Q)):RS C sp dvs E t σ H Q:=h
theorem oK {C:Addr}{sp:Sp}{dvs vs:List V}{fs:List (Str×V)}
  (hsp:∀p dx H0 (Q':VK),H0 p=some (.ins C dx [])->(∀H',(∀b o,H0 b=some o->b≠p->H' b=some o)->H' p=some (.ins C dx fs)->Q' .non H')->Same H H0->sp (.ref p::(vs++dvs)) H0 Q' E)
  (k:∀p dx H',H p=none->Same H H'->H' p=some (.ins C dx fs)->Q (.ref p) H'):rX C sp dvs E Q vs H:=by
 intro x dx nx nd ne;have s0:Same H (upd (upd H dx (.own x)) x (.ins C dx [])):=fun b o e=>by
  rw[aU (bM e nx),aU (bM e nd)];exact e
 exact hsp x dx _ _ bJ (fun H' sb e=>⟨rfl,k x dx H' nx (fun b o q=>sb b o (s0 b o q) (bM q nx)) e⟩) s0
theorem aA8 {wi:TI}{nl:Nat}{ci:List Nat}{ti:TT} (h:wi σ H fun J H1=>eJ J g ti te (cN nl ci σ) (aCF Q) H1):Q4 wi nl ci g ti te σ H Q:=h
theorem aEv {r:V->Option Int->Option Int->Hp->VK->Prop}{tl th:TO} (h:te σ H fun x H1=>tl σ H1 fun l H2=>th σ H2 fun u H3=>r x l u H3 Q):tSl r te tl th σ H Q:=h
theorem aEg {a:Addr}{xs:List V}{lo hi:Option Int} (e:SqL K H a xs) (h:∀p H',H p=none->Same H H'->H' p=some (.lst (zF xs lo hi))->Q (.ref p) H'):aD8 K (.ref a) lo hi H Q:=⟨a,xs,rfl,e,fJ h⟩
theorem aDf {p:Addr}{xs:List V}{i:Int} (e:SqL K H p xs) (l:atI xs i=some v) (h:Q v H):GM K (.ref p) (.int i) H Q:=⟨p,xs,i,v,rfl,rfl,e,l,h⟩
theorem aBl {p:Addr}{a b i:Int} (e:SqL K H p [.int a,.int b]) (h0:0<=i) (h1:i<2) (h:∀v,(i=0/\v=a)∨(i=1/\v=b)->Q (.int v) H):GM K (.ref p) (.int i) H Q:=by
 have:i=0∨i=1:=by omega
 rcases this with rfl|rfl
 ·exact⟨p,_,0,_,rfl,rfl,e,rfl,h a (.inl ⟨rfl,rfl⟩)⟩
 ·exact⟨p,_,1,_,rfl,rfl,e,rfl,h b (.inr ⟨rfl,rfl⟩)⟩
theorem FV {l b:Addr}{xs zs:List V} (e:H l=some (.lst xs)) (e2:H b=some (.lst zs)) (hn:xs.length+zs.length<=sizeLine) (h:∀p H',H p=none->Same H H'->H' p=some (.lst (xs++zs))->Q (.ref p) H'):aCD (.ref l) (.ref b) H Q :=
 ⟨l,b,xs,zs,rfl,rfl,e,e2,hn,fJ h⟩
theorem aEK {T:String}{r:V->List V->Hp->VK->Prop}{to:TE}{t:TA} (h:to σ H (BmP K T r t σ Q)):tBM K T r to t σ H Q:=h
theorem aDM {T:String}{r:V->List V->Hp->VK->Prop}{to:TE} (h:to σ H (aCj K T r Q)):aCS K T r to σ H Q:=h
theorem aDS {r:V->List V->Hp->VK->Prop}{t:TA}{p:Addr}{xs:List V} (e:SqL K H p xs) (h:t σ H fun xs H2=>r (.ref p) xs H2 Q):BmP K "list" r t σ Q (.ref p) H:=⟨.inl ⟨rfl,xs,e⟩,h⟩
theorem aA9 {r:V->List V->Hp->VK->Prop}{i:Int} (h:r (.int i) [] H Q):aCj K "int" r Q (.int i) H:=⟨rfl,h⟩
structure ICls (K:PySem.W.Frag)(C:Addr):Prop where
 cl:Cls K C
 ha:PySem.W.findIn K (.ref C) "__class__" =some (some (.builtin "object.__class__"))
 hn:PySem.W.specialIn K (.builtin "object.__class__") "__get__" =some (some (.builtin "getset_descriptor.__get__"))
 tk:PySem.W.takesIn K (.builtin "object.__class__")=some true
 hm:PySem.W.mroIn K C (.type "object")=some true
theorem aBn {p:Addr}{ys:List V} (e:SqL K H p ys) (h:Q (.int ys.length) H):ZW K [.ref p] H Q:=⟨p,ys,rfl,.inl e,h⟩
theorem aBu {i j:Int}(h:Q (.int (min i j)) H):ZZ [.int i,.int j] H Q:=⟨i,j,rfl,by
 have e:(if j<i then j else i)=min i j:=by omega
 rw[e];exact h⟩
theorem UD {p:Addr}{ys:List V} (e:SqL K H p ys) (h:∀l H',H l=none->Same H H'->H' l=some (.lst ys)->Q (.ref l) H'):PQ K [.ref p] H Q:=⟨p,ys,rfl,.inl e,fJ h⟩
variable {B:Bool->Hp->Prop}
theorem aAW (h:te σ H (KO B)):QV te σ H B:=h
theorem aEN (h:te σ H (KO B)):tB te σ H B:=h
theorem aCv (h:c σ H fun k H1=>if k=true then d σ H1 B else B false H1):aDw c d σ H B:=h
theorem aEC (h:c σ H fun k H1=>if k=true then B true H1 else d σ H1 B):tOr c d σ H B:=h
theorem aDZ (h:c σ H fun k H1=>B (!k) H1):aCk c σ H B:=h
theorem aDR {b:Bool}{P:Bool->Hp->Prop} (h:P b H):KO P (.bl b) H:=⟨b,rfl,h⟩
theorem VA {A B:Prop}(h:A):if true=true then A else B:=by rw[if_pos rfl];exact h
theorem V4 {A B:Prop}(h:B):if false=true then A else B:=by rw[if_neg Bool.false_ne_true];exact h
theorem aBy {A B:Prop}(h:B):if (!true)=true then A else B:=V4 h
theorem aA1 {A B:Prop}(h:A):if (!false)=true then A else B:=VA h
theorem aDY {p A B:Prop}[Decidable p](hp:p)(h:A):if decide p=true then A else B:=by rw[if_pos (decide_eq_true hp)];exact h
theorem aDa {p A B:Prop}[Decidable p](hp:¬p)(h:B):if decide p=true then A else B:=by rw[if_neg (by rw[decide_eq_false hp];exact Bool.false_ne_true)];exact h
theorem cA {p A B:Prop}[Decidable p](h1:p->A)(h2:¬p->B):if decide p=true then A else B:=GI (fun h=>h1 (of_decide_eq_true h)) fun h=>h2 fun z=>h (decide_eq_true z)
variable {L:List V->Hp->Prop}{O:Option Int->Hp->Prop}{tr:TA}
theorem aD2 (h:L [] H):RT σ H L:=h
theorem aBO (h:te σ H fun x H1=>tr σ H1 fun xs H2=>L (x::xs) H2):Z5 te tr σ H L:=h
theorem VP (h:O none H):PY σ H O:=h
theorem aBt (h:te σ H (aD7 O)):Z7 te σ H O:=h
theorem aDj {i:Int}(h:O (some i) H):aD7 O (.int i) H:=⟨i,rfl,h⟩
variable {vs:List V}{gs:TGs}
theorem aBI (h:q σ H):GP [] σ H q:=⟨rfl,h⟩
theorem Y2 (h:g v σ H fun σ' H'=>gs vs σ' H' q):nS g gs (v::vs) σ H q:=⟨v,vs,rfl,h⟩
theorem aAN {a:Addr}{n:Nat} (e:SqT K H a vs) (hl:vs.length=n) (h:gs vs σ H q):CZ K n gs (.ref a) σ H q:=⟨a,vs,rfl,e,hl,h⟩
variable {R:It->Hp->Prop}
theorem YQ (h:te σ H (aC2 K R)):ZM K te σ H R:=h
theorem IC {a:Addr}{xs:List V} (e:SqL K H a xs) (h:R (Itl K a) H):aC2 K R (.ref a) H:=⟨a,rfl,⟨xs,e⟩,h⟩
theorem X6 (h:tr σ H (aDy R)):Z8 tr σ H R:=h
theorem TW {j:Int}(h0: -4611686018427387904<=j)(h1:j<4611686018427387904)(h:R (Itr 0 j.toNat) H):aDy R [.int j] H:=⟨j,rfl,by omega,by omega,h⟩
theorem WR (h:tr σ H (aC3 R)):ZS tr σ H R:=h
theorem TF {i j:Int}(h0: -4611686018427387904<=i)(h1:i<4611686018427387904)(h2: -4611686018427387904<=j)(h3:j<4611686018427387904)(h:R (Itr i (j - i).toNat) H):aC3 R [.int i,.int j] H:=⟨i,j,rfl,⟨by omega,by omega,by omega,by omega⟩,h⟩
theorem dQ {a:Addr}{tb:TS} (xs:List V) (Pv:Nat->St->Hp->Prop) (h0:Pv 0 σ H) (hl:∀i σ H,i<=xs.length->Pv i σ H->SqL K H a xs)
  (hs:∀i x σ H,xs[i]? =some x->Pv i σ H->g x σ H fun σ2 H2=>tb ⟨Pv (i+1),rt,nx,Pv (i+1)⟩ σ2 H2)(hd:∀σ H,Pv xs.length σ H->nx σ H):R0 (Itl K a) g tb ⟨nx,rt,bk,ct⟩ σ H :=
 YJ (D:=⟨nx,rt,bk,ct⟩) Pv h0 hl hs hd
theorem iU {lo:Int}{n:Nat}{tb:TS} (Pv:Nat->St->Hp->Prop) (h0:Pv 0 σ H)
  (hs:∀i σ H,i<n->Pv i σ H->g (.int (lo+i)) σ H fun σ2 H2=>tb ⟨Pv (i+1),rt,nx,Pv (i+1)⟩ σ2 H2)(hd:∀σ H,Pv n σ H->nx σ H):R0 (Itr lo n) g tb ⟨nx,rt,bk,ct⟩ σ H :=
 V9 (D:=⟨nx,rt,bk,ct⟩) Pv h0 hs hd
end
section
variable {K:PySem.W.Frag}{te:TE}{σ:St}{ci:List Nat}{rest:St}{fin:List V->Hp->Prop}{H:Hp}{a:Addr}
theorem zQ (hr:ci.map (fun i=>(σ[i]?).join)=rest):cN 1 ci σ=none::rest:=by
 unfold cN;rw[hr];rfl
theorem OH {lo:Int}{n:Nat} (P:Nat->V->Prop) (hn:n<=sizeLine) (hr:ci.map (fun i=>(σ[i]?).join)=rest)
  (hs:∀i H1,i<n->Same H H1->∀R:VK,(∀y H2,P i y->Same H1 H2->R y H2)->te (some (.int (lo+i))::rest) H1 R)
  (hf:∀ys H1,Same H H1->ys.length=n->(∀i y,ys[i]? =some y->P i y)->fin ys H1):eJ (Itr lo n) (cF 0) CJ te (cN 1 ci σ) fin H:=by
 rw[zQ hr];refine QD (fun i ys H1=>Same H H1/\ys.length=i/\∀j y,ys[j]? =some y->P j y) hn rfl ⟨Same.refl _,rfl,fun j y h=>by simp at h⟩ (fun i ys H1 ok=>Nat.le_of_eq ok.2.1) (fun ys H1 ok=>hf ys H1 ok.1 ok.2.1 ok.2.2) ?_;intro i ys H1 hi ⟨s1,hl,hp⟩ R hR;refine hs i H1 hi s1 R fun y H2 hy s2=>hR y H2 ⟨s1.trans s2,by simp[hl],fun j z hz=> ?_⟩
 by_cases hj:j<ys.length
 ·rw[List.getElem?_append_left hj]at hz;exact hp j z hz
 ·rw[List.getElem?_append_right (by omega)]at hz;have hj0:j - ys.length=0:=by
   cases e:j - ys.length with
   | zero=>rfl
   | succ k=>rw[e]at hz;simp at hz
  rw[hj0]at hz;have:z=y:=by simpa using hz.symm
  subst this;have:j=i:=by omega
  subst this;exact hy
end
section
variable {K:PySem.W.Frag}{te:TE}{σ:St}{ci:List Nat}{rest:St}{fin:List V->Hp->Prop}{H:Hp}{a:Addr}
theorem R1 {α β:Type}{xs:List α}{ys:List β}{f:α->β} (hl:ys.length=xs.length) (h:∀(i:Nat) y,ys[i]? =some y->∃x,xs[i]? =some x/\y=f x):ys=xs.map f:=by
 apply List.ext_getElem?
 intro i;rw[List.getElem?_map];cases e:ys[i]? with
 | none =>
  have:xs[i]? =none:=by
   rw[List.getElem?_eq_none_iff]at e ⊢;omega
  rw[this];rfl
 | some y =>
  obtain⟨x,hx,rfl⟩:=h i y e;rw[hx];rfl
theorem ME {lo:Int}{n:Nat} (f:Nat->V) (hn:n<=sizeLine) (hr:ci.map (fun i=>(σ[i]?).join)=rest)
  (hs:∀i H1,i<n->Same H H1->∀R:VK,(∀H2,Same H1 H2->R (f i) H2)->te (some (.int (lo+i))::rest) H1 R)
  (hf:∀H1,Same H H1->fin ((List.range n).map f) H1):eJ (Itr lo n) (cF 0) CJ te (cN 1 ci σ) fin H:=by
 refine OH (fun i y=>y=f i) hn hr (fun i H1 hi s1 R hR=>hs i H1 hi s1 R fun H2 s2=>hR _ H2 rfl s2) ?_;intro ys H1 s1 hl hp;have e:ys=(List.range n).map f:=by
  refine R1 (by rw[hl,List.length_range]) fun i y hy=> ?_;have hi:i<n:=by
   rw[←hl];exact(List.getElem?_eq_some_iff.mp hy).1
  exact⟨i,by simp[hi],hp i y hy⟩
 rw[e];exact hf H1 s1
end
theorem Same.at {H H':Hp}{b:Addr}{o:HO} (s:Same H H') (h:H b=some o):H' b=some o:=s b o h
def SameBut (p:Addr)(H H':Hp):Prop:=∀b o,H b=some o->b≠p->H' b=some o
theorem SameBut.upd {p:Addr}{H:Hp}{o:HO}:SameBut p H (upd H p o):=fun b u e hb=>by rw[aU hb];exact e
theorem SameBut.trans {p:Addr}{H H1 H2:Hp} (a:SameBut p H H1) (b:SameBut p H1 H2):SameBut p H H2:=fun c o h hc=>b c o (a c o h hc) hc
theorem Same.but {p:Addr}{H H':Hp} (s:Same H H'):SameBut p H H':=fun b o e _=>s b o e
theorem SameBut.same {p:Addr}{H H0 H':Hp} (n:H0 p=none) (s:Same H0 H) (b:SameBut p H H'):Same H0 H':=fun c o e=>b c o (s c o e) (bM e n)
theorem aO {t:TS}{D:jB}{N:List Str}{vs:List V}{σ:St}{H:Hp} (e:jH N vs=σ) (h:t D σ H):t D (jH N vs) H:=e▸h
theorem SameBut.refl {p:Addr}{H:Hp}:SameBut p H H:=fun _ _ e _=>e
theorem SameBut.snoc {p:Addr}{H H1 H2:Hp} (b:∀c o,H1 c=some o->c≠p->H2 c=some o) (a:SameBut p H H1):SameBut p H H2:=fun c o h hc=>b c o (a c o h hc) hc
theorem SameBut.snocS {p:Addr}{H H1 H2:Hp} (b:Same H1 H2) (a:SameBut p H H1):SameBut p H H2:=fun c o h hc=>b c o (a c o h hc)
theorem Same.snoc {H H1 H2:Hp}(b:Same H1 H2)(a:Same H H1):Same H H2:=a.trans b
theorem aA5 {f:Str}{v:V}{fs:List (Str×V)}:(cZ f v fs).lookup f=some v:=by rw[qI,if_pos rfl]
theorem aET {f g:Str}{v:V}{o:Option V}{fs:List (Str×V)} (h:decide (g=f)=false) (l:fs.lookup g=o):(cZ f v fs).lookup g=o:=by rw[qI,if_neg (of_decide_eq_false h)];exact l
theorem aDe {f:Str}:([]:List (Str×V)).lookup f=none:=rfl
section
variable {K:PySem.W.Frag}{x qual:Str}{st:Stmt}{kV doc pm cdv ct:Value}{an:Option Addr}{ps:List Str}
theorem aQ (h:∀us:List Value,us.length=ps.length->bindArgs (PySem.W.fnOf x qual (aK st) (aJ st) (aD st) .none kV doc pm an cdv ct) ⟨us,[]⟩=pure (ps.zip us)) :
  Binds K (PySem.W.fnOf x qual (aK st) (aJ st) (aD st) .none kV doc pm an cdv ct) ps []:= .all h
theorem o8 (k:Nat){T:Addr}{ds:List Value}{oc:Value}{od:Option Addr}{sl:Array (Option Value)}{items:Array Value}{n:Nat} (lt:K.lookup T=some ⟨oc,od,.seq items n,sl⟩)
  (h:∀us:List Value,us.length=k->∃k,bindArgs (PySem.W.fnOf x qual (aK st) (aJ st) (aD st) (.ref T) kV doc pm an cdv ct) ⟨us,[]⟩=seqItems? (.ref T) >>= k/\k (some items)=pure (ps.zip (us++ds)))(hk:k+ds.length=ps.length:=by rfl) :
  Binds K (PySem.W.fnOf x qual (aK st) (aJ st) (aD st) (.ref T) kV doc pm an cdv ct) ps ds:=fun s us hK hl=>by
 obtain⟨k,h1,h2⟩:=h us (by rw[List.length_append]at hl;omega);exact .of_defaults (T:=T) (items:=items) (n:=n) rfl (hK T _ lt) rfl h1 h2
end
theorem cQ (s:String):(Str.ofString s).length=s.length:=by
 rw[Str.ofString_eq_toList];show (s.toList.map Char.toNat).toArray.size=_;rw[List.size_toArray,List.length_map,String.length_toList]
def sgB (c:Nat):Bool:=decide (97<=c)&&decide (c<=122)
def aDX (z:Str):Bool:=z.cps.toList.all sgB
def bI (z:Str):Bool:=decide (1<=(z.length:Int))&&decide ((z.length:Int)<=8)&&aDX z
theorem WA {z:Str}(h:bI z=true):z.length<=8:=by
 unfold bI at h;simp only[Bool.and_eq_true,decide_eq_true_eq]at h;omega
theorem Y6 {z:Str}(h0:1<=z.length)(h1:z.length<=8)(h2:aDX z=true):bI z=true:=by
 unfold bI;simp only[Bool.and_eq_true,decide_eq_true_eq];exact⟨⟨by omega,by omega⟩,h2⟩
theorem CD (x y:Str):(x++y).cps.toList=x.cps.toList++y.cps.toList:=by
 show (x.cps++y.cps).toList=_;simp
theorem vA (x y:Str):(x++y).length=x.length+y.length:=by
 show (x.cps++y.cps).size=_;rw[Array.size_append];rfl
theorem FZ (c:Nat):(⟨#[c]⟩:Str).length=1:=rfl
theorem aAq {x y:Str}(h:x.cps.toList=y.cps.toList):x=y:=by
 cases x;cases y;have:_=_:=Array.ext' h;cases this;rfl
end L2
namespace L2
open PySem PySem.Spec PyProof.Rows
section
variable {prog:Program}{w:World}{A:Around}{E:Value->Shared->Prop}{s:Shared}
theorem EF {h h':Heap}{it l:Addr}{items:Array Value} (hl:h.IsList l items) (x:Heap.ExtBut it h h') (hne:l≠it):h'.IsList l items:=by
 obtain⟨o,ho,r⟩:=hl;exact⟨o,x l o hne ho,r⟩
theorem HV {it t:Addr}{items:Array Value} (hne:t≠it):∀(n i:Nat) (s:Shared) (Q:List Value->Shared->Prop),s.heap.IsListIter it t i->s.heap.IsList t items->i+n<=items.size →
  (∀h':Heap,h'.IsListIter it t (i+n)->Heap.SameBut it s.heap h'->Q ((items.toList.drop i).take n) { s with heap:=h' })->wpAny (model prog w) A (draw (.ref it) n) Q E s
 | 0,i,s,Q,hit,_,_,hQ=>by
  show wpAny _ _ (pure []) Q E s;exact wpAny_pure (by simpa using hQ s.heap hit (Heap.SameBut.refl ..))
 | n+1,i,s,Q,hit,ht,hle,hQ=>by
  have hlt:i<items.size:=by omega
  show wpAny _ _ (pyNext (.ref it) >>= _) Q E s;refine wpAny_bind (wpAny_pyNext_list_item hit ht (x:=items[i]) (by simp[hlt]) fun h₁ hit₁ hs₁=> ?_);refine wpAny_bind (wpAny_holding (HV hne n (i+1) _ _ hit₁ (EF ht hs₁.extBut hne) (by omega) fun h₂ hit₂ hs₂=>wpAny_pure ?_));have hd:items.toList.drop i=items[i]::items.toList.drop (i+1):=by simp[List.drop_eq_getElem_cons,hlt]
  have:=hQ h₂ (by rw[show i+(n+1)=i+1+n by omega];exact hit₂) (hs₁.trans hs₂);rw[hd,List.take_succ_cons]at this;exact this
theorem DA {t:Addr}{items:Array Value}{Q:List Value->Shared->Prop} (hh:A.handled=none) (ht:s.heap.IsList t items)
  (hQ:∀h',Heap.ExtBut s.heap.objs.size s.heap h'->Q items.toList { s with heap:=h' }):wpAny (model prog w) A (unpackItems (.ref t) items.size none) Q E s:=by
 have hlt:t≠s.heap.objs.size:=by obtain⟨o,ho,_⟩:=ht;exact Nat.ne_of_lt (Heap.lt_size ho)
 unfold unpackItems;refine wpAny_bind ?_
 ·unfold notIterableAtAll;refine wpAny_bind (wpAny_specialOf ht.typeIs slot_list_iter.lookup ?_);refine wpAny_pure ?_;simp only[Bool.false_eq_true,if_false];refine wpAny_bind (wpAny_holding (wpAny_pyIter_list ht ?_));refine wpAny_bind (wpAny_holding (HV hlt items.size 0 _ _ ⟨_,Heap.get?_push_size _ rfl,rfl,rfl⟩ (ht.push _) (by omega) fun h₁ hit₁ hs₁=> ?_));have hall:List.take items.size (List.drop 0 items.toList)=items.toList:=by
   rw[List.drop_zero];exact List.take_of_length_le (by simp)
  rw[hall];rw[if_neg (by simp)];have ht₁:h₁.IsList t items:=EF (ht.push _) hs₁.extBut hlt;refine wpAny_bind (wpAny_holding (wpAny_pyNext_list_end hh hit₁ ht₁ (by simp) fun h₂ he₂=> ?_));simp only[Option.isSome_none,Bool.false_eq_true,if_false];refine wpAny_pure (hQ h₂ fun b o hb e=>he₂ b o hb (hs₁.extBut b o hb (Heap.get?_push_of_some _ e)))
theorem BB {env:Env}{elts:List Expr}{x1}{pos:Pos}{t:Addr}{items:Array Value}{Q:Unit->Shared->Prop} (hh:A.handled=none) (ht:s.heap.IsList t items)
  (hn:(assignEach elts env).length=items.size)(hstar:(assignEach elts env).findIdx? (·.1)=none)
  (h:∀h',Heap.ExtBut s.heap.objs.size s.heap h'->wpAny (model prog w) A (assignInOrder ((assignEach elts env).map (·.2)) items.toList) Q E { s with heap:=h' }) :
  wpAny (model prog w) A (assign (.Tuple elts x1 pos) env (.ref t)) Q E s:=by
 rw[assign_Tuple];refine wpAny_bind (wpAny_standAt ?_);unfold unpack;rw[hn,hstar];exact wpAny_bind (wpAny_holding (DA hh ht h))
end
section
variable {X:Cx}{pos:Pos}
def ZP (K:PySem.W.Frag)(n:Nat)(t:TGs):TG:=fun v σ H Q=>∃a xs,v= .ref a/\SqL K H a xs/\xs.length=n/\t xs σ H Q
theorem O5 {es:List Expr}{k:Nat}{t:TGs}{n:Nat} (hc:X.calm=true) (h:PGs X es t)
  (hn:(assignEach es X.env).length=n:=by rfl)(hst:(assignEach es X.env).findIdx? (·.1)=none:=by rfl):PG X (.Tuple es k pos) (ZP X.K n t):=by
 intro pins s σ H v u Q I r hw;obtain⟨a,xs,e1,hq,hl,hw⟩:=hw;subst e1;cases r;obtain⟨its,rv,ht,hz⟩:=I.list hq;refine BB (I.ok.hd hc) ht.isList (by simp[hn,←hl,rv.length]) hst fun h' hx=> ?_;have I1:Inv X pins σ H { s with heap:=h' }:=I.kept (t':=s.toks) fun b o e=>hx b o (Nat.ne_of_lt (Heap.lt_size e)) e;exact h pins _ σ H xs _ Q I1 (by simpa using rv) hw
end
theorem Y4 {K:PySem.W.Frag}{H:Hp}{σ:St}{q:St->Hp->Prop}{gs:TGs}{vs:List V}{a:Addr}{n:Nat} (e:SqL K H a vs) (hl:vs.length=n) (h:gs vs σ H q):ZP K n gs (.ref a) σ H q:=⟨a,vs,rfl,e,hl,h⟩
section
variable {nx bk ct:St->Hp->Prop}{rt:VK}{σ:St}{H:Hp}{g:TG}{K:PySem.W.Frag}{a:Addr}{tb:TS}{xs:List V}
end
theorem aBP {H:Hp}{Q:VK}{i j:Int} (h0:0<j) (h:0<=i%j->i%j<j->Q (.int (i%j)) H):rI (fun _ j=>0<j) (fun i j=> .int (i%j)) (.int i) (.int j) H Q:=⟨i,j,rfl,rfl,h0,h (Int.emod_nonneg _ (by omega)) (Int.emod_lt_of_pos _ h0)⟩
end L2
namespace L2
open PySem PySem.Spec PyProof.Rows PySem.W
section
variable {prog:Program}{w:World}{A:Around}{E:Value->Shared->Prop}{h:Heap}{g:Array GenState}{d:Drawn}{t:Nat}{os:OsState}{a C:Addr}{o:Obj}{vs:Array Value}{K:Frag}
end
end L2
namespace L2
open PySem PySem.Spec PyProof.Rows PySem.W
section
variable {P:Program}{w:World}{H H':Hp}{h h':Heap}{a:Addr}{o:HO}
end
section
variable {X:Cx}{pins:List (Addr×Obj)}{σ:St}{H H1:Hp}{s s1:Shared}{h2 B:Heap}
end
end L2
namespace L2
open PySem PySem.Spec PyProof.Rows PySem.W
section
variable {X:Cx}{E:XK}{x:Str}{C:Addr}{np cpos pos:Pos}{e:Expr}{es:List Expr}{t:TA}
end
section
variable {X:Cx}{k k':Nat}{sp:Sp}{x m:Str}{p pos apos:Pos}{e o:Expr}{es:List Expr}{ta:TE}{t:TA}{C:Addr}{dvs:List V}{E:XK}{ps:List Str}
end
section
variable {P:Program}{w:World}{K:PySem.W.Frag}{mg:Str->Option Value}{base:Heap}
end
end L2
namespace L2
open PySem PySem.Spec PyProof.Rows PySem.W
section
variable {X:Cx}{pins:List (Addr×Obj)}{σ:St}{H:Hp}{s:Shared}{ea:Addr}
end
section
variable {X:Cx}{k k':Nat}{sp:Sp}{x m:Str}{p pos apos:Pos}{e o:Expr}{es:List Expr}{ta:TE}{t:TA}{C f:Addr}{dvs:List V}{ds:List Value}{R:XK}{ps:List Str}{fd:FuncData}
end
section
variable {X:Cx}{i:Nat}{n x:Str}{T:Addr}{np hpos pos epos:Pos}{e:Expr}{tc:XK->TE}{b₀:Stmt}{suite:List Stmt}{ts:TS}
end
end L2
namespace L2
open PySem PySem.Spec PyProof.Rows PySem.W
section
variable {X:Cx}{x:Str}{j:Nat}{p pos:Pos}{e v1 v2:Expr}{es:List Expr}{te:TE}{t:TJ}
end
end L2
namespace L2
open PySem PySem.W
section
variable {K:Frag}{C D:Addr}{cd:ClassData}{b:Bool}
end
variable {K:Frag}{H:Hp}{Q:VK}
end L2
namespace L2
open PySem PySem.W
end L2
set_option maxHeartbeats 4000000
namespace L2
open PySem PySem.Spec PyProof.Rows
abbrev kn (o:Obj):HO:= .frz o (.ext fun _=>True)
theorem KR {P:Program}{w:World}{H:Hp}{h:Heap}{a:Addr}{o:Obj} (e:h.get? a=some o):ObjOk P w H h a (kn o):=⟨e,trivial,⟨o,e⟩,fun _ _ _ _=>trivial⟩
theorem yS {P:Program}{w:World}{H:Hp}{h:Heap}{a:Addr}{o:Obj} (x:HOk P w H h) (e:H a=some (kn o)):h.get? a=some o:=(x a _ e).1
section
variable {X:Cx}{pins:List (Addr×Obj)}{σ:St}{H:Hp}{s:Shared}
end
section
variable {X:Cx}{CX:CXT}{k k':Nat}{sp:Sp}{E:XK}{x y:Str}{p pos:Pos}{e:Expr}{es:List Expr}{t:TA}{i:Nat}{c:Addr}
end
def cxL (CX:CXT)(P:Program)(w:World)(K:PySem.W.Frag)(mg:Str->Option Value)(base:Heap)(N:List Str)(qual:Str)(scope:Scope)(f:Addr)(cd:Value)(cl:List (Str×Addr))(A:Around)(outer:List Env)(s:Shared)(H:Hp)(E:XK):Cx where
 prog:=P
 w:=w
 K:=K
 mg:=mg
 base:=base
 A:=A.deeper (PySem.W.envX qual scope s.heap.objs.size f cd cl)
 N:=N
 s₀:=s
 H₀:=H
 env:=PySem.W.envX qual scope s.heap.objs.size f cd cl
 outer:=outer
 stack:=PySem.W.envX qual scope s.heap.objs.size f cd cl::outer
 ex:=[]
 calm:=true
 fn:=fun _=>false
 pn:=[]
 xe:=fun e s'=>wpAny (model P w) (A.deeper (PySem.W.envX qual scope s.heap.objs.size f cd cl)) (leaving (PySem.W.envX qual scope s.heap.objs.size f cd cl) e) (fun _ s''=>CX outer H s E e s'') (fun e' s''=>CX outer H s E e' s'') s'
def LamAt (H:Hp)(F:Addr)(fd:FuncData)(qual:Str)(args:Arguments)(body:Expr)(sc:Scope)(y:Str)(c:Addr):Prop :=
 ∃(c':Addr) (pm ctv:Value) (oc:Obj) (fv:Array Value) (t:Tok),fd=PySem.W.kla_fn "<lambda>" qual args body sc [(y,c)] pm (.ref c') ctv ∧
  H F=some (kn (PySem.W.kla_obj "<lambda>" qual args body sc [(y,c)] pm c' ctv))/\H c'=some (kn oc)/\oc.data= .fields fv/\fv[1]? =some (.str qual t)
theorem LamAt.same {H H':Hp}{F:Addr}{fd:FuncData}{qual:Str}{args:Arguments}{body:Expr}{sc:Scope}{y:Str}{c:Addr} (x:LamAt H F fd qual args body sc y c) (s:Same H H'):LamAt H' F fd qual args body sc y c :=
 let ⟨c',pm,ctv,oc,fv,t,e1,e2,e3,r⟩:=x;⟨c',pm,ctv,oc,fv,t,e1,s _ _ e2,s _ _ e3,r⟩
section
variable {P:Program}{w:World}{K:PySem.W.Frag}{mg:Str->Option Value}{base:Heap}
end
section
variable {X:Cx}{k k':Nat}{x:Str}{p pos:Pos}{e:Expr}{es:List Expr}{t:TA}
def aCo (F:Addr->FuncData->List Str->Sp->Prop)(K:PySem.W.Frag)(i:Nat)(t:TA):TE:=fun σ H Q=>∃f o fd,σ[i]? =some (some (.ref f))/\H f=some (kn o)/\o.data= .func fd ∧
 t σ H fun vs H1=>∃ps sp,H1 f=some (kn o)/\Binds K fd ps []/\F f fd ps sp/\sp vs H1 Q E0
theorem QA {h:Heap}{f:Addr}{o:Obj}{fd:FuncData} (e:h.get? f=some o) (d:o.data= .func fd):PySem.W.FnAt f h:=by
 obtain⟨oc,od,dt,sl⟩:=o;have d':dt= .func fd:=d;subst d';exact⟨oc,od,fd,sl,e⟩
theorem Y0 (k:Nat)(i:Nat)(hr:Room k' X.A)(ha:PA X (e::es) t)(hk:k<=k':=by decide)(hN:X.N[i]? =some x:=by rfl)(hv:Vis X.env.scope x:=by first|exact Or.inl rfl|exact Or.inr (Or.inl rfl)|exact Or.inr (Or.inr rfl))
  (hdb:(x==("__debug__" :Str))=false:=by decide)(hcd:(x==("__classdict__" :Str))=false:=by decide)(he:starEach (e::es) X.env=(false,eval e X.env)::starEach es X.env:=by rfl)(hpl:(backTo pos (starEach es X.env)).any (·.1)=false:=by rfl) :
  PE X (.Call (.Name x p) (e::es) [] pos) (aCo (fun f fd ps sp=>FnOk X.prog X.w X.K X.mg X.base CX0 k f fd ps sp) X.K i t):=by
 intro pins s σ H Q I h;obtain⟨f,o,fd,hi,hf,hd,h⟩:=h;refine wpAny_Call_Name_kw (thn (SV (i:=i) hN hv hdb hcd pins s σ H (fun v' H'=>v'= .ref f/\H' f=some (kn o)/\t σ H' fun vs H1=>∃ps sp,H1 f=some (kn o)/\Binds X.K fd ps []/\FnOk X.prog X.w X.K X.mg X.base CX0 k f fd ps sp/\sp vs H1 Q E0) I ⟨_,hi,rfl,hf,h⟩) fun u s1 ⟨v1,H1,I1,rv,e1,hf1,q1⟩=> ?_);subst e1;obtain rfl:u=Value.ref f:=rv;refine PySem.W.callWith_F (QA (yS I1.hok hf1) hd) (thn (ha pos pins s1 σ H1 _ I1 q1) fun us s2 ⟨vs,H2,I2,r,ps,sp,hf2,hb,F,q⟩=>⟨QA (yS I2.hok hf2) hd,?_⟩) he hpl;have q':sp (vs++[]) H2 Q E0:=by rw[List.append_nil];exact q
 exact v7 (us:=us) (vs:=vs) F (hr.mono hk) hb .nil wW I2 r q'
end
section
variable {X:Cx}{args:Arguments}{body:Expr}{lsc:Scope}{pos:Pos}{y:Str}{c cL PL:Addr}
end
end L2
namespace L2
open PySem PySem.Spec PyProof.Rows
section
variable {P:Program}{w:World}{K:PySem.W.Frag}{mg:Str->Option Value}{base:Heap}
end
theorem UV {P:Program}{w:World}{K:PySem.W.Frag}{mg mb:Str->Option Value}{CX:CXT}{k:Nat}{fa a cL PL:Addr}{fd:FuncData}{x:Str}{sp:Sp}{s₁:Shared}{vs:List Value}{ns:List Int}
  (KX:K.In s₁.heap)(hns:s₁.heap.Ns mainGlobals mg)(hb:s₁.heap.Ns builtinsNs mb)(hbb:∀x:Str,x≠ "__name__" ->mb x=bootBuiltins x)(hlim:s₁.heap.NoLimit)(hg:s₁.gens= #[])
  (C:PySem.W.CodeHd s₁.heap cL PL)(hP:s₁.heap.get? PL=some (PySem.W.tabObj #[]))(hKP:K.lookup PL=none)
  (hbm:∃bm ob,mg "__builtins__" =some (.ref bm)/\bm≠builtinsNs/\s₁.heap.get? bm=some ob/\ob.cls= .type "module" /\ob.dict=some builtinsNs/\ob.data= .plain)
  (ha:s₁.heap.get? a=some { cls:= .type "list",data:= .seq vs.toArray })(hi:IntsAre vs ns)(hl:ns.length<=sizeLine)(hr:Room k callerA)
  (F:∀base:Heap,PySem.W.CodeHd base cL PL->base.BuiltinsAt mg PL->FnOk P w K mg base CX k fa fd [x] sp)(hbind:∀(s:Shared) (u:Value),BindsTo s fd ⟨[u],[]⟩ [(x,u)])
  (hsp:∀H:Hp,SqL K H a (ns.map V.int)->H PL=some (.tbl #[])->sp [.ref a] H (fun v _=>v= .bl true) fun _ _ _=>False)
  (hCX:∀H e s',CX [] H s₁ (fun _ _ _=>False) e s'->False) :
  codeAny (model P w) callerA (.call (.ref fa) ⟨[.ref a],[]⟩) (fun r s'=>r= .ok (.ret (.bool true))/\OldK s₁.heap s'.heap/\s'.os=s₁.os/\AllBare s'.gens) s₁:=by
 have rv:=HS hi;have lenV:=hi.length;have naP:a≠PL:=fun z=>by rw[z,hP]at ha;cases ha
 have core:∀H:Hp,H PL=some (.tbl #[])->SqL K H a (ns.map V.int)->HOk P w H s₁.heap->(∀b,H b≠none->b=a∨b=PL)->(H a≠none->K.lookup a=none)->(∀u,H a=some u->∃o xs,u= .frz o (.lst xs)) →
   codeAny (model P w) callerA (.call (.ref fa) ⟨[.ref a],[]⟩) (fun r s'=>r= .ok (.ret (.bool true))/\OldK s₁.heap s'.heap/\s'.os=s₁.os/\AllBare s'.gens) s₁:=by
  intro H hHP hS hok hA hK hfz;have base_of:∀{b:Addr}{o:Obj},s₁.heap.get? b=some o->H b=none->(tK s₁.heap H).get? b=some o:=fun e n=>XI e n;have noT:∀{b:Addr}{o:Obj},s₁.heap.get? b=some o->o.cls≠ .none->o.cls≠ .type "list" ->H b=none:=fun {b o} e n1 n2=>by
   cases q:H b with
   | none=>rfl
   | some u =>
    rcases hA b (by rw[q];simp) with z|z
    ·rw[z,ha]at e;cases e;exact absurd rfl n2
    ·rw[z,hP]at e;cases e;exact absurd rfl n1
  have noA:∀{b:Addr}{o:Obj}{es:Array DictEntry}{ep:Nat},s₁.heap.get? b=some o->o.data= .dict es ep->H b=none:=fun {b o es ep} e d=>by
   cases q:H b with
   | none=>rfl
   | some u =>
    rcases hA b (by rw[q];simp) with z|z
    ·rw[z,ha]at e;cases e;have d':Data.seq vs.toArray _=Data.dict es ep:=d;cases d'
    ·rw[z,hP]at e;cases e;have d':Data.fields #[]=Data.dict es ep:=d;cases d'
  have nsK:∀{b:Addr}{m:Str->Option Value},s₁.heap.Ns b m->(tK s₁.heap H).Ns b m:=fun {b m} ⟨o,es,ep,e,d,r⟩=>⟨o,es,ep,base_of e (noA e d),d,r⟩
  have hKb:K.In (tK s₁.heap H):=fun b o e=>base_of (KX b o e) (by
   cases q:H b with
   | none=>rfl
   | some u =>
    rcases hA b (by rw[q];simp) with z|z
    ·subst z;rw[hK (by rw[q];simp)]at e;cases e
    ·rw[z,hKP]at e;cases e)
  have hM:Mod K mg (tK s₁.heap H):=⟨hKb,nsK hns,⟨mb,nsK hb,hbb⟩,let ⟨mc,h1,h2⟩:=hlim;⟨mc,nsK h1,h2⟩⟩
  have e0:Env0 P w K mg (tK s₁.heap H) callerA [] s₁ H:=⟨rfl,hM,fun b o e=>aAA e,Nat.le_of_eq (VD _ _),trivial,fun b hb=>absurd (show b∈([]:List Addr) from hb) (by simp),hok,.of_eq hg⟩
  have hC:PySem.W.CodeHd (tK s₁.heap H) cL PL:=by
   obtain⟨o,fv,file,tf,flags,tg,inF,text,tt,e1,e2,r⟩:=C;exact⟨o,fv,file,tf,flags,tg,inF,text,tt,base_of e1 (noT e1 (by rw[e2];intro z;cases z) (by rw[e2];decide)),e2,r⟩
  have hB:(tK s₁.heap H).BuiltinsAt mg PL:=by
   obtain⟨bm,ob,b1,b2,b3,b4,b5,b6⟩:=hbm;refine⟨bm,ob,b1,b2,fun z=> ?_,fun z=> ?_,base_of b3 (noT b3 (by rw[b4];intro z;cases z) (by rw[b4];decide)),b4,b5,b6⟩
   ·obtain⟨o,es,ep,e,hd,_⟩:=hns;rw[z,e]at b3;cases b3;rw[hd]at b6;cases b6
   ·rw[z,hP]at b3;cases b3;cases b4
  refine codeAny_mono ((F _ hC hB).run callerA [] s₁ H ⟨[.ref a],[]⟩ [.ref a] [.ref a] _ _ hr e0 (hbind s₁ (.ref a)) (.cons rfl .nil) (hsp H hS hHP)) fun r s' h=> ?_;cases r with
  | error e=>exact(hCX H e s' h).elim
  | ok fl =>
   cases fl with
   | next=>exact False.elim h
   | brk=>exact False.elim h
   | cont=>exact False.elim h
   | ret u =>
    obtain⟨v,H',os,bare,un,hok',r',q⟩:=h;have q':v= .bl true:=q;subst q';obtain rfl:u=Value.bool true:=r';have kept:∀b o,b≠PL->s₁.heap.get? b=some o->s'.heap.get? b=some o:=fun b o nb e=>by
     cases q:H b with
     | none=>exact un.keep b o e q (by intro z;exact absurd (show b∈([]:List Addr) from z) (by simp)) (by simp)
     | some u =>
      rcases hA b (by rw[q];simp) with z|z
      ·subst z;obtain⟨ob,xs,rfl⟩:=hfz u q;have z2:=un.frzs b ob _ q;obtain⟨e1,_⟩:=hok b _ q;obtain⟨e2,_⟩:=hok' b _ z2;rw[e]at e1;cases e1;exact e2
      ·exact absurd z nb
    obtain⟨more,hm⟩:=un.tbls PL #[] hHP;have gP':s'.heap.get? PL=some (PySem.W.tabObj (#[]++more)):=hok' PL _ hm;refine⟨rfl,⟨fun b o e=> ?_,fun b o e=> ?_⟩,os,bare⟩
    ·by_cases hb:b=PL
     ·subst hb;rw[hP]at e;cases e;exact .inr (.inl ⟨(C.tab hP).isCodeTable,rfl,#[],more,rfl,gP'⟩)
     ·exact .inl (kept b o hb e)
    ·by_cases hb:b=PL
     ·subst hb;exact⟨_,gP'⟩
     ·exact⟨o,kept b o hb e⟩
 cases hk:K.lookup a with
 | some o =>
  have e:=KX a o hk;rw[ha]at e;cases e;refine core (fun b=>if b=PL then some (.tbl #[]) else none) (if_pos rfl) (.inr ⟨_,vs.toArray,_,hk,rfl,rfl,rfl,by rw[List.size_toArray,lenV];exact hl,by simpa using rv⟩) (fun b u z=> ?_) (fun b z=> ?_) (fun z=>absurd (if_neg naP) z) (fun u z=> ?_)
  ·by_cases hb:b=PL
   ·have z':=(if_pos hb).symm.trans z;cases z';subst hb;exact hP
   ·have z':=(if_neg hb).symm.trans z;cases z'
  ·by_cases hb:b=PL
   ·exact .inr hb
   ·exact absurd (if_neg hb) z
  ·have z':=(if_neg naP).symm.trans z;cases z'
 | none =>
  have eP:(if PL=a then some (HO.frz { cls:= .type "list",data:= .seq vs.toArray } (.lst (ns.map V.int))) else if PL=PL then some (.tbl #[]) else none)=some (.tbl #[]):=by rw[if_neg (Ne.symm naP),if_pos rfl]
  refine core (fun b=>if b=a then some (.frz { cls:= .type "list",data:= .seq vs.toArray } (.lst (ns.map V.int))) else if b=PL then some (.tbl #[]) else none) eP (.inl (.inr ⟨{ cls:= .type "list",data:= .seq vs.toArray },if_pos rfl⟩)) (fun b u z=> ?_) (fun b z=> ?_) (fun _=>hk) (fun u z=> ?_)
  ·by_cases hb:b=a
   ·have z':=(if_pos hb).symm.trans z;cases z';subst hb;exact⟨ha,by rw[List.length_map];exact hl,vs,_,rv,ha⟩
   ·have z1:=(if_neg hb).symm.trans z
    by_cases hb2:b=PL
    ·have z':=(if_pos hb2).symm.trans z1;cases z';subst hb2;exact hP
    ·have z':=(if_neg hb2).symm.trans z1;cases z'
  ·by_cases hb:b=a
   ·exact .inl hb
   ·by_cases hb2:b=PL
    ·exact .inr hb2
    ·exact absurd ((if_neg hb).trans (if_neg hb2)) z
  ·have z':=(if_pos rfl).symm.trans z;cases z';exact⟨_,_,rfl⟩
section
variable {X:Cx}{o:Expr}{to:TE}{ap pos:Pos}
def Z6 (i j:Int):Prop:=0<j/\j<2^100
theorem K4:OpR X (binaryOp .FloorDiv) (rI Z6 fun i j=> .int (i/j)):=opI fun i j _ _ _ _ _ hc q=>by
 have h1:(0:Int)<j:=hc.1;have h2:j<2^100:=hc.2;refine floordiv_int (by omega) (by rw[Int.fdiv_eq_ediv_of_nonneg i (by omega)];exact q) (.inl (PyProof.noPylong_of_log2 ?_));have h3:j.natAbs<2^100:=by omega
 have h4:=Nat.log2_lt (n:=j.natAbs) (k:=100) (by omega);omega
def rBL:V->List V->Hp->VK->Prop:=fun x xs H Q=>∃i,x= .int i/\xs=[]/\Q (.int (Builtin.Int.intBits i)) H
theorem UZ:MtR X "int.bit_length" rBL:=by
 intro pins s σ H x xs v us Q I rx rs h;obtain⟨i,rfl,rfl,q⟩:=h;obtain⟨t,rfl⟩:=rx;cases rs;exact call_int_bit_length ⟨.int (Builtin.Int.intBits i),H,I.tok _,⟨_,rfl⟩,q⟩
theorem U3 {b t:Int}(hb:0<=b)(h:(Builtin.Int.intBits b:Int)<=t):b/2^t.toNat%2=0:=by
 have ht:Builtin.Int.intBits b<=t.toNat:=by omega
 have hlt:b<2^t.toNat:=by
  unfold Builtin.Int.intBits at ht
  by_cases h0:b=0
  ·subst h0;exact Int.pow_pos (by decide)
  ·rw[if_neg (by simpa using h0)]at ht;have h1:b.natAbs<2^(b.natAbs.log2+1):=Nat.lt_log2_self;have h2:2^(b.natAbs.log2+1)<=2^t.toNat:=Nat.pow_le_pow_right (by decide) ht;have h3:((2^t.toNat:Nat):Int)=(2:Int)^t.toNat:=by simp
   omega
 rw[Int.ediv_eq_zero_of_lt hb hlt];rfl
theorem V6 {H:Hp}{Q:VK}{i:Int} (h:Q (.int (Builtin.Int.intBits i)) H):rBL (.int i) [] H Q:=⟨i,rfl,rfl,h⟩
theorem PR {H:Hp}{Q:VK}{f:Int->Int->V}{i j:Int} (h0:0<j) (h1:j<2^100) (h:Q (f i j) H):rI Z6 f (.int i) (.int j) H Q:=⟨i,j,rfl,rfl,⟨h0,h1⟩,h⟩
theorem MX:∀{xs:List V}{us:List Value},xs.length=us.length->(∀(i:Nat) x u,xs[i]? =some x->us[i]? =some u->RelV x u)->Vals xs us
 | [],[],_,_=> .nil
 | [],_::_,h,_=>by simp at h
 | _::_,[],h,_=>by simp at h
 | x::xs,u::us,h,k=> .cons (k 0 x u rfl rfl) (MX (by simpa using h) fun i y w e1 e2=>k (i+1) y w (by simpa using e1) (by simpa using e2))
end
structure DcD (P:Program)(w:World)(K:PySem.W.Frag)(mg:Str->Option Value)(base:Heap)(x m:Str)(k:Nat)(dvs:List V)(sp:Sp):Prop where
 ex:∃C f fd ps ds,mg x=some (.ref C)/\PySem.W.specialIn K (.ref C) "__getattribute__" =some (some (.builtin "type.__getattribute__"))/\PySem.W.readsIn K C (.type "type")=true/\PySem.W.findCls K (.ref C) (.type "type") m=some (.val (.ref f)) ∧
  PySem.W.keepIn K (.ref f)=true/\Vals dvs ds/\Binds K fd ps ds/\FnOk P w K mg base CX0 k f fd ps sp
section
variable {X:Cx}{k k':Nat}{sp:Sp}{x m:Str}{p pos apos:Pos}{e:Expr}{es:List Expr}{t:TA}{dvs:List V}
theorem aDl {pl:Sem Bool}(F:DcD X.prog X.w X.K X.mg X.base x m k dvs sp)(hr:Room k' X.A)(ha:PA X (e::es) t)(hk:k<=k':=by decide)(hg:Gl X x:=by rfl)(hdb:(x==("__debug__" :Str))=false:=by decide)
  (hst:starEach (e::es) X.env=(false,eval e X.env)::starEach es X.env:=by rfl)(hpl:(backTo pos (starEach es X.env)).any (·.1)=false:=by rfl)
  (ht:eval (.Call (.Attribute (.Name x p) m apos) (e::es) [] pos) X.env=(do
   let ov ←eval (.Name x p) X.env
   standAt apos.atName
   let (f,first) ←holding [ov] (getMethod ov m pl)
   callWith pos f first (backTo pos (starEach (e::es) X.env)) (backToKw pos (keywordEach [] X.env))):=by rfl) :
  PE X (.Call (.Attribute (.Name x p) m apos) (e::es) [] pos) (wX sp dvs E0 t):=by
 intro pins s σ H Q I h;obtain⟨C,f,fd,ps,ds,hm,hga,hrd,hfc,kp,hd,hb,G⟩:=F.ex;refine PySem.W.methodCall_KW (pl:=pl) (vY I hg hm ?_ hdb) ht;refine PySem.W.method_cls I.kIn hga (PySem.W.cls_value I.kIn hrd hfc (zV (v:= .ref f) rfl) ?_);have I1:=I.tok (s.toks+1);refine PySem.W.callWith_K (first:=[]) (h₀:=X.base) I.ok.mod.kin kp (thn (ha pos pins _ σ H _ I1 h) fun us s2 ⟨vs,H2,I2,r,q2⟩=>⟨I2.kIn,?_⟩) hst hpl;exact v7 G (hr.mono hk) hb hd wW I2 r q2
theorem YZ {E:XK}{σ:St}{H:Hp}{Q:VK} (h:t σ H fun vs H1=>sp (vs++dvs) H1 Q E):wX sp dvs E t σ H Q:=h
end
end L2
namespace L2
open PySem PySem.Spec PyProof.Rows
def KQ (H:Hp)(c:Addr)(v:V):Prop:=∃o u,H c=some (kn o)/\o.data= .cell (some u)/\RelV v u
def off (H:Hp)(c:Addr):Hp:=fun b=>if b=c then none else H b
theorem tE {H:Hp}{c:Addr}:off H c c=none:=by unfold off;rw[if_pos rfl]
theorem jN {H:Hp}{c b:Addr} (h:b≠c):off H c b=H b:=by unfold off;rw[if_neg h]
theorem XM {H:Hp}{c b:Addr}{u:HO} (h:off H c b=some u):b≠c/\H b=some u:=by
 by_cases hb:b=c
 ·subst hb;rw[tE]at h;cases h
 ·rw[jN hb]at h;exact⟨hb,h⟩
theorem X8 {H:Hp}{c:Addr}{u:HO} (h:H c=some u):upd (off H c) c u=H:=by
 funext b
 by_cases hb:b=c
 ·subst hb;rw[bJ,h]
 ·rw[aU hb,jN hb]
section
variable {P:Program}{w:World}
theorem aAS {H:Hp}{h:Heap}{c:Addr}{o:Obj} (x:HOk P w H h) (e:H c=some (kn o)):HOk P w (off H c) h:=fun b u q=>by
 obtain⟨hb,q'⟩:=XM q;refine(x b u q').stay (fun _ _ _ z=>z) (fun d z=> ?_) fun d xs z=> ?_
 ·rw[jN (by rintro rfl;rw[e]at z;cases z)];exact z
 ·rw[jN (by rintro rfl;rw[e]at z;cases z)];exact z
theorem U7 {H:Hp}{h:Heap}{c:Addr}{o:Obj} (x:HOk P w H h) (n:H c=none) (g:h.get? c=some o):HOk P w (upd H c (kn o)) h:=fun b u q=>by
 by_cases hb:b=c
 ·subst hb;rw[bJ]at q;cases q;exact KR g
 ·rw[aU hb]at q;exact(x b u q).stay (fun _ _ _ z=>z) (fun d z=>by rw[aU (bM z n)];exact z) fun d xs z=>by rw[aU (bM z n)];exact z
theorem aDO {fs:List Addr}{H H':Hp}{h h':Heap}{c:Addr}{o:Obj} (e:H c=some (kn o)) (g:h.get? c=some o) (hf:c∉fs) (x:Un fs [] (off H c) H' h h'):Un fs [] H (upd H' c (kn o)) h h' where
 keep:=fun b ob q n hb hx=>x.keep b ob q (by rw[jN (by rintro rfl;rw[e]at n;cases n)];exact n) hb hx
 slot:=fun b ob q n hb hx=>x.slot b ob q (by rw[jN (by rintro rfl;rw[e]at n;cases n)];exact n) hb hx
 free:=fun b ob q n hx=>by
  have hb:b≠c:=by rintro rfl;rw[e]at n;cases n
  rw[aU hb];exact x.free b ob q (by rw[jN hb];exact n) hx
 there:=x.there
 tups:=fun b xs q=>by
  have hb:b≠c:=by rintro rfl;rw[e]at q;cases q
  rw[aU hb];exact x.tups b xs (by rw[jN hb];exact q)
 frzs:=fun b ob u q=>by
  by_cases hb:b=c
  ·subst hb;rw[e]at q;cases q;exact bJ
  ·rw[aU hb];exact x.frzs b ob u (by rw[jN hb];exact q)
 tbls:=fun b ps q=>by
  have hb:b≠c:=by rintro rfl;rw[e]at q;cases q
  obtain⟨m,z⟩:=x.tbls b ps (by rw[jN hb];exact q);exact⟨m,by rw[aU hb];exact z⟩
end
section
variable {P:Program}{w:World}{K:PySem.W.Frag}{mg:Str->Option Value}{base:Heap}
theorem aAY {k:Nat}{f c:Addr}{fd:FuncData}{qual:Str}{args:Arguments}{body:Expr}{sc:Scope}{x y:Str}{v:V}{sp:Sp}
  (hk:sc.kind= .function)(hco:sc.isCoroutine=false)(hgen:sc.isGenerator=false)(hcell:∀z∈sc.names,z.2≠ .cell)(hx:sc.names.lookup x=some .local)(hfree:∀z,sc.names.lookup z=some .free->z=y)(hy:sc.names.lookup y=some .free)
  (len:∀vs H Q E,sp vs H Q E->∃a,vs=[a]/\LamAt H f fd qual args body sc y c/\KQ H c v)
  (hbody:∀(cdv:Value) (A:Around) (outer:List Env) (s:Shared) (H:Hp) (a:V) (Q:VK) (E:XK),Room k (A.deeper (PySem.W.envX qual sc s.heap.objs.size f cdv [(y,c)]))->sp [a] H Q E →
   ∃t,PE (cxL CX0 P w K mg base [x,y] qual sc f cdv [(y,c)] A outer s (off H c) E).nox body t/\∀o,H c=some (kn o)->t [some a,some v] (off H c) (fun r H'=>Q r (upd H' c (kn o)))) :
  FnOk P w K mg base CX0 (k+1) f fd [x] sp:=by
 refine⟨fun vs H Q E h=> ?_,fun A outer s H ar us vs Q E hr e0 hb r hsp=> ?_⟩
 ·obtain⟨a,rfl,_⟩:=len vs H Q E h;rfl
 obtain⟨a,rfl,⟨c',pm,ctv,oc,fv,tt,rfl,hF,hc',hd,hv⟩,oC,uv,eC,hdC,rv⟩:=len vs H Q E hsp;obtain⟨u,rfl,ra⟩:∃u,us=[u]/\RelV a u:=by
  cases r with
  | cons r1 r2=>cases r2;exact⟨_,rfl,r1⟩
 obtain⟨t,ht,hq⟩:=hbody (.ref c') A outer s H a Q E (hr.deeper _) hsp;have hq:=hq oC eC;have gC:=yS e0.hok eC;have lim:s.heap.NoLimit:=e0.mod.nolimit.keeps fun b o e=>(e0.bs b o e).1;refine PySem.W.kla_callFunE hr.depth (yS e0.hok hF) rfl hco hgen rfl ⟨c',oc,fv,tt,rfl,yS e0.hok hc',hd,hv⟩ (hb _ _ _ _ ?_);refine wpAny_newFunctionEnv hcell (fun z hz=>by
  have hz':z∈[(x,u)]:=hz;rw[List.mem_singleton]at hz';rw[hz'];exact hx) (fun h₁ hns hsb=>⟨lim.fresh _ hsb,?_⟩) hk
 have hk₁:∀b o,s.heap.get? b=some o->h₁.get? b=some o:=fun b o e=>hsb.extBut b o (Nat.ne_of_lt (Heap.lt_size e)) (Heap.get?_push_of_some _ e);have lkY:∀z (d:Addr),([(y,c)]:List (Str×Addr)).lookup z=some d->z=y/\d=c:=fun z d e=>by
  rw[List.lookup_cons]at e;cases q:z==y with
  | true=>rw[q]at e;cases e;exact⟨eq_of_beq q,rfl⟩
  | false=>rw[q]at e;cases e
 have lkC:([(y,c)]:List (Str×Addr)).lookup y=some c:=by rw[List.lookup_cons,beq_self_eq_true]
 have nc:∀b o,base.get? b=some o->b≠c:=fun b o e z=>by
  have:=(e0.bs b o e).2;rw[z,eC]at this;cases this
 have ncf:c∉frs outer:=fun z=>by rw[e0.frf c z]at eC;cases eC
 show codeAny (model P w) A (.expr body (PySem.W.envX qual sc s.heap.objs.size f (.ref c') [(y,c)])) _ _;have hokO:=aAS e0.hok eC;have I:Inv (cxL CX0 P w K mg base [x,y] qual sc f (.ref c') [(y,c)] A outer s (off H c) E) [] [some a,some v] (off H c) { s with heap:=h₁,toks:=s.toks+([x].zip [u]).length }:=by
  have noA:∀b:Addr,b∉(cxL CX0 P w K mg base [x,y] qual sc f (.ref c') [(y,c)] A outer s (off H c) E).ex:=fun b z=>absurd (show b∈([]:List Addr) from z) (by simp);refine⟨⟨e0.mod,hk,rfl,rfl,Nat.le_refl _,fun z1 z2 d h1 h2=> ?_,fun z hz=> ?_,fun z d hf _=>absurd (show false=true from hf) Bool.false_ne_true,fun _=>hr.hd,Around.frames_deeper e0.frames,.inr ⟨rfl,rfl⟩,fun b z=>absurd z (noA b),fun b o e=>⟨(e0.bs b o e).1,by show off H c b=none;rw[jN (nc b o e)];exact(e0.bs b o e).2⟩,e0.bsz,fun b _ _=>noA b,fun b z=>absurd z (noA b),e0.funs,fun b hb=> ?_⟩,
   rfl,e0.bare,Un.kept hk₁,⟨_,hns,fun i z v' h1 h2 h3=> ?_⟩,fun z d h=> ?_,hokO.fresh (Nat.le_refl _),fun z d h=> ?_,fun p hp=>absurd (show p∈([]:List (Addr×Obj)) from hp) (by simp),hokO.kept hk₁,rfl⟩
  ·exact(lkY z1 d h1).1.trans (lkY z2 d h2).1.symm
  ·have hz:sc.names.lookup z=some .cell∨sc.names.lookup z=some .free:=hz;rcases hz with hz|hz
   ·exact absurd rfl (hcell _ (PySem.mem_of_lookup hz))
   ·rw[hfree z hz];exact⟨c,lkC⟩
  ·show off H c b=none
   by_cases hbc:b=c
   ·rw[hbc];exact tE
   ·rw[jN hbc];exact e0.frf b hb
  ·match i,h1,h2 with
   | 0,h1,h2 =>
    cases h1;cases h2;refine⟨u,ra,.inl ⟨hx,?_⟩⟩;show ([(x,u)].reverse).lookup x=some u;rw[List.reverse_singleton,List.lookup_cons,beq_self_eq_true]
   | 1,h1,h2 =>
    cases h1;cases h2;exact⟨uv,rv,.inr ⟨.inr hy,c,lkC,oC,hk₁ _ _ gC,hdC⟩⟩
   | i+2,h1,h2=>cases h1
  ·rw[(lkY z d h).2];exact⟨_,oC,hk₁ _ _ gC,hdC⟩
  ·rw[(lkY z d h).2];exact tE
 refine PySem.W.kla_codeExpr (wpAny_mono (PE.nox ht [] _ [some a,some v] (off H c) _ I hq) (fun u' s' ⟨v',H',J,rv',q⟩=> ?_) fun e s' hs=> ?_)
 ·have Jb:Un (frs outer) [] (off H c) H' s.heap s'.heap:=J.base;have gC':s'.heap.get? c=some oC:=Jb.keep c oC gC tE ncf (by simp);have nC':H' c=none:=Jb.free c oC gC tE (by simp);exact⟨v',upd H' c (kn oC),J.os,J.bare,aDO eC gC ncf Jb,U7 J.hok nC' gC',rv',q⟩
 ·exact wpAny_mono hs (fun _ s'' z=>z.elim) fun _ s'' z=>z.elim
end
def SPr (X:Cx)(pins:List (Addr×Obj))(D:jB)(R:St->V->Hp->Prop)(f:Flow)(s':Shared):Prop :=
 match f with
 | .ret u=>∃v σ' H',Inv X pins σ' H' s'/\RelV v u/\(D.rt v H'∨R σ' v H')
 | f=>SP X pins D f s'
def PRs (X:Cx)(st:List Stmt)(t:jB->(St->V->Hp->Prop)->St->Hp->Prop):Prop :=
 ∀(pins:List (Addr×Obj)) (s:Shared) (σ:St) (H:Hp) (D:jB) (R:St->V->Hp->Prop),Inv X pins σ H s->t D R σ H->wpAny (model X.prog X.w) X.A (execs st X.env) (SPr X pins D R) X.xe s
section
variable {X:Cx}{st:Stmt}{rest:List Stmt}{t:TS}{u:jB->(St->V->Hp->Prop)->St->Hp->Prop}{e:Expr}{te:TE}{pos:Pos}
def ZO (t:TS)(u:jB->(St->V->Hp->Prop)->St->Hp->Prop):jB->(St->V->Hp->Prop)->St->Hp->Prop:=fun D R=>t { D with nx:=u D R }
def ZX (te:TE):jB->(St->V->Hp->Prop)->St->Hp->Prop:=fun _ R σ H=>te σ H (R σ)
theorem aBS {nx bk ct:St->Hp->Prop}{rt:VK}{R:St->V->Hp->Prop}{σ:St}{H:Hp} (h:t ⟨u ⟨nx,rt,bk,ct⟩ R,rt,bk,ct⟩ σ H):ZO t u ⟨nx,rt,bk,ct⟩ R σ H:=h
theorem aBd {D:jB}{R:St->V->Hp->Prop}{σ:St}{H:Hp} (h:te σ H (R σ)):ZX te D R σ H:=h
theorem oP (h1:PS X st t)(h2:PRs X rest u):PRs X (st::rest) (ZO t u):=by
 intro pins s σ H D R I h;refine wpAny_execs_cons (thn (h1 pins s σ H { D with nx:=u D R } I h) fun f s1 q=> ?_);cases f with
 | next =>
  obtain⟨σ',H',I',q⟩:=q;exact h2 pins s1 σ' H' D R I' q
 | ret v=>obtain⟨v,σ',H',I,r,q⟩:=q;exact⟨v,σ',H',I,r,.inl q⟩
 | brk=>exact q
 | cont=>exact q
theorem aBh (he:PE X e te):PRs X [.Return (some e) pos] (ZX te):=by
 intro pins s σ H D R I h;refine wpAny_execs_cons ?_;exact wpAny_Return_some (thn (he pins s σ H _ I h) fun v s1 ⟨x,H1,I1,r1,q1⟩=>⟨x,σ,H1,I1,r1,.inr q1⟩)
end
theorem aER {fs:List Addr}{H H':Hp}{h h':Heap}{c:Addr}{u:HO} (n:H' c=none) (hc:h.objs.size<=c) (x:Un fs [] H H' h h'):Un fs [] H (upd H' c u) h h' where
 keep:=x.keep
 slot:=x.slot
 free:=fun b ob q n' hx=>by
  rw[aU (Nat.ne_of_lt (Nat.lt_of_lt_of_le (Heap.lt_size q) hc))];exact x.free b ob q n' hx
 there:=x.there
 tups:=fun b xs q=>by rw[aU (bM (x.tups b xs q) n)];exact x.tups b xs q
 frzs:=fun b ob u' q=>by rw[aU (bM (x.frzs b ob u' q) n)];exact x.frzs b ob u' q
 tbls:=fun b ps q=>by
  obtain⟨m,z⟩:=x.tbls b ps q;exact⟨m,by rw[aU (bM z n)];exact z⟩
section
variable {P:Program}{w:World}{K:PySem.W.Frag}{mg:Str->Option Value}{base:Heap}
def aFA (i:Nat)(c:Addr)(Q:VK):St->V->Hp->Prop:=fun σ v H'=>∃cv,σ[i]? =some (some cv)/\∀H2,Same H' H2->H' c=none->KQ H2 c cv->Q v H2
theorem FunV.okR {x qual:Str}{st:Stmt}{f:Addr}{fd:FuncData}{N ps:List Str}{k i:Nat}{y:Str}{sp:Sp} (F:FunV K x qual st f fd) (S:aS N ps (aD st)) (hi:N[i]? =some y) (hyc:(aD st).names.lookup y=some .cell) (len:∀vs H Q E,sp vs H Q E->vs.length=ps.length)
  (hbody:∀(cdv:Value) (A:Around) (outer:List Env) (s:Shared) (H:Hp) (vs:List V) (Q:VK) (E:XK) (c:Addr),fd.code=cdv->(cellsFrom (s.heap.objs.size+1) (aD st).names []).lookup y=some c->Room k (A.deeper (envOfC qual (aD st) s.heap.objs.size f cdv))->sp vs H Q E →
   ∃t,PRs (xA CX0 P w K mg base N qual (aD st) f cdv A outer s H E).nox (aJ st) t/\t { nx:=fun _ H'=>Q .non H',rt:=Q } (aFA i c Q) (jH N vs) H):FnOk P w K mg base CX0 (k+1) f fd ps sp:=by
 obtain⟨oc,od,dV,kV,doc,pm,an,cdv,ct,osl,rfl,lk,hcd⟩:=F.ex;refine⟨len,fun A outer s H args us vs Q E hr e0 hb r hsp=> ?_⟩;have hl:=len _ _ _ _ hsp;have KX:K.In s.heap:=e0.mod.kin.keeps fun b o e=>(e0.bs b o e).1;have lim:s.heap.NoLimit:=e0.mod.nolimit.keeps fun b o e=>(e0.bs b o e).1;have hkind:∀y∈ps.zip us,(aD st).names.lookup y.1=some .local∨((aD st).names.lookup y.1=some .cell/\((cellsFrom (s.heap.objs.size+1) (aD st).names []).lookup y.1).isSome=true):=fun⟨n,v⟩ hy=>by
  rcases S.par n (List.of_mem_zip hy).1 with q|q
  ·exact .inl q
  ·exact .inr ⟨q,PySem.W.cellsFrom_some _ _ _ (.inl q)⟩
 refine codeAny_call_function hr.depth (KX _ _ lk) rfl S.co S.gen rfl (PySem.W.codeRec_of KX hcd) (hb _ _ _ _ ?_);refine wpAny_newFunctionEnv_cells S.kind hkind fun env he s1 x=> ?_;subst he;refine⟨lim.keeps x.toInCall.keep,codeAny_func ?_⟩;obtain⟨c,hc⟩:=wQ (n:=s.heap.objs.size+1) hyc;obtain⟨t,ht,hq⟩:=hbody cdv A outer s H vs Q E c rfl hc (hr.deeper _) hsp;have I:Inv (xA CX0 P w K mg base N qual (aD st) f cdv A outer s H E) [] (jH N vs) H s1:=IF S hr.hd e0 hl r x;refine wpAny_mono (ht [] s1 (jH N vs) H _ _ (I.wish _) hq) (fun fl s' hs=> ?_) fun e s' hs=>False.elim hs;have fin:∀{σ':St}{H':Hp}{v:V}{u:Value},Inv (xA CX0 P w K mg base N qual (aD st) f cdv A outer s H E).nox [] σ' H' s'->RelV v u->Q v H'->CE outer P w H s Q u s' :=
  fun {σ' H' v u} J rv q=>⟨v,H',J.os,J.bare,J.base,J.hok,rv,q⟩
 cases fl with
 | ret u =>
  obtain⟨v,σ',H',J,rv,q⟩:=hs;rcases q with q|⟨cv,hi',q⟩
  ·exact fin J rv q
  ·obtain⟨m,hn,hl'⟩:=J.loc;obtain⟨u',ru,lk'⟩:=hl' i y cv hi hi' (.inr (.inl hyc));have hcell:s'.heap.IsCell c (some u'):=by
    rcases lk' with⟨z,_⟩|⟨_,c2,e1,e2⟩
    ·have z':(aD st).names.lookup y=some .local:=z;rw[hyc]at z';cases z'
    ·have e1':(cellsFrom (s.heap.objs.size+1) (aD st).names []).lookup y=some c2:=e1;rw[hc]at e1';cases e1';exact e2
   obtain⟨oC,hoC,hdC⟩:=hcell;have nC:H' c=none:=J.freeC y c hc;have cs:s.heap.objs.size<=c:=J.ok.cab y c rfl hc;exact⟨v,upd H' c (kn oC),J.os,J.bare,aER nC cs J.base,U7 J.hok nC hoC,rv,q _ (fun b o e=>by rw[aU (bM e nC)];exact e) nC ⟨oC,u',bJ,hdC,ru⟩⟩
 | next =>
  obtain⟨σ',H',J,q⟩:=hs;exact fin (v:=V.non) (u:=Value.none) J rfl q
 | brk =>
  obtain⟨_,_,_,q⟩:=hs;exact False.elim q
 | cont =>
  obtain⟨_,_,_,q⟩:=hs;exact False.elim q
end
section
open PySem.W
variable {X:Cx}{i j:Nat}{n x y:Str}{T:Addr}{np yp hpos pos epos:Pos}{e:Expr}{tc:XK->TE}{b₀:Stmt}{suite:List Stmt}{ts:TS}
end
end L2
namespace L2
open PySem PySem.Spec PyProof.Rows
theorem UJ {t:jB->(St->V->Hp->Prop)->St->Hp->Prop}{D:jB}{R:St->V->Hp->Prop}{N:List Str}{vs:List V}{σ:St}{H:Hp} (e:jH N vs=σ) (h:t D R σ H):t D R (jH N vs) H:=e▸h
theorem walk_ofT2 {l:PySem.W.OpenLaw}{n k:Nat}{q:Program}{loose:List Str}{XP:(Str->Option Value)->Heap->Prop}{YP:World->Heap->Prop}{d d2:DefRec}{K:Params->PySem.W.Frag}{CX:World->CXT}{sp:World->Addr->Sp}{x:Str}
  (hn:l.most=some n)(hn2:n<=sizeLine)(hdf:d.params.defaults=[])(hr:Room k callerA)(hrec:d2∈recsOf q)(hnt:∀w:World,PySem.W.noTabs (K w.params)=true)
  (hY:∀(w:World) (h:Heap),YP w h->(K w.params).In h)
  (F:∀(w:World) (mg:Str->Option Value) (fa:Addr) (h:Heap),(K w.params).In h->h.Ns mainGlobals mg->mg d.name=some (.ref fa) →
   ∃(fd:FuncData) (f2:Addr) (fd2:FuncData),mg d2.name=some (.ref f2)/\(∃oc od osl,(K w.params).lookup f2=some ⟨oc,od,.func fd2,osl⟩)/\(∀(s:Shared) (u:Value),BindsTo s fd ⟨[u],[]⟩ [(x,u)]) ∧
    ∀(base:Heap) (cL PL:Addr),fd2.code= .ref cL->PySem.W.CodeHd base cL PL->base.BuiltinsAt mg PL->FnOk l.prog w (K w.params) mg base (CX w) k fa fd [x] (sp w PL))
  (hsp:∀(w:World) (PL:Addr) (H:Hp) (a:Addr) (ns:List Int),ns.length<=n->SqL (K w.params) H a (ns.map V.int)->H PL=some (.tbl #[])->sp w PL [.ref a] H (fun v _=>v= .bl true) fun _ _ _=>False)
  (hCX:∀(w:World) (H:Hp) (s:Shared) (e:Value) (s':Shared),CX w [] H s (fun _ _ _=>False) e s'->False) :
  PySem.W.WalkO q loose XP YP l.row.toRowW d [] (fun f vs=>PySem.call f vs):=by
 refine Att.attach_call hn hdf fun w s₀ s₁ mg mb fa o pm cd doc a vs ns G Y ho hd hcd hmg hobj hints hlen hg=> ?_;have KX:=hY w _ Y;obtain⟨fd,f2,fd2,hm2,⟨oc,od,osl,lk⟩,hb,hF⟩:=F w mg fa _ KX G.T.g hmg;obtain⟨a',o',fd',c,PL,h1,h2,h3,h4,h5,h6⟩:=G.T.tab d2 hrec;rw[hm2]at h1;cases h1;have e1:=KX _ _ lk;rw[h2]at e1;cases e1;have h3':fd2=fd':=by injection h3
 subst h3';have C:=PySem.W.CodeHd.of h5 h6;have hKP:(K w.params).lookup PL=none:=by
  cases q:(K w.params).lookup PL with
  | none=>rfl
  | some o2 =>
   have e2:=KX _ _ q;rw[h6.2]at e2;cases e2;have z:=List.all_eq_true.mp (hnt w) (PL,_) (PySem.W.mem_of_lookupK q);exact absurd (show false=true from z) Bool.false_ne_true
 exact UV KX G.T.g G.T.b G.T.builtins G.T.nolimit hg C h6.2 hKP G.T.bmain hobj hints (Nat.le_trans hlen hn2) hr (fun base hc hB=>hF base c PL h4 hc hB) hb (fun H hS hP=>hsp w PL H a ns hlen hS hP) fun H e s'=>hCX w H s₁ e s'
end L2
namespace L2
open PySem PySem.Spec PyProof.Rows
section
variable {X:Cx}
def aDk (K:PySem.W.Frag):R2:=fun x y H Q=>∃a b xs,x= .ref a/\y= .ref b/\SqL K H a xs/\SqL K H b []/\Q (.bl (!xs.isEmpty)) H
theorem aC0 (hu:X.A.units<cLine):OpR X (compareOp .NotEq) (aDk X.K):=by
 intro pins s σ H x y v u Q I rx ry h;obtain⟨a,b,xs,rfl,rfl,ha,hb,q⟩:=h;cases rx;cases ry;obtain⟨its,r,pl,hz⟩:=I.list ha;obtain⟨its2,r2,pl2,_⟩:=I.list hb;cases r2;cases xs with
 | nil =>
  cases r;refine SeqAt.RcNeAt.lists (e:=fun _=>true) pl.isList pl2.isList rfl hu (fun j h1=>absurd h1 (Nat.not_lt_zero _)) X.prog X.w X.xe _ ⟨.bl false,H,I,rfl,q⟩
 | cons x xs =>
  cases r with
  | cons r1 r2 =>
   exact SeqAt.RcNeAt.lists_lengths pl.isList pl2.isList (by simp) hu X.prog X.w X.xe _ ⟨.bl true,H,I,rfl,q⟩
theorem aCs {K:PySem.W.Frag}{H:Hp}{Q:VK}{a b:Addr}{xs:List V} (ha:SqL K H a xs) (hb:SqL K H b []) (h:Q (.bl (!xs.isEmpty)) H):aDk K (.ref a) (.ref b) H Q:=⟨a,b,xs,rfl,rfl,ha,hb,h⟩
end
end L2
namespace L2
open PySem PySem.Spec PyProof.Rows
section
variable {κ:Type}[DecidableEq κ]
def bD (kvs:List (κ×V))(k:κ):Option V:=(kvs.find? fun kv=>decide (kv.1=k)).map (·.2)
def cP (kvs:List (κ×V))(k:κ)(v:V):List (κ×V) :=
 if (kvs.any fun kv=>decide (kv.1=k))=true then kvs.map (fun kv=>if kv.1=k then (kv.1,v) else kv) else kvs++[(k,v)]
theorem fP {p:κ×V}{r:List (κ×V)}{k:κ} (e:p.1=k):bD (p::r) k=some p.2:=by simp[bD,List.find?_cons,e]
theorem d5 {p:κ×V}{r:List (κ×V)}{k:κ} (e:¬p.1=k):bD (p::r) k=bD r k:=by simp[bD,List.find?_cons,e]
theorem pB (k:κ):∀kvs:List (κ×V),(kvs.any fun kv=>decide (kv.1=k))=(bD kvs k).isSome
 | []=>rfl
 | p::r=>by
  rw[List.any_cons]
  by_cases e:p.1=k
  ·simp only[fP e,decide_eq_true e,Bool.true_or,Option.isSome_some]
  ·rw[d5 e,decide_eq_false e,Bool.false_or];exact pB k r
theorem LN (k j:κ)(y:V):∀kvs:List (κ×V),bD (kvs.map fun kv=>if kv.1=k then (kv.1,y) else kv) j=(bD kvs j).map fun x=>if j=k then y else x
 | []=>rfl
 | p::r=>by
  have ih:=LN k j y r;rw[List.map_cons]
  by_cases h:p.1=k
  ·rw[if_pos h]
   by_cases e:p.1=j
   ·rw[fP (p:=(p.1,y)) e,fP e,Option.map_some,if_pos (e.symm.trans h)]
   ·rw[d5 (p:=(p.1,y)) e,d5 e,ih]
  ·rw[if_neg h]
   by_cases e:p.1=j
   ·rw[fP (p:=p) e,fP e,Option.map_some,if_neg (fun z=>h (e.trans z))]
   ·rw[d5 (p:=p) e,d5 e,ih]
theorem IO (k j:κ)(y:V):∀kvs:List (κ×V),bD kvs k=none->bD (kvs++[(k,y)]) j=if j=k then some y else bD kvs j
 | [],_=>by
  by_cases e:k=j
  ·rw[if_pos e.symm];exact fP (p:=(k,y)) e
  ·rw[if_neg (fun z=>e z.symm)];exact d5 (p:=(k,y)) e
 | p::r,hn=>by
  rw[List.cons_append];have hk:¬p.1=k:=fun z=>by rw[fP z]at hn;cases hn
  rw[d5 hk]at hn;have ih:=IO k j y r hn
  by_cases e:p.1=j
  ·rw[fP e,fP e,if_neg (fun z=>hk (e.trans z))]
  ·rw[d5 e,d5 e,ih]
theorem mE (kvs:List (κ×V))(k j:κ)(y:V):bD (cP kvs k y) j=if j=k then some y else bD kvs j:=by
 unfold cP
 by_cases a:(kvs.any fun kv=>decide (kv.1=k))=true
 ·rw[if_pos a,LN];rw[pB]at a
  by_cases e:j=k
  ·obtain⟨x,hx⟩:=Option.isSome_iff_exists.mp a;rw[if_pos e,e,hx,Option.map_some,if_pos rfl]
  ·rw[if_neg e];cases bD kvs j with
   | none=>rfl
   | some x=>rw[Option.map_some,if_neg e]
 ·rw[if_neg a];refine IO k j y kvs ?_;rw[pB]at a;cases q:bD kvs k with
  | none=>rfl
  | some x=>rw[q]at a;exact(a rfl).elim
theorem iI (kvs:List (κ×V))(k:κ)(v:V):(cP kvs k v).length<=kvs.length+1:=by
 unfold cP
 split
 ·rw[List.length_map];omega
 ·rw[List.length_append,List.length_cons,List.length_nil];omega
theorem l9 {kvs:List (κ×V)}{k:κ} (v:V) (h:bD kvs k=none):cP kvs k v=kvs++[(k,v)]:=by
 unfold cP;rw[pB,h];exact if_neg (by decide)
theorem RelO.isSome_eq {o:Option V}{u:Option Value} (r:RelO o u):o.isSome=u.isSome:=by
 cases o with
 | none=>cases u with
  | none=>rfl
  | some _=>exact(show False from r).elim
 | some _=>cases u with
  | none=>exact(show False from r).elim
  | some _=>rfl
theorem RelO.getD {o:Option V}{u:Option Value}{d:V}{d':Value} (r:RelO o u) (rd:RelV d d'):RelV (o.getD d) (u.getD d'):=by
 cases o with
 | none=>cases u with
  | none=>exact rd
  | some _=>exact(show False from r).elim
 | some _=>cases u with
  | none=>exact(show False from r).elim
  | some _=>exact r
theorem KV.val {kvs:List (κ×V)}{vs:List (κ×Value)} (r:KV kvs vs) (k:κ):RelO (bD kvs k) (valueAt vs k):=by
 unfold KV at r
 induction r with
 | nil=>exact True.intro
 | @cons p q ps qs h t ih =>
  obtain⟨h1,h2⟩:=h
  by_cases e:p.1=k
  ·have e':q.1=k:=h1.symm.trans e;have b:valueAt (q::qs) k=some q.2:=by simp[valueAt,List.find?_cons,e']
   rw[fP e,b];exact h2
  ·have e':¬q.1=k:=fun z=>e (h1.trans z);have b:valueAt (q::qs) k=valueAt qs k:=by simp[valueAt,List.find?_cons,e']
   rw[d5 e,b];exact ih
theorem KV.any {kvs:List (κ×V)}{vs:List (κ×Value)} (r:KV kvs vs) (k:κ):(kvs.any fun kv=>decide (kv.1=k))=vs.any fun kv=>decide (kv.1=k):=by
 unfold KV at r
 induction r with
 | nil=>rfl
 | cons h t ih=>rw[List.any_cons,List.any_cons,ih,h.1]
theorem KV.repl {kvs:List (κ×V)}{vs:List (κ×Value)} (r:KV kvs vs) (k:κ) {y:V}{u:Value} (ry:RelV y u) :
  KV (kvs.map fun kv=>if kv.1=k then (kv.1,y) else kv) (vs.map fun kv=>if kv.1=k then (kv.1,u) else kv):=by
 unfold KV at r ⊢
 induction r with
 | nil=>exact .nil
 | @cons p q ps qs h t ih =>
  rw[List.map_cons,List.map_cons];refine .cons ?_ ih;obtain⟨h1,h2⟩:=h
  by_cases e:p.1=k
  ·rw[if_pos e,if_pos (h1.symm.trans e)];exact⟨h1,ry⟩
  ·rw[if_neg e,if_neg (fun z=>e (h1.trans z))];exact⟨h1,h2⟩
theorem KV.put {kvs:List (κ×V)}{vs:List (κ×Value)} (r:KV kvs vs) (k:κ) {y:V}{u:Value} (ry:RelV y u):KV (cP kvs k y) (stored vs k u):=by
 unfold cP stored;rw[r.any k]
 by_cases e:(vs.any fun kv=>decide (kv.1=k))=true
 ·rw[if_pos e,if_pos e];exact r.repl k ry
 ·rw[if_neg e,if_neg e];exact Paired.snoc r ⟨rfl,ry⟩
theorem KV.length {kvs:List (κ×V)}{vs:List (κ×Value)} (r:KV kvs vs):kvs.length=vs.length:=Paired.length r
end
theorem xE {P:Program}{w:World}{k:Key}{u:Value} (r:RelV (kV k) u):(cH P w).is k u=true:=by
 cases k with
 | inl i=>obtain⟨t,e⟩:=(show ∃t,u=Value.int i t from r);subst e;exact N6 P w i t
 | inr x=>obtain⟨t,e⟩:=(show ∃t,u=Value.str x t from r);subst e;exact OL P w x t
theorem IQ {P:Program}{w:World}:∀{ks:List Key}{us:List Value},Vals (ks.map kV) us->ItemsAre (cH P w) ks us
 | [],_,r=>by rw[List.map_nil]at r;cases r;exact .nil
 | k::ks,_,r=>by
  rw[List.map_cons]at r;cases r with
  | cons h t=>exact .cons (xE h) (IQ t)
abbrev KT (H:Hp):List (List Key×V)->List (List Key×Addr×Value)->Prop:=Paired fun p q=>p.1=q.1/\H q.2.1=some (.tup (p.1.map kV))/\RelV p.2 q.2.2
theorem KT.val {H:Hp}{kvs:List (List Key×V)}{xs:List (List Key×Addr×Value)} (r:KT H kvs xs) (k:List Key):RelO (bD kvs k) ((atKey xs k).map (·.2)):=by
 induction r with
 | nil=>exact True.intro
 | @cons p q ps qs h t ih =>
  obtain⟨h1,_,h2⟩:=h
  by_cases e:p.1=k
  ·have e':q.1=k:=h1.symm.trans e;have b:atKey (q::qs) k=some q.2:=by simp[atKey,List.find?_cons,e']
   rw[fP e,b];exact h2
  ·have e':¬q.1=k:=fun z=>e (h1.trans z);have b:atKey (q::qs) k=atKey qs k:=by simp[atKey,List.find?_cons,e']
   rw[d5 e,b];exact ih
theorem KT.repl {H:Hp}{kvs:List (List Key×V)}{xs:List (List Key×Addr×Value)} (r:KT H kvs xs) (k:List Key) {y:V}{u:Value} (ry:RelV y u) :
  KT H (kvs.map fun kv=>if kv.1=k then (kv.1,y) else kv) (xs.map (putAt k u)):=by
 induction r with
 | nil=>exact .nil
 | @cons p q ps qs h t ih =>
  rw[List.map_cons,List.map_cons];refine .cons ?_ ih;obtain⟨h1,h2,h3⟩:=h;unfold putAt
  by_cases e:p.1=k
  ·rw[if_pos e,if_pos (h1.symm.trans e)];exact⟨h1,h2,ry⟩
  ·rw[if_neg e,if_neg (fun z=>e (h1.trans z))];exact⟨h1,h2,h3⟩
theorem KT.put {H:Hp}{kvs:List (List Key×V)}{xs:List (List Key×Addr×Value)} (r:KT H kvs xs) (k:List Key) {b:Addr}{y:V}{u:Value} (hb:H b=some (.tup (k.map kV))) (ry:RelV y u) :
  KT H (cP kvs k y) (storedH xs k b u):=by
 have e:(kvs.any fun kv=>decide (kv.1=k))=(atKey xs k).isSome:=by
  rw[pB,(r.val k).isSome_eq,Option.isSome_map]
 unfold cP storedH;rw[e]
 by_cases q:(atKey xs k).isSome=true
 ·rw[if_pos q,if_pos q];exact r.repl k ry
 ·rw[if_neg q,if_neg q];exact Paired.snoc r ⟨rfl,hb,ry⟩
theorem KT.keeps {H H':Hp}{kvs:List (List Key×V)}{xs:List (List Key×Addr×Value)} (r:KT H kvs xs) (ht:∀b ys,H b=some (.tup ys)->H' b=some (.tup ys)):KT H' kvs xs :=
 Paired.mapP r fun _ _ z=>⟨z.1,ht _ _ z.2.1,z.2.2⟩
section
variable {P:Program}{w:World}{H:Hp}{h:Heap}{a:Addr}
theorem aAa {u:HO}(ok:HOk P w H h)(e:Rd H a u):ObjOk P w H h a u:=e.ok ok
theorem r9 {kvs:List (Key×V)}(ok:HOk P w H h)(e:Rd H a (.dK kvs)):kvs.length<=sizeLine/\(a==sysModules)=false/\∃vs,KV kvs vs/\h.DictOf (cH P w) a vs :=
 show ObjOk P w H h a (.dK kvs) from aAa ok e
theorem aEu {kvs:List (Key×V)}(ok:HOk P w H h)(e:H a=some (.dK kvs)):kvs.length<=sizeLine/\(a==sysModules)=false/\∃vs,KV kvs vs/\h.DictOf (cH P w) a vs:=r9 ok (.inl e)
theorem wA {ks:List Key}(ok:HOk P w H h)(e:H a=some (.tup (ks.map kV))):(tupleKind (cH P w)).is h ks a:=by
 obtain⟨_,its,r,o,h1,h2,n,h3⟩:=(show ObjOk P w H h a (.tup (ks.map kV)) from ok a _ e)
 exact⟨o,its.toArray,n,h1,h2,h3,by simpa using IQ r⟩
theorem xD {kvs:List (List Key×V)}(ok:HOk P w H h)(e:Rd H a (.dT kvs)):kvs.length<=sizeLine/\(a==sysModules)=false ∧
  ∃xs,KT H kvs xs/\h.DictOfH (tupleKind (cH P w)) a xs:=by
 obtain⟨z,y,xs,r,o,es,ep,h1,h2,h3,h4,h5⟩:=(show ObjOk P w H h a (.dT kvs) from aAa ok e)
 refine⟨z,y,xs,r,o,es,ep,h1,h2,h3,h4,fun x hx=> ?_,h5⟩;have all:∀{l:List (List Key×V)}{m:List (List Key×Addr×Value)},KT H l m->∀x∈m,(tupleKind (cH P w)).is h x.1 x.2.1:=by
  intro l m q
  induction q with
  | nil=>intro x hx;exact nomatch hx
  | @cons p q ps qs hq t ih =>
   intro x hx;rcases List.mem_cons.mp hx with e|hx
   ·subst e;exact wA ok (by rw[←hq.1];exact hq.2.1)
   ·exact ih x hx
 exact all r x hx
theorem aEH {kvs:List (List Key×V)}(ok:HOk P w H h)(e:H a=some (.dT kvs)):kvs.length<=sizeLine/\(a==sysModules)=false ∧
  ∃xs,KT H kvs xs/\h.DictOfH (tupleKind (cH P w)) a xs:=xD ok (.inl e)
end
def DGet (H:Hp)(a:Addr)(y:V)(r:Option V):Prop :=
 (∃kvs k,Rd H a (.dK kvs)/\y=kV k/\r=bD kvs k)∨∃kvs k b,Rd H a (.dT kvs)/\y= .ref b/\H b=some (.tup (k.map kV))/\r=bD kvs k
def DPut (H:Hp)(a:Addr)(y v:V)(H':Hp):Prop :=
 (∃kvs k,H a=some (.dK kvs)/\y=kV k/\kvs.length<sizeLine/\H'=upd H a (.dK (cP kvs k v))) ∨
 ∃kvs k b,H a=some (.dT kvs)/\y= .ref b/\H b=some (.tup (k.map kV))/\kvs.length<sizeLine/\H'=upd H a (.dT (cP kvs k v))
theorem DGet.t {H:Hp}{a b:Addr}{kvs:List (List Key×V)}{k:List Key} (e:H a=some (.dT kvs)) (eb:H b=some (.tup (k.map kV))):DGet H a (.ref b) (bD kvs k):= .inr ⟨kvs,k,b,.inl e,rfl,eb,rfl⟩
theorem DPut.k {H:Hp}{a:Addr}{kvs:List (Key×V)}{k:Key}{v:V} (e:H a=some (.dK kvs)) (hl:kvs.length<sizeLine):DPut H a (kV k) v (upd H a (.dK (cP kvs k v))):= .inl ⟨kvs,k,e,rfl,hl,rfl⟩
theorem DPut.t {H:Hp}{a b:Addr}{kvs:List (List Key×V)}{k:List Key}{v:V} (e:H a=some (.dT kvs)) (eb:H b=some (.tup (k.map kV))) (hl:kvs.length<sizeLine) :
  DPut H a (.ref b) v (upd H a (.dT (cP kvs k v))):= .inr ⟨kvs,k,b,e,rfl,eb,hl,rfl⟩
section
variable {X:Cx}{pins:List (Addr×Obj)}{σ:St}{H:Hp}{s:Shared}{a:Addr}{y v:V}{u r:Value}{o:Option V}{A:Around}{E:Value->Shared->Prop}
theorem Inv.big (I:Inv X pins σ H s):sysModules<s.heap.objs.size:=by
 have h:mainGlobals<s.heap.objs.size:=(I.mod.glob.keeps I.bk).lt;exact Nat.lt_trans (by decide) h
theorem IL {Q:Value->Shared->Prop}(hu:A.units+1<cLine)(I:Inv X pins σ H s)(g:DGet H a y (some v))(ry:RelV y u)(h:∀w' s',Inv X pins σ H s'->RelV v w'->Q w' s') :
  wpAny (model X.prog X.w) A (getItem (.ref a) u) Q E s:=by
 rcases g with⟨kvs,k,e,ey,l⟩|⟨kvs,k,b,e,ey,eb,l⟩
 ·subst ey;obtain⟨z,hd,vs,rel,dd⟩:=r9 I.hok e;obtain⟨w',hw,rw'⟩:=RelO.some_of (v:=v) (o:=valueAt vs k) (by rw[l];exact rel.val k);exact wpAny_getItem_of (xE ry) dd.mapOf hw (h w' _ (I.tok _) rw')
 ·subst ey;cases (show u=Value.ref b from ry);obtain⟨z,hd,xs,rel,dd⟩:=xD I.hok e;obtain⟨w',hw,rw'⟩:=RelO.some_of (v:=v) (o:=(atKey xs k).map (·.2)) (by rw[l];exact rel.val k);obtain⟨p,hp,hp2⟩:=Option.map_eq_some_iff.mp hw;refine wpAny_getItem_heap (tupleKind_room_in1 hu) (wA I.hok eb) dd hp ?_;rw[hp2];exact h w' _ (I.tok _) rw'
theorem aFl {Q:Value->Shared->Prop}(hu:A.units+1<cLine)(I:Inv X pins σ H s)(g:DGet H a y o)(ry:RelV y u)(h:∀s',Inv X pins σ H s'->Q (.bool o.isSome) s') :
  wpAny (model X.prog X.w) A (compareOp .In u (.ref a)) Q E s:=by
 rcases g with⟨kvs,k,e,ey,l⟩|⟨kvs,k,b,e,ey,eb,l⟩
 ·subst ey;obtain⟨z,hd,vs,rel,dd⟩:=r9 I.hok e;refine wpAny_in_of (xE ry) hd dd.mapOf ?_;rw[←(rel.val k).isSome_eq,←l];exact h _ (I.tok _)
 ·subst ey;cases (show u=Value.ref b from ry);obtain⟨z,hd,xs,rel,dd⟩:=xD I.hok e;refine wpAny_in_heap (tupleKind_room_in1 hu) (wA I.hok eb) hd dd ?_;have q:=(rel.val k).isSome_eq;rw[Option.isSome_map]at q;rw[←q,←l];exact h _ (I.tok _)
theorem aBJ {Q:Value->Shared->Prop}(hu:A.units+1<cLine)(I:Inv X pins σ H s)(g:DGet H a y o)(ry:RelV y u)(h:∀s',Inv X pins σ H s'->Q (.bool (!o.isSome)) s') :
  wpAny (model X.prog X.w) A (compareOp .NotIn u (.ref a)) Q E s:=by
 rcases g with⟨kvs,k,e,ey,l⟩|⟨kvs,k,b,e,ey,eb,l⟩
 ·subst ey;obtain⟨z,hd,vs,rel,dd⟩:=r9 I.hok e;refine wpAny_notIn_of (xE ry) hd dd.mapOf ?_;rw[←(rel.val k).isSome_eq,←l];exact h _ (I.tok _)
 ·subst ey;cases (show u=Value.ref b from ry);obtain⟨z,hd,xs,rel,dd⟩:=xD I.hok e;refine wpAny_notIn_heap (tupleKind_room_in1 hu) (wA I.hok eb) hd dd ?_;have q:=(rel.val k).isSome_eq;rw[Option.isSome_map]at q;rw[←q,←l];exact h _ (I.tok _)
theorem P3 {h':Heap}{t':Nat}{ob:HO} (I:Inv X pins σ H s) (mu:Mut (H a)) (hs:Heap.SameBut a s.heap h') (he:∃q,h'.get? a=some q) (new:ObjOk X.prog X.w (upd H a ob) h' a ob) :
  Inv X pins σ (upd H a ob) { s with heap:=h',toks:=t' } :=
 I.write (x:=a) (e:=a) mu (.inl rfl) (fun b q hb z=>(hs.2 b hb).trans z) he new
theorem L3 {P:Program}{w:World}{H':Hp}{h':Heap}{kvs:List (Key×V)}{vs:List (Key×Value)} (z:kvs.length<=sizeLine) (hd:(a==sysModules)=false) (rel:KV kvs vs) (dd:h'.DictOf (cH P w) a vs) :
  ObjOk P w H' h' a (.dK kvs):=⟨z,hd,vs,rel,dd⟩
theorem HW {H':Hp}{Q:Unit->Shared->Prop} (hu:A.units+1<cLine) (I:Inv X pins σ H s) (g:DPut H a y v H') (ry:RelV y u) (rv:RelV v r) (h:∀s',Inv X pins σ H' s'->Q () s') :
  wpAny (model X.prog X.w) A (setItem (.ref a) u r) Q E s:=by
 rcases g with⟨kvs,k,e,ey,l,eH⟩|⟨kvs,k,b,e,ey,eb,l,eH⟩
 ·subst ey eH;obtain⟨z,hd,vs,rel,dd⟩:=aEu I.hok e;have hz:vs.length<=sizeLine:=by rw[←rel.length];exact z
  have hl:(cP kvs k v).length<=sizeLine:=by have:=iI kvs k v;omega
  refine wpAny_setItem_pairs (hsz:=hz) (xE ry) dd fun h' dd' hs=>h _ ?_;have he:∃q,h'.get? a=some q:=let ⟨q,_,_,hq,_⟩:=dd';⟨q,hq⟩;exact P3 I (by rw[e];exact True.intro) hs he (L3 hl hd (rel.put k rv) dd')
 ·subst ey eH;cases (show u=Value.ref b from ry);obtain⟨z,hd,xs,rel,dd⟩:=aEH I.hok e;have hz:xs.length<=sizeLine:=by rw[←Paired.length rel];exact z
  have hl:(cP kvs k v).length<=sizeLine:=by have:=iI kvs k v;omega
  refine wpAny_setItem_heap (hsz:=hz) (tupleKind_room_in1 hu) (wA I.hok eb) dd fun h' dd' hs=>h _ ?_;obtain⟨q,es,ep,hq,h2,h3,h4,_,h5⟩:=dd';refine P3 I (by rw[e];exact True.intro) hs ⟨q,hq⟩ ⟨hl,hd,_,(rel.put k eb rv).keeps fun c ys ec=> ?_,q,es,ep,hq,h2,h3,h4,h5⟩;rw[aU (aE6 ec e (fun z=>nomatch z))];exact ec
end
section
variable {X:Cx}{pins:List (Addr×Obj)}{σ:St}{H:Hp}{s:Shared}{a:Addr}{kvs:List (Key×V)}{k:Key}{u:Value}{A:Around}{E:Value->Shared->Prop}
end
def aDW (i:Expr):Prop:=∀ov iv,subscripted i false ov iv=operate [ov,iv] (getItem ov iv)
theorem aBC {prog:Program}{w:World}{A:Around}{E:Value->Shared->Prop}{s:Shared}{env:Env}{value slice:Expr}{pos:Pos}{T id:String}{Q:Value->Shared->Prop}
  (hl:typeLookup (.type T) "__getitem__" =pure (some (.builtin id)))(hs:aDW slice)
  (h:wpAny (model prog w) A (eval value env) (fun o s₁=>wpAny (model prog w) A (eval slice env) (fun i s₂=>s₂.TypeIs o T/\wpAny (model prog w) A (getItem o i) Q E s₂) E s₁) E s) :
  wpAny (model prog w) A (eval (.Subscript value slice pos) env) Q E s:=by
 refine Subscript_ (wpAny_mono h (fun o s₁ h₁=>wpAny_mono h₁ (fun i s₂ h₂=> ?_) fun _ _ x=>x) fun _ _ x=>x);obtain⟨hT,h₂⟩:=h₂;unfold subscriptTail;refine wpAny_bind ?_;rw[getitemInPython_of_ne hT.not_modules];refine wpAny_bind (wpAny_specialOf hT hl ?_);have fin:wpAny (model prog w) A (subscripted slice false o i) (fun r s₃=>wpAny (model prog w) A (letTemporaryGo value o r >>= fun _=>pure r) Q E s₃) E s₂:=by
  rw[hs o i];exact wpAny_operating (wpAny_mono h₂ (fun r s₃ h₃=>wpAny_bind (wpAny_letTemporaryGo (wpAny_pure h₃))) fun _ _ x=>x)
 first
  | exact wpAny_pure (wpAny_bind fin)
  | exact wpAny_bind (wpAny_pure (wpAny_bind fin))
  | exact wpAny_bind fin
theorem OF {X:Cx}{pins:List (Addr×Obj)}{σ:St}{H:Hp}{s:Shared}{a:Addr}{y:V}{o:Option V} (I:Inv X pins σ H s) (g:DGet H a y o):s.TypeIs (.ref a) "dict" :=by
 rcases g with⟨kvs,k,e,_,_⟩|⟨kvs,k,b,e,_,_,_⟩
 ·obtain⟨_,_,vs,_,dd⟩:=r9 I.hok e;exact dd.typeIs
 ·obtain⟨_,_,xs,_,dd⟩:=xD I.hok e;exact dd.typeIs
def Z9 (td ty:TE):TE:=fun σ H Q=>td σ H fun x H1=>ty σ H1 fun y H2=>∃a v,x= .ref a/\DGet H2 a y (some v)/\Q v H2
def aCL (ty td:TE):TE:=fun σ H Q=>ty σ H fun y H1=>td σ H1 fun x H2=>∃a o,x= .ref a/\DGet H2 a y o/\Q (.bl o.isSome) H2
def PZ (ty td:TE):TE:=fun σ H Q=>ty σ H fun y H1=>td σ H1 fun x H2=>∃a o,x= .ref a/\DGet H2 a y o/\Q (.bl (!o.isSome)) H2
def Z0 (td ty tv:TE):TS:=fun D σ H=>tv σ H fun v H1=>td σ H1 fun x H2=>ty σ H2 fun y H3=>∃a H4,x= .ref a/\DPut H3 a y v H4/\D.nx σ H4
def ZN (td ty tv:TE)(rd:V->V->Hp->VK->Prop):TS:=fun D σ H=>td σ H fun x H1=>ty σ H1 fun y H2=>∃a v,x= .ref a/\DGet H2 a y (some v) ∧
 tv σ H2 fun y2 H3=>rd v y2 H3 fun z H4=>∃H5,DPut H4 a y z H5/\D.nx σ H5
section
variable {X:Cx}{o i e value:Expr}{pos pos' tpos:Pos}{td ty tv:TE}
theorem c6 (hu:X.A.units+1<cLine)(ho:PE X o td)(hi:PE X i ty)(hs:aDW i):PE X (.Subscript o i pos) (Z9 td ty):=by
 intro pins s σ H Q I h;refine aBC PySem.F.slot_dict_getitem.lookup hs (thn (ho pins s σ H _ I h) fun u s1 ⟨x,H1,I1,rx,q1⟩=>thn (hi pins s1 σ H1 _ I1 q1) fun iv s2 ⟨y,H2,I2,ry,a,v,ex,g,q2⟩=> ?_);subst ex;obtain rfl:u=Value.ref a:=rx;exact⟨OF I2 g,IL hu I2 g ry fun w' s3 I3 rw'=>⟨v,H2,I3,rw',q2⟩⟩
theorem zB (hu:X.A.units+1<cLine)(hi:PE X i ty)(ho:PE X o td):PC X .In i o (aCL ty td):=by
 intro pins s σ H Q I h;refine thn (hi pins s σ H _ I h) fun iv s1 ⟨y,H1,I1,ry,q1⟩=>thn (ho pins s1 σ H1 _ I1 q1) fun u s2 ⟨x,H2,I2,rx,a,ov,ex,g,q2⟩=> ?_;subst ex;obtain rfl:u=Value.ref a:=rx;exact aFl hu I2 g ry fun s3 I3=>⟨.bl ov.isSome,H2,I3,rfl,q2⟩
theorem yY (hu:X.A.units+1<cLine)(hi:PE X i ty)(ho:PE X o td):PC X .NotIn i o (PZ ty td):=by
 intro pins s σ H Q I h;refine thn (hi pins s σ H _ I h) fun iv s1 ⟨y,H1,I1,ry,q1⟩=>thn (ho pins s1 σ H1 _ I1 q1) fun u s2 ⟨x,H2,I2,rx,a,ov,ex,g,q2⟩=> ?_;subst ex;obtain rfl:u=Value.ref a:=rx;exact aBJ hu I2 g ry fun s3 I3=>⟨.bl (!ov.isSome),H2,I3,rfl,q2⟩
theorem dR (hu:X.A.units+1<cLine)(ho:PE X o td)(hi:PE X i ty)(hv:PE X value tv)(hs:swapsWith value (some (.Subscript o i pos')) pos.line X.env=pure false) :
  PS X (.Assign [.Subscript o i pos'] value pos) (Z0 td ty tv):=by
 intro pins s σ H D I h;refine wpAny_Assign_Subscript (thn (hv pins s σ H _ I h) fun r s1 ⟨v,H1,I1,rv,q1⟩=>thn (ho pins s1 σ H1 _ I1 q1) fun u s2 ⟨x,H2,I2,rx,q2⟩=>thn (hi pins s2 σ H2 _ I2 q2) fun iv s3 ⟨y,H3,I3,ry,a,H4,ex,g,q3⟩=> ?_) hs;subst ex;obtain rfl:u=Value.ref a:=rx;exact HW hu I3 g ry rv fun s4 I4=>⟨σ,H4,I4,q3⟩
theorem aAf {op:Operator}{rd:V->V->Hp->VK->Prop} (hu:X.A.units+1<cLine) (ho:PE X o td) (hi:PE X i ty) (hv:PE X value tv) (hop:aDF X op rd)
  (ha:∀ov iv new,augStore i ov iv new=(do holding [new,ov,iv] (setItem ov iv new);release [new,ov,iv] [];pure .next)):PS X (.AugAssign (.Subscript o i tpos) op value pos) (ZN td ty tv rd):=by
 intro pins s σ H D I h;refine wpAny_AugAssign_SubscriptAny (thn (ho pins s σ H _ I h) fun u s1 ⟨x,H1,I1,rx,q1⟩=>thn (hi pins s1 σ H1 _ I1 q1) fun iv s2 ⟨y,H2,I2,ry,a,v,ex,g,q2⟩=> ?_) ha;subst ex;obtain rfl:u=Value.ref a:=rx;refine IL hu I2 g ry fun w' s3 I3 rw'=>thn (hv pins s3 σ H2 _ I3 q2) fun w2 s4 ⟨y2,H3,I4,ry2,q3⟩=>thn (hop pins s4 σ H3 v y2 w' w2 _ I4 rw' ry2 q3) fun w3 s5 ⟨z,H4,I5,rz,H5,g5,q4⟩=> ?_;exact HW hu I5 g5 ry rz fun s6 I6=>⟨σ,H5,I6,q4⟩
end
theorem YC {P:Program}{w:World}{H:Hp} (h:Heap) (hb:sysModules<h.objs.size):ObjOk P w H (h.push { cls:= .type "dict",data:= .dict #[] }) h.objs.size (.dK []) :=
 ⟨Nat.zero_le _,beq_eq_false_iff_ne.mpr (Ne.symm (Nat.ne_of_lt hb)),[],.nil,Heap.DictOf.new h⟩
theorem XS {P:Program}{w:World}{H:Hp} (h:Heap) (hb:sysModules<h.objs.size):ObjOk P w H (h.push { cls:= .type "dict",data:= .dict #[] }) h.objs.size (.dT []) :=
 ⟨Nat.zero_le _,beq_eq_false_iff_ne.mpr (Ne.symm (Nat.ne_of_lt hb)),[],.nil,_,#[],0,Heap.get?_push_size _ rfl,⟨rfl,rfl,rfl⟩,rfl,rfl,List.nodup_nil⟩
def UL:TE:=fun _ H Q=>∀p,H p=none->Q (.ref p) (upd H p (.dK []))
def VI:TE:=fun _ H Q=>∀p,H p=none->Q (.ref p) (upd H p (.dT []))
section
variable {X:Cx}{pos:Pos}
theorem oQ:PE X (.Dict [] [] pos) UL:=fun pins s σ H Q I h =>
 wpAny_Dict_empty ⟨.ref s.heap.objs.size,_,I.laid (a:=s.heap.objs.size) (o:= .dK []) (t':=s.toks) (fun _ _ q=>Heap.get?_push_of_some _ q) (Nat.le_refl _) (YC s.heap I.big),rfl,h _ (I.hok.fresh (Nat.le_refl _))⟩
theorem tD:PE X (.Dict [] [] pos) VI:=fun pins s σ H Q I h =>
 wpAny_Dict_empty ⟨.ref s.heap.objs.size,_,I.laid (a:=s.heap.objs.size) (o:= .dT []) (t':=s.toks) (fun _ _ q=>Heap.get?_push_of_some _ q) (Nat.le_refl _) (XS s.heap I.big),rfl,h _ (I.hok.fresh (Nat.le_refl _))⟩
end
def m6 (kvs more:List (Key×V)):List (Key×V):=more.foldl (fun acc kv=>cP acc kv.1 kv.2) kvs
theorem KV.merge:∀{more:List (Key×V)}{rs:List (Key×Value)}{kvs:List (Key×V)}{vs:List (Key×Value)},KV more rs->KV kvs vs->KV (m6 kvs more) (merged vs rs):=by
 intro more rs kvs vs r;unfold KV at r
 induction r generalizing kvs vs with
 | nil=>intro q;exact q
 | @cons p q ps qs h t ih =>
  intro r0;have e:KV (cP kvs p.1 p.2) (stored vs q.1 q.2):=by
   have:=r0.put p.1 h.2;rw[←h.1];exact this
  exact ih e
theorem yB:∀(more kvs:List (Key×V)),(m6 kvs more).length<=kvs.length+more.length
 | [],kvs=>by show kvs.length<=kvs.length+0;omega
 | p::r,kvs=>by
  have h1:=yB r (cP kvs p.1 p.2);have h2:=iI kvs p.1 p.2;show (m6 (cP kvs p.1 p.2) r).length<=_;rw[List.length_cons];omega
structure M2 (X:Cx)(o:Expr)(m:Str)(apos:Pos)(e f:Expr)(cpos:Pos):Prop where
 base:attributeBase o m X.env (eval o X.env)=eval o X.env
 few:((backTo cpos (starEach [e,f] X.env)).all (fun x=> !x.1)&&(backToKw cpos (keywordEach [] X.env)).all (fun x=>x.1.isSome)
  && decide (([e,f]:List Expr).length+([]:List Keyword).length+(if ([]:List Keyword).isEmpty then 0 else 1)<30))=true
 line:(apos.endLine==cpos.line)=true
 trees:backTo cpos (starEach [e,f] X.env)=[(false,eval e X.env),(false,eval f X.env)]
def IsD (H:Hp)(a:Addr):Prop:=(∃kvs,Rd H a (.dK kvs))∨∃kvs,Rd H a (.dT kvs)
theorem UY {X:Cx}{pins:List (Addr×Obj)}{σ:St}{H:Hp}{s:Shared}{a:Addr} (I:Inv X pins σ H s) (d:IsD H a) :
  s.TypeIs (.ref a) "dict" /\(∀b,Value.ref a= .ref b->∃ob,s.heap.get? b=some ob/\ob.dict=none)/\(a==sysModules)=false:=by
 rcases d with⟨kvs,e⟩|⟨kvs,e⟩
 ·obtain⟨_,hd,vs,_,dd⟩:=r9 I.hok e;refine⟨dd.typeIs,fun b q=> ?_,hd⟩;cases q;obtain⟨ob,_,_,h1,h2,_⟩:=dd;exact⟨ob,h1,h2.2.1⟩
 ·obtain⟨_,hd,xs,_,dd⟩:=xD I.hok e;refine⟨dd.typeIs,fun b q=> ?_,hd⟩;cases q;obtain⟨ob,_,_,h1,h2,_⟩:=dd;exact⟨ob,h1,h2.2.1⟩
section
variable {X:Cx}{pins:List (Addr×Obj)}{σ:St}{H:Hp}{s:Shared}{a:Addr}{y d:V}{u r:Value}{o:Option V}{A:Around}{E:Value->Shared->Prop}
theorem aCq {Q:Value->Shared->Prop}(hu:A.units+1<cLine)(I:Inv X pins σ H s)(g:DGet H a y o)(ry:RelV y u)(rd:RelV d r)(h:∀w' s',Inv X pins σ H s'->RelV (o.getD d) w'->Q w' s') :
  wpAny (model X.prog X.w) A (call (.builtin "dict.get") [.ref a,u,r]) Q E s:=by
 rcases g with⟨kvs,k,e,ey,l⟩|⟨kvs,k,b,e,ey,eb,l⟩
 ·subst ey;obtain⟨z,hd,vs,rel,dd⟩:=r9 I.hok e;refine call_meetsIn PySem.F.slot_dict_get dd.typeIs PySem.F.entry_dict_get (PySem.F.args_dict_get_3 _ _ _) (meets_dict_get_default (cH X.prog X.w) a (xE ry) hd r) ⟨_,dd.mapOf,h _ _ (I.tok _) ?_⟩;rw[l];exact(rel.val k).getD rd
 ·subst ey;cases (show u=Value.ref b from ry);obtain⟨z,hd,xs,rel,dd⟩:=xD I.hok e;refine call_meetsIn PySem.F.slot_dict_get dd.typeIs PySem.F.entry_dict_get (PySem.F.args_dict_get_3 _ _ _) (meetsH_dict_get_default (tupleKind (cH X.prog X.w)) a b hd r) ⟨tupleKind_room_in1 hu,k,xs,wA I.hok eb,dd,h _ _ (I.tok _) ?_⟩;rw[l];exact(rel.val k).getD rd
end
def US (td ty tx:TE):TE:=fun σ H Q=>td σ H fun x H1=>∃a,x= .ref a/\IsD H1 a/\ty σ H1 fun y H2=>tx σ H2 fun z H3=>∃o,DGet H3 a y o/\Q (o.getD z) H3
section
variable {X:Cx}{o e f:Expr}{apos cpos:Pos}{td ty tx:TE}
theorem o0 (hu:X.A.units+1<cLine)(ho:PE X o td)(he:PE X e ty)(hf:PE X f tx)(m:M2 X o "get" apos e f cpos):PE X (.Call (.Attribute o "get" apos) [e,f] [] cpos) (US td ty tx):=by
 intro pins s σ H Q I h;refine wpAny_Call_method m.base m.few m.line PySem.F.plainAttrs_dict PySem.F.slot_dict_get PySem.F.type_dict_get (thn (ho pins s σ H _ I h) fun u s1 ⟨x,H1,I1,rx,a,ex,d,q1⟩=> ?_);subst ex;obtain rfl:u=Value.ref a:=rx;obtain⟨t1,t2,_⟩:=UY I1 d;refine⟨t1,t2,?_⟩;rw[m.trees];refine Calls.callWith_builtin rfl (Calls.evalArgs_plain (Calls.spliced_cons (thn (he pins s1 σ H1 _ I1 q1) fun iv s2 ⟨y,H2,I2,ry,q2⟩ =>
  Calls.spliced_cons (thn (hf pins s2 σ H2 _ I2 q2) fun fv s3 ⟨z,H3,I3,rz,ov,g,q3⟩=>Calls.spliced_nil ?_))))
 exact aCq hu I3 g ry rz fun w' s4 I4 rw'=>⟨_,H3,I4,rw',q3⟩
end
section
variable {X:Cx}{pins:List (Addr×Obj)}{σ:St}{H:Hp}{s:Shared}{a:Addr}{kvs:List (Key×V)}{A:Around}{E:Value->Shared->Prop}
end
section
variable {X:Cx}{pins:List (Addr×Obj)}{σ:St}{H:Hp}{s:Shared}{a:Addr}{y:V}{u:Value}{A:Around}{E:Value->Shared->Prop}
end
end L2
namespace L2
open PySem PySem.Spec PyProof.Rows
section
variable {κ:Type}[DecidableEq κ]
theorem P4:∀{l:List κ}{k:κ},l.Nodup->¬k∈l->(l++[k]).Nodup
 | [],k,_,_=>by simp
 | a::r,k,h,hk=>by
  obtain⟨h1,h2⟩:=List.nodup_cons.mp h;show (a::(r++[k])).Nodup;refine List.nodup_cons.mpr ⟨fun m=> ?_,P4 h2 fun m=>hk (List.mem_cons.mpr (Or.inr m))⟩;rcases List.mem_append.mp m with q|q
  ·exact h1 q
  ·exact hk (List.mem_cons.mpr (Or.inl (List.mem_singleton.mp q).symm))
end
end L2
namespace L2
open PySem PySem.W PyProof.Rows
def kM {α:Type}(c:Nat->Nat->Bool):KasT α->α
 | .ret a=>a
 | .ask i j k=>kM c (k (c i j))
def KasIn {α:Type}(n:Nat)(R:α->Prop):KasT α->Prop
 | .ret a=>R a
 | .ask i j k=>i<n/\j<n/\∀b,KasIn n R (k b)
theorem KasIn.bind {α β:Type}{n:Nat}{R:α->Prop}{S:β->Prop}{f:α->KasT β} (hf:∀a,R a->KasIn n S (f a)):∀{t:KasT α},KasIn n R t->KasIn n S (t.bind f)
 | .ret _,h=>hf _ h
 | .ask _ _ _,h=>⟨h.1,h.2.1,fun b=>KasIn.bind hf (h.2.2 b)⟩
theorem KasIn.val {α:Type}{n:Nat}{R:α->Prop} (c:Nat->Nat->Bool):∀{t:KasT α},KasIn n R t->R (kM c t)
 | .ret _,h=>h
 | .ask i j k,h=>KasIn.val c (t:=k (c i j)) (h.2.2 (c i j))
theorem KasIn.wp {α:Type}{n:Nat}{R:α->Prop}{c:Nat->Nat->Bool}{cmp:Nat->Nat->(Bool->Shared->Prop)->Shared->Prop}{s:Shared} (hc:∀i j,i<n->j<n->∀C,C (c i j) s->cmp i j C s) {Q:α->Shared->Prop} :
  ∀{t:KasT α},KasIn n R t->Q (kM c t) s->t.kasWp cmp Q s
 | .ret _,_,q=>q
 | .ask i j k,h,q=>hc i j h.1 h.2.1 _ (KasIn.wp hc (t:=k (c i j)) (h.2.2 (c i j)) q)
abbrev Places (n:Nat)(p:Array Nat):Prop:=p.Perm (List.range n).toArray
theorem Places.lt {n:Nat}{p:Array Nat} (h:Places n p) (h0:0<n) (i:Nat):p.getD i 0<n:=by
 by_cases hi:i<p.size
 ·have e:p.getD i 0=p[i]:=by simp[Array.getD,hi]
  rw[e];have:=h.mem_iff.mp (Array.getElem_mem hi)
  simpa using this
 ·have e:p.getD i 0=0:=by simp[Array.getD,hi]
  rw[e];exact h0
theorem nR {n:Nat}{p:Array Nat} (h:Places n p) (i j:Nat):Places n (kas_rev p i j):=(mirror_perm _ _ _ _).trans h
theorem KU {n:Nat}{p:Array Nat} (h0:0<n) (hp:Places n p):∀(f k:Nat),KasIn n (fun _=>True) (kas_asc p f k)
 | 0,_=>trivial
 | f+1,k=>⟨hp.lt h0 _,hp.lt h0 _,fun b=>by cases b with|true=>exact trivial|false=>exact KU h0 hp f (k+1)⟩
theorem AY {n:Nat}(h0:0<n):∀(f:Nat) {p:Array Nat},Places n p->∀k q,KasIn n (fun r:Array Nat×Nat×Nat=>Places n r.1) (kas_desc f p k q)
 | 0,_,hp,_,_=>hp
 | f+1,p,hp,k,q=>by
  refine⟨hp.lt h0 _,hp.lt h0 _,fun b=> ?_⟩;cases b with
  | true =>
   show KasIn n _ (if q>0 then _ else _)
   split
   ·exact AY h0 f (nR hp _ _) _ _
   ·exact AY h0 f hp _ _
  | false =>
   refine⟨hp.lt h0 _,hp.lt h0 _,fun b=> ?_⟩;cases b with
   | true=>exact hp
   | false=>exact AY h0 f hp _ _
theorem MJ {n k m:Nat}{p:Array Nat} (h0:0<n) (hp:Places n p):KasIn n (fun r:Nat×Array Nat=>Places n r.2) (kas_tail3 k m p) :=
 KasIn.bind (R:=fun _=>True) (S:=fun r:Nat×Array Nat=>Places n r.2) (f:=fun j=> .ret (j,kas_rev p 0 k)) (fun _ _=>nR hp 0 k) (KU h0 (nR hp 0 k) (m - k) k)
theorem CF {n k m:Nat}{p:Array Nat} (h0:0<n) (hp:Places n p):KasIn n (fun r:Nat×Array Nat=>Places n r.2) (kas_descPart k m p) :=
 KasIn.bind (fun r hr=>by
  split
  ·exact MJ h0 (nR hr _ _)
  ·exact MJ h0 hr) (AY h0 _ hp _ _)
theorem YB {n m:Nat}{p:Array Nat} (h0:0<n) (hp:Places n p):KasIn n (fun r:Nat×Array Nat=>Places n r.2) (kas_count m p) :=
 KasIn.bind (fun k _=>by
  split
  ·exact hp
  ·split
   ·refine⟨hp.lt h0 _,hp.lt h0 _,fun b=> ?_⟩;cases b with
    | true=>exact hp
    | false=>exact CF h0 (nR hp _ _)
   ·exact CF h0 hp) (KU h0 hp _ _)
theorem C6 {n k:Nat}{p:Array Nat} (h0:0<n) (hp:Places n p):∀(f l r:Nat),KasIn n (fun _=>True) (kas_place p k f l r)
 | 0,_,_=>trivial
 | f+1,l,r=>by
  unfold kas_place
  split
  ·exact trivial
  ·refine⟨hp.lt h0 _,hp.lt h0 _,fun b=> ?_⟩;cases b with
   | true=>exact C6 h0 hp f _ _
   | false=>exact C6 h0 hp f _ _
theorem VC {n:Nat}(h0:0<n):∀(f:Nat) {p:Array Nat} (k:Nat),Places n p->KasIn n (Places n) (kas_bin f p k)
 | 0,_,_,hp=>hp
 | f+1,_,k,hp=>KasIn.bind (fun _ _=>VC h0 f (k+1) ((bubble_perm _ _ _).trans hp)) (C6 h0 hp _ _ _)
theorem P6 {n:Nat}(h0:0<n):KasIn n (Places n) (kas_sort n) :=
 KasIn.bind (fun r hr=>by
  split
  ·exact VC h0 _ _ hr
  ·exact hr) (YB h0 (Array.Perm.refl _))
def eV {α:Type}(d:α)(c:Nat->Nat->Bool)(l:List α):List α:=if l.length<2 then l else (kM c (kas_sort l.length)).toList.map fun i=>l.getD i d
theorem lN {n:Nat}(c:Nat->Nat->Bool)(h:0<n):Places n (kM c (kas_sort n)):=(P6 h).val c
theorem F4 {α:Type}(d:α)(c:Nat->Nat->Bool)(l:List α):(eV d c l).length=l.length:=by
 unfold eV
 split
 ·rfl
 ·have h:=(lN (n:=l.length) c (by omega)).size_eq;rw[List.length_map,Array.length_toList,h];simp
end L2
namespace L2
open PySem PySem.W PyProof.Rows PySem.Calls
section
variable {prog:Program}{w:World}{A:Around}{E:Value->Shared->Prop}{s:Shared}
abbrev vR (a:Addr)(h h':Heap):Prop:=∀b o,b≠a->h.get? b=some o->h'.get? b=some o
theorem aAd {a:Addr}{vs:List Value}{n:Nat}{P:PySem.Fin->Shared->Prop} (c:Nat->Nat->Bool) (κ:SortKind) (ho:s.heap.get? a=some (seqObj "list" vs.toArray n)) (h64:vs.length<64)
  (hk:2<=vs.length->∀h',vR a s.heap h'->∀R:SortKind->Shared->Prop,R κ { s with heap:=h' }->wpAny (model prog w) A (keyKind' vs.toArray) R (fun _ _=>False) { s with heap:=h' })
  (hc:2<=vs.length->∀h',vR a s.heap h'->∀i j,i<vs.length->j<vs.length->∀C,C (c i j) { s with heap:=h' }->kas_ask prog w A κ vs i j C { s with heap:=h' })
  (h:∀h' e,vR a s.heap h'->h'.get? a=some (seqObj "list" (eV Value.none c vs).toArray e)->P (.done (.ret .none)) { s with heap:=h' }) :
  wpAny (model prog w) A (Builtin.«list.sort» ⟨[.ref a],[]⟩) P E s:=by
 have lt:a<s.heap.objs.size:=Heap.lt_size ho;generalize hg1:s.heap.update a (Obj.mapSeq fun _=>(#[]:Array Value))=g1;have sb1:Heap.SameBut a s.heap g1:=hg1▸Heap.SameBut.update s.heap a (Obj.mapSeq fun _=>(#[]:Array Value));obtain⟨e1,o1⟩:∃e1,g1.get? a=some (seqObj "list" #[] e1):=hg1▸⟨_,get?_update_seq ho fun _=> #[]⟩;have lt1:a<g1.objs.size:=Heap.lt_size o1;have kp:vR a s.heap ((g1.push (seqObj "tuple" vs.toArray 0)).push (seqObj "list" #[] 0)):=fun b o hb q =>
  Heap.get?_push_of_some _ (Heap.get?_push_of_some _ ((sb1.2 b hb).trans q))
 have o3:((g1.push (seqObj "tuple" vs.toArray 0)).push (seqObj "list" #[] 0)).get? a=some (seqObj "list" #[] e1):=Heap.get?_push_of_some _ (Heap.get?_push_of_some _ o1);generalize hg3:(g1.push (seqObj "tuple" vs.toArray 0)).push (seqObj "list" #[] 0)=g3 at kp o3;have fin:∀out:List Value,out.length=vs.length->out=eV Value.none c vs->wpAny (model prog w) A (do
   let touched:=(←seqEpoch a) !=e1
   Builtin.List.listUpdate (.ref a) fun _=>out.toArray
   if let some e:=(none:Option Value) then rule "list.sort.comparison-raised";throw e
   if touched then rule "list.sort.modified";raiseError "ValueError" "list modified during sort"
   ret .none) P E { s with heap:=g3 }:=by
  intro out hl ho';obtain⟨e2,o4⟩:∃e2,(g3.update a (Obj.mapSeq fun _=>out.toArray)).get? a=some (seqObj "list" out.toArray e2):=⟨_,get?_update_seq o3 fun _=>out.toArray⟩
  refine wpAny_bind (seqEpoch_at (s:={ s with heap:=g3 }) o3 rfl ?_);refine wpAny_bind (listUpdate_at (s:={ s with heap:=g3 }) o3 rfl ?_ (Nat.zero_le _) (by rw[List.size_toArray,sizeLine_eq];omega));simp only[bne_self_eq_false,Bool.false_eq_true,if_false];refine wpAny_pure (h _ e2 (fun b o hb q=> ?_) (ho'▸o4));exact((Heap.SameBut.update g3 a (Obj.mapSeq fun _=>out.toArray)).2 b hb).trans (kp b o hb q)
 rw[list_sort_plain];refine wpAny_bind (listItems_at ho rfl (wpAny_bind (listUpdate_at ho rfl ?_ (by rw[List.size_toArray,sizeLine_eq];omega) (Nat.zero_le _))));rw[hg1];refine wpAny_bind (seqEpoch_at (s:={ s with heap:=g1 }) o1 rfl ?_);refine wpAny_bind (wpAny_newTuple ?_ (by show vs.length<=_;rw[sizeLine_eq];omega));refine wpAny_bind (wpAny_newList ?_ (Nat.zero_le _));refine wpAny_holding ?_;show wpAny (model prog w) A _ P E { s with heap:=(g1.push (seqObj "tuple" vs.toArray 0)).push (seqObj "list" #[] 0) };rw[hg3]
 dsimp only
 by_cases h2:vs.toArray.size<2
 ·rw[if_pos h2,if_pos h2];have h2':vs.length<2:=by rwa [List.size_toArray]at h2
  refine wpAny_bind (wpAny_pure ?_);rw[StateT.run_pure];refine wpAny_bind (wpAny_pure ?_)
  dsimp only
  have ez:(arrOf (SortSt.mk' general' (vs.toArray.zip vs.toArray) #[] 7 none)).map (·.2)=vs.toArray:=by
   show (vs.toArray.zip vs.toArray).map (·.2)=_
   apply Array.toList_inj.mp
   rw[Array.toList_map,Array.toList_zip,List.map_snd_zip];exact Nat.le_refl _
  rw[ez];exact fin vs rfl (by unfold eV;rw[if_pos h2'])
 ·rw[if_neg h2,if_neg h2];have h2':2<=vs.length:=by rw[List.size_toArray]at h2;omega
  refine wpAny_bind (wpAny_mono (hk h2' _ kp (fun κ' s'=>κ'=κ/\s'={ s with heap:=g3 }) ⟨rfl,rfl⟩) ?_ fun _ _ x=>x.elim);rintro _ _ ⟨rfl,rfl⟩;refine wpAny_bind (wpAny_mono (kat_run (Q:=fun st' s'=>∃p:Array Nat,p=kM c (kas_sort vs.length)/\arrOf st'=p.map (kas_item (vs.toArray.zip vs.toArray))/\failedOf st'=none/\s'={ s with heap:=g3 }) (G:=fun p s'=>p=kM c (kas_sort vs.length)/\s'={ s with heap:=g3 })
   rfl h2' h64 (fun p st' s' _ a2 a3 a4=>⟨p,a4.1,a2,a3,a4.2⟩) ((P6 (by omega)).wp (hc h2' _ kp) ⟨rfl,rfl⟩)) ?_ fun _ _ e=>e)
  rintro ⟨⟨⟩,st'⟩ _ ⟨p,rfl,har,hf,rfl⟩
  dsimp only
  rw[kat_snds rfl har,hf];have hz:=(lN (n:=vs.length) c (by omega)).size_eq;exact fin _ (by rw[List.length_map,Array.length_toList,hz];simp) (by unfold eV;rw[if_neg (by omega)])
theorem UK {l:Addr}{vs:List Value}{Q:Value->Shared->Prop} (c:Nat->Nat->Bool) (κ:SortKind) (hl:s.heap.IsList l vs.toArray) (h64:vs.length<64)
  (hk:2<=vs.length->∀h',(∀b o,s.heap.get? b=some o->h'.get? b=some o)->∀R:SortKind->Shared->Prop,R κ { s with heap:=h' }->wpAny (model prog w) A.in1.in1 (keyKind' vs.toArray) R (fun _ _=>False) { s with heap:=h' })
  (hc:2<=vs.length->∀h',(∀b o,s.heap.get? b=some o->h'.get? b=some o)->∀i j,i<vs.length->j<vs.length->∀C,C (c i j) { s with heap:=h' }->kas_ask prog w A.in1.in1 κ vs i j C { s with heap:=h' })
  (h:∀D h' e,s.heap.objs.size<=D->(∀b o,s.heap.get? b=some o->h'.get? b=some o)->h'.get? D=some (seqObj "list" (eV Value.none c vs).toArray e)->Q (.ref D) { s with heap:=h' }) :
  wpAny (model prog w) A (call (.builtin "sorted") [.ref l]) Q E s:=by
 have hz64:vs.length<=sizeLine:=by rw[sizeLine_eq];omega
 refine Calls.call_function_entry kind_sorted plain_sorted entry_sorted (args_sorted1 _) ?_;unfold Builtin.«sorted»;refine wpAny_bind (m:=checkCount "sorted" 1 1 _) (wpAny_pure (wpAny_bind (collect_list hl ?_ hz64)));refine wpAny_bind (wpAny_newList ?_ hz64);generalize hq:(s.heap.push (seqObj "list" #[] 0)).update s.heap.objs.size (Obj.mapSeq (·++vs.toArray))=q;have qs:q.objs.size=s.heap.objs.size+1:=by rw[←hq,Heap.size_update,size_push']
 have qk:∀b o,s.heap.get? b=some o->q.get? b=some o:=fun b o e=>by
  have bl:b<s.heap.objs.size:=Heap.lt_size e;rw[←hq,Heap.get?_update_ne _ _ _ _ (Nat.ne_of_lt bl),Heap.get?_push_ne _ _ _ (Nat.ne_of_lt bl)];exact e
 have oD:(q.push (seqObj "list" vs.toArray 0)).get? q.objs.size=some (seqObj "list" vs.toArray 0):=Heap.get?_push_size _ rfl;have kD:∀h',vR q.objs.size (q.push (seqObj "list" vs.toArray 0)) h'->∀b o,s.heap.get? b=some o->h'.get? b=some o:=fun h' k b o e =>
  k b o (Nat.ne_of_lt (by rw[qs];exact Nat.lt_succ_of_lt (Heap.lt_size e))) (Heap.get?_push_of_some _ (qk b o e))
 refine wpAny_bind (wpAny_holding (wpAny_call_entry slot_list_sort ⟨_,oD,rfl⟩ entry_list_sort ?body (args_list_sort _)))
 case body =>
  refine aAd (s:={ s with heap:=q.push (seqObj "list" vs.toArray 0) }) c κ oD h64 (fun h2 h' k=>hk h2 h' (kD h' k)) (fun h2 h' k=>hc h2 h' (kD h' k)) fun h' e k o'=> ?_;exact⟨_,rfl,wpAny_pure ⟨_,rfl,h _ h' e (by show s.heap.objs.size<=q.objs.size;rw[qs];exact Nat.le_succ _) (kD h' k) o'⟩⟩
end
end L2
namespace L2
open PySem PySem.W PyProof.Rows
def iC:Key->Bool
 | .inl _=>true
 | .inr _=>false
def Q0:Key->Key->Bool
 | .inl i,.inl j=>decide (i<j)
 | .inr x,.inr y=>decide (x.cps.toList<y.cps.toList)
 | _,_=>false
def MA:List Key->List Key->Bool
 | a::as,b::bs=>if a=b then MA as bs else Q0 a b
 | _,_=>false
section
variable {prog:Program}{w:World}{A:Around}{s:Shared}
theorem aCn {a b:Key}{u v:Value}{Q:Bool->Shared->Prop}{E:Value->Shared->Prop} (k:iC a=iC b) (ru:RelV (kV a) u) (rv:RelV (kV b) v) (q:Q (decide (a=b)) s):wpAny (model prog w) A (eqBool u v) Q E s:=by
 cases a<;>cases b<;>first|(cases k;done)|skip
 ·obtain⟨t,rfl⟩:=ru;obtain⟨t',rfl⟩:=rv;refine wpAny_eqBool_int ?_;rename_i i j;have e:(i==j)=decide ((Sum.inl i:Key)=Sum.inl j):=by
   by_cases z:i=j
   ·subst z;simp
   ·rw[beq_false_of_ne z,decide_eq_false (fun y=>z (Sum.inl.inj y))]
  rw[e];exact q
 ·obtain⟨t,rfl⟩:=ru;obtain⟨t',rfl⟩:=rv;refine wpAny_eqBool_str ?_;rename_i i j;have e:decide (i=j)=decide ((Sum.inr i:Key)=Sum.inr j):=by
   by_cases z:i=j
   ·subst z;simp
   ·rw[decide_eq_false z,decide_eq_false (fun y=>z (Sum.inr.inj y))]
  rw[e];exact q
theorem aDh {a b:Key}{u v:Value}{Q:Bool->Shared->Prop}{E:Value->Shared->Prop} (k:iC a=iC b) (ru:RelV (kV a) u) (rv:RelV (kV b) v) (q:Q (Q0 a b) s) (t:Bool):wpAny (model prog w) A (oneLt' t u v) Q E s:=by
 cases a<;>cases b<;>first|(cases k;done)|skip
 ·obtain⟨t1,rfl⟩:=ru;obtain⟨t2,rfl⟩:=rv;cases t with
  | true=>exact oneLt_int q
  | false=>exact kat_one _ _ (lt_int q)
 ·obtain⟨t1,rfl⟩:=ru;obtain⟨t2,rfl⟩:=rv;cases t with
  | true=>exact oneLt_str q
  | false=>exact kat_one _ _ (lt_str q)
theorem VJ {Q:Bool->Shared->Prop}:∀{as bs:List Key}{us vs:List Value} (i:Nat),as.map iC=bs.map iC->Vals (as.map kV) us->Vals (bs.map kV) vs->Q (MA as bs) s->KatLex prog w A true false Q (us.zip vs) i s
 | [],[],_,_,_,_,.nil,.nil,q=>kat_nil q
 | [],_::_,_,_,_,k,_,_,_=>by cases k
 | _::_,[],_,_,_,k,_,_,_=>by cases k
 | a::as,b::bs,_,_,i,k,.cons ra rs,.cons rb rt,q=>by
  have k1:iC a=iC b:=(List.cons.inj k).1;refine kat_cons (aCn k1 ra rb ?_);have q':Q (if a=b then MA as bs else Q0 a b) s:=q
  by_cases z:a=b
  ·rw[if_pos z]at q';rw[decide_eq_true z];exact kat_yes (VJ (i+1) (List.cons.inj k).2 rs rt q')
  ·rw[if_neg z]at q';rw[decide_eq_false z];exact kat_no (aDh k1 ra rb q' _)
end
abbrev KRows (H:Hp):List V->List (List Key)->Prop:=Paired fun v r=>∃p,v= .ref p/\H p=some (.tup (r.map kV))
theorem KRows.map {H H':Hp}(f:∀p xs,H p=some (.tup xs)->H' p=some (.tup xs)):∀{vs:List V}{rs:List (List Key)},KRows H vs rs->KRows H' vs rs
 | _,_,.nil=> .nil
 | _,_,.cons ⟨p,e,h⟩ r=> .cons ⟨p,e,f _ _ h⟩ (KRows.map f r)
theorem KRows.same {H H':Hp}{vs:List V}{rs:List (List Key)} (x:KRows H vs rs) (s:Same H H'):KRows H' vs rs:=x.map fun p xs h=>s _ _ h
theorem KRows.get {H:Hp}:∀{vs:List V}{rs:List (List Key)}{i:Nat}{v:V},KRows H vs rs->vs[i]? =some v->∃p r,v= .ref p/\rs[i]? =some r/\H p=some (.tup (r.map kV))
 | _,_,0,_,.cons ⟨p,e,h⟩ _,z=>by cases z;exact⟨p,_,e,rfl,h⟩
 | _,_,i+1,_,.cons _ t,z=>KRows.get (i:=i) t (by simpa using z)
 | _,_,_,_,.nil,z=>by simp at z
def uX (rs:List (List Key))(i j:Nat):Bool:=MA (rs.getD i []) (rs.getD j [])
def QR (rs:List (List Key))(vs:List V):List V:=eV .non (uX rs) vs
section
variable {X:Cx}{pins:List (Addr×Obj)}{σ:St}{H:Hp}{s:Shared}
theorem GJ (I:Inv X pins σ H s){p:Addr}{r:List Key} (e:H p=some (.tup (r.map kV))):∃(o:Obj) (us:List Value) (n:Nat),s.heap.get? p=some o/\o.cls= .type "tuple" /\o.data= .seq us.toArray n/\Vals (r.map kV) us:=by
 obtain⟨_,its,r',o,h1,h2,n,h3⟩:=(show ObjOk X.prog X.w H s.heap p (.tup (r.map kV)) from I.hok p _ e)
 exact⟨o,its,n,h1,h2,h3,r'⟩
theorem IA (I:Inv X pins σ H s){sh:List Bool}{T:Value}{h':Heap} (kp:∀b o,s.heap.get? b=some o->h'.get? b=some o) (hT:∀(k:Key) (u:Value),sh.head? =some (iC k)->RelV (kV k) u->Looks (model X.prog X.w) h' (typeOf u) T) :
  ∀{vs:List V}{rs:List (List Key)}{us:List Value},KRows H vs rs->Vals vs us->(∀r∈rs,r.map iC=sh)->sh≠[]->∃fs,KatTups h' us fs/\fs.length=us.length/\∀v∈fs,Looks (model X.prog X.w) h' (typeOf v) T
 | _,_,_,.nil,.nil,_,_=>⟨[],trivial,rfl,fun _ z=>nomatch z⟩
 | _::_,r::_,_::_,.cons ⟨p,hv,e⟩ q,.cons rv rt,hs,hn=>by
  obtain⟨fs,f1,f2,f3⟩:=IA I kp hT q rt (fun r hr=>hs r (List.mem_cons_of_mem _ hr)) hn;subst hv;cases rv;have hr:=hs r (.head _);cases r with
  | nil=>exact absurd hr.symm hn
  | cons k ks =>
   obtain⟨o,us,n,o1,o2,o3,o4⟩:=GJ I e;cases o4 with
   | cons r1 r2 =>
    rename_i u us;refine⟨u::fs,KatTups.cons (kp _ _ o1) o2 o3 (by simp) f1,by simp[f2],fun v hv=> ?_⟩;rcases List.mem_cons.mp hv with rfl|hv
    ·exact hT k _ (by rw[←hr];rfl) r1
    ·exact f3 v hv
def FT (K:PySem.W.Frag):List V->Hp->VK->Prop:=fun xs H Q=>∃p vs rs sh,xs=[.ref p]/\SqL K H p vs/\KRows H vs rs/\vs.length<64/\(∀r∈rs,r.map iC=sh)/\sh≠[]/\∀l,H l=none->Q (.ref l) (upd H l (.lst (QR rs vs)))
theorem MV {xs:List V}{us:List Value} (c:Nat->Nat->Bool) (r:Vals xs us):Vals (eV .non c xs) (eV Value.none c us):=by
 have hl:=r.length;unfold eV;rw[hl]
 split
 ·exact r
 ·have hp:=lN (n:=us.length) c (by omega);have hm:∀i∈(kM c (kas_sort us.length)).toList,i<us.length:=fun i hi=>by
   have h:=hp.mem_iff.mp (Array.mem_toList_iff.mp hi)
   simpa using h
  revert hm;generalize (kM c (kas_sort us.length)).toList=l;intro hm
  induction l with
  | nil=>exact .nil
  | cons i l ih =>
   refine .cons ?_ (ih fun j hj=>hm j (List.mem_cons_of_mem _ hj));have hi:=hm i (.head _);have hx:xs[i]? =some (xs[i]'(by omega)):=List.getElem?_eq_getElem _;obtain⟨u,hu,ru⟩:=r.get hx;show RelV (xs.getD i .non) (us.getD i Value.none);rw[List.getD_eq_getElem?_getD,List.getD_eq_getElem?_getD,hx,hu];exact ru
theorem tL:fK X (.builtin "sorted") (FT X.K):=by
 intro pins s σ H xs us Q I r h;obtain⟨p,vs,rs,sh,rfl,hq,kr,h64,hs,hn,q⟩:=h;obtain⟨u,rfl,rx⟩:=qH r;cases rx;obtain⟨its,rv,pl,hz⟩:=I.list hq;have hl:=rv.length;have hT:∃T:Value,(T==T)=true/\(T !=Value.type "tuple")=true/\∀(h':Heap) (k:Key) (u:Value),sh.head? =some (iC k)->RelV (kV k) u->Looks (model X.prog X.w) h' (typeOf u) T:=by
  cases sh with
  | nil=>exact absurd rfl hn
  | cons b sh =>
   cases b with
   | true =>
    refine⟨.type "int",rfl,by decide,fun h' k u hk ru=> ?_⟩;cases k with
    | inl i=>obtain⟨t,rfl⟩:=ru;exact Looks.of_pure rfl
    | inr x=>cases hk
   | false =>
    refine⟨.type "str",rfl,by decide,fun h' k u hk ru=> ?_⟩;cases k with
    | inl i=>cases hk
    | inr x=>obtain⟨t,rfl⟩:=ru;exact Looks.of_pure rfl
 obtain⟨T,t1,t2,t3⟩:=hT;refine UK (uX rs) (tuples' true) pl.isList (by omega) (fun h2 h' kp R hR=> ?_) (fun h2 h' kp i j hi hj C hC=> ?_) fun D h' e hD kp o'=> ?_
 ·obtain⟨fs,f1,f2,f3⟩:=IA I kp (fun k u=>t3 h' k u) kr rv hs hn;refine kat_kind (s:={ s with heap:=h' }) f1 (by omega) f3 t1 ?_;rw[t2];exact hR
 ·obtain⟨p1,r1,x1,y1,z1⟩:=kr.get (i:=i) (List.getElem?_eq_getElem (by omega));obtain⟨p2,r2,x2,y2,z2⟩:=kr.get (i:=j) (List.getElem?_eq_getElem (by omega));obtain⟨u1,v1,w1⟩:=rv.get (List.getElem?_eq_getElem (show i<vs.length by omega));obtain⟨u2,v2,w2⟩:=rv.get (List.getElem?_eq_getElem (show j<vs.length by omega));rw[x1]at w1;rw[x2]at w2;cases w1;cases w2;obtain⟨o1,us1,n1,g1,c1,d1,l1⟩:=GJ I z1;obtain⟨o2,us2,n2,g2,c2,d2,l2⟩:=GJ I z2;have s1:=hs r1 (List.mem_of_getElem? y1);have s2:=hs r2 (List.mem_of_getElem? y2);have e1:=l1.length;have e2:=l2.length;rw[List.length_map]at e1 e2;have e3:r1.length=r2.length:=by rw[←List.length_map (f:=iC),s1,←s2,List.length_map]
  unfold kas_ask;rw[List.getD_eq_getElem?_getD,List.getD_eq_getElem?_getD,v1,v2];refine kat_lt (s:={ s with heap:=h' }) (kp _ _ g1) d1 (kp _ _ g2) d2 ?_;rw[show decide (us1.toArray.size<us2.toArray.size)=false from decide_eq_false (by rw[List.size_toArray,List.size_toArray];omega)];refine VJ 0 (s1.trans s2.symm) l1 l2 ?_;have ec:uX rs i j=MA r1 r2:=by
   unfold uX;rw[List.getD_eq_getElem?_getD,List.getD_eq_getElem?_getD,y1,y2];rfl
  rw[ec]at hC;exact hC
 ·exact⟨.ref D,_,I.laid (t':=s.toks) kp hD (show ObjOk X.prog X.w _ h' _ (.lst _) from⟨by rw[F4];exact hz,_,e,MV _ rv,o'⟩),rfl,q _ (I.hok.fresh hD)⟩
end
end L2
namespace L2
open PySem PySem.W PyProof.Rows
section
variable {prog:Program}{w:World}{A:Around}{E:Value->Shared->Prop}{s:Shared}{d it:Addr}{o:Obj}{es:Array DictEntry}{ep i:Nat}
theorem DB {Q:Value->Shared->Prop}(hd:(d==sysModules)=false)(ho:s.heap.get? d=some o)(hc:o.ExactDict)(hq:o.data= .dict es ep)
  (k:Q (.ref s.heap.objs.size) { s with heap:=s.heap.push { cls:= .type "dict_keyiterator",data:= .fields #[.ref d,.int 0 0,.int es.size 0,.int ep 0] } }):wpAny (model prog w) A (pyIter (.ref d)) Q E s:=by
 have T:s.TypeIs (.ref d) "dict" :=⟨o,ho,hc.1⟩
 refine wpAny_pyIter_slot T F.slot_dict_iter (wpAny_call_entry F.slot_dict_iter T F.entry_dict_iter ?_ (F.args_dict_iter_1 _));unfold Builtin.«dict.__iter__» Builtin.Dict.dictSlotNone;refine wpAny_bind (wpAny_bind (wpAny_notOrdered_dict T (wpAny_pure ?_)));show wpAny _ A.in1 (Builtin.Dict.showsAll d >>= _) _ _ s;unfold Builtin.Dict.showsAll;rw[if_neg (fun z=>by rw[hd]at z;cases z)];refine wpAny_bind (wpAny_pure (wpAny_bind (wpAny_dictEntries ho hq (wpAny_bind (wpAny_dictEpoch ho hq ?_)))));exact wpAny_bind (wpAny_newObj_type (wpAny_pure ⟨_,rfl,"dict_keyiterator",_,⟨_,Heap.get?_push_size _ rfl,rfl⟩,F.slot_dict_keyiterator_next.lookup,k⟩))
theorem KW {Q:Option Value->Shared->Prop}{e:DictEntry} (hit:s.heap.IsKeyIter it d i es.size ep) (ho:s.heap.get? d=some o) (hq:o.data= .dict es ep) (hx:es[i]? =some e)
  (k:∀h',h'.IsKeyIter it d (i+1) es.size ep->Heap.SameBut it s.heap h'->Q (some e.key) { s with heap:=h' }):wpAny (model prog w) A (pyNext (.ref it)) Q E s:=by
 obtain⟨oi,hi,ci,di⟩:=id hit;have T:=hit.typeIs;unfold pyNext;refine wpAny_bind (wpAny_attempt (wpAny_callSpecial?_slot (name:=Str.ofString "__next__") T F.slot_dict_keyiterator_next (wpAny_call_entry F.slot_dict_keyiterator_next T F.entry_dict_keyiterator_next ?_ (F.args_dict_keyiterator_next_1 _))));refine wpAny_bind (wpAny_pure (wpAny_bind (wpAny_bind ?_)))
 first|refine wpAny_bind (wpAny_typeNameOfWhole_keyiter T (wpAny_pure (wpAny_bind (wpAny_fieldsOf hi di ?_))))|refine wpAny_bind (wpAny_typeNameOf_keyiter T (wpAny_pure (wpAny_bind (wpAny_fieldsOf hi di ?_))))
 simp only[show Builtin.Dict_items.ownsTuple "dict_keyiterator" =false by decide,Bool.false_eq_true,if_false];show wpAny _ A.in1 (if (Value.ref d==Value.none)=true then _ else _) _ _ s;rw[if_neg (show ¬(Value.ref d==Value.none)=true from Bool.false_ne_true)];refine wpAny_bind (wpAny_pure (wpAny_bind (wpAny_dictEntries ho hq ?_)));rw[if_neg (by simp)];refine wpAny_bind (wpAny_pure (wpAny_bind (wpAny_dictEpoch ho hq ?_)));rw[if_neg (by simp)];refine wpAny_pure ?_;simp only[show ¬((i:Int)<0) from by omega,if_false,Int.toNat_natCast,hx];refine wpAny_bind ?_
 first|refine wpAny_bind (wpAny_typeNameOfWhole_keyiter T (wpAny_pure (wpAny_bind (wpAny_isOneOf_keyiter T ?_))))|refine wpAny_bind (wpAny_typeNameOf_keyiter T (wpAny_pure (wpAny_bind (wpAny_isOneOf_keyiter T ?_))))
 show wpAny _ A.in1 (setField (.ref it) 1 (rawInt ((i:Int)+1)) >>= _) _ _ s;refine wpAny_bind (wpAny_setField hi di (by simp) ?_);have H2:(s.heap.update it (Obj.mapFields (·.setIfInBounds 1 (rawInt ((i:Int)+1))))).IsKeyIter it d (i+1) es.size ep :=
  ⟨_,Heap.get?_update_self _ hi (Obj.isFreed_of_fields (Obj.data_mapFields di _)),(Obj.cls_mapFields ..).trans ci,(Obj.data_mapFields di _).trans (by simp[rawInt])⟩
 refine wpAny_bind (wpAny_holding (wpAny_bind (wpAny_isOneOf_keyiter (s:={ s with heap:=s.heap.update it (Obj.mapFields (·.setIfInBounds 1 (rawInt ((i:Int)+1)))) }) H2.typeIs ?_)));show wpAny _ A.in1 (pure e.key) _ _ _;exact wpAny_pure (wpAny_pure ⟨_,rfl,wpAny_pure (k _ H2 (Heap.SameBut.update ..))⟩)
theorem PD {Q:Option Value->Shared->Prop}(hh:A.handled=none)(hit:s.heap.IsKeyIter it d i es.size ep)(ho:s.heap.get? d=some o)(hq:o.data= .dict es ep)(hx:es.size<=i)
  (k:∀h',Heap.ExtBut it s.heap h'->Q none { s with heap:=h' }):wpAny (model prog w) A (pyNext (.ref it)) Q E s:=by
 obtain⟨oi,hi,ci,di⟩:=id hit;have T:=hit.typeIs;unfold pyNext;refine wpAny_bind (wpAny_attempt (wpAny_callSpecial?_slot (name:=Str.ofString "__next__") T F.slot_dict_keyiterator_next (wpAny_call_entry F.slot_dict_keyiterator_next T F.entry_dict_keyiterator_next ?_ (F.args_dict_keyiterator_next_1 _))));refine wpAny_bind (wpAny_pure (wpAny_bind (wpAny_bind ?_)))
 first|refine wpAny_bind (wpAny_typeNameOfWhole_keyiter T (wpAny_pure (wpAny_bind (wpAny_fieldsOf hi di ?_))))|refine wpAny_bind (wpAny_typeNameOf_keyiter T (wpAny_pure (wpAny_bind (wpAny_fieldsOf hi di ?_))))
 simp only[show Builtin.Dict_items.ownsTuple "dict_keyiterator" =false by decide,Bool.false_eq_true,if_false];show wpAny _ A.in1 (if (Value.ref d==Value.none)=true then _ else _) _ _ s;rw[if_neg (show ¬(Value.ref d==Value.none)=true from Bool.false_ne_true)];refine wpAny_bind (wpAny_pure (wpAny_bind (wpAny_dictEntries ho hq ?_)));rw[if_neg (by simp)];refine wpAny_bind (wpAny_pure (wpAny_bind (wpAny_dictEpoch ho hq ?_)));rw[if_neg (by simp)];refine wpAny_pure ?_;simp only[show ¬((i:Int)<0) from by omega,if_false,Int.toNat_natCast,Array.getElem?_eq_none hx];refine wpAny_bind ?_
 first|refine wpAny_bind (wpAny_typeNameOfWhole_keyiter T (wpAny_pure ?_))|refine wpAny_bind (wpAny_typeNameOf_keyiter T (wpAny_pure ?_))
 show wpAny _ A.in1 (setField (.ref it) 0 .none >>= _) _ _ s;refine wpAny_bind (wpAny_setField hi di (by simp) ?_);show wpAny _ A.in1 (newExc (.type "StopIteration") [] >>= _) _ _ _;refine wpAny_bind ?_;simp only[newExc,newTuple];refine wpAny_bind (wpAny_newObj_type (wpAny_bind (m:=firstArgMember _ _) (wpAny_of_eq (a:=Value.none) (by first|rfl|(simp only[firstArgMember];rfl)) (wpAny_newObj_type ?_ (by size_fits)))) (by size_fits));simp only[raiseNew];refine wpAny_bind (wpAny_handled ?_);rw[show A.in1.handled=none from hh];refine wpAny_bind (wpAny_pure (wpAny_throw ?_));refine wpAny_bind (wpAny_isInstance (b:=true) (T:= "StopIteration") ⟨_,Heap.get?_push_size _ rfl,rfl⟩ isSubtype_stop ?_);exact wpAny_pure (k _ (((Heap.SameBut.update ..).extBut.push _).push _))
end
end L2
namespace L2
open PySem PySem.W PyProof.Rows
def Itk (a:Addr)(o:Obj)(kvs:List (Key×V)):It :=
 ⟨fun i H=>H a=some (.frz o (.dK kvs))/\i<kvs.length,fun i H x H'=>H'=H/\∃k v,kvs[i]? =some (k,v)/\x=kV k,fun i H=>H a=some (.frz o (.dK kvs))/\kvs.length<=i⟩
def Itq (a:Addr)(o:Obj)(kvs:List (List Key×V)):It :=
 ⟨fun i H=>H a=some (.frz o (.dT kvs))/\i<kvs.length,fun i H x H'=>H'=H/\∃k v q,kvs[i]? =some (k,v)/\x= .ref q/\H q=some (.tup (k.map kV)),fun i H=>H a=some (.frz o (.dT kvs))/\kvs.length<=i⟩
theorem KT.get {H:Hp}:∀{kvs:List (List Key×V)}{xs:List (List Key×Addr×Value)}{i:Nat},KT H kvs xs->i<kvs.length->∃k v b u,kvs[i]? =some (k,v)/\xs[i]? =some (k,b,u)/\H b=some (.tup (k.map kV))
 | _,_,0,.cons h _,_=>⟨_,_,_,_,rfl,by rw[h.1];rfl,h.2.1⟩
 | _,_,i+1,.cons _ t,hi=>by
  obtain⟨k,v,b,u,e1,e2,e3⟩:=KT.get (i:=i) t (by simpa using hi);exact⟨k,v,b,u,by simpa using e1,by simpa using e2,e3⟩
 | _,_,_,.nil,hi=>by simp at hi
theorem KT.len {H:Hp}{kvs:List (List Key×V)}{xs:List (List Key×Addr×Value)} (r:KT H kvs xs):kvs.length=xs.length:=Paired.length r
theorem Q2 {P:Program}{w:World}{K:PySem.W.Frag}{tg:Expr} (a it:Addr) {o:Obj}{es:Array DictEntry}{ep:Nat} (kvs:List (List Key×V)) (hd:o.data= .dict es ep) (hz:es.size=kvs.length) :
  zI P w K tg (Itq a o kvs) [it] it (fun i h=>h.IsKeyIter it a i es.size ep) where
 mem:=by simp
 obj:=fun i h st b hb=>by
  have e:b=it:=by simpa using hb
  subst e;obtain⟨ob,e,c,d⟩:=st;exact⟨ob,e,fun v z=>by rw[d]at z;cases z⟩
 keep:=fun i h h' st k=>st.at fun ob e=>k it (by simp) ob e
 item:=by
  intro X hP hw hK hc i pins s σ H E I hf st hg;subst hP hw hK;obtain⟨ha,hi⟩:=hg;obtain⟨ho,hok⟩:=(show ObjOk X.prog X.w H s.heap a (.frz o (.dT kvs)) from I.hok a _ ha)
  obtain⟨z,y,xs,r,o',es',ep',h1,h2,h3,h4,h5⟩:=hok;rw[ho]at h1;cases h1;rw[hd]at h3;cases h3;obtain⟨k,v,b,u,e1,e2,e3⟩:=KT.get r hi;have e4:=entry_at h4 i;rw[e2]at e4;obtain⟨f0,f1,f2,f3,f4,f5⟩:=hf it (by simp);refine KW st ho hd e4 fun h' st' sb=> ?_;have I1:Inv X pins σ H { s with heap:=h' }:=I.turned (t':=s.toks) (fun b o hb e=>(sb.2 b hb).trans e) f0 f1 f3 f4 f5;exact⟨_,rfl,letGo_keyiter (s':={ s with heap:=h' }) st' ⟨.ref b,H,I1,rfl,⟨rfl,k,v,b,e1,rfl,e3⟩,st',fun b hb=>(hf b hb).1⟩⟩
 done:=by
  intro X hP hw hK hc i pins s σ H E I hf st hg;subst hP hw hK;obtain⟨ha,hi⟩:=hg;obtain⟨ho,hok⟩:=(show ObjOk X.prog X.w H s.heap a (.frz o (.dT kvs)) from I.hok a _ ha)
  obtain⟨f0,f1,f2,f3,f4,f5⟩:=hf it (by simp);exact PD (I.ok.hd hc) st ho hd (by omega) fun h' eb=>⟨rfl,I.turned (t':=s.toks) (fun b o hb e=>eb b o hb e) f0 f1 f3 f4 f5⟩
 self:=fun _ _ _ _ _ st h=>wpAny_pyIter_keyiter st h
def VY (td:TE):TI:=fun σ H R=>td σ H fun x H1=>∃a kvs,x= .ref a/\H1 a=some (.dT kvs)/\∀o,R (Itq a o kvs) (upd H1 a (.frz o (.dT kvs)))
section
variable {X:Cx}{tg:Expr}
theorem Inv.freeze {pins:List (Addr×Obj)}{σ:St}{H:Hp}{s:Shared}{a:Addr}{u:HO}{o:Obj} (I:Inv X pins σ H s) (mu:Mut (some u)) (e:H a=some u) (ho:s.heap.get? a=some o) (new:ObjOk X.prog X.w (upd H a (.frz o u)) s.heap a (.frz o u)):Inv X pins σ (upd H a (.frz o u)) s :=
 I.write (t':=s.toks) (h':=s.heap) (by rw[e];exact mu) (.inl rfl) (fun b u _ z=>z) ⟨_,ho⟩ new
theorem X9 {l:Expr}{td:TE} (hl:PE X l td):PI X tg l (VY td):=by
 intro pins s σ H R I h;refine thn (hl pins s σ H _ I h) fun v s1 ⟨x,H1,I1,r1,q1⟩=> ?_;obtain⟨a,kvs,rfl,hq,q⟩:=q1;cases r1;obtain⟨z,y,xs,r,o,es,ep,h1,h2,h3,h4,h5⟩:=(show ObjOk X.prog X.w H1 s1.heap a (.dT kvs) from I1.hok a _ hq)
 have hz:es.size=kvs.length:=by rw[size_of_entries h4,KT.len r]
 have hne:∀b ys,H1 b=some (.tup ys)->upd H1 a (.frz o (.dT kvs)) b=some (.tup ys):=fun b ys e=>by
  have hb:b≠a:=fun z=>by rw[z,hq]at e;cases e
  rw[aU hb];exact e
 have new:ObjOk X.prog X.w (upd H1 a (.frz o (.dT kvs))) s1.heap a (.frz o (.dT kvs)):=⟨h1,z,y,xs,KT.keeps r hne,o,es,ep,h1,h2,h3,h4,h5⟩
 have I2:Inv X pins σ (upd H1 a (.frz o (.dT kvs))) s1:=I1.freeze trivial hq h1 new;refine DB y h1 h2 h3 ?_;refine⟨s1.heap.objs.size,[s1.heap.objs.size],_,_,upd H1 a (.frz o (.dT kvs)),rfl,I2.kept (t':=s1.toks) fun b o e=>Heap.get?_push_of_some _ e,Q2 a _ kvs h3 hz,⟨_,Heap.get?_push_size _ rfl,rfl,rfl⟩,fun b hb=> ?_,q o⟩;have e:b=s1.heap.objs.size:=by simpa using hb
 subst e;exact I2.fpOk (Nat.le_refl _) (I2.hok.fresh (Nat.le_refl _))
end
end L2
namespace L2
open PySem PySem.W PyProof.Rows
section
variable {X:Cx}{e c:Expr}{te:TE}{lo hi:Option Expr}{tl th ts:TO}{pos p2:Pos}
end
section
variable {X:Cx}
end
section
variable {X:Cx}{pins:List (Addr×Obj)}{σ:St}{H:Hp}{s:Shared}
end
section
variable {X:Cx}
end
end L2
namespace L2
open PySem PySem.W PyProof.Rows
section
variable {K:PySem.W.Frag}{ti:TT}{te:TE}{σ:St}{ci:List Nat}{rest:St}{fin:List V->Hp->Prop}{H:Hp}{a:Addr}
end
end L2
namespace L2
open PySem PySem.W PyProof.Rows
theorem zL:bootBuiltins "sorted" =some (.builtin "sorted"):=by decide +kernel
theorem Room.units1 {k:Nat}{A:Around} (r:Room k A):A.units+1<cLine:=by have:=r.un;omega
section
variable {K:PySem.W.Frag}{H:Hp}{Q:VK}
end
section
variable {H:Hp}{Q:VK}{σ:St}
theorem WZ (h:∀p H',H p=none->Same H H'->H' p=some (.dT [])->Q (.ref p) H'):VI σ H Q:=fJ h
theorem MG {κ:Type}[DecidableEq κ]{kvs:List (κ×V)}{k:κ}{v:V}{e:κ×V} (h:e∈cP kvs k v):e∈kvs∨e.1=k/\e.2=v:=by
 unfold cP at h
 split at h
 ·obtain⟨p,hp,e1⟩:=List.mem_map.mp h
  by_cases z:p.1=k
  ·rw[if_pos z]at e1;subst e1;exact .inr ⟨z,rfl⟩
  ·rw[if_neg z]at e1;subst e1;exact .inl hp
 ·rcases List.mem_append.mp h with h|h
  ·exact .inl h
  ·cases List.mem_singleton.mp h;exact .inr ⟨rfl,rfl⟩
end
end L2
namespace L2
open PySem PySem.W PyProof.Rows
section
variable {X:Cx}{K:PySem.W.Frag}
theorem jV {es:List Expr}{k:Nat}{t:TGs}{n:Nat}{pos:Pos} (hc:X.calm=true) (h:PGs X es t) (hK:X.K=K:=by rfl)
  (hn:(assignEach es X.env).length=n:=by rfl)(hst:(assignEach es X.env).findIdx? (·.1)=none:=by rfl):PG X (.Tuple es k pos) (CZ K n t):=by
 subst hK;exact i3 hc h hn hst
theorem gE (hK:X.K=K:=by rfl):IxR X (aCx K):=by
 subst hK;exact cG
end
def KN (nx:St->Hp->Prop)(σ:St)(x v:V):VK:=fun y H3=>∃a H4,x= .ref a/\DPut H3 a y v H4/\nx σ H4
def KH (Q:VK)(x:V):VK:=fun y H2=>∃a v,x= .ref a/\DGet H2 a y (some v)/\Q v H2
def ZL (R:It->Hp->Prop):VK:=fun x H1=>∃a kvs,x= .ref a/\H1 a=some (.dT kvs)/\∀o,R (Itq a o kvs) (upd H1 a (.frz o (.dT kvs)))
section
variable {K:PySem.W.Frag}{H:Hp}{Q:VK}{σ:St}{nx rt bk ct:St->Hp->Prop}
theorem aAr {td ty tv:TE}{nx:St->Hp->Prop}{rt:VK}{bk ct:St->Hp->Prop} (h:tv σ H fun v H1=>td σ H1 fun x H2=>ty σ H2 (KN nx σ x v)):Z0 td ty tv ⟨nx,rt,bk,ct⟩ σ H:=h
theorem oY {p b:Addr}{v:V}{kvs:List (List Key×V)} (k:List Key) (e:H p=some (.dT kvs)) (eb:H b=some (.tup (k.map kV))) (hl:kvs.length<sizeLine)
  (h:∀H',SameBut p H H'->H' p=some (.dT (cP kvs k v))->nx σ H'):KN nx σ (.ref p) v (.ref b) H :=
 ⟨p,_,rfl,DPut.t e eb hl,h _ SameBut.upd bJ⟩
theorem aBD {td ty:TE}(h:td σ H fun x H1=>ty σ H1 (KH Q x)):Z9 td ty σ H Q:=h
theorem xK {p b:Addr}{v:V}{kvs:List (List Key×V)} (k:List Key) (e:Rd H p (.dT kvs)) (eb:H b=some (.tup (k.map kV))) (hv:bD kvs k=some v) (h:Q v H):KH Q (.ref p) (.ref b) H :=
 ⟨p,v,rfl,.inr ⟨kvs,k,b,e,rfl,eb,hv.symm⟩,h⟩
theorem Y3 {td:TE}{R:It->Hp->Prop} (h:td σ H (ZL R)):VY td σ H R:=h
theorem YW {p:Addr}{kvs:List (List Key×V)}{R:It->Hp->Prop} (e:H p=some (.dT kvs)) (h:∀o H',SameBut p H H'->H' p=some (.frz o (.dT kvs))->R (Itq p o kvs) H'):ZL R (.ref p) H :=
 ⟨p,kvs,rfl,e,fun o=>h o _ SameBut.upd bJ⟩
theorem qM {p:Addr}{xs:List V}{i:Int} (e:SqL K H p xs) (h0:0<=i) (h1:i<xs.length) (h:∀v∈xs,Q v H):GM K (.ref p) (.int i) H Q:=by
 have hl:i.toNat<xs.length:=by omega
 have e1:=AR (xs:=xs) (j:=i.toNat) (v:=xs[i.toNat]) (List.getElem?_eq_getElem hl);rw[show ((i.toNat:Nat):Int)=i by omega]at e1;exact⟨p,xs,i,_,rfl,rfl,e,e1,h _ (List.getElem_mem hl)⟩
end
end L2
namespace L2
open PySem PySem.W PyProof.Rows
theorem yK:entryFor table "dict_itemiterator.__iter__" =some Builtin.«dict_keyiterator.__iter__»:=entryFor_alias (id':= "dict_keyiterator.__iter__") (by kernel_rfl) rfl (by decide +kernel) (by kernel_rfl)
theorem F0 {P:Program}{w:World}{k:Key}{u:Value} (h:(cH P w).is k u=true):RelV (kV k) u:=by
 rcases dY h with⟨i,t,rfl,rfl⟩|⟨x,t,rfl,rfl⟩
 ·exact⟨t,rfl⟩
 ·exact⟨t,rfl⟩
theorem LM {κ:Type}{kvs:List (κ×V)}{vs:List (κ×Value)}{i:Nat} (h:KV kvs vs) (hi:i<kvs.length):∃k v u,kvs[i]? =some (k,v)/\vs[i]? =some (k,u)/\RelV v u:=by
 induction h generalizing i with
 | nil=>exact absurd hi (Nat.not_lt_zero _)
 | @cons x y l m h t ih =>
  cases i with
  | zero=>exact⟨x.1,x.2,y.2,rfl,by rw[h.1];rfl,h.2⟩
  | succ i=>exact ih (Nat.lt_of_succ_lt_succ hi)
theorem HX {P:Program}{w:World}{κ:Type} [DecidableEq κ] {knd:KeyKind P w κ}:∀{es:List DictEntry}{kvs:List (κ×Value)}{i:Nat}{k:κ}{u:Value},Pairs knd es kvs->kvs[i]? =some (k,u)->∃e,es[i]? =some e/\knd.is k e.key=true/\e.val=u
 | _,_,0,_,_,.cons h1 h2 _,z=>by cases z;exact⟨_,rfl,h1,h2⟩
 | _,_,i+1,_,_,.cons _ _ t,z=>by
  obtain⟨e,e1,e2⟩:=HX (i:=i) t (by simpa using z);exact⟨e,by simpa using e1,e2⟩
 | _,_,_,_,_,.nil,z=>by simp at z
theorem RE {P:Program}{w:World}{K:PySem.W.Frag}{tg:Expr} (a it:Addr) {o:Obj}{es:Array DictEntry}{ep:Nat} (kvs:List (Key×V)) (hd:o.data= .dict es ep) (hz:es.size=kvs.length) :
  zI P w K tg (Itk a o kvs) [it] it (fun i h=>h.IsKeyIter it a i es.size ep) where
 mem:=by simp
 obj:=fun i h st b hb=>by
  have e:b=it:=by simpa using hb
  subst e;obtain⟨ob,e,c,d⟩:=st;exact⟨ob,e,fun v z=>by rw[d]at z;cases z⟩
 keep:=fun i h h' st k=>st.at fun ob e=>k it (by simp) ob e
 item:=by
  intro X hP hw hK hc i pins s σ H E I hf st hg;subst hP hw hK;obtain⟨ha,hi⟩:=hg;obtain⟨ho,z,y,vs,r,o',es',ep',h1,h2,h3,h4,h5,h6⟩:=(show ObjOk X.prog X.w H s.heap a (.frz o (.dK kvs)) from I.hok a _ ha)
  rw[ho]at h1;cases h1;rw[hd]at h3;cases h3;obtain⟨k,v,u,e1,e2,e3⟩:=LM r hi;obtain⟨e,f6,f7,f8⟩:=HX h5 e2;obtain⟨f0,f1,f2,f3,f4,f5⟩:=hf it (by simp);refine KW st ho hd (e:=e) (by simpa using f6) fun h' st' sb=> ?_;have I1:Inv X pins σ H { s with heap:=h' }:=I.turned (t':=s.toks) (fun b o hb e=>(sb.2 b hb).trans e) f0 f1 f3 f4 f5;exact⟨_,rfl,letGo_keyiter (s':={ s with heap:=h' }) st' ⟨kV k,H,I1,F0 f7,⟨rfl,k,v,e1,rfl⟩,st',fun b hb=>(hf b hb).1⟩⟩
 done:=by
  intro X hP hw hK hc i pins s σ H E I hf st hg;subst hP hw hK;obtain⟨ha,hi⟩:=hg;obtain⟨ho,hok⟩:=(show ObjOk X.prog X.w H s.heap a (.frz o (.dK kvs)) from I.hok a _ ha)
  obtain⟨f0,f1,f2,f3,f4,f5⟩:=hf it (by simp);exact PD (I.ok.hd hc) st ho hd (by omega) fun h' eb=>⟨rfl,I.turned (t':=s.toks) (fun b o hb e=>eb b o hb e) f0 f1 f3 f4 f5⟩
 self:=fun _ _ _ _ _ st h=>wpAny_pyIter_keyiter st h
def VW (td:TE):TI:=fun σ H R=>td σ H fun x H1=>∃a kvs,x= .ref a/\H1 a=some (.dK kvs)/\∀o,R (Itk a o kvs) (upd H1 a (.frz o (.dK kvs)))
section
variable {X:Cx}{tg:Expr}
theorem CK {l:Expr}{td:TE} (hl:PE X l td):PI X tg l (VW td):=by
 intro pins s σ H R I h;refine thn (hl pins s σ H _ I h) fun v s1 ⟨x,H1,I1,r1,q1⟩=> ?_;obtain⟨a,kvs,rfl,hq,q⟩:=q1;cases r1;obtain⟨z,y,vs,r,o,es,ep,h1,h2,h3,h4,h5,h6⟩:=(show ObjOk X.prog X.w H1 s1.heap a (.dK kvs) from I1.hok a _ hq)
 have hz:es.size=kvs.length:=by rw[r.length,←h5.length];simp
 have new:ObjOk X.prog X.w (upd H1 a (.frz o (.dK kvs))) s1.heap a (.frz o (.dK kvs)):=⟨h1,z,y,vs,r,o,es,ep,h1,h2,h3,h4,h5,h6⟩
 have I2:Inv X pins σ (upd H1 a (.frz o (.dK kvs))) s1:=I1.freeze trivial hq h1 new;refine DB y h1 h2 h3 ?_;refine⟨s1.heap.objs.size,[s1.heap.objs.size],_,_,upd H1 a (.frz o (.dK kvs)),rfl,I2.kept (t':=s1.toks) fun b o e=>Heap.get?_push_of_some _ e,RE a _ kvs h3 hz,⟨_,Heap.get?_push_size _ rfl,rfl,rfl⟩,fun b hb=> ?_,q o⟩;have e:b=s1.heap.objs.size:=by simpa using hb
 subst e;exact I2.fpOk (Nat.le_refl _) (I2.hok.fresh (Nat.le_refl _))
end
def Iti (a:Addr)(o:Obj)(kvs:List (Key×V)):It :=
 ⟨fun i H=>H a=some (.frz o (.dK kvs))/\i<kvs.length,fun i H x H'=>∃k v q,kvs[i]? =some (k,v)/\x= .ref q/\H q=none/\H'=upd H q (.tup [kV k,v]),fun i H=>H a=some (.frz o (.dK kvs))/\kvs.length<=i⟩
theorem OM {P:Program}{w:World}{K:PySem.W.Frag}{elts:List Expr}{x1:Nat}{tpos:Pos} (a it:Addr) {o:Obj}{es:Array DictEntry}{ep:Nat} (kvs:List (Key×V)) (hd:o.data= .dict es ep) :
  zI P w K (.Tuple elts x1 tpos) (Iti a o kvs) [it] it (fun i h=>∃ok ov,IsItemIter h it a i kvs.length ep ok ov) where
 mem:=by simp
 obj:=fun i h st b hb=>by
  have e:b=it:=by simpa using hb
  subst e;obtain⟨ok,ov,e⟩:=st;exact⟨_,e,fun v z=>by cases z⟩
 keep:=fun i h h' st k=>let ⟨ok,ov,e⟩:=st;⟨ok,ov,k it (by simp) _ e⟩
 item:=by
  intro X hP hw hK hc i pins s σ H E I hf st hg;subst hP hw hK;obtain⟨ha,hi⟩:=hg;obtain⟨ok,ov,st⟩:=st;obtain⟨ho,z,y,vs,r,o',es',ep',h1,h2,h3,h4,h5,h6⟩:=(show ObjOk X.prog X.w H s.heap a (.frz o (.dK kvs)) from I.hok a _ ha)
  rw[ho]at h1;cases h1;rw[hd]at h3;cases h3;obtain⟨k,v,u,e1,e2,e3⟩:=LM r hi;obtain⟨f0,f1,f2,f3,f4,f5⟩:=hf it (by simp);have hl:=r.length;refine wpAny_pyNext_items_item (knd:=cH X.prog X.w) (kvs:=vs) (by rw[←hl];exact st) ⟨o,es,ho,h2,hd,h4,h5,h6⟩ e2 fun key h' kk st' ht hs kp=> ?_;refine⟨_,rfl,?_⟩;refine wpAny_letOwnedTupleGo_items (s:={ s with heap:=h' }) st' fun h'' st'' sb=> ?_;have hq:H s.heap.objs.size=none:=I.hok.fresh (Nat.le_refl _);have hne:s.heap.objs.size≠it:=fun z=>by
   have:=Heap.lt_size (show s.heap.get? it=some _ from st);rw[z]at this;exact Nat.lt_irrefl _ this
  have tup:Vals [kV k,v] [key,u]:= .cons (F0 kk) (.cons e3 .nil);have I1:Inv X pins σ (upd H s.heap.objs.size (.tup [kV k,v])) { s with heap:=s.heap.push { cls:= .type "tuple",data:= .seq #[key,u] } } :=
   I.laid (t':=s.toks) (fun b u e=>Heap.get?_push_of_some _ e) (Nat.le_refl _) ⟨(show 2<=sizeLine by rw[sizeLine_eq];decide),[key,u],tup,⟨_,Heap.get?_push_size _ rfl,rfl,0,rfl⟩⟩
  have n0:upd H s.heap.objs.size (.tup [kV k,v]) it=none:=by rw[aU (Ne.symm hne)];exact f0
  have I2:Inv X pins σ (upd H s.heap.objs.size (.tup [kV k,v])) { s with heap:=h'' }:=Inv.turned (s:={ s with heap:=s.heap.push { cls:= .type "tuple",data:= .seq #[key,u] } }) (h':=h'') (t':=s.toks) (it:=it) I1 (fun b o hb e=>by
   rcases Heap.get?_push_cases e with⟨rfl,rfl⟩|e
   ·exact(sb.2 _ hb).trans ht
   ·exact(sb.2 b hb).trans (kp b o hb e)) n0 f1 f3 f4 f5
  exact⟨.ref s.heap.objs.size,_,I2,rfl,⟨k,v,_,e1,rfl,hq,rfl⟩,⟨key,u,by rw[hl];exact st''⟩,fun b hb=>by
   have e:b=it:=by simpa using hb
   rw[e];exact n0⟩
 done:=by
  intro X hP hw hK hc i pins s σ H E I hf st hg;subst hP hw hK;obtain⟨ha,hi⟩:=hg;obtain⟨ok,ov,st⟩:=st;obtain⟨ho,z,y,vs,r,o',es',ep',h1,h2,h3,h4,h5,h6⟩:=(show ObjOk X.prog X.w H s.heap a (.frz o (.dK kvs)) from I.hok a _ ha)
  rw[ho]at h1;cases h1;rw[hd]at h3;cases h3;have hl:=r.length;obtain⟨f0,f1,f2,f3,f4,f5⟩:=hf it (by simp);exact wpAny_pyNext_items_end (knd:=cH X.prog X.w) (kvs:=vs) (I.ok.hd hc) (by rw[←hl];exact st) ⟨o,es,ho,h2,hd,h4,h5,h6⟩ (List.getElem?_eq_none (by omega)) fun h' eb=>⟨rfl,I.turned (t':=s.toks) (fun b o hb e=>eb b o hb e) f0 f1 f3 f4 f5⟩
 self:=fun A i s Q E st h=>by
  obtain⟨ok,ov,st⟩:=st;have T:s.TypeIs (.ref it) "dict_itemiterator" :=⟨_,st,rfl⟩
  refine wpAny_pyIter_slot T F.slot_dict_itemiterator_iter (wpAny_call_entry F.slot_dict_itemiterator_iter T yK ?_ (F.args_dict_itemiterator_iter_1 _));show wpAny _ _ (ret (.ref it)) _ _ s;exact wpAny_pure ⟨_,rfl,"dict_itemiterator",_,T,F.slot_dict_itemiterator_next.lookup,h⟩
def PU (td:TE):TI:=fun σ H R=>td σ H fun x H1=>∃a kvs,x= .ref a/\H1 a=some (.dK kvs)/\∀o,R (Iti a o kvs) (upd H1 a (.frz o (.dK kvs)))
section
variable {X:Cx}
theorem VM {l:Expr}{td:TE}{elts:List Expr}{x1:Nat}{tpos apos cpos:Pos} (hl:PE X l td) (hbase:attributeBase l "items" X.env (eval l X.env)=eval l X.env:=by rfl) (hline:(apos.endLine==cpos.line)=true:=by rfl) :
  PI X (.Tuple elts x1 tpos) (.Call (.Attribute l "items" apos) [] [] cpos) (PU td):=by
 intro pins s σ H R I h;refine wpAny_Call_method0_late hbase hline (thn (hl pins s σ H _ I h) fun v s1 ⟨x,H1,I1,r1,q1⟩=> ?_);obtain⟨a,kvs,rfl,hq,q⟩:=q1;cases r1;obtain⟨t1,t2,_⟩:=UY I1 (.inl ⟨kvs,.inl hq⟩);refine⟨"dict","dict.items",F.plainAttrs_dict,F.slot_dict_items,F.type_dict_items,t1,t2,Calls.callWith_builtin rfl (PySem.evalArgs_none ?_)⟩;obtain⟨z,y,vs,r,o,es,ep,h1,h2,h3,h4,h5,h6⟩:=(show ObjOk X.prog X.w H1 s1.heap a (.dK kvs) from I1.hok a _ hq)
 have hL:=r.length;refine call_meetsIn F.slot_dict_items t1 F.entry_dict_items (F.args_dict_items_1 _) (meets_dict_items (cH X.prog X.w) a y) ⟨⟨vs,o,es,ep,h1,h2,h3,h4,h5,h6⟩,?_⟩;have new:ObjOk X.prog X.w (upd H1 a (.frz o (.dK kvs))) s1.heap a (.frz o (.dK kvs)):=⟨h1,z,y,vs,r,o,es,ep,h1,h2,h3,h4,h5,h6⟩
 have I2:Inv X pins σ (upd H1 a (.frz o (.dK kvs))) s1:=I1.freeze trivial hq h1 new;have I3:Inv X pins σ (upd H1 a (.frz o (.dK kvs))) { s1 with heap:=s1.heap.push { cls:= .type "dict_items",data:= .fields #[.ref a] } }:=I2.kept (t':=s1.toks) fun b o e=>Heap.get?_push_of_some _ e;refine wpAny_pyIter_items (knd:=cH X.prog X.w) (kvs:=vs) (ep:=ep) ⟨_,Heap.get?_push_size _ rfl,rfl,rfl⟩ ⟨o,es,Heap.get?_push_of_some _ h1,h2,h3,h4,h5,h6⟩ ?_;refine⟨_,[_],_,_,upd H1 a (.frz o (.dK kvs)),rfl,I3.kept (t':=s1.toks) fun b o e=>Heap.get?_push_of_some _ e,OM a _ kvs h3,⟨.none,.none,by rw[hL];exact Heap.get?_push_size _ rfl⟩,fun b hb=> ?_,q o⟩;obtain rfl:=List.mem_singleton.mp hb;exact I3.fpOk (Nat.le_refl _) (I3.hok.fresh (Nat.le_refl _))
end
end L2
namespace L2
open PySem PySem.W PyProof.Rows
section
variable {X:Cx}{pins:List (Addr×Obj)}{σ:St}{H:Hp}{s:Shared}{a:Addr}{o:Obj}{u:HO}
theorem Inv.thaw (I:Inv X pins σ H s)(h0:∀o u,X.H₀ a≠some (.frz o u))(e:H a=some (.frz o u)):Inv X pins σ (upd H a u) s:=by
 have nn:∀b,H b=none->b≠a:=fun b n z=>by rw[z,e]at n;cases n
 have no:∀b c,H b=some (.own c)->b≠a:=fun b c n z=>by rw[z,e]at n;cases n
 have nt:∀b xs,H b=some (.tup xs)->b≠a:=fun b c n z=>by rw[z,e]at n;cases n
 refine⟨I.ok,I.os,I.bare,⟨I.base.keep,I.base.slot,fun b ob q n hx=> ?_,I.base.there,fun b xs q=> ?_,fun b ob xs q=> ?_,fun b ps q=> ?_⟩,I.loc,I.cell,?_,fun x c ec=> ?_,fun p hp=> ?_,fun b v q=> ?_,I.len⟩
 ·have z:=I.base.free b ob q n hx;rw[aU (nn b z)];exact z
 ·have z:=I.base.tups b xs q;rw[aU (nt b xs z)];exact z
 ·have z:=I.base.frzs b ob xs q;have hb:b≠a:=fun y=>h0 ob xs (by rw[←y];exact q);rw[aU hb];exact z
 ·obtain⟨more,z⟩:=I.base.tbls b ps q;refine⟨more,?_⟩;rw[aU (fun y=>by rw[y,e]at z;cases z)];exact z
 ·rw[aU (nn _ I.free)];exact I.free
 ·rw[aU (nn _ (I.freeC x c ec))];exact I.freeC x c ec
 ·obtain⟨p1,p2,p3⟩:=I.pin p hp;exact⟨p1,by rw[aU (nn _ p2)];exact p2,p3⟩
 ·have so:∀b c,H b=some (.own c)->upd H a u b=some (.own c):=fun b c z=>by rw[aU (no b c z)];exact z
  have st:∀b xs,H b=some (.tup xs)->upd H a u b=some (.tup xs):=fun b c z=>by rw[aU (nt b c z)];exact z
  by_cases hb:b=a
  ·subst hb;rw[bJ]at q;cases q;obtain⟨_,z⟩:=(show ObjOk X.prog X.w H s.heap b (.frz o u) from I.hok b _ e)
   exact z.stay (fun _ _ _ q=>q) (fun c z=>so c b z) st
  ·rw[aU hb]at q;exact(I.hok b v q).stay (fun _ _ _ q=>q) (fun c z=>so c b z) st
theorem Inv.wasFree (I:Inv X pins σ H s)(h:∀o u,H a≠some (.frz o u)):∀o u,X.H₀ a≠some (.frz o u):=fun o u z=>h o u (I.base.frzs a o u z)
end
def kH (a:Addr)(R:Hp->Prop):Hp->Prop:=fun H=>∃o u,H a=some (.frz o u)/\R (upd H a u)
def ZR (te:TE):TE:=fun σ H Q=>∃a,(∀o u,H a≠some (.frz o u))/\te σ H fun x=>kH a (Q x)
def ZY (ts:TS):TS:=fun D σ H=>∃a,(∀o u,H a≠some (.frz o u))/\ts ⟨fun σ'=>kH a (D.nx σ'),fun v=>kH a (D.rt v),fun σ'=>kH a (D.bk σ'),fun σ'=>kH a (D.ct σ')⟩ σ H
section
variable {X:Cx}
theorem AN {e:Expr}{te:TE} (he:PE X e te):PE X e (ZR te):=by
 intro pins s σ H Q I h;obtain⟨a,h0,h⟩:=h;refine thn (he pins s σ H _ I h) fun v s1 ⟨x,H1,I1,r1,o,u,e,q⟩=> ?_;exact⟨x,_,I1.thaw (I.wasFree h0) e,r1,q⟩
theorem aBv {st:Stmt}{ts:TS} (he:PS X st ts):PS X st (ZY ts):=by
 intro pins s σ H D I h;obtain⟨a,h0,h⟩:=h;refine thn (he pins s σ H _ I h) fun f s1 z=> ?_;cases f with
 | next=>obtain⟨σ1,H1,I1,o,u,e,q⟩:=z;exact⟨σ1,_,I1.thaw (I.wasFree h0) e,q⟩
 | brk=>obtain⟨σ1,H1,I1,o,u,e,q⟩:=z;exact⟨σ1,_,I1.thaw (I.wasFree h0) e,q⟩
 | cont=>obtain⟨σ1,H1,I1,o,u,e,q⟩:=z;exact⟨σ1,_,I1.thaw (I.wasFree h0) e,q⟩
 | ret v=>obtain⟨x,σ1,H1,I1,r,o,u,e,q⟩:=z;exact⟨x,σ1,_,I1.thaw (I.wasFree h0) e,r,q⟩
end
end L2
namespace L2
open PySem PySem.W PyProof.Rows
theorem LD:∀bs:List Bool,((List.range bs.length).any fun i=>bs.getD i false)=bs.any id
 | []=>rfl
 | b::bs=>by
  rw[List.length_cons,List.range_succ_eq_map,List.any_cons,List.any_map,List.any_cons,←LD bs];rfl
theorem EK:∀{ns:List Int}{us:List Value},Vals (ns.map V.int) us->∃xs:List (Int×Tok),us=xs.map (fun p=>Value.int p.1 p.2)/\ns=xs.map (·.1)
 | [],_,.nil=>⟨[],rfl,rfl⟩
 | n::ns,_,.cons r t=>by
  obtain⟨xs,rfl,rfl⟩:=EK t;obtain⟨tk,rfl⟩:=r;exact⟨(n,tk)::xs,rfl,rfl⟩
section
variable {X:Cx}
def aEc (K:PySem.W.Frag):List V->Hp->VK->Prop:=fun xs H Q=>∃(p:Addr) (bs:List Bool),xs=[.ref p]/\SqL K H p (bs.map V.bl)/\Q (.bl (bs.any id)) H
theorem HU (hc:X.calm=true):fK X (.builtin "any") (aEc X.K):=by
 intro pins s σ H xs us Q I r h;obtain⟨p,bs,rfl,hq,q⟩:=h;obtain⟨u,rfl,rx⟩:=qH r;cases rx;obtain⟨its,r',pl,hz⟩:=I.list hq;have hl:=pl.isList;have hlt:p<s.heap.objs.size:=by obtain⟨_,e,_⟩:=hl;exact Heap.lt_size e
 have hlen:bs.length=its.length:=by have:=r'.length;rw[List.length_map]at this;exact this
 refine call_any_walk (wpAny_pyIter_list hl ?_);refine⟨s.heap.objs.size,_,_,its.toArray.size,_,_,fun i=>bs.getD i false,rfl,Walks.list (show X.A.in1.handled=none from I.ok.hd hc) s.heap.objs.size p (Nat.ne_of_lt hlt) its.toArray,⟨⟨_,Heap.get?_push_size _ rfl,rfl,rfl⟩,hl.push _⟩,?_,?_⟩
 ·intro i v s' Q' E' hi hQ;have hi':its[i]? =some v:=by simpa using hi
  have hib:i<bs.length:=by rw[hlen];exact(List.getElem?_eq_some_iff.mp hi').1
  obtain⟨u,hu,ru⟩:=r'.get (i:=i) (x:=V.bl bs[i]) (by rw[List.getElem?_map,List.getElem?_eq_getElem hib];rfl);rw[hi']at hu;cases hu;have:v=Value.bool bs[i]:=ru;subst this;refine wpAny_truthy_bool ?_;have eb:bs.getD i false=bs[i]:=by rw[List.getD_eq_getElem?_getD,List.getElem?_eq_getElem hib];rfl
  have hQ':Q' (bs.getD i false) s':=hQ;rw[eb]at hQ';exact hQ'
 ·intro h' tk hk;have eany:(List.range its.toArray.size).any (fun i=>bs.getD i false)=bs.any id:=by
   rw[List.size_toArray,←hlen];exact LD bs
  rw[eany];refine⟨.bl (bs.any id),H,?_,rfl,q⟩;have I1:Inv X pins σ H { s with heap:=s.heap.push { cls:= .type "list_iterator",data:= .fields #[.ref p,.int 0 0] },toks:=s.toks }:=I.kept fun b u e=>Heap.get?_push_of_some _ e;obtain⟨f0,f1,f2,f3,f4,f5⟩:=I.fpOk (Nat.le_refl _) (I.hok.fresh (Nat.le_refl _));exact I1.turned (fun b o hb e=>hk b o (by simpa using hb) e) f0 f1 f3 f4 f5
def aDT (K:PySem.W.Frag):List V->Hp->VK->Prop:=fun xs H Q=>∃(p:Addr) (ns:List Int),xs=[.ref p]/\SqL K H p (ns.map V.int)/\Q (.int ns.sum) H
theorem qQ (hc:X.calm=true):fK X (.builtin "sum") (aDT X.K):=by
 intro pins s σ H xs us Q I r h;obtain⟨p,ns,rfl,hq,q⟩:=h;obtain⟨u,rfl,rx⟩:=qH r;cases rx;obtain⟨its,r',pl,hz⟩:=I.list hq;obtain⟨zs,rfl,rfl⟩:=EK r';have hl:s.heap.IsList p (intItems zs.toArray):=by
  have:=pl.isList
  simpa [intItems] using this
 refine sum_intListG (I.ok.hd hc) hl fun h' tk t' hk=> ?_;have e2:preSum (numAt zs.toArray) zs.toArray.size=(zs.map (·.1)).sum:=by
  rw[preSum_eq,List.take_of_length_le (by simp)]
 rw[e2];exact⟨.int (zs.map (·.1)).sum,H,I.kept hk,⟨t',rfl⟩,q⟩
end
section
variable {K:PySem.W.Frag}{H:Hp}{Q:VK}
theorem UF {p:Addr}{bs:List Bool} (e:SqL K H p (bs.map V.bl)) (h:Q (.bl (bs.any id)) H):aEc K [.ref p] H Q:=⟨p,bs,rfl,e,h⟩
theorem zP {p:Addr}{ns:List Int} (e:SqL K H p (ns.map V.int)) (h:Q (.int ns.sum) H):aDT K [.ref p] H Q:=⟨p,ns,rfl,e,h⟩
end
theorem VT:bootBuiltins "any" =some (.builtin "any"):=by decide +kernel
theorem yO:bootBuiltins "sum" =some (.builtin "sum"):=by decide +kernel
end L2
namespace L2
open PySem PySem.W PyProof.Rows
theorem aAk:typeLookup (.type "list") "keys" =pure none:=by rw[typeLookup_type,builtinLookup_eq_fast];kernel_rfl
theorem aAe:typeLookup (.type "list") "__getattr__" =pure none:=by rw[typeLookup_type,builtinLookup_eq_fast];kernel_rfl
theorem M0:isSubtype (.type "AttributeError") (.type "AttributeError")=pure true:=by rw[isSubtype_type];kernel_rfl
theorem W2:((Manifest.find? "AttributeError").elim false fun t=>t.mro.contains "StopIteration" ||t.mro.contains "SystemExit")=false:=by decide +kernel
section
variable {prog:Program}{w:World}{A:Around}{E:Value->Shared->Prop}{s:Shared}
theorem YA {α:Type}{v:Value}{a:Addr}{Q:α->Shared->Prop} (hh:A.handled=none)
  (k:∀e h' tk' o,h'.get? e=some o->o.cls= .type "AttributeError" ->(∀b o,s.heap.get? b=some o->h'.get? b=some o)->E (.ref e) { s with heap:=h',toks:=tk' }) :
  wpAny (model prog w) A (do
   let e ←newExc (.type "AttributeError") [v];let l ←mkText "keys"
   noteAttr e (.ref a) l
   raiseNew e) Q E s:=by
 unfold newExc newTuple;refine wpAny_bind (wpAny_bind (wpAny_newObj_type (wpAny_bind (m:=firstArgMember _ _) (wpAny_of_eq (a:=Value.none) (by simp only[firstArgMember,W2];rfl) (wpAny_newObj_type ?_ (by size_fits)))) (by size_fits)));refine wpAny_bind (wpAny_mkText ?_);refine wpAny_bind ?_;unfold noteAttr;refine wpAny_bind ?_;unfold lacksNameAndObj;have e1:(#[Value.ref s.heap.objs.size,.none,.none,.none,.bool false,.none]++ownMembersOf (.type "AttributeError") [v]:Array Value)= #[Value.ref s.heap.objs.size,.none,.none,.none,.bool false,.none,unsetMember,unsetMember]:=rfl;rw[e1];generalize hs:s.heap.push { cls:=Value.type "tuple",data:=Data.seq #[v] }=h1;have ho:(h1.push { cls:= .type "AttributeError",data:= .fields #[Value.ref s.heap.objs.size,.none,.none,.none,.bool false,.none,unsetMember,unsetMember] }).get? h1.objs.size=some { cls:= .type "AttributeError",data:= .fields #[Value.ref s.heap.objs.size,.none,.none,.none,.bool false,.none,unsetMember,unsetMember] }:=Heap.get?_push_size _ rfl;refine wpAny_bind (wpAny_isInstance (b:=true) (T:= "AttributeError") ⟨_,ho,rfl⟩ M0 ?_);refine wpAny_bind (wpAny_load ho ?_);refine wpAny_pure ?_;refine wpAny_bind (wpAny_rule ?_);refine wpAny_bind (wpAny_typeOf (T:= "AttributeError") ⟨_,ho,rfl⟩ ?_);unfold layMembers;refine wpAny_bind (wpAny_load ho ?_);refine wpAny_update ho ?_;simp only[raiseNew];refine wpAny_bind (wpAny_handled ?_);rw[hh];refine wpAny_bind (wpAny_pure (wpAny_throw ?_));refine k h1.objs.size _ _ _ (Heap.get?_update_self _ ho (Obj.isFreed_of_fields (Obj.data_mapFields rfl _))) (Obj.cls_mapFields ..) fun b o e=> ?_;have hb:b≠h1.objs.size:=fun z=>by
  have h2:h1.objs.size=s.heap.objs.size+1:=by rw[←hs];simp[Heap.push]
  have h3:=Heap.lt_size e;rw[z,h2]at h3;exact absurd h3 (Nat.not_lt.mpr (Nat.le_succ _))
 exact(Heap.get?_update_other _ _ (Ne.symm hb)).trans (Heap.get?_push_of_some _ (by rw[←hs];exact Heap.get?_push_of_some _ e))
theorem QY {a:Addr}{its:Array Value}{n:Nat}{tk:Tok}{Q:Fin->Shared->Prop} (hh:A.handled=none) (hx:s.heap.get? a=some { cls:= .type "list",data:= .seq its n })
  (k:∀e h' tk' o,h'.get? e=some o->o.cls= .type "AttributeError" ->(∀b o,s.heap.get? b=some o->h'.get? b=some o)->E (.ref e) { s with heap:=h',toks:=tk' }) :
  wpAny (model prog w) A (Builtin.«object.__getattribute__» ⟨[.ref a,.str "keys" tk],[]⟩) Q E s:=by
 obtain⟨h,g,d,t,os⟩:=s;have hT:(⟨h,g,d,t,os⟩:Shared).TypeIs (.ref a) "list" :=⟨_,hx,rfl⟩
 have f4:=aAk
 repeat (any_goals (first|assumption|wp_step))
 refine wpAny_bind (wpAny_mkStr ?_ (by rw[sizeLine_eq];decide +kernel));exact YA hh fun e h' tk' o e1 e2 e3=>k e h' tk' o e1 e2 e3
theorem U1 {a:Addr}{its:Array Value}{n:Nat}{tk:Tok}{R:Result->Shared->Prop} (hh:A.handled=none) (hx:s.heap.get? a=some { cls:= .type "list",data:= .seq its n })
  (k:∀e h' tk' o,h'.get? e=some o->o.cls= .type "AttributeError" ->(∀b o,s.heap.get? b=some o->h'.get? b=some o)->R (.error (.ref e)) { s with heap:=h',toks:=tk' }) :
  codeAny (model prog w) A (.call (.builtin "list.__getattribute__") ⟨[.ref a,.str "keys" tk],[]⟩) R s:=by
 obtain⟨h,g,d,t,os⟩:=s;exact codeAny_call_builtin F.slot_list_getattribute.plain F.entry_list_ga (F.slot_list_getattribute.check _ _ _ _ _ _ _ _ (show (⟨h,g,d,t,os⟩:Shared).TypeIs (.ref a) "list" from⟨_,hx,rfl⟩) (F.args_list_getattribute_2 _ _) (QY hh hx k))
theorem aAE {a:Addr}{its:Array Value}{n:Nat}{Q:Option Value->Shared->Prop} (hh:A.handled=none) (hx:s.heap.get? a=some { cls:= .type "list",data:= .seq its n })
  (k:∀h' tk',(∀b o,s.heap.get? b=some o->h'.get? b=some o)->Q none { s with heap:=h',toks:=tk' }):wpAny (model prog w) A (getAttr? (.ref a) "keys") Q E s:=by
 obtain⟨h,g,d,t,os⟩:=s;have hT:(⟨h,g,d,t,os⟩:Shared).TypeIs (.ref a) "list" :=⟨_,hx,rfl⟩
 have f2:=F.slot_list_getattribute.lookup;have f3:=F.slot_list_getattribute.bind (.ref a);unfold getAttr? getAttrBy?
 repeat (any_goals (first|assumption|wp_step))
 refine U1 hh hx fun e h' tk' o e1 e2 e3=> ?_;have hE:(⟨h',g,d,tk',os⟩:Shared).TypeIs (.ref e) "AttributeError" :=⟨_,e1,e2⟩
 show wpAny (model prog w) A (getattributeRaised (Value.ref a) (Value.str (Str.ofString "keys") t) (.type "list") (.ref e) none false false) _ _ (⟨h',g,d,tk',os⟩:Shared);unfold getattributeRaised;refine wpAny_bind (wpAny_isInstance (b:=true) hE M0 ?_);show wpAny (model prog w) A (typeLookup (.type "list") "__getattr__" >>= fun x=>hookOrError (Value.ref a) (Value.str (Str.ofString "keys") t) (.ref e) false false x) _ _ (⟨h',g,d,tk',os⟩:Shared);rw[aAe];refine wpAny_bind (wpAny_pure ?_);refine wpAny_throw ?_;refine wpAny_bind (wpAny_isInstance (b:=true) hE M0 ?_);exact wpAny_pure (k h' tk' e3)
end
end L2
namespace L2
open PySem PySem.W PyProof.Rows
theorem v3:entryFor table "dict.update.loop" =some Builtin.«dict.update.loop»:=entryFor_of_tree (by kernel_rfl)
theorem kY:plainId "dict.update.loop" =true:=by decide +kernel
def TC {κ:Type}[DecidableEq κ](kvs ps:List (κ×Value)):List (κ×Value):=ps.foldl (fun acc p=>stored acc p.1 p.2) kvs
theorem Q3 {κ:Type}[DecidableEq κ](kvs:List (κ×Value))(k:κ)(v:Value):(stored kvs k v).length<=kvs.length+1:=by
 unfold stored
 split
 ·rw[List.length_map];exact Nat.le_succ _
 ·rw[List.length_append];exact Nat.le_refl _
section
variable {prog:Program}{w:World}{A:Around}{E:Value->Shared->Prop}{κ:Type} [DecidableEq κ] {knd:KeyKind prog w κ}{I d:Addr}{fp wr:List Addr}{n:Nat}{P:Nat->Value->Prop}{St:Nat->Heap->Prop}{R:Result->Shared->Prop}
def aEW (knd:KeyKind prog w κ)(d:Addr)(wr:List Addr)(P:Nat->Value->Prop)(ps:List (κ×Value))(h:Heap):Prop :=
 ∀i v,P i v->∃(q:Addr) (o:Obj) (key:Value) (k:κ) (u:Value) (c:Nat),v= .ref q/\q∉wr/\q≠d/\h.get? q=some o/\o.cls= .type "tuple" /\o.data= .seq #[key,u] c/\knd.is k key=true/\ps[i]? =some (k,u)
theorem Y5 (W:Walks prog w A.in1 I fp wr n P St)(hdf:d∉fp)(ps:List (κ×Value))(hn:ps.length=n)(hsz:n<=sizeLine) :
  ∀(k i:Nat) (s:Shared) (kvs:List (κ×Value)),n - i=k->i<=n->St i s.heap->kvs.length<=i->s.heap.DictOf knd d kvs->aEW knd d wr P ps s.heap →
  (∀h' tk,h'.DictOf knd d (TC kvs (ps.drop i))->(∀b o,b∉wr->b≠d->s.heap.get? b=some o->h'.get? b=some o)->R (.ok (.ret .none)) { s with heap:=h',toks:=tk }) →
  codeAny (model prog w) A (.builtin "dict.update.loop" ⟨[.ref d,.ref I,rawInt i,.none],[]⟩) R s:=by
 have hdw:d∉wr:=fun h=>hdf (W.sub _ h);intro k
 induction k with
 | zero =>
  intro i s kvs hk hi hst hl hd hrow hR;have hin:i=n:=by omega
  subst hin;refine codeAny_builtin v3 ?_;rw[Around.under_plainId kY _];show wpAny _ A.in1 (pyNext (.ref I) >>= _) _ _ s;refine wpAny_bind (W.done s _ _ hst fun h' tk hk'=> ?_);show wpAny _ _ (Builtin.Dict.addKeywords d [] >>= _) _ _ _;refine wpAny_bind (wpAny_pure (wpAny_pure (hR h' tk ?_ fun b o hb _ e=>hk' b o hb e)));rw[List.drop_of_length_le (by omega)];exact hd.at fun o e=>hk' d o hdw e
 | succ k ih =>
  intro i s kvs hk hi hst hl hd hrow hR;have hlt:i<n:=by omega
  refine codeAny_builtin v3 ?_;rw[Around.under_plainId kY _];show wpAny _ A.in1 (pyNext (.ref I) >>= _) _ _ s;refine wpAny_bind (W.item i s _ _ hlt hst fun v h' tk hP hst' hk'=> ?_);obtain⟨q,o,key,kk,u,c,rfl,hqw,hqd,ho,hc,hdt,his,hps⟩:=hrow i v hP;have ho':=hk' q o hqw ho;refine wpAny_bind (wpAny_holding (wpAny_bind (wpAny_tryCatch ?_)));unfold Builtin.Dict.pairItems;refine wpAny_bind (wpAny_typeOf (T:= "tuple") ⟨o,ho',hc⟩ ?_);rw[if_pos (by rfl)];refine wpAny_bind (wpAny_seqItems ho' hdt (wpAny_pure ?_));have hd':h'.DictOf knd d kvs:=hd.at fun o e=>hk' d o hdw e;refine wpAny_holding (wpAny_dictSet_pairs his hd' (fun h2 hd2 sb=> ?_) (by omega));have keep:∀b o,b∉wr->b≠d->s.heap.get? b=some o->h2.get? b=some o:=fun b o hb hbd e=>(sb.2 b hbd).trans (hk' b o hb e);refine wpAny_pure ⟨plainId_quiet kY _,ih (i+1) _ (stored kvs kk u) (by omega) hlt (W.frame _ _ _ hst' fun b hb o e=>(sb.2 b (fun z=>hdf (z▸hb))).trans e) (Nat.le_trans (Q3 ..) (by omega)) hd2 (fun j v hj=> ?_) fun h3 tk3 hd3 hk3=> ?_⟩
  ·obtain⟨q,o,key,kk,u,c,e1,e2,e3,e4,e5⟩:=hrow j v hj;exact⟨q,o,key,kk,u,c,e1,e2,e3,keep q o e2 e3 e4,e5⟩
  ·refine hR h3 tk3 ?_ fun b o hb hbd e=>hk3 b o hb hbd (keep b o hb hbd e);have ed:ps.drop i=(kk,u)::ps.drop (i+1):=by
    have hi2:i<ps.length:=by omega
    rw[List.drop_eq_getElem_cons hi2];have:=(List.getElem?_eq_some_iff.mp hps).2;rw[this]
   rw[ed];exact hd3
end
end L2
namespace L2
open PySem PySem.W PyProof.Rows
section
variable {prog:Program}{w:World}{A:Around}{E:Value->Shared->Prop}{κ:Type} [DecidableEq κ] {knd:KeyKind prog w κ}{s:Shared}{l:Addr}{its:Array Value}{c:Nat}
theorem UR {ps:List (κ×Value)}{Q:Value->Shared->Prop} (hh:A.handled=none) (hl:s.heap.get? l=some { cls:= .type "list",data:= .seq its c }) (hsz:its.size<=sizeLine) (hlen:ps.length=its.size)
  (hrow:∀(i:Nat) (v:Value),its[i]? =some v->∃(q:Addr) (o:Obj) (key:Value) (k:κ) (u:Value) (c:Nat),v= .ref q/\s.heap.get? q=some o/\o.cls= .type "tuple" /\o.data= .seq #[key,u] c/\knd.is k key=true/\ps[i]? =some (k,u))
  (h:∀h' tk,h'.DictOf knd s.heap.objs.size (TC [] ps)->(∀b o,s.heap.get? b=some o->h'.get? b=some o)->Q (.ref s.heap.objs.size) { s with heap:=h',toks:=tk }) :
  wpAny (model prog w) A (call (.type "dict") [.ref l]) Q E s:=by
 refine callType_codes (Q₁:=fun obj s₁=>obj= .ref s.heap.objs.size/\s₁={ s with heap:=s.heap.push { cls:= .type "dict",data:= .dict #[] } }) F.kt_called_dict (F.kt_typeCall_dict_1 _) F.entry_dict_init (kt_code_dict_new _ ⟨rfl,rfl⟩) ?_;rintro obj s₁ ⟨rfl,rfl⟩;have hnew:(s.heap.push { cls:= .type "dict",data:= .dict #[] }).DictOf knd s.heap.objs.size []:=Heap.DictOf.new s.heap;have hl':(s.heap.push { cls:= .type "dict",data:= .dict #[] }).get? l=some { cls:= .type "list",data:= .seq its c }:=Heap.get?_push_of_some _ hl;refine⟨hnew.typeIs,F.args_dict_init_2 _ _,?_⟩;unfold Builtin.«dict.__init__»;refine wpAny_bind ?_;unfold Builtin.Dict.selfAndRest;refine wpAny_bind (wpAny_notOrdered_dict hnew.typeIs ?_);show wpAny _ _ (pure (s.heap.objs.size,[Value.ref l])) _ _ _;refine wpAny_pure ?_;show wpAny _ _ (Builtin.Dict.updateFrom "dict.__init__" s.heap.objs.size (.ref l) [] .none) _ _ _;unfold Builtin.Dict.updateFrom;refine wpAny_bind (wpAny_typeOf (T:= "list") ⟨_,hl',rfl⟩ ?_);rw[if_pos (by decide)];refine wpAny_bind (aAE hh hl' fun h1 t1 kp1=> ?_);rw[if_pos (show (none:Option Value).isNone=true from rfl)];refine wpAny_bind (wpAny_rule ?_);have hl1:=kp1 _ _ hl';have isl:h1.IsList l its:=⟨_,hl1,rfl,_,rfl⟩
 have lt1:∀b o,s.heap.get? b=some o->b≠h1.objs.size:=fun b o e z=>by
  have:=Heap.lt_size (kp1 b o (Heap.get?_push_of_some _ e));rw[z]at this;exact Nat.lt_irrefl _ this
 have hdI:s.heap.objs.size≠h1.objs.size:=fun z=>by
  have:=Heap.lt_size (kp1 _ _ (Heap.get?_push_size s.heap (o:={ cls:= .type "dict",data:= .dict #[] }) rfl));rw[z]at this;exact Nat.lt_irrefl _ this
 have hdl:∀b o,s.heap.get? b=some o->b≠s.heap.objs.size:=fun b o e z=>by
  have:=Heap.lt_size e;rw[z]at this;exact Nat.lt_irrefl _ this
 refine wpAny_bind (wpAny_pyIter_list isl ?_);refine wpAny_pure ⟨plainId_quiet kY _,?_⟩;have W:=Walks.list (prog:=prog) (w:=w) (A:=A.in1.in1) hh h1.objs.size l (lt1 _ _ hl) its;refine Y5 (knd:=knd) W (by simp only[List.mem_cons,List.not_mem_nil,or_false,not_or];exact⟨hdI,Ne.symm (hdl _ _ hl)⟩) ps hlen hsz its.size 0 _ [] (Nat.sub_zero _) (Nat.zero_le _) ⟨⟨_,Heap.get?_push_size _ rfl,rfl,rfl⟩,isl.push _⟩ (Nat.le_refl _) ((hnew.at fun o e=>kp1 _ o e).push _) (fun i v hi=> ?_) fun h' tk hd hk=> ?_
 ·obtain⟨q,o,key,k,u,c',e1,e2,e3,e4,e5,e6⟩:=hrow i v hi;refine⟨q,o,key,k,u,c',e1,?_,hdl _ _ e2,Heap.get?_push_of_some _ (kp1 _ _ (Heap.get?_push_of_some _ e2)),e3,e4,e5,e6⟩;simp only[List.mem_cons,List.not_mem_nil,or_false];exact lt1 _ _ e2
 ·refine⟨rfl,h h' tk hd fun b o e=>hk b o ?_ (hdl _ _ e) (Heap.get?_push_of_some _ (kp1 _ _ (Heap.get?_push_of_some _ e)))⟩;simp only[List.mem_cons,List.not_mem_nil,or_false];exact lt1 _ _ e
end
end L2
namespace L2
open PySem PySem.W PyProof.Rows
abbrev KP (H:Hp):List V->List (Key×V)->Prop:=Paired fun v p=>∃q,v= .ref q/\H q=some (.tup [kV p.1,p.2])
section
variable {X:Cx}{pins:List (Addr×Obj)}{σ:St}{H:Hp}{s:Shared}
theorem YS (I:Inv X pins σ H s){q:Addr}{k:Key}{x:V} (e:H q=some (.tup [kV k,x])):∃(o:Obj) (key u:Value) (n:Nat),s.heap.get? q=some o/\o.cls= .type "tuple" /\o.data= .seq #[key,u] n/\(cH X.prog X.w).is k key=true/\RelV x u:=by
 obtain⟨_,us,r,o,h1,h2,n,h3⟩:=(show ObjOk X.prog X.w H s.heap q (.tup [kV k,x]) from I.hok q _ e)
 cases r with
 | @cons _ key _ _ r1 r =>
  cases r with
  | @cons _ u _ _ r2 r =>
   cases r;exact⟨o,key,u,n,h1,h2,h3,xE r1,r2⟩
theorem EU (I:Inv X pins σ H s):∀{vs:List V}{ps:List (Key×V)}{us:List Value},KP H vs ps->Vals vs us →
  ∃rs:List (Key×Value),KV ps rs/\rs.length=us.length/\∀(i:Nat) (v:Value),us[i]? =some v->∃(q:Addr) (o:Obj) (key:Value) (k:Key) (u:Value) (c:Nat),v= .ref q/\s.heap.get? q=some o/\o.cls= .type "tuple" /\o.data= .seq #[key,u] c/\(cH X.prog X.w).is k key=true/\rs[i]? =some (k,u)
 | _,_,_,.nil,.nil=>⟨[],.nil,rfl,fun i v z=>by simp at z⟩
 | _::_,(k,x)::_,_::us,.cons ⟨q,e,hq⟩ t,.cons r rt=>by
  obtain⟨rs,h1,h2,h3⟩:=EU I t rt;obtain⟨o,key,u,n,o1,o2,o3,o4,o5⟩:=YS I hq;subst e;cases r;refine⟨(k,u)::rs,.cons ⟨rfl,o5⟩ h1,by simp[h2],fun i v z=> ?_⟩;cases i with
  | zero=>cases z;exact⟨q,o,key,k,u,n,rfl,o1,o2,o3,o4,rfl⟩
  | succ i =>
   obtain⟨q,o,key,k,u,c,w1⟩:=h3 i v (by simpa using z);exact⟨q,o,key,k,u,c,by simpa using w1⟩
def UX:List V->Hp->VK->Prop:=fun xs H Q=>∃p vs ps,xs=[.ref p]/\Rd H p (.lst vs)/\KP H vs ps/\∀l,H l=none->Q (.ref l) (upd H l (.dK (m6 [] ps)))
theorem RN (hc:X.calm=true):fK X (.type "dict") UX:=by
 intro pins s σ H xs us Q I r h;obtain⟨p,vs,ps,rfl,hq,pr,q⟩:=h;obtain⟨u,rfl,rx⟩:=qH r;cases rx;obtain⟨z,its,n,rv,e⟩:=(show ObjOk X.prog X.w H s.heap p (.lst vs) from hq.ok I.hok)
 obtain⟨rs,h1,h2,h3⟩:=EU I pr rv;have hl:=rv.length;have hlp:=h1.length;refine UR (knd:=cH X.prog X.w) (ps:=rs) (I.ok.hd hc) e (by rw[List.size_toArray];omega) (by rw[List.size_toArray];exact h2) (fun i v hv=>h3 i v (by simpa using hv)) fun h' tk hd kp=> ?_;have lm:(m6 [] ps).length<=sizeLine:=Nat.le_trans (yB ps []) (by simp;omega);have nm:(s.heap.objs.size==sysModules)=false:=by
  have:=I.big;simp only[beq_eq_false_iff_ne];exact fun z=>by rw[z]at this;exact Nat.lt_irrefl _ this
 exact⟨.ref _,_,I.laid (t':=tk) kp (Nat.le_refl _) (L3 lm nm (KV.merge h1 .nil) hd),rfl,q _ (I.hok.fresh (Nat.le_refl _))⟩
end
end L2
namespace L2
open PySem PySem.W PyProof.Rows
section
variable {prog:Program}{w:World}{A:Around}{E:Value->Shared->Prop}{s:Shared}{d it:Addr}{o:Obj}{es:Array DictEntry}{ep i:Nat}{k0 v0:Value}
end
end L2
namespace L2
open PySem PySem.W PyProof.Rows
section
variable {prog:Program}{w:World}{A:Around}{E:Value->Shared->Prop}{s:Shared}{d it:Addr}{o:Obj}{es:Array DictEntry}{ep i:Nat}
end
section
variable {X:Cx}
end
end L2
namespace L2
open PySem PySem.W PyProof.Rows
section
variable (r:Nat->Int)
variable {r}{p:Array Nat}
end
end L2
namespace L2
open PySem PySem.W PyProof.Rows
section
variable {r:Nat->Int}{p:Array Nat}
end
end L2
namespace L2
open PySem PySem.W PyProof.Rows
section
variable {α:Type}{lt:α->α->Bool}{l:List α}{d:α}
theorem MU (c:Nat->Nat->Bool):(eV d c l).Perm l:=by
 unfold eV
 split
 ·exact List.Perm.refl _
 ·have h:=Array.perm_iff_toList_perm.mp (lN (n:=l.length) c (by omega));refine(h.map fun i=>l.getD i d).trans ?_;have e:((List.range l.length).toArray.toList.map fun i=>l.getD i d)=l:=by
   apply List.ext_getElem?
   intro i
   by_cases hi:i<l.length
   ·simp[hi,List.getD_eq_getElem?_getD]
   ·simp[hi]
  rw[e]
end
end L2
namespace L2
open PySem PySem.W PyProof.Rows
section
variable {X:Cx}
end
def EL (rs:List (List Key)):List (List Key):=eV [] (uX rs) rs
theorem QO (rs:List (List Key)):(EL rs).Perm rs:=MU _
theorem Q7 {H:Hp}{vs:List V}{rs:List (List Key)} (k:KRows H vs rs):KRows H (QR rs vs) (EL rs):=by
 have hl:vs.length=rs.length:=Paired.length k;unfold QR EL eV;rw[hl]
 split
 ·exact k
 ·have hp:=lN (n:=rs.length) (uX rs) (by omega);have hm:∀i∈(kM (uX rs) (kas_sort rs.length)).toList,i<rs.length:=fun i hi=>by
   have h:=hp.mem_iff.mp (Array.mem_toList_iff.mp hi)
   simpa using h
  revert hm;generalize (kM (uX rs) (kas_sort rs.length)).toList=l;intro hm
  induction l with
  | nil=>exact .nil
  | cons i l ih =>
   refine .cons ?_ (ih fun j hj=>hm j (List.mem_cons_of_mem _ hj));have hi:=hm i (.head _);obtain⟨p,r,e1,e2,e3⟩:=k.get (i:=i) (v:=vs.getD i .non) (by rw[List.getD_eq_getElem?_getD,List.getElem?_eq_getElem (by omega)];rfl);refine⟨p,e1,?_⟩;show H p=some (.tup ((rs.getD i []).map kV));rw[List.getD_eq_getElem?_getD,e2];exact e3
end L2
namespace L2
open PySem PySem.W PyProof.Rows
section
variable {X:Cx}{pins:List (Addr×Obj)}{σ:St}{H:Hp}{s:Shared}
end
end L2
namespace L2
open PySem PySem.W PyProof.Rows
section
variable {X:Cx}
end
end L2
namespace L2
open PySem PySem.W PyProof.Rows
theorem Paired.snoc {α β:Type}{F:α->β->Prop}:∀{l:List α}{m:List β}{a:α}{b:β},Paired F l m->F a b->Paired F (l++[a]) (m++[b])
 | _,_,_,_,.nil,h=> .cons h .nil
 | _,_,_,_,.cons r t,h=> .cons r (Paired.snoc t h)
theorem Paired.at2 {α β:Type}{F:α->β->Prop}:∀{l:List α}{m:List β}{i:Nat}{a:α}{b:β},Paired F l m->l[i]? =some a->m[i]? =some b->F a b
 | _,_,0,_,_,.cons r _,h1,h2=>by cases h1;cases h2;exact r
 | _,_,i+1,_,_,.cons _ t,h1,h2=>Paired.at2 (i:=i) t (by simpa using h1) (by simpa using h2)
 | _,_,_,_,_,.nil,h1,_=>by simp at h1
theorem l6 {α:Type}{J:It}{g:TG}{ti:TT}{te:TE}{σ0:St}{fin:List V->Hp->Prop}{H:Hp} (xs:List α) (c:α->Bool) (P:α->V->Hp->Prop) (hm:∀x y H1 H2,P x y H1->Same H1 H2->P x y H2) (hn:xs.length<=sizeLine)
  (hgo:∀i H1,Same H H1->i<xs.length->J.go i H1)(hst:∀H1,Same H H1->J.stop xs.length H1)
  (hb:∀i x H1,xs[i]? =some x->Same H H1->∀v H',J.yld i H1 v H'->Same H1 H'/\∃σ2:St,σ2.length=σ0.length/\(∀(j:Nat) v,σ0[j]? =some (some v)->σ2[j]? =some (some v))/\(∀R:St->Hp->Prop,R σ2 H'->g v σ0 H' R) ∧
   (∀R:Bool->Hp->Prop,(∀H2,Same H' H2->R (c x) H2)->ti σ2 H' R)/\(c x=true->∀H2,Same H' H2->∀R:VK,(∀y H3,P x y H3->Same H2 H3->R y H3)->te σ2 H2 R))
  (hf:∀ys H1,Same H H1->Paired (fun x y=>P x y H1) (xs.filter c) ys->fin ys H1):eJ J g ti te σ0 fin H:=by
 refine⟨fun i m ys H1=>i+m=xs.length/\Same H H1/\Paired (fun x y=>P x y H1) ((xs.take i).filter c) ys,⟨xs.length,by omega,Same.refl _,.nil⟩,?_⟩;rintro i m ys H1 ⟨e1,s1,pr⟩;cases m with
 | zero =>
  have ei:i=xs.length:=by omega
  subst ei;rw[List.take_length]at pr;exact .inl ⟨hst H1 s1,hf ys H1 s1 pr⟩
 | succ m =>
  have hi:i<xs.length:=by omega
  refine .inr ⟨hgo i H1 s1 hi,fun v H' y=> ?_⟩;have ex:xs[i]? =some xs[i]:=List.getElem?_eq_getElem hi;have etake:xs.take (i+1)=xs.take i++[xs[i]]:=by rw[List.take_succ,ex];rfl
  have hlen:ys.length<=i:=by
   rw[←Paired.length pr];exact Nat.le_trans (List.length_filter_le _ _) (by rw[List.length_take];omega)
  obtain⟨s2,σ2,l2,c2,hg,ht,he⟩:=hb i xs[i] H1 ex s1 v H' y;refine hg _ ⟨⟨l2,c2⟩,ht _ fun H2 s3=> ?_⟩;cases hc:c xs[i] with
  | true =>
   show te σ2 H2 _;refine he hc H2 s3 _ fun y H3 py s4=>⟨by omega,m,by omega,by omega,((s1.trans s2).trans s3).trans s4,?_⟩
   rw[etake,List.filter_append,List.filter_cons_of_pos hc];exact Paired.snoc (Paired.imp' (fun a b h=>hm a b _ _ h ((s2.trans s3).trans s4)) pr) py
  | false =>
   show ∃m',_;refine⟨m,by omega,by omega,(s1.trans s2).trans s3,?_⟩;rw[etake,List.filter_append,List.filter_cons_of_neg (by rw[hc];exact Bool.false_ne_true),List.filter_nil,List.append_nil];exact Paired.imp' (fun a b h=>hm a b _ _ h (s2.trans s3)) pr
section
variable {K:PySem.W.Frag}{ti:TT}{te:TE}{σ:St}{ci:List Nat}{rest:St}{fin:List V->Hp->Prop}{H:Hp}{a:Addr}
theorem QT {n:Nat}(hr:ci.map (fun i=>(σ[i]?).join)=rest):cN n ci σ=List.replicate n none++rest:=by unfold cN;rw[hr]
theorem oT {α:Type}{vs:List V}{xs:List α} (f1 f2:α->V) (c:α->Bool) (P:α->V->Hp->Prop) (hm:∀x y H1 H2,P x y H1->Same H1 H2->P x y H2) (hn:xs.length<=sizeLine) (hr:ci.map (fun i=>(σ[i]?).join)=rest) (hl:SqL K H a vs)
  (hv:Paired (fun v x=>∃q,v= .ref q/\H q=some (.tup [f1 x,f2 x])) vs xs)
  (ht:∀x H1,x∈xs->Same H H1->∀R:Bool->Hp->Prop,(∀H2,Same H1 H2->R (c x) H2)->ti (some (f1 x)::some (f2 x)::rest) H1 R)
  (he:∀x H1,x∈xs->c x=true->Same H H1->∀R:VK,(∀y H2,P x y H2->Same H1 H2->R y H2)->te (some (f1 x)::some (f2 x)::rest) H1 R)
  (hf:∀ys H1,Same H H1->Paired (fun x y=>P x y H1) (xs.filter c) ys->fin ys H1):eJ (Itl K a) (CZ K 2 (nS (cF 0) (nS (cF 1) GP))) ti te (cN 2 ci σ) fin H:=by
 have e0:cN 2 ci σ=none::none::rest:=QT hr;rw[e0];have hlen:vs.length=xs.length:=Paired.length hv;refine l6 xs c P hm hn (fun i H1 s hi=>⟨vs,vs[i],s.seq hl,List.getElem?_eq_getElem (by omega)⟩) (fun H1 s=>⟨vs,s.seq hl,by omega⟩) (fun i x H1 hx s1 v H' y=> ?_) hf;obtain⟨rfl,e2⟩:=y;have ev:=e2 vs (s1.seq hl);obtain⟨q,rfl,hq⟩:∃q,v= .ref q/\H q=some (.tup [f1 x,f2 x]):=Paired.at2 hv ev hx;have hmem:=List.mem_of_getElem? hx;refine⟨Same.refl _,some (f1 x)::some (f2 x)::rest,rfl,fun j v hv=> ?_,fun R h=>⟨q,[f1 x,f2 x],rfl,.inl (.inl (s1 _ _ hq)),rfl,f1 x,[f2 x],rfl,f2 x,[],rfl,rfl,h⟩,fun R h=>ht x _ hmem s1 R h,fun hc H2 s2 R h=>he x H2 hmem hc (s1.trans s2) R h⟩
 match j,hv with
 | 0,hv=>cases hv
 | 1,hv=>cases hv
 | j+2,hv=>exact hv
end
end L2
namespace L2
open PySem PySem.W PyProof.Rows
section
variable {K:PySem.W.Frag}{ti:TT}{te:TE}{σ:St}{ci:List Nat}{rest:St}{fin:List V->Hp->Prop}{H:Hp}{a:Addr}
theorem X4 {H:Hp}{q:Addr}{o:HO} (h:H q=none):Same H (upd H q o):=fun b u e=>by
 have:b≠q:=fun z=>by rw[z,h]at e;cases e
 rw[aU this];exact e
theorem aBQ {α:Type}{vs:List V}{xs:List α} (f1 f2 f3:α->V) (c:α->Bool) (P:α->V->Hp->Prop) (hm:∀x y H1 H2,P x y H1->Same H1 H2->P x y H2) (hn:xs.length<=sizeLine) (hr:ci.map (fun i=>(σ[i]?).join)=rest) (hl:SqL K H a vs)
  (hv:Paired (fun v x=>∃q,v= .ref q/\H q=some (.tup [f1 x,f2 x,f3 x])) vs xs)
  (ht:∀x H1,x∈xs->Same H H1->∀R:Bool->Hp->Prop,(∀H2,Same H1 H2->R (c x) H2)->ti (some (f1 x)::some (f2 x)::some (f3 x)::rest) H1 R)
  (he:∀x H1,x∈xs->c x=true->Same H H1->∀R:VK,(∀y H2,P x y H2->Same H1 H2->R y H2)->te (some (f1 x)::some (f2 x)::some (f3 x)::rest) H1 R)
  (hf:∀ys H1,Same H H1->Paired (fun x y=>P x y H1) (xs.filter c) ys->fin ys H1):eJ (Itl K a) (CZ K 3 (nS (cF 0) (nS (cF 1) (nS (cF 2) GP)))) ti te (cN 3 ci σ) fin H:=by
 have e0:cN 3 ci σ=none::none::none::rest:=QT hr;rw[e0];have hlen:vs.length=xs.length:=Paired.length hv;refine l6 xs c P hm hn (fun i H1 s hi=>⟨vs,vs[i],s.seq hl,List.getElem?_eq_getElem (by omega)⟩) (fun H1 s=>⟨vs,s.seq hl,by omega⟩) (fun i x H1 hx s1 v H' y=> ?_) hf;obtain⟨rfl,e2⟩:=y;have ev:=e2 vs (s1.seq hl);obtain⟨q,rfl,hq⟩:∃q,v= .ref q/\H q=some (.tup [f1 x,f2 x,f3 x]):=Paired.at2 hv ev hx;have hmem:=List.mem_of_getElem? hx;refine⟨Same.refl _,some (f1 x)::some (f2 x)::some (f3 x)::rest,rfl,fun j v hv=> ?_,fun R h=>⟨q,[f1 x,f2 x,f3 x],rfl,.inl (.inl (s1 _ _ hq)),rfl,f1 x,[f2 x,f3 x],rfl,f2 x,[f3 x],rfl,f3 x,[],rfl,rfl,h⟩,fun R h=>ht x _ hmem s1 R h,fun hc H2 s2 R h=>he x H2 hmem hc (s1.trans s2) R h⟩
 match j,hv with
 | 0,hv=>cases hv
 | 1,hv=>cases hv
 | 2,hv=>cases hv
 | j+3,hv=>exact hv
theorem TH {kvs:List (Key×V)}{o:Obj} (c:Key×V->Bool) (P:Key×V->V->Hp->Prop) (hm:∀x y H1 H2,P x y H1->Same H1 H2->P x y H2) (hn:kvs.length<=sizeLine) (hr:ci.map (fun i=>(σ[i]?).join)=rest) (h0:H a=some (.frz o (.dK kvs)))
  (ht:∀x H1,x∈kvs->Same H H1->∀R:Bool->Hp->Prop,(∀H2,Same H1 H2->R (c x) H2)->ti (some (kV x.1)::rest) H1 R)
  (he:∀x H1,x∈kvs->c x=true->Same H H1->∀R:VK,(∀y H2,P x y H2->Same H1 H2->R y H2)->te (some (kV x.1)::rest) H1 R)
  (hf:∀ys H1,Same H H1->Paired (fun x y=>P x y H1) (kvs.filter c) ys->fin ys H1):eJ (Itk a o kvs) (cF 0) ti te (cN 1 ci σ) fin H:=by
 rw[zQ hr];refine l6 kvs c P hm hn (fun i H1 s hi=>⟨s _ _ h0,hi⟩) (fun H1 s=>⟨s _ _ h0,Nat.le_refl _⟩) (fun i x H1 hx s1 v H' y=> ?_) hf;obtain⟨rfl,k,u,e2,rfl⟩:=y;rw[hx]at e2;cases e2;have hmem:=List.mem_of_getElem? hx;refine⟨Same.refl _,some (kV k)::rest,rfl,fun j v hv=> ?_,fun R h=>h,fun R h=>ht _ _ hmem s1 R h,fun hc H2 s2 R h=>he _ H2 hmem hc (s1.trans s2) R h⟩;cases j with
 | zero=>cases hv
 | succ j=>exact hv
end
section
variable {σ:St}{H:Hp}{g:TG}{tb:TS}{nx bk ct:St->Hp->Prop}{rt:VK}
theorem X1 {p:Addr}{o:Obj} (kvs:List (Key×V)) (Pv:Nat->St->Hp->Prop) (h0:Pv 0 σ H) (hl:∀i σ H,Pv i σ H->H p=some (.frz o (.dK kvs)))
  (hs:∀i k v σ H,kvs[i]? =some (k,v)->Pv i σ H->g (kV k) σ H fun σ2 H2=>tb ⟨Pv (i+1),rt,nx,Pv (i+1)⟩ σ2 H2)(hd:∀σ H,Pv kvs.length σ H->nx σ H):R0 (Itk p o kvs) g tb ⟨nx,rt,bk,ct⟩ σ H:=by
 refine⟨fun i m σ H=>m=kvs.length - i/\i<=kvs.length/\Pv i σ H,⟨kvs.length,by simp,Nat.zero_le _,h0⟩,?_⟩;rintro i m σ H ⟨rfl,hi,q⟩
 by_cases hlt:i<kvs.length
 ·refine .inr ⟨⟨hl i σ H q,hlt⟩,Pv (i+1),fun σ' H' p'=>⟨kvs.length - (i+1),by omega,rfl,hlt,p'⟩,fun x H' y=> ?_⟩;obtain⟨rfl,k,v,e,rfl⟩:=y;exact hs i k v σ _ e q
 ·have e:i=kvs.length:=by omega
  subst e;exact .inl ⟨⟨hl _ σ H q,Nat.le_refl _⟩,hd σ H q⟩
end
def TU (R:It->Hp->Prop):VK:=fun x H1=>∃a kvs,x= .ref a/\H1 a=some (.dK kvs)/\∀o,R (Itk a o kvs) (upd H1 a (.frz o (.dK kvs)))
def O7 (R:It->Hp->Prop):VK:=fun x H1=>∃a kvs,x= .ref a/\H1 a=some (.dK kvs)/\∀o,R (Iti a o kvs) (upd H1 a (.frz o (.dK kvs)))
def YD (Q:VK)(y:V):VK:=fun x H2=>∃a o,x= .ref a/\DGet H2 a y o/\Q (.bl o.isSome) H2
def GH (Q:VK)(y:V):VK:=fun x H2=>∃a o,x= .ref a/\DGet H2 a y o/\Q (.bl (!o.isSome)) H2
def U6 (σ:St)(ty tx:TE)(Q:VK):VK:=fun x H1=>∃a,x= .ref a/\IsD H1 a/\ty σ H1 fun y H2=>tx σ H2 fun z H3=>∃o,DGet H3 a y o/\Q (o.getD z) H3
def aCy (a:Addr)(Q:VK)(y:V):VK:=fun z H3=>∃o,DGet H3 a y o/\Q (o.getD z) H3
section
variable {K:PySem.W.Frag}{H:Hp}{Q:VK}{σ:St}{nx:St->Hp->Prop}{R:It->Hp->Prop}{td ty tx:TE}
theorem UT (h:td σ H (TU R)):VW td σ H R:=h
theorem QL (h:td σ H (O7 R)):PU td σ H R:=h
theorem CS {p:Addr}{kvs:List (Key×V)} (e:H p=some (.dK kvs)) (h:∀o H',SameBut p H H'->H' p=some (.frz o (.dK kvs))->R (Itk p o kvs) H'):TU R (.ref p) H:=⟨p,kvs,rfl,e,fun o=>h o _ SameBut.upd bJ⟩
theorem VG {p:Addr}{kvs:List (Key×V)} (e:H p=some (.dK kvs)) (h:∀o H',SameBut p H H'->H' p=some (.frz o (.dK kvs))->R (Iti p o kvs) H'):O7 R (.ref p) H:=⟨p,kvs,rfl,e,fun o=>h o _ SameBut.upd bJ⟩
theorem aCM (h:ty σ H fun y H1=>td σ H1 (YD Q y)):aCL ty td σ H Q:=h
theorem TY (h:ty σ H fun y H1=>td σ H1 (GH Q y)):PZ ty td σ H Q:=h
theorem aAg {p:Addr}{z:Str}{kvs:List (Key×V)} (e:Rd H p (.dK kvs)) (h:Q (.bl (bD kvs (.inr z)).isSome) H):YD Q (.str z) (.ref p) H:=⟨p,_,rfl,.inl ⟨kvs,.inr z,e,rfl,rfl⟩,h⟩
theorem ES {p:Addr}{z:Str}{kvs:List (Key×V)} (e:Rd H p (.dK kvs)) (h:Q (.bl (!(bD kvs (.inr z)).isSome)) H):GH Q (.str z) (.ref p) H:=⟨p,_,rfl,.inl ⟨kvs,.inr z,e,rfl,rfl⟩,h⟩
theorem mH {p:Addr}{v:V}{z:Str}{kvs:List (Key×V)} (e:H p=some (.dK kvs)) (hl:kvs.length<sizeLine) (h:∀H',SameBut p H H'->H' p=some (.dK (cP kvs (.inr z) v))->nx σ H'):KN nx σ (.ref p) v (.str z) H :=
 ⟨p,_,rfl,DPut.k (k:= .inr z) e hl,h _ SameBut.upd bJ⟩
theorem oV {p:Addr}{v:V}{z:Str}{kvs:List (Key×V)} (e:Rd H p (.dK kvs)) (hv:bD kvs (.inr z)=some v) (h:Q v H):KH Q (.ref p) (.str z) H:=⟨p,v,rfl,.inl ⟨kvs,.inr z,e,rfl,hv.symm⟩,h⟩
theorem XD (h:∀p H',H p=none->Same H H'->H' p=some (.dK [])->Q (.ref p) H'):UL σ H Q:=fJ h
theorem WS (h:td σ H (U6 σ ty tx Q)):US td ty tx σ H Q:=h
theorem mX {p:Addr}{kvs:List (List Key×V)} (e:H p=some (.dT kvs)) (h:ty σ H fun y H2=>tx σ H2 (aCy p Q y)):U6 σ ty tx Q (.ref p) H:=⟨p,rfl,.inr ⟨kvs,.inl e⟩,h⟩
theorem o7 {p b:Addr}{z:V}{kvs:List (List Key×V)} (k:List Key) (e:H p=some (.dT kvs)) (eb:H b=some (.tup (k.map kV))) (h:Q ((bD kvs k).getD z) H):aCy p Q (.ref b) z H:=⟨_,DGet.t e eb,h⟩
theorem XQ {p:Addr}{vs:List V}{ps:List (Key×V)} (e:H p=some (.lst vs)) (r:KP H vs ps) (h:∀l H',H l=none->Same H H'->H' l=some (.dK (m6 [] ps))->Q (.ref l) H'):UX [.ref p] H Q:=⟨p,vs,ps,rfl,.inl e,r,fJ h⟩
theorem LK {p:Addr}{vs:List V}{rs:List (List Key)}{sh:List Bool} (e:SqL K H p vs) (kr:KRows H vs rs) (hl:vs.length<64) (hs:∀r∈rs,r.map iC=sh) (hn:sh≠[]) (h:∀l ws H',H l=none->Same H H'->H' l=some (.lst ws)->KRows H' ws (EL rs)->Q (.ref l) H'):FT K [.ref p] H Q :=
 ⟨p,vs,rs,sh,rfl,e,kr,hl,hs,hn,fJ fun l H' n S e=>h l _ H' n S e ((Q7 kr).same S)⟩
theorem wY {te:TE}{p:Addr}{u:HO} (e:H p=some u) (nf:∀o x,u≠ .frz o x) (h:te σ H fun x=>kH p (Q x)):ZR te σ H Q:=⟨p,fun o x z=>nf o x (by rw[e]at z;exact Option.some.inj z),h⟩
theorem X2 {ts:TS}{bk ct:St->Hp->Prop}{rt:VK}{p:Addr}{u:HO} (e:H p=some u) (nf:∀o x,u≠ .frz o x) (h:ts ⟨fun σ'=>kH p (nx σ'),fun v=>kH p (rt v),fun σ'=>kH p (bk σ'),fun σ'=>kH p (ct σ')⟩ σ H):ZY ts ⟨nx,rt,bk,ct⟩ σ H :=
 ⟨p,fun o x z=>nf o x (by rw[e]at z;exact Option.some.inj z),h⟩
theorem qP {p:Addr}{o:Obj}{u:HO}{R:Hp->Prop} (e:H p=some (.frz o u)) (h:∀H',SameBut p H H'->H' p=some u->R H'):kH p R H:=⟨o,u,e,h _ SameBut.upd bJ⟩
theorem yU {H Hf H1 H2:Hp}{p:Addr}{u:HO} (e:H p=some u) (a:SameBut p H Hf) (b:SameBut p Hf H1) (c:SameBut p H1 H2) (e2:H2 p=some u):Same H H2:=fun x o z=>by
 by_cases hx:x=p
 ·subst hx;rw[e]at z;cases z;exact e2
 ·exact c x o (b x o (a x o z hx) hx) hx
end
section
variable {X:Cx}{K:PySem.W.Frag}
theorem kZ {e:Expr}{ta:TE}{f:Str}{pos:Pos} (he:PE X e ta) (hb:attributeBase e f X.env (eval e X.env)=eval e X.env) (hK:X.K=K:=by rfl):PE X (.Attribute e f pos) (W9 K ta f):=by
 subst hK;exact bV he hb
theorem EC (hK:X.K=K:=by rfl):OpR X (compareOp .In) (rIn K false):=by
 subst hK;exact T0
end
end L2
namespace L2
open PySem PySem.W PyProof.Rows
section
variable {K:PySem.W.Frag}{ti:TT}{te:TE}{σ:St}{ci:List Nat}{rest:St}{fin:List V->Hp->Prop}{H:Hp}{a:Addr}{α:Type}
theorem fI {vs:List V}{xs:List α} (F:V->α->Prop) (c:α->Bool) (P:α->V->Hp->Prop) (hm:∀x y H1 H2,P x y H1->Same H1 H2->P x y H2) (hn:xs.length<=sizeLine) (hr:ci.map (fun i=>(σ[i]?).join)=rest) (hl:SqL K H a vs) (hv:Paired F vs xs)
  (ht:∀v x H1,F v x->x∈xs->Same H H1->∀R:Bool->Hp->Prop,(∀H2,Same H1 H2->R (c x) H2)->ti (some v::rest) H1 R)
  (he:∀v x H1,F v x->x∈xs->c x=true->Same H H1->∀R:VK,(∀y H2,P x y H2->Same H1 H2->R y H2)->te (some v::rest) H1 R)
  (hf:∀ys H1,Same H H1->Paired (fun x y=>P x y H1) (xs.filter c) ys->fin ys H1):eJ (Itl K a) (cF 0) ti te (cN 1 ci σ) fin H:=by
 rw[zQ hr];have hlen:vs.length=xs.length:=Paired.length hv;refine l6 xs c P hm hn (fun i H1 s hi=>⟨vs,vs[i],s.seq hl,List.getElem?_eq_getElem (by omega)⟩) (fun H1 s=>⟨vs,s.seq hl,by omega⟩) (fun i x H1 hx s1 v H' y=> ?_) hf;obtain⟨rfl,e2⟩:=y;have ev:=e2 vs (s1.seq hl);have hF:=Paired.at2 hv ev hx;have hmem:=List.mem_of_getElem? hx;refine⟨Same.refl _,some v::rest,rfl,fun j v hv=> ?_,fun R h=>h,fun R h=>ht v x _ hF hmem s1 R h,fun hc H2 s2 R h=>he v x H2 hF hmem hc (s1.trans s2) R h⟩;cases j with
 | zero=>cases hv
 | succ j=>exact hv
theorem aAT {kvs:List (Key×V)}{o:Obj}{xs:List α} (F:Key×V->α->Prop) (c:α->Bool) (P:α->V->Hp->Prop) (hm:∀x y H1 H2,P x y H1->Same H1 H2->P x y H2) (hn:xs.length<=sizeLine) (hr:ci.map (fun i=>(σ[i]?).join)=rest) (h0:H a=some (.frz o (.dK kvs))) (hv:Paired F kvs xs)
  (ht:∀e x H1,F e x->x∈xs->Same H H1->∀R:Bool->Hp->Prop,(∀H2,Same H1 H2->R (c x) H2)->ti (some (kV e.1)::some e.2::rest) H1 R)
  (he:∀e x H1,F e x->x∈xs->c x=true->Same H H1->∀R:VK,(∀y H2,P x y H2->Same H1 H2->R y H2)->te (some (kV e.1)::some e.2::rest) H1 R)
  (hf:∀ys H1,Same H H1->Paired (fun x y=>P x y H1) (xs.filter c) ys->fin ys H1):eJ (Iti a o kvs) (CZ K 2 (nS (cF 0) (nS (cF 1) GP))) ti te (cN 2 ci σ) fin H:=by
 have e0:cN 2 ci σ=none::none::rest:=QT hr;rw[e0];have hlen:kvs.length=xs.length:=Paired.length hv;refine l6 xs c P hm hn (fun i H1 s hi=>⟨s _ _ h0,by omega⟩) (fun H1 s=>⟨s _ _ h0,by omega⟩) (fun i x H1 hx s1 v H' y=> ?_) hf;obtain⟨k,u,q,e2,rfl,hq,rfl⟩:=y;have hF:=Paired.at2 hv e2 hx;have hmem:=List.mem_of_getElem? hx;have sq:Same H1 (upd H1 q (.tup [kV k,u])):=X4 hq;refine⟨sq,some (kV k)::some u::rest,rfl,fun j v hv=> ?_,fun R h=>⟨q,[kV k,u],rfl,.inl (.inl bJ),rfl,kV k,[u],rfl,u,[],rfl,rfl,h⟩,fun R h=>ht _ x _ hF hmem (s1.trans sq) R h,fun hc H2 s2 R h=>he _ x H2 hF hmem hc ((s1.trans sq).trans s2) R h⟩
 match j,hv with
 | 0,hv=>cases hv
 | 1,hv=>cases hv
 | j+2,hv=>exact hv
end
theorem fD {α:Type}{f:α->V}:∀{l:List α}{ys:List V},Paired (fun x y=>y=f x) l ys->ys=l.map f
 | _,_,.nil=>rfl
 | _,_,.cons h t=>by rw[h,fD t];rfl
theorem fM {α:Type}(l:List α):l.filter (fun _=>true)=l:=by simp
theorem L5 {K:PySem.W.Frag}{H:Hp}{Q:VK}{p:Addr}{z:Str}{ss:List Str} (e:SqL K H p (ss.map V.str)) (h:Q (.bl (decide (z∈ss))) H):rIn K false (.str z) (.ref p) H Q:=by
 refine⟨p,_,rfl,.inl e,rfl,?_,?_⟩
 ·rw[List.all_eq_true];intro x hx;obtain⟨y,_,rfl⟩:=List.mem_map.mp hx;rfl
 ·have e2:inV (.str z) (ss.map V.str)=decide (z∈ss):=by
   rw[Bool.eq_iff_iff,decide_eq_true_eq];unfold inV;rw[List.any_eq_true]
   constructor
   ·rintro ⟨x,hx,h⟩;obtain⟨y,hy,rfl⟩:=List.mem_map.mp hx;have:y=z:=by simpa [eqV] using h
    rw[←this];exact hy
   ·intro h;exact⟨.str z,List.mem_map.mpr ⟨z,h,rfl⟩,by simp[eqV]⟩
  show Q (.bl (inV (.str z) (ss.map V.str))) H;rw[e2];exact h
end L2
namespace L2
open PySem PySem.W PyProof.Rows
abbrev aT:=Int×Str×Int
def kA (t:Int)(n:Str):List Key:=[.inl t,.inr n]
def tI (r:aT):List Key:=[.inl r.1,.inr r.2.1,.inl r.2.2]
def xO:V->Int
 | .int i=>i
 | _=>0
def R3 (kvs:List (List Key×V))(r:aT):List (List Key×V):=cP kvs (kA r.1 r.2.1) (.int (xO ((bD kvs (kA r.1 r.2.1)).getD (.int 0))+r.2.2))
def qW (rows:List aT):List (List Key×V):=rows.foldl R3 []
theorem uR (rows:List aT)(r:aT):qW (rows++[r])=R3 (qW rows) r:=by unfold qW;rw[List.foldl_append];rfl
def cO (rows:List aT)(t:Int)(n:Str):Int:=((rows.filter fun r=>decide (r.1=t)&&decide (r.2.1=n)).map (·.2.2)).sum
theorem QH (rows:List aT)(r:aT)(t:Int)(n:Str):cO (rows++[r]) t n=cO rows t n+if r.1=t/\r.2.1=n then r.2.2 else 0:=by
 unfold cO;rw[List.filter_append,List.map_append,List.sum_append]
 congr 1
 by_cases h:r.1=t/\r.2.1=n
 ·rw[if_pos h,List.filter_cons_of_pos (by simp[h])];simp
 ·rw[if_neg h,List.filter_cons_of_neg (by simpa using h)];simp
theorem X0 {t t':Int}{n n':Str} (h:kA t n=kA t' n'):t=t'/\n=n':=by
 unfold kA at h;injection h with h1 h2;injection h2 with h2;exact⟨Sum.inl.inj h1,Sum.inr.inj h2⟩
theorem sT {α:Type}{P:List α->Prop} (h0:P []) (hs:∀l a,P l->P (l++[a])) (l:List α):P l:=by
 have:∀m:List α,P m.reverse:=fun m=>by
  induction m with
  | nil=>exact h0
  | cons a m ih=>rw[List.reverse_cons];exact hs _ _ ih
 rw[←List.reverse_reverse l];exact this _
theorem XC (t:Int)(n:Str)(rows:List aT):xO ((bD (qW rows) (kA t n)).getD (.int 0))=cO rows t n:=by
 induction rows using sT with
 | h0=>rfl
 | hs l r ih =>
  rw[uR,QH];unfold R3;rw[mE]
  by_cases e:kA t n=kA r.1 r.2.1
  ·obtain⟨rfl,rfl⟩:=X0 e;rw[if_pos rfl,if_pos ⟨rfl,rfl⟩,←ih];rfl
  ·rw[if_neg e,if_neg (fun h=>e (by rw[h.1,h.2])),ih];omega
theorem VN {κ:Type}[DecidableEq κ]{kvs:List (κ×V)}{k:κ}{v:V} (nd:(kvs.map (·.1)).Nodup):((cP kvs k v).map (·.1)).Nodup:=by
 unfold cP
 split
 ·have e:(kvs.map fun kv=>if kv.1=k then (kv.1,v) else kv).map (·.1)=kvs.map (·.1):=by
   rw[List.map_map]
   apply List.map_congr_left
   intro x _;show (if x.1=k then (x.1,v) else x).1=x.1
   split<;>rfl
  rw[e];exact nd
 ·rename_i h;rw[List.map_append];refine P4 nd fun hk=>h ?_;obtain⟨x,hx,e⟩:=List.mem_map.mp hk;rw[List.any_eq_true];exact⟨x,hx,decide_eq_true e⟩
theorem sU {κ:Type}[DecidableEq κ]:∀{kvs:List (κ×V)}{e:κ×V},(kvs.map (·.1)).Nodup->e∈kvs->bD kvs e.1=some e.2
 | a::l,e,nd,h=>by
  have nd':=List.pairwise_cons.mp nd;rcases List.mem_cons.mp h with rfl|h
  ·exact fP rfl
  ·rw[d5 (nd'.1 e.1 (List.mem_map.mpr ⟨e,h,rfl⟩))];exact sU nd'.2 h
theorem zA {κ:Type}[DecidableEq κ]{kvs:List (κ×V)}{k:κ}{v:V} (h:bD kvs k=some v):(k,v)∈kvs:=by
 unfold bD at h;obtain⟨x,hx,e⟩:=Option.map_eq_some_iff.mp h;have h1:=List.find?_some hx;have h2:=List.mem_of_find?_eq_some hx;have h3:x.1=k:=of_decide_eq_true h1;rw[←h3,←e];exact h2
def aFw (kvs:List (List Key×V)):Prop:=(kvs.map (·.1)).Nodup/\∀e∈kvs,∃t n i,e=(kA t n,.int i)
theorem IJ (rows:List aT):aFw (qW rows):=by
 induction rows using sT with
 | h0=>exact⟨List.nodup_nil,fun e h=>nomatch h⟩
 | hs l r ih =>
  rw[uR];refine⟨VN ih.1,fun e he=> ?_⟩;rcases MG he with h|⟨h1,h2⟩
  ·exact ih.2 e h
  ·exact⟨_,_,_,Prod.ext h1 h2⟩
theorem W6 (rows:List aT)(t:Int)(n:Str):∃i,(bD (qW rows) (kA t n)).getD (.int 0)= .int i:=by
 cases h:bD (qW rows) (kA t n) with
 | none=>exact⟨0,rfl⟩
 | some v =>
  obtain⟨t',n',i,e⟩:=(IJ rows).2 _ (zA h);cases e;exact⟨i,rfl⟩
theorem LW (rows:List aT):(qW rows).length<=rows.length:=by
 induction rows using sT with
 | h0=>exact Nat.le_refl _
 | hs l r ih =>
  rw[uR,List.length_append];exact Nat.le_trans (iI _ _ _) (by simp;omega)
end L2
namespace L2
open PySem PySem.W PyProof.Rows
theorem aAX:typeLookup (.type "dict") "__len__" =pure (some (.builtin "dict.__len__")):=by rw[typeLookup_type,builtinLookup_eq_fast];kernel_rfl
section
variable {prog:Program}{w:World}{A:Around}{E:Value->Shared->Prop}{s:Shared}{d:Addr}{κ:Type} [DecidableEq κ] {knd:KeyKind prog w κ}{ps:List (κ×Value)}{ep:Nat}
theorem UH (T:s.TypeIs (.ref d) "dict"){Q:Bool->Shared->Prop}(h:Q false s):wpAny (model prog w) A (Builtin.List.listLengthHint (.ref d)) Q E s:=by
 unfold Builtin.List.listLengthHint;refine wpAny_bind (wpAny_specialOf T aAX ?_);generalize q:("dict.__len__" :String)=i0
 wp_delta
 rw[show splitId i0=some ("dict","__len__") from by subst q;decide +kernel];subst q;refine wpAny_bind (wpAny_isInstance (T:= "dict") (b:=true) T (by rw[isSubtype_type];kernel_rfl) (wpAny_ite_split (fun z=>absurd z (by decide)) (fun _=>wpAny_ite_split (fun _=> ?_) (fun z=>absurd (by decide +kernel) z))));exact wpAny_bind (wpAny_typeOf T (wpAny_pure h))
theorem OD {R:Result->Shared->Prop}(hh:A.handled=none)(hm:s.heap.DictAt knd d ps ep)(hd0:(d==sysModules)=false)(S:Addr)(hSd:S≠d)(c0:Nat)(hS:s.heap.get? S=some { cls:= .type "list",data:= .seq #[] c0 })(hn:ps.length<=sizeLine)
  (k:∀h' tk acc c,(∀b o,b≠S->s.heap.get? b=some o->h'.get? b=some o)->h'.get? S=some { cls:= .type "list",dict:=none,data:= .seq acc c,slots:= #[] }->ItemsOf (fun i v=>∃k x,ps[i]? =some (k,x)/\knd.is k v=true) acc ps.length->R (.ok (.ret .none)) { s with heap:=h',toks:=tk }) :
  wpAny (model prog w) A.in1 (Builtin.List.listExtendWith (.ref S) (.ref d) .none) (fun fin s'=>match fin with| .done f=>R (.ok f) s'| .again c'=>c'.quiet=true/\codeAny (model prog w) A c' R s') (fun e s'=>R (.error e) s') s:=by
 obtain⟨o,es,ho,hc,hq,hk,hp,hnd⟩:=id hm;have T:s.TypeIs (.ref d) "dict" :=⟨o,ho,hc.1⟩
 have lS:S<s.heap.objs.size:=Heap.lt_size hS;have ld:d<s.heap.objs.size:=Heap.lt_size ho;have hsz:es.size=ps.length:=by rw[←hp.length];simp
 have W:=(Walks.dictKeys (prog:=prog) (w:=w) (knd:=knd) (A:=A.in1) hh s.heap.objs.size d (Nat.ne_of_lt ld) ps ep).toS;have run:∀(h:Heap) (c1 tk:Nat),h.IsKeyIter s.heap.objs.size d 0 ps.length ep->(∀b u,b≠S->s.heap.get? b=some u->h.get? b=some u)->h.get? S=some { cls:= .type "list",data:= .seq #[] c1 } →
   codeAny (model prog w) A (.builtin "list.extend.loop" ⟨[.ref S,.ref s.heap.objs.size,.none],[]⟩) R { s with heap:=h,toks:=tk }:=by
  intro h c1 tk hit kp hS1;refine codeAny_extend_loopS W hn S (by simp only[List.mem_cons,List.not_mem_nil,or_false,not_or];exact⟨Nat.ne_of_lt lS,hSd⟩) .none ps.length 0 _ #[] c1 rfl (Nat.zero_le _) ⟨hit,o,es,kp d o (Ne.symm hSd) ho,hc,hq,hk,hp,hnd⟩ hS1 (ItemsOf.nil _) fun s' acc c' mv hS2 hacc=> ?_;rw[Moved.eq_with mv];refine k s'.heap s'.toks acc c' (fun b u hb e=>mv.heap b u (fun z=> ?_) (kp b u hb e)) hS2 hacc;rcases List.mem_cons.mp z with z|z
  ·exact hb z
  ·have:=Heap.lt_size e;rw[List.mem_singleton.mp z]at this;exact Nat.lt_irrefl _ this
 unfold Builtin.List.listExtendWith;refine wpAny_bind (wpAny_typeOf (T:= "dict") T ?_);simp only[show Builtin.List.listSameRef (.ref S) (.ref d)=false by simp[Builtin.List.listSameRef,hSd],show (Value.type "dict" ==Value.type "list")=false by decide,show (Value.type "dict" ==Value.type "tuple")=false by decide,Bool.or_false,Bool.false_eq_true,if_false];refine wpAny_bind (DB hd0 ho hc hq ?_);have hS1:=Heap.get?_push_of_some { cls:= .type "dict_keyiterator",data:= .fields #[.ref d,.int 0 0,.int es.size 0,.int ep 0] } hS;refine wpAny_bind (wpAny_holding (UH ⟨o,Heap.get?_push_of_some _ ho,hc.1⟩ ?_));have hit:(s.heap.push { cls:= .type "dict_keyiterator",data:= .fields #[.ref d,.int 0 0,.int es.size 0,.int ep 0] }).IsKeyIter s.heap.objs.size d 0 ps.length ep:=⟨_,Heap.get?_push_size _ rfl,rfl,by rw[hsz];rfl⟩
 refine wpAny_ite_split (fun z=> ?_) (fun _=>wpAny_pure ⟨plainId_quiet F.plain_extend_loop _,run _ c0 _ hit (fun b u _ e=>Heap.get?_push_of_some _ e) hS1⟩);refine wpAny_bind (wpAny_rule (wpAny_bind ?_));show wpAny _ A.in1 (updateSeq S (·.push .none) >>= fun _=>updateSeq S (·.pop)) _ _ _;have u1:=Heap.get?_update_self (Obj.mapSeq (·.push Value.none)) hS1 rfl;have u2:=Heap.get?_update_self (Obj.mapSeq (·.pop)) u1 rfl;refine wpAny_bind (wpAny_updateSeq hS1 rfl (wpAny_updateSeq (hz:=by seq_fits) u1 rfl (wpAny_pure ⟨plainId_quiet F.plain_extend_loop _,run _ _ _ ?_ (fun b u hb e=> ?_) u2⟩)))
 ·exact hit.at fun u e=>(Heap.get?_update_other _ _ (Nat.ne_of_lt lS)).trans ((Heap.get?_update_other _ _ (Nat.ne_of_lt lS)).trans e)
 ·exact(Heap.get?_update_other _ _ (Ne.symm hb)).trans ((Heap.get?_update_other _ _ (Ne.symm hb)).trans (Heap.get?_push_of_some _ e))
theorem UN {Q:Value->Shared->Prop}(hh:A.handled=none)(hm:s.heap.DictAt knd d ps ep)(hd0:(d==sysModules)=false)(hn:ps.length<=sizeLine)
  (k:∀h' tk acc c,(∀b o,s.heap.get? b=some o->h'.get? b=some o)->h'.get? s.heap.objs.size=some { cls:= .type "list",dict:=none,data:= .seq acc c,slots:= #[] }->ItemsOf (fun i v=>∃k x,ps[i]? =some (k,x)/\knd.is k v=true) acc ps.length->Q (.ref s.heap.objs.size) { s with heap:=h',toks:=tk }) :
  wpAny (model prog w) A (call (.type "list") [.ref d]) Q E s:=by
 refine callType_codes (Q₁:=fun x s1=>x= .ref s.heap.objs.size/\s1={ s with heap:=s.heap.push { cls:= .type "list",data:= .seq #[] } }) F.called_list (F.typeCall_list_1 _) F.entry_list_init (code_list_new _ ⟨rfl,rfl⟩) ?_;rintro x s1 ⟨rfl,rfl⟩;have hS:(s.heap.push { cls:= .type "list",data:= .seq #[] }).get? s.heap.objs.size=some { cls:= .type "list",data:= .seq #[] }:=Heap.get?_push_size _ rfl;have hm1:(s.heap.push { cls:= .type "list",data:= .seq #[] }).DictAt knd d ps ep:=hm.at' fun o e=>Heap.get?_push_of_some _ e;have hdS:s.heap.objs.size≠d:=fun z=>by
  obtain⟨o,_,ho,_⟩:=hm;have:=Heap.lt_size ho;rw[←z]at this;exact Nat.lt_irrefl _ this
 refine⟨⟨_,hS,rfl⟩,F.args_list_init_2 _ _,?_⟩;show wpAny _ A.in1.in1 (Builtin.List.listItems (.ref s.heap.objs.size) >>= fun old=>Builtin.List.listUpdate (.ref s.heap.objs.size) (fun _=> #[]) >>= fun _=>letGo old.toList.reverse >>= fun _=>Builtin.List.listExtendWith (.ref s.heap.objs.size) (.ref d) .none) _ _ _;refine wpAny_bind ?_;unfold Builtin.List.listItems;refine wpAny_bind (wpAny_seqItems hS rfl (wpAny_pure ?_));show wpAny _ A.in1.in1 (updateSeq s.heap.objs.size (fun _=> #[]) >>= fun _=>letGo (#[]:Array Value).toList.reverse >>= fun _=>Builtin.List.listExtendWith (.ref s.heap.objs.size) (.ref d) .none) _ _ _;have u1:=Heap.get?_update_self (Obj.mapSeq (fun _=>(#[]:Array Value))) hS rfl;have kp:∀b o,b≠s.heap.objs.size->(s.heap.push { cls:= .type "list",data:= .seq #[] }).get? b=some o->((s.heap.push { cls:= .type "list",data:= .seq #[] }).update s.heap.objs.size (Obj.mapSeq (fun _=>(#[]:Array Value)))).get? b=some o:=fun b o hb e=>(Heap.get?_update_other _ _ (Ne.symm hb)).trans e;refine wpAny_bind (wpAny_updateSeq hS rfl (wpAny_bind (wpAny_letGo ?_)));refine OD (A:=A.in1) hh (hm1.at' fun o e=>kp d o (Ne.symm hdS) e) hd0 _ hdS _ u1 hn fun h' tk acc c kk hS' hacc=> ?_;exact⟨rfl,k h' tk acc c (fun b o e=>kk b o (Nat.ne_of_lt (Heap.lt_size e)) (kp b o (Nat.ne_of_lt (Heap.lt_size e)) (Heap.get?_push_of_some _ e))) hS' hacc⟩
end
section
variable {X:Cx}
def TZ:List V->Hp->VK->Prop:=fun xs H Q=>∃p kvs,xs=[.ref p]/\Rd H p (.dK kvs)/\∀l,H l=none->Q (.ref l) (upd H l (.lst (kvs.map fun e=>kV e.1)))
theorem JN {P:Program}{w:World}{kvs:List (Key×V)}{rs:List (Key×Value)} (r:KV kvs rs) {acc:Array Value} (h:ItemsOf (fun i v=>∃k x,rs[i]? =some (k,x)/\(cH P w).is k v=true) acc rs.length):Vals (kvs.map fun e=>kV e.1) acc.toList:=by
 have e0:acc.toList.length=rs.length:=by rw[Array.length_toList];exact h.1
 refine MX (by rw[List.length_map,e0];exact r.length) fun i x u h1 h2=> ?_;obtain⟨k,y,e1,e2⟩:=h.2 i u (by simpa using h2);rw[List.getElem?_map]at h1;obtain⟨e,he,rfl⟩:=Option.map_eq_some_iff.mp h1;have hi:i<kvs.length:=(List.getElem?_eq_some_iff.mp he).1;obtain⟨k',v',u',f1,f2,f3⟩:=LM r hi;rw[he]at f1;cases f1;rw[e1]at f2;cases f2;exact F0 e2
theorem FC (hc:X.calm=true):fK X (.type "list") TZ:=by
 intro pins s σ H xs us Q I r h;obtain⟨p,kvs,rfl,hq,q⟩:=h;obtain⟨u,rfl,rx⟩:=qH r;cases rx;obtain⟨z,y,rs,kv,o,es,ep,h1,h2,h3,h4,h5,h6⟩:=r9 I.hok hq;have hl:=kv.length;refine UN (knd:=cH X.prog X.w) (ps:=rs) (ep:=ep) (I.ok.hd hc) ⟨o,es,h1,h2,h3,h4,h5,h6⟩ y (by omega) fun h' tk acc c kp hS hacc=> ?_;exact⟨.ref _,_,I.laid (t':=tk) kp (Nat.le_refl _) (show ObjOk X.prog X.w _ h' _ (.lst (kvs.map fun e=>kV e.1)) from⟨by rw[List.length_map];exact z,acc.toList,c,JN kv hacc,by rw[Array.toArray_toList];exact hS⟩),rfl,q _ (I.hok.fresh (Nat.le_refl _))⟩
end
end L2
namespace L2
open PySem PySem.W PyProof.Rows
section
variable {X:Cx}
end
end L2
namespace L2
open PySem PySem.W PyProof.Rows
section
variable {X:Cx}{pins:List (Addr×Obj)}{σ:St}{H:Hp}{s:Shared}{h':Heap}
end
section
variable {X:Cx}
end
end L2
namespace L2
open PySem PySem.W PyProof.Rows
def aCT (σ:St)(tv:TE)(rd:V->V->Hp->VK->Prop)(nx:St->Hp->Prop)(x:V):VK:=fun y H2=>∃a v,x= .ref a/\DGet H2 a y (some v)/\tv σ H2 fun y2 H3=>rd v y2 H3 fun z H4=>∃H5,DPut H4 a y z H5/\nx σ H5
def aEe (σ:St)(p:Addr)(k:V)(nx:St->Hp->Prop):VK:=fun z H4=>∃H5,DPut H4 p k z H5/\nx σ H5
section
variable {K:PySem.W.Frag}{H:Hp}{Q:VK}{σ:St}{nx:St->Hp->Prop}{td ty tv:TE}{rd:V->V->Hp->VK->Prop}{rt:VK}{bk ct:St->Hp->Prop}{R:It->Hp->Prop}
theorem aAV (h:td σ H fun x H1=>ty σ H1 (aCT σ tv rd nx x)):ZN td ty tv rd ⟨nx,rt,bk,ct⟩ σ H:=h
theorem W7 {p:Addr}{z:Str}{kvs:List (Key×V)}{v:V} (e:Rd H p (.dK kvs)) (hv:bD kvs (.inr z)=some v) (h:tv σ H fun y2 H3=>rd v y2 H3 (aEe σ p (.str z) nx)):aCT σ tv rd nx (.ref p) (.str z) H:=⟨p,v,rfl,.inl ⟨kvs,.inr z,e,rfl,hv.symm⟩,h⟩
theorem aAK {p:Addr}{z:Str}{kvs:List (Key×V)}{v:V} (e:H p=some (.dK kvs)) (hl:kvs.length<sizeLine) (h:∀H',SameBut p H H'->H' p=some (.dK (cP kvs (.inr z) v))->nx σ H'):aEe σ p (.str z) nx v H:=⟨_,DPut.k (k:= .inr z) e hl,h _ SameBut.upd bJ⟩
theorem K7 {p:Addr}{kvs:List (Key×V)} (e:Rd H p (.dK kvs)) (h:∀l H',H l=none->Same H H'->H' l=some (.lst (kvs.map fun e=>kV e.1))->Q (.ref l) H'):TZ [.ref p] H Q:=⟨p,kvs,rfl,e,fJ h⟩
theorem V7 {l b:Addr}{xs zs:List V} (e:H l=some (.lst xs)) (e2:H b=some (.lst zs)) (hz:xs.length+zs.length<=sizeLine) (h:∀H',SameBut l H H'->H' l=some (.lst (xs++zs))->Q .non H'):PX (.ref l) [.ref b] H Q:=⟨l,b,xs,zs,rfl,rfl,e,e2,hz,h _ SameBut.upd bJ⟩
end
def cC (ps:List (Str×Int))(z:Str):Int:=((ps.filter fun p=>decide (p.1=z)).map (·.2)).sum
theorem T3 (ps:List (Str×Int))(p:Str×Int)(z:Str):cC (ps++[p]) z=cC ps z+if p.1=z then p.2 else 0:=by
 unfold cC;rw[List.filter_append,List.map_append,List.sum_append]
 congr 1
 by_cases h:p.1=z
 ·rw[if_pos h];simp[h]
 ·rw[if_neg h];simp[h]
end L2
namespace L2
open PySem PySem.W PyProof.Rows
theorem UG {te:TE}{σ:St}{ci:List Nat}{rest:St}{fin:List V->Hp->Prop}{H:Hp}{lo:Int}{n:Nat} (P:Nat->V->Hp->Prop) (hm:∀x y H1 H2,P x y H1->Same H1 H2->P x y H2) (hn:n<=sizeLine) (hr:ci.map (fun i=>(σ[i]?).join)=rest)
  (he:∀(i:Nat) H1,i<n->Same H H1->∀R:VK,(∀y H2,P i y H2->Same H1 H2->R y H2)->te (some (.int (lo+i))::rest) H1 R)
  (hf:∀ys H1,Same H H1->Paired (fun x y=>P x y H1) (List.range n) ys->fin ys H1):eJ (Itr lo n) (cF 0) CJ te (cN 1 ci σ) fin H:=by
 rw[zQ hr];refine l6 (List.range n) (fun _=>true) P hm (by rw[List.length_range];exact hn) (fun i H1 s hi=>by rw[List.length_range]at hi;exact hi) (fun H1 s=>by rw[List.length_range];exact Nat.le_refl _) (fun i x H1 hx s1 v H' y=> ?_) (fun ys H1 s1 h=>hf ys H1 s1 (by rw[fM]at h;exact h));obtain⟨rfl,rfl⟩:=y;obtain⟨hi,e⟩:=List.getElem?_eq_some_iff.mp hx;rw[List.length_range]at hi;rw[List.getElem_range]at e;subst e;refine⟨Same.refl _,some (.int (lo+(i:Nat)))::rest,rfl,fun j v hv=> ?_,fun R h=>h,fun R h=>h _ (Same.refl _),fun hc H2 s2 R h=>he i H2 hi (s1.trans s2) R h⟩;cases j with
 | zero=>cases hv
 | succ j=>exact hv
end L2
namespace L2
open PySem PySem.W PyProof.Rows PySem.Calls
section
variable {prog:Program}{w:World}{A:Around}{E:Value->Shared->Prop}{s:Shared}{d v:Addr}{o:Obj}{es:Array DictEntry}{ep:Nat}
end
section
variable {X:Cx}
theorem L6 {K:PySem.W.Frag}(h:X.K=K:=by rfl):IxR X (GM K):=by subst h;exact b9
end
section
variable {K:PySem.W.Frag}{H:Hp}{Q:VK}{σ:St}{td:TE}
end
end L2
namespace L2
open PySem PySem.W PyProof.Rows
section
variable {X:Cx}
end
def aDB (K:PySem.W.Frag):R2:=fun x y H Q=>∃a b xs,x= .ref a/\y= .ref b/\SqL K H a xs/\SqL K H b []/\Q (.bl xs.isEmpty) H
theorem aEa {X:Cx}(hu:X.A.units<cLine):OpR X (compareOp .Eq) (aDB X.K):=by
 intro pins s σ H x y v u Q I rx ry h;obtain⟨a,b,xs,rfl,rfl,ha,hb,q⟩:=h;cases rx;cases ry;obtain⟨its,r,pl,hz⟩:=I.list ha;obtain⟨its2,r2,pl2,_⟩:=I.list hb;cases r2;cases xs with
 | nil=>cases r;exact SeqAt.RcAt.lists (e:=fun _=>true) pl.isList pl2.isList rfl hu (fun j h1=>absurd h1 (Nat.not_lt_zero _)) X.prog X.w X.xe _ ⟨.bl true,H,I,rfl,q⟩
 | cons x xs=>cases r with|cons r1 r2=>exact SeqAt.RcAt.lists_lengths pl.isList pl2.isList (by simp) hu X.prog X.w X.xe _ ⟨.bl false,H,I,rfl,q⟩
theorem aDs {K:PySem.W.Frag}{H:Hp}{Q:VK}{a b:Addr}{xs:List V} (ha:SqL K H a xs) (hb:SqL K H b []) (h:Q (.bl xs.isEmpty) H):aDB K (.ref a) (.ref b) H Q:=⟨a,b,xs,rfl,rfl,ha,hb,h⟩
section
variable {X:Cx}{P:Program}{w:World}{K:PySem.W.Frag}{mg:Str->Option Value}{base:Heap}{k':Nat}{o e:Expr}{es:List Expr}{m:Str}{ta:TE}{t:TA}{apos pos:Pos}
theorem vZ (k:Nat){pl:Sem Bool}(hr:Room k' X.A)(ho:PE X o ta)(ha:PA X (e::es) t)(hk:k<=k':=by decide)(hst:starEach (e::es) X.env=(false,eval e X.env)::starEach es X.env:=by rfl)(hpl:(backTo pos (starEach es X.env)).any (·.1)=false:=by rfl)
  (ht:eval (.Call (.Attribute o m apos) (e::es) [] pos) X.env=(do let ov ←eval o X.env;standAt apos.atName;let (f,first) ←holding [ov] (getMethod ov m pl);callWith pos f first (backTo pos (starEach (e::es) X.env)) (backToKw pos (keywordEach [] X.env))):=by rfl)
  (h1:X.prog=P:=by rfl)(h2:X.w=w:=by rfl)(h3:X.K=K:=by rfl)(h4:X.mg=mg:=by rfl)(h5:X.base=base:=by rfl):PE X (.Call (.Attribute o m apos) (e::es) [] pos) (tMD (fun C sp=>Mc P w K mg base C m k sp) m ta t):=by
 subst h1 h2 h3 h4 h5;exact kU k hr ho ha hk hst hpl ht
theorem aAh (k:Nat){pl:Sem Bool}(hr:Room k' X.A)(ho:PE X o ta)(hk:k<=k':=by decide)
  (ht:eval (.Call (.Attribute o m apos) [] [] pos) X.env=(do let ov ←eval o X.env;standAt apos.atName;let (f,first) ←holding [ov] (getMethod ov m pl);callWith pos f first (backTo pos (starEach [] X.env)) (backToKw pos (keywordEach [] X.env))):=by rfl)
  (h1:X.prog=P:=by rfl)(h2:X.w=w:=by rfl)(h3:X.K=K:=by rfl)(h4:X.mg=mg:=by rfl)(h5:X.base=base:=by rfl):PE X (.Call (.Attribute o m apos) [] [] pos) (tMD (fun C sp=>Mc P w K mg base C m k sp) m ta RT):=by
 subst h1 h2 h3 h4 h5;exact kC k hr ho hk ht
end
theorem aDp {v:V}{H:Hp}{Q:VK}{a0 a1 a2 a3 a4 a5 a6 a7 a8 a9 a10 a11 a12:Option V}{l:St} (h:Q v H):i4 13 (a0::a1::a2::a3::a4::a5::a6::a7::a8::a9::a10::a11::a12::some v::l) H Q:=⟨v,rfl,h⟩
theorem aEd {v:V}{H:Hp}{q:St->Hp->Prop}{a0 a1 a2 a3 a4 a5 a6 a7 a8 a9 a10 a11 a12 a:Option V}{l:St} (h:q (a0::a1::a2::a3::a4::a5::a6::a7::a8::a9::a10::a11::a12::some v::l) H):cF 13 v (a0::a1::a2::a3::a4::a5::a6::a7::a8::a9::a10::a11::a12::a::l) H q:=h
theorem aCI {v:V}{H:Hp}{Q:VK}{a0 a1 a2 a3 a4 a5 a6 a7 a8 a9 a10 a11 a12 a13:Option V}{l:St} (h:Q v H):i4 14 (a0::a1::a2::a3::a4::a5::a6::a7::a8::a9::a10::a11::a12::a13::some v::l) H Q:=⟨v,rfl,h⟩
theorem aDu {v:V}{H:Hp}{q:St->Hp->Prop}{a0 a1 a2 a3 a4 a5 a6 a7 a8 a9 a10 a11 a12 a13 a:Option V}{l:St} (h:q (a0::a1::a2::a3::a4::a5::a6::a7::a8::a9::a10::a11::a12::a13::some v::l) H):cF 14 v (a0::a1::a2::a3::a4::a5::a6::a7::a8::a9::a10::a11::a12::a13::a::l) H q:=h
theorem aDm {v:V}{H:Hp}{Q:VK}{a0 a1 a2 a3 a4 a5 a6 a7 a8 a9 a10 a11 a12 a13 a14:Option V}{l:St} (h:Q v H):i4 15 (a0::a1::a2::a3::a4::a5::a6::a7::a8::a9::a10::a11::a12::a13::a14::some v::l) H Q:=⟨v,rfl,h⟩
theorem aCH {v:V}{H:Hp}{q:St->Hp->Prop}{a0 a1 a2 a3 a4 a5 a6 a7 a8 a9 a10 a11 a12 a13 a14 a:Option V}{l:St} (h:q (a0::a1::a2::a3::a4::a5::a6::a7::a8::a9::a10::a11::a12::a13::a14::some v::l) H):cF 15 v (a0::a1::a2::a3::a4::a5::a6::a7::a8::a9::a10::a11::a12::a13::a14::a::l) H q:=h
end L2
namespace L2
open PySem PySem.W PyProof.Rows
theorem Room.units9 {k:Nat}{A:Around} (r:Room k A):A.units+9<cLine:=by have:=r.un;have:cLine=9900:=rfl;omega
section
variable {X:Cx}{pins:List (Addr×Obj)}{σ:St}{H:Hp}{s:Shared}
end
section
variable {X:Cx}
end
section
variable {K:PySem.W.Frag}{H H':Hp}{Q:VK}
end
section
variable {H:Hp}{Q:VK}{σ:St}{ty tx:TE}
end
end L2
namespace L2
open PySem PySem.W PyProof.Rows
section
variable {H:Hp}{Q:VK}
theorem AT {p b:Addr}{kvs:List (List Key×V)} (k:List Key) (e:H p=some (.dT kvs)) (eb:H b=some (.tup (k.map kV))) (h:Q (.bl (bD kvs k).isSome) H):YD Q (.ref b) (.ref p) H:=⟨p,_,rfl,DGet.t e eb,h⟩
theorem QI {p b:Addr}{kvs:List (List Key×V)} (k:List Key) (e:H p=some (.dT kvs)) (eb:H b=some (.tup (k.map kV))) (h:Q (.bl (!(bD kvs k).isSome)) H):GH Q (.ref b) (.ref p) H:=⟨p,_,rfl,DGet.t e eb,h⟩
theorem aCl {f:Int->Int->Int}{i j:Int} (h:Q (.int (f i j)) H):ipI f (.int i) (.int j) H Q:=⟨i,j,rfl,rfl,h⟩
end
end L2
namespace L2
open PySem PySem.Spec PyProof.Rows
def SameT (H H':Hp):Prop:=∀b u,H b=some u->(∀ps,u≠ .tbl ps)->H' b=some u
theorem SameT.refl (H:Hp):SameT H H:=fun _ _ e _=>e
theorem Same.t {H H':Hp}(s:Same H H'):SameT H H':=fun b u e _=>s b u e
theorem SameT.trans {H H1 H2:Hp}(s:SameT H H1)(t:SameT H1 H2):SameT H H2:=fun b u e n=>t b u (s b u e n) n
theorem SameT.snoc {H H1 H2:Hp}(s:SameT H H1)(a:Same H1 H2):SameT H H2:=fun b u e n=>a b u (s b u e n)
theorem SameT.seq {K:PySem.W.Frag}{H H':Hp}{a:Addr}{xs:List V} (T:SameT H H') (h:SqL K H a xs):SqL K H' a xs:=by
 rcases h with (h|⟨o,h⟩)|h
 ·exact .inl (.inl (T _ _ h fun ps z=>by cases z))
 ·exact .inl (.inr ⟨o,T _ _ h fun ps z=>by cases z⟩)
 ·exact .inr h
theorem SameT.tup {H H':Hp}{a:Addr}{xs:List V} (T:SameT H H') (h:H a=some (.tup xs)):H' a=some (.tup xs):=T _ _ h fun ps z=>by cases z
theorem SameT.lst {H H':Hp}{a:Addr}{xs:List V} (T:SameT H H') (h:H a=some (.lst xs)):H' a=some (.lst xs):=T _ _ h fun ps z=>by cases z
def TabS (H:Hp)(PL:Addr)(pos:Pos)(qual:Str):Prop:=H PL=some (.tbl #[])∨∃(c':Addr) (oc:Obj) (fv:Array Value) (t:Tok),H PL=some (.tbl #[rawInt pos.line,rawInt pos.col,.ref c'])/\H c'=some (kn oc)/\oc.data= .fields fv/\fv[1]? =some (.str qual t)
theorem TabS.same {H H':Hp}{PL:Addr}{pos:Pos}{qual:Str} (x:TabS H PL pos qual) (s:Same H H'):TabS H' PL pos qual:=by
 rcases x with h|⟨c',oc,fv,t,h1,h2,h3⟩
 ·exact .inl (s _ _ h)
 ·exact .inr ⟨c',oc,fv,t,s _ _ h1,s _ _ h2,h3⟩
section
variable {X:Cx}{args:Arguments}{body:Expr}{lsc:Scope}{pos:Pos}{y:Str}{c cL PL:Addr}
def aEA (qual:Str)(args:Arguments)(body:Expr)(lsc:Scope)(y:Str)(c PL:Addr)(pos:Pos):TE:=fun _ H Q=>TabS H PL pos qual ∧
 ∀F fd H',H F=none->LamAt H' F fd qual args body lsc y c->SameT H H'->TabS H' PL pos qual->Q (.ref F) H'
theorem aAC (hcode:X.env.code= .ref cL)(C:PySem.W.CodeHd X.base cL PL)(B:X.base.BuiltinsAt X.mg PL)(hcl:closureFor lsc X.env=pure [(y,c)])(hdef:defaultsOf args X.env=([],[]):=by rfl) :
  PE X (.Lambda args body lsc pos) (aEA (X.env.qual++ "<lambda>") args body lsc y c PL pos):=by
 intro pins s σ H Q I h;obtain⟨hT,h⟩:=h;refine PySem.W.kla_eval hdef ?_;have hg:s.heap.Ns mainGlobals X.mg:=I.mod.glob.keeps I.bk;obtain⟨bm,ob,b1,b2,b3,b4,b5,b6⟩:=B;rcases hT with hP|⟨c',oc,fv,t,hP,hc',hd,hv⟩
 ·have gP:s.heap.get? PL=some (PySem.W.tabObj #[]):=I.hok PL _ hP;have hgP:mainGlobals≠PL:=fun q=>by
   obtain⟨o,es,ep,e,hd,_⟩:=hg;rw[q,gP]at e;cases e;cases hd
  refine PySem.W.kla_makeFunction (mg:=X.mg) (ps:= #[]) hcl I.ok.glob hg hcode (C.keeps I.bk) gP trivial rfl hgP ⟨bm,ob,b1,b2,b3,b4,I.bk _ _ b5,b6⟩ fun c' ctv h' tk hx hge hlt hrec htb=> ?_;obtain⟨c₂,oc,fv,t,e2,hoc,hd,hv⟩:=hrec;cases e2;have hps:(#[]++ #[rawInt pos.line,rawInt pos.col,Value.ref c']:Array Value)= #[rawInt pos.line,rawInt pos.col,Value.ref c']:=Array.empty_append;rw[hps]at htb;generalize hps2:(#[rawInt pos.line,rawInt pos.col,Value.ref c']:Array Value)=ps' at htb;generalize hoF:PySem.W.kla_obj "<lambda>" (X.env.qual++ "<lambda>") args body lsc [(y,c)] ((X.mg "__name__").getD .none) c' ctv=oF;have pu:∀b o,h'.get? b=some o->(h'.push oF).get? b=some o:=fun b o e=>Heap.get?_push_of_some _ e;have gF:(h'.push oF).get? h'.objs.size=some oF:=Heap.get?_push_size _ (by subst hoF;rfl);have nPc:PL≠c':=Nat.ne_of_lt (Nat.lt_of_lt_of_le (Heap.lt_size gP) hge);have ncF:c'≠h'.objs.size:=Nat.ne_of_lt hlt;have nPF:PL≠h'.objs.size:=Nat.ne_of_lt (Heap.lt_size htb);have ltc:∀b u,H b=some u->b≠c':=fun b u e=>Nat.ne_of_lt (Nat.lt_of_lt_of_le (I.hok.lt e) hge);have ltF:∀b u,H b=some u->b≠h'.objs.size:=fun b u e=>Nat.ne_of_lt (Nat.lt_trans (Nat.lt_of_lt_of_le (I.hok.lt e) hge) hlt);have at0:∀b,b≠PL->b≠c'->b≠h'.objs.size->upd (upd (upd H PL (.tbl ps')) c' (kn oc)) h'.objs.size (kn oF) b=H b:=fun b n1 n2 n3=>by rw[aU n3,aU n2,aU n1]
  have atP:upd (upd (upd H PL (.tbl ps')) c' (kn oc)) h'.objs.size (kn oF) PL=some (.tbl ps'):=by rw[aU nPF,aU nPc,bJ]
  have atc:upd (upd (upd H PL (.tbl ps')) c' (kn oc)) h'.objs.size (kn oF) c'=some (kn oc):=by rw[aU ncF,bJ]
  have atF:upd (upd (upd H PL (.tbl ps')) c' (kn oc)) h'.objs.size (kn oF) h'.objs.size=some (kn oF):=bJ;generalize upd (upd (upd H PL (.tbl ps')) c' (kn oc)) h'.objs.size (kn oF)=H3 at at0 atP atc atF;have keepH:∀b u,H b=some u->(∀ps,u≠ .tbl ps)->H3 b=some u:=fun b u e nt=>by
   rw[at0 b (fun z=>by rw[z,hP]at e;cases e;exact nt _ rfl) (ltc b u e) (ltF b u e)];exact e
  have sz:∀b o,s.heap.get? b=some o->b≠c'/\b≠h'.objs.size:=fun b o e =>
   ⟨Nat.ne_of_lt (Nat.lt_of_lt_of_le (Heap.lt_size e) hge),Nat.ne_of_lt (Nat.lt_trans (Nat.lt_of_lt_of_le (Heap.lt_size e) hge) hlt)⟩
  have nP:∀b,H b=none->b≠PL:=fun b n z=>by rw[z,hP]at n;cases n
  have I':Inv X pins σ H3 { s with heap:=h'.push oF,toks:=tk }:=by
   refine I.un ⟨fun b o e n _ _=>pu b o (hx b o (nP b n) e),fun b o e n _ _=>⟨o.slots,pu b o (hx b o (nP b n) e)⟩,fun b o e n _=> ?_,fun b o e _=> ?_,fun b xs e=>keepH b _ e (fun ps z=>by cases z),fun b o u e=>keepH b _ e (fun ps z=>by cases z),fun b ps e=> ?_⟩ fun b o e=> ?_
   ·rw[at0 b (nP b n) (sz b o e).1 (sz b o e).2];exact n
   ·by_cases hb:b=PL
    ·subst hb;exact⟨_,pu _ _ htb⟩
    ·exact⟨o,pu b o (hx b o hb e)⟩
   ·by_cases hb:b=PL
    ·subst hb;rw[hP]at e;cases e;exact⟨ps',by rw[atP,Array.empty_append]⟩
    ·refine⟨#[],?_⟩;rw[at0 b hb (ltc b _ e) (ltF b _ e),e,Array.append_empty]
   ·by_cases hF:b=h'.objs.size
    ·subst hF;rw[atF]at e;cases e;exact KR gF
    by_cases hc':b=c'
    ·subst hc';rw[atc]at e;cases e;exact KR (pu _ _ hoc)
    by_cases hb:b=PL
    ·subst hb;rw[atP]at e;cases e;exact pu _ _ htb
    rw[at0 b hb hc' hF]at e;refine(I.hok b o e).stay (fun d u hd' q=>pu d u (hx d u ?_ q)) (fun d q=>keepH d _ q fun ps z=>by cases z) fun d xs q=>keepH d _ q fun ps z=>by cases z
    rcases hd' with z|z
    ·rw[z];exact hb
    ·intro z2;rw[z2,hP]at z;cases z
  refine⟨.ref h'.objs.size,H3,I',rfl,h _ _ H3 ?_ ⟨c',_,ctv,oc,fv,t,rfl,by rw[hoF];exact atF,atc,hd,hv⟩ keepH (.inr ⟨c',oc,fv,t,by rw[atP,hps2],atc,hd,hv⟩)⟩;exact I.hok.fresh (Nat.le_trans hge (Nat.le_of_lt hlt))
 ·have gP:s.heap.get? PL=some (PySem.W.tabObj #[rawInt pos.line,rawInt pos.col,.ref c']):=I.hok PL _ hP;refine PySem.W.kla_makeFunctionHit (mg:=X.mg) (ps:= #[rawInt pos.line,rawInt pos.col,.ref c']) (cv:= .ref c') hcl I.ok.glob hg hcode (C.keeps I.bk) gP (by simp[TriplesOk,rawInt]) (by simp[codeAmong,rawInt]) ⟨bm,ob,b1,b2,b3,b4,I.bk _ _ b5,b6⟩ fun ctv h' tk hx hge=> ?_;generalize hoF:PySem.W.kla_obj "<lambda>" (X.env.qual++ "<lambda>") args body lsc [(y,c)] ((X.mg "__name__").getD .none) c' ctv=oF;have hoF':=hoF;unfold PySem.W.kla_obj at hoF';rw[hoF'];have pu:∀b o,h'.get? b=some o->(h'.push oF).get? b=some o:=fun b o e=>Heap.get?_push_of_some _ e;have gF:(h'.push oF).get? h'.objs.size=some oF:=Heap.get?_push_size _ (by subst hoF;rfl);have ltF:∀b u,H b=some u->b≠h'.objs.size:=fun b u e=>Nat.ne_of_lt (Nat.lt_of_lt_of_le (I.hok.lt e) hge);have sF:Same H (upd H h'.objs.size (kn oF)):=fun b u e=>by rw[aU (ltF b u e)];exact e
  have I':Inv X pins σ (upd H h'.objs.size (kn oF)) { s with heap:=h'.push oF,toks:=tk }:=by
   refine I.un ⟨fun b o e n _ _=>pu b o (hx b o e),fun b o e n _ _=>⟨o.slots,pu b o (hx b o e)⟩,fun b o e n _=> ?_,fun b o e _=>⟨o,pu b o (hx b o e)⟩,fun b xs e=>sF _ _ e,fun b o u e=>sF _ _ e,fun b ps e=>⟨#[],by rw[Array.append_empty];exact sF _ _ e⟩⟩ fun b o e=> ?_
   ·rw[aU (Nat.ne_of_lt (Nat.lt_of_lt_of_le (Heap.lt_size e) hge))];exact n
   ·by_cases hF:b=h'.objs.size
    ·subst hF;rw[bJ]at e;cases e;exact KR gF
    ·rw[aU hF]at e;exact(I.hok b o e).stay (fun d u hd' q=>pu d u (hx d u q)) (fun d q=>sF _ _ q) fun d xs q=>sF _ _ q
  refine⟨.ref h'.objs.size,_,I',rfl,h _ _ _ (I.hok.fresh hge) ⟨c',_,ctv,oc,fv,t,rfl,by rw[hoF];exact bJ,sF _ _ hc',hd,hv⟩ (Same.t sF) (.inr ⟨c',oc,fv,t,sF _ _ hP,sF _ _ hc',hd,hv⟩)⟩
end
theorem SZ {α:Type}{J:It}{g:TG}{ti:TT}{te:TE}{σ0:St}{fin:List V->Hp->Prop}{H:Hp} (S:Hp->Hp->Prop) (sr:∀H,S H H) (st:∀H1 H2 H3,S H1 H2->S H2 H3->S H1 H3) (xs:List α) (c:α->Bool) (P:α->V->Hp->Prop) (hm:∀x y H1 H2,P x y H1->S H1 H2->P x y H2) (hn:xs.length<=sizeLine)
  (hgo:∀i H1,S H H1->i<xs.length->J.go i H1)(hst:∀H1,S H H1->J.stop xs.length H1)
  (hb:∀i x H1,xs[i]? =some x->S H H1->∀v H',J.yld i H1 v H'->S H1 H'/\∃σ2:St,σ2.length=σ0.length/\(∀(j:Nat) v,σ0[j]? =some (some v)->σ2[j]? =some (some v))/\(∀R:St->Hp->Prop,R σ2 H'->g v σ0 H' R) ∧
   (∀R:Bool->Hp->Prop,(∀H2,S H' H2->R (c x) H2)->ti σ2 H' R)/\(c x=true->∀H2,S H' H2->∀R:VK,(∀y H3,P x y H3->S H2 H3->R y H3)->te σ2 H2 R))
  (hf:∀ys H1,S H H1->Paired (fun x y=>P x y H1) (xs.filter c) ys->fin ys H1):eJ J g ti te σ0 fin H:=by
 refine⟨fun i m ys H1=>i+m=xs.length/\S H H1/\Paired (fun x y=>P x y H1) ((xs.take i).filter c) ys,⟨xs.length,by omega,sr _,.nil⟩,?_⟩;rintro i m ys H1 ⟨e1,s1,pr⟩;cases m with
 | zero =>
  have ei:i=xs.length:=by omega
  subst ei;rw[List.take_length]at pr;exact .inl ⟨hst H1 s1,hf ys H1 s1 pr⟩
 | succ m =>
  have hi:i<xs.length:=by omega
  refine .inr ⟨hgo i H1 s1 hi,fun v H' y=> ?_⟩;have ex:xs[i]? =some xs[i]:=List.getElem?_eq_getElem hi;have etake:xs.take (i+1)=xs.take i++[xs[i]]:=by rw[List.take_succ,ex];rfl
  have hlen:ys.length<=i:=by
   rw[←Paired.length pr];exact Nat.le_trans (List.length_filter_le _ _) (by rw[List.length_take];omega)
  obtain⟨s2,σ2,l2,c2,hg,ht,he⟩:=hb i xs[i] H1 ex s1 v H' y;refine hg _ ⟨⟨l2,c2⟩,ht _ fun H2 s3=> ?_⟩;have s13:=st _ _ _ s2 s3;cases hc:c xs[i] with
  | true =>
   show te σ2 H2 _;refine he hc H2 s3 _ fun y H3 py s4=>⟨by omega,m,by omega,by omega,st _ _ _ s1 (st _ _ _ s13 s4),?_⟩
   rw[etake,List.filter_append,List.filter_cons_of_pos hc];exact Paired.snoc (Paired.imp' (fun a b h=>hm a b _ _ h (st _ _ _ s13 s4)) pr) py
  | false =>
   show ∃m',_;refine⟨m,by omega,by omega,st _ _ _ s1 s13,?_⟩;rw[etake,List.filter_append,List.filter_cons_of_neg (by rw[hc];exact Bool.false_ne_true),List.filter_nil,List.append_nil];exact Paired.imp' (fun a b h=>hm a b _ _ h s13) pr
section
variable {K:PySem.W.Frag}{ti:TT}{te:TE}{σ:St}{ci:List Nat}{rest:St}{fin:List V->Hp->Prop}{H:Hp}{a:Addr}{α:Type}
theorem aAt {vs:List V}{xs:List α} (S:Hp->Hp->Prop) (sr:∀H,S H H) (st:∀H1 H2 H3,S H1 H2->S H2 H3->S H1 H3) (F:V->α->Prop) (P:α->V->Hp->Prop) (hm:∀x y H1 H2,P x y H1->S H1 H2->P x y H2) (hn:xs.length<=sizeLine) (hr:ci.map (fun i=>(σ[i]?).join)=rest) (hl:∀H1,S H H1->SqL K H1 a vs) (hv:Paired F vs xs)
  (ht:∀v x H1,F v x->x∈xs->S H H1->∀R:Bool->Hp->Prop,(∀H2,S H1 H2->R true H2)->ti (some v::rest) H1 R)
  (he:∀v x H1,F v x->x∈xs->S H H1->∀R:VK,(∀y H2,P x y H2->S H1 H2->R y H2)->te (some v::rest) H1 R)
  (hf:∀ys H1,S H H1->Paired (fun x y=>P x y H1) xs ys->fin ys H1):eJ (Itl K a) (cF 0) ti te (cN 1 ci σ) fin H:=by
 rw[zQ hr];have hlen:vs.length=xs.length:=Paired.length hv;refine SZ S sr st xs (fun _=>true) P hm hn (fun i H1 s hi=>⟨vs,vs[i],hl _ s,List.getElem?_eq_getElem (by omega)⟩) (fun H1 s=>⟨vs,hl _ s,by omega⟩) (fun i x H1 hx s1 v H' y=> ?_) (fun ys H1 s h=>hf ys H1 s (by rw[fM]at h;exact h));obtain⟨rfl,e2⟩:=y;have ev:=e2 vs (hl _ s1);have hF:=Paired.at2 hv ev hx;have hmem:=List.mem_of_getElem? hx;refine⟨sr _,some v::rest,rfl,fun j v hv=> ?_,fun R h=>h,fun R h=>ht v x _ hF hmem s1 R h,fun hc H2 s2 R h=>he v x H2 hF hmem (st _ _ _ s1 s2) R h⟩;cases j with
 | zero=>cases hv
 | succ j=>exact hv
end
end L2
namespace L2
open PySem PySem.W PyProof.Rows
section
variable {X:Cx}{pins:List (Addr×Obj)}{σ:St}{H:Hp}{s:Shared}
end
open Classical in
section
variable {X:Cx}{K:PySem.W.Frag}
open Classical in
open Classical in
open Classical in
end
end L2
namespace L2
open PySem PySem.W PyProof.Rows
section
variable {K:PySem.W.Frag}{ti:TT}{te:TE}{σ:St}{ci:List Nat}{rest:St}{fin:List V->Hp->Prop}{H:Hp}{a:Addr}
theorem aCZ {kvs:List (List Key×V)}{o:Obj} (c:List Key×V->Bool) (P:List Key×V->V->Hp->Prop) (hm:∀x y H1 H2,P x y H1->Same H1 H2->P x y H2) (hk:∀e∈kvs,e.1.length=2) (hn:kvs.length<=sizeLine) (hr:ci.map (fun i=>(σ[i]?).join)=rest) (h0:H a=some (.frz o (.dT kvs)))
  (ht:∀k1 k2 v H1,([k1,k2],v)∈kvs->Same H H1->∀R:Bool->Hp->Prop,(∀H2,Same H1 H2->R (c ([k1,k2],v)) H2)->ti (some (kV k1)::some (kV k2)::rest) H1 R)
  (he:∀k1 k2 v H1,([k1,k2],v)∈kvs->c ([k1,k2],v)=true->Same H H1->∀R:VK,(∀y H2,P ([k1,k2],v) y H2->Same H1 H2->R y H2)->te (some (kV k1)::some (kV k2)::rest) H1 R)
  (hf:∀ys H1,Same H H1->Paired (fun x y=>P x y H1) (kvs.filter c) ys->fin ys H1):eJ (Itq a o kvs) (CZ K 2 (nS (cF 0) (nS (cF 1) GP))) ti te (cN 2 ci σ) fin H:=by
 have e0:cN 2 ci σ=none::none::rest:=QT hr;rw[e0];refine l6 kvs c P hm hn (fun i H1 s hi=>⟨s _ _ h0,hi⟩) (fun H1 s=>⟨s _ _ h0,Nat.le_refl _⟩) (fun i x H1 hx s1 v H' y=> ?_) hf;obtain⟨rfl,k,u,q,e2,rfl,hq⟩:=y;rw[hx]at e2;cases e2;have hmem:=List.mem_of_getElem? hx;have hl2:=hk _ hmem;obtain⟨k1,k2,rfl⟩:∃k1 k2,k=[k1,k2]:=by
  match k,hl2 with
  | [k1,k2],_=>exact⟨k1,k2,rfl⟩
 refine⟨Same.refl _,some (kV k1)::some (kV k2)::rest,rfl,fun j v hv=> ?_,fun R h=>⟨q,[kV k1,kV k2],rfl,.inl (.inl hq),rfl,kV k1,[kV k2],rfl,kV k2,[],rfl,rfl,h⟩,fun R h=>ht _ _ _ _ hmem s1 R h,fun hc H2 s2 R h=>he _ _ _ H2 hmem hc (s1.trans s2) R h⟩
 match j,hv with
 | 0,hv=>cases hv
 | 1,hv=>cases hv
 | j+2,hv=>exact hv
end
end L2
namespace L2
open PySem PySem.W PyProof.Rows
section
variable {X:Cx}
def TQ:List V->Hp->VK->Prop:=fun xs H Q=>∃p kvs,xs=[.ref p]/\Rd H p (.dK kvs)/\∀l,H l=none->Q (.ref l) (upd H l (.dK kvs))
theorem E4:fK X (.type "dict") TQ:=by
 intro pins s σ H xs us Q I r h;obtain⟨p,kvs,rfl,hq,q⟩:=h;obtain⟨u,rfl,rx⟩:=qH r;cases rx;obtain⟨hz,hS,vs,kv,dd⟩:=r9 I.hok hq;have hl:=kv.length;refine PySem.kt_call_dict hS dd (by omega) fun h' hd' hs'=> ?_;have nm:(s.heap.objs.size==sysModules)=false:=by
  have:=I.big;simp only[beq_eq_false_iff_ne];exact fun z=>by rw[z]at this;exact Nat.lt_irrefl _ this
 have kp:∀b o,s.heap.get? b=some o->h'.get? b=some o:=fun b o e=>hs'.extBut b o (Nat.ne_of_lt (Heap.lt_size e)) (Heap.get?_push_of_some _ e);exact⟨.ref _,_,I.laid (t':=s.toks) kp (Nat.le_refl _) (L3 hz nm kv hd'),rfl,q _ (I.hok.fresh (Nat.le_refl _))⟩
theorem L9 {H:Hp}{Q:VK}{p:Addr}{kvs:List (Key×V)} (e:Rd H p (.dK kvs)) (h:∀l H',H l=none->Same H H'->H' l=some (.dK kvs)->Q (.ref l) H'):TQ [.ref p] H Q:=⟨p,kvs,rfl,e,fJ h⟩
end
end L2
namespace L2
def aDP {α:Type}:Nat->(List α->Prop)->Prop
 | 0,p=>p []
 | n+1,p=>∀a,aDP n (fun l=>p (a::l))
theorem aL {α:Type}:∀(n:Nat) (p:List α->Prop),aDP n p->∀us:List α,us.length=n->p us
 | 0,_,h,[],_=>h
 | n+1,_,h,a::us,e=>aL n _ (h a) us (by simpa using e)
 | 0,_,_,_::_,e=>by simp at e
 | _+1,_,_,[],e=>by simp at e
end L2
namespace Prf
open PySem L2
set_option hygiene false
local macro_rules| `(tactic| walk_at"fs")=> `(tactic| exact⟨rfl,rfl,rfl,by decide +kernel,rfl,by decide +kernel,by decide +kernel⟩)
local macro_rules| `(tactic| walk_at"hu")=> `(tactic| (have hu0:=Room.units0 hr;have hu1:=Room.units1 hr;have hu9:=Room.units9 hr))
set_option hygiene true
def top (i:Nat):Stmt:=PySem.Challenge.pw_firstout_k34_whole_no_plan_passes_a_cut.main.body.getD i (.Pass ⟨0,0,0,0⟩)
abbrev sQ:Stmt:=top 0
abbrev eW:Stmt:=top 2
theorem sc_found_beyond:aS ["house","kept"] ["house","kept"] (aD eW):=by walk_at"fs"
abbrev mF:Stmt:=top 3
theorem sc_let_in:aS ["house","kept","room","turn","starts"] ["house","kept","room","turn"] (aD mF):=by walk_at"fs"
abbrev eR:Stmt:=top 4
theorem sc_going_beyond:aS ["house","kept","room","turn"] ["house","kept","room","turn"] (aD eR):=by walk_at"fs"
abbrev kP:Stmt:=top 5
theorem sc_let_out:aS ["house","kept","turn","doors","exits"] ["house","kept","turn"] (aD kP):=by walk_at"fs"
abbrev oM:Stmt:=top 6
theorem sc_bound:aS ["house","cut","turn","kept","room","at","number"] ["house","cut","turn"] (aD oM):=by walk_at"fs"
abbrev jD:Stmt:=top 16
theorem sc_is_whole:aS ["thing"] ["thing"] (aD jD):=by walk_at"fs"
abbrev kT:Stmt:=top 19
theorem sc_is_name:aS ["thing"] ["thing"] (aD kT):=by walk_at"fs"
abbrev iL:Stmt:=top 20
theorem sc_need_name:aS ["part","thing"] ["part","thing"] (aD iL):=by walk_at"fs"
abbrev gJ:Stmt:=top 21
theorem sc_need_whole:aS ["part","thing","least"] ["part","thing","least"] (aD gJ):=by walk_at"fs"
abbrev cW:Stmt:=bX (top 22) 0
theorem sc_Door___init__:aS ["self","name","start","end","wide"] ["self","name","start","end","wide"] (aD cW):=by walk_at"fs"
abbrev iH:Stmt:=bX (top 22) 1
theorem sc_Door_lets:aS ["self","turn"] ["self","turn"] (aD iH):=by walk_at"fs"
abbrev eU:Stmt:=bX (top 22) 2
theorem sc_Door_is_exit:aS ["self"] ["self"] (aD eU):=by walk_at"fs"
abbrev iZ:Stmt:=bX (top 22) 3
abbrev dJ:Stmt:=bX (top 23) 0
theorem sc_Since___init__:aS ["self","name","start","end","wide","since"] ["self","name","start","end","wide","since"] (aD dJ):=by walk_at"fs"
abbrev g7:Stmt:=bX (top 23) 1
theorem sc_Since_lets:aS ["self","turn"] ["self","turn"] (aD g7):=by walk_at"fs"
abbrev hZ:Stmt:=bX (top 23) 2
abbrev dN:Stmt:=bX (top 24) 0
theorem sc_Until___init__:aS ["self","name","start","end","wide","until"] ["self","name","start","end","wide","until"] (aD dN):=by walk_at"fs"
abbrev gM:Stmt:=bX (top 24) 1
theorem sc_Until_lets:aS ["self","turn"] ["self","turn"] (aD gM):=by walk_at"fs"
abbrev hU:Stmt:=bX (top 24) 2
abbrev dD:Stmt:=bX (top 25) 0
theorem sc_Beat___init__:aS ["self","name","start","end","wide","every","since"] ["self","name","start","end","wide","every","since"] (aD dD):=by walk_at"fs"
abbrev iF:Stmt:=bX (top 25) 1
theorem sc_Beat_lets:aS ["self","turn","waited"] ["self","turn"] (aD iF):=by walk_at"fs"
abbrev iV:Stmt:=bX (top 25) 2
abbrev c7:Stmt:=bX (top 26) 0
theorem sc_Marked___init__:aS ["self","name","start","end","wide","bits"] ["self","name","start","end","wide","bits"] (aD c7):=by walk_at"fs"
abbrev fO:Stmt:=bX (top 26) 1
theorem sc_Marked_lets:aS ["self","turn"] ["self","turn"] (aD fO):=by walk_at"fs"
abbrev gB:Stmt:=bX (top 26) 2
abbrev d3:Stmt:=bX (top 27) 0
theorem sc_Told___init__:aS ["self","name","start","end","letting"] ["self","name","start","end","letting"] (aD d3):=by walk_at"fs"
abbrev iG:Stmt:=bX (top 27) 1
theorem sc_Told_lets:aS ["self","turn","letting"] ["self","turn"] (aD iG):=by walk_at"fs"
abbrev iT:Stmt:=bX (top 27) 2
abbrev g9:Stmt:=top 29
theorem sc_need_turns:aS ["first","last"] ["first","last"] (aD g9):=by walk_at"fs"
abbrev dO:Stmt:=top 30
theorem sc_need_each_once:aS ["names","seen","name"] ["names"] (aD dO):=by walk_at"fs"
abbrev dC:Stmt:=top 31
theorem sc_rooms_spoken_of:aS ["doors","people","names","door"] ["doors","people"] (aD dC):=by walk_at"fs"
abbrev gU:Stmt:=top 32
theorem sc_need_rooms:aS ["names","sizes","name"] ["names","sizes"] (aD gU):=by walk_at"fs"
abbrev eT:Stmt:=top 33
theorem sc_added_people:aS ["sizes","people","inside","room","number"] ["sizes","people"] (aD eT):=by walk_at"fs"
abbrev gO:Stmt:=top 34
theorem sc_need_space:aS ["sizes","people","inside"] ["sizes","people"] (aD gO):=by walk_at"fs"
abbrev cY:Stmt:=bX (top 35) 0
theorem sc_House___init__:aS ["self","rooms","doors","people","last","first","sizes","door"] ["self","rooms","doors","people","last","first"] (aD cY):=by walk_at"fs"
abbrev fV:Stmt:=bX (top 35) 1
theorem sc_House_rooms:aS ["self"] ["self"] (aD fV):=by walk_at"fs"
abbrev fX:Stmt:=bX (top 35) 2
theorem sc_House_doors:aS ["self"] ["self"] (aD fX):=by walk_at"fs"
abbrev c9:Stmt:=bX (top 35) 3
theorem sc_House_need_room:aS ["self","room"] ["self","room"] (aD c9):=by walk_at"fs"
abbrev fR:Stmt:=bX (top 35) 4
theorem sc_House_holds:aS ["self","room"] ["self","room"] (aD fR):=by walk_at"fs"
abbrev fQ:Stmt:=bX (top 35) 5
theorem sc_House_found:aS ["self","room"] ["self","room"] (aD fQ):=by walk_at"fs"
abbrev gT:Stmt:=bX (top 35) 6
theorem sc_House_into:aS ["self","room"] ["self","room"] (aD gT):=by walk_at"fs"
abbrev d8:Stmt:=bX (top 35) 7
abbrev gZ:Stmt:=bX (top 35) 8
theorem sc_House_door:aS ["self","name"] ["self","name"] (aD gZ):=by walk_at"fs"
abbrev g8:Stmt:=bX (top 35) 9
theorem sc_House_lets:aS ["self","name","turn","door"] ["self","name","turn"] (aD g8):=by walk_at"fs"
abbrev h9:Stmt:=bX (top 35) 10
abbrev fU:Stmt:=bX (top 35) 11
theorem sc_House_pairs:aS ["self","pairs","turn"] ["self"] (aD fU):=by walk_at"fs"
abbrev jE:Stmt:=top 37
theorem sc_added_up:aS ["plan","going","turn","name","number"] ["plan"] (aD jE):=by walk_at"fs"
abbrev c8:Stmt:=top 38
theorem sc_rows_that_count:aS ["house","plan","doors"] ["house","plan"] (aD c8):=by walk_at"fs"
abbrev kF:Stmt:=top 39
theorem sc_leaving:aS ["house","plan","numbers","turn","name","number","pair"] ["house","plan"] (aD kF):=by walk_at"fs"
abbrev mD:Stmt:=top 40
theorem sc_coming:aS ["house","plan","numbers","turn","name","number","door","pair"] ["house","plan"] (aD mD):=by walk_at"fs"
abbrev oX:Stmt:=top 41
theorem sc_there:aS ["house","plan","leave","come","inside","room","turn","before"] ["house","plan"] (aD oX):=by walk_at"fs"
abbrev eQ:Stmt:=top 42
theorem sc_most_through:aS ["house","turn","name"] ["house","turn","name"] (aD eQ):=by walk_at"fs"
abbrev fT:Stmt:=top 43
theorem sc_door_faults:aS ["house","plan","going"] ["house","plan"] (aD fT):=by walk_at"fs"
abbrev eO:Stmt:=top 44
theorem sc_leave_faults:aS ["house","plan","inside","leave","below_last"] ["house","plan","inside"] (aD eO):=by walk_at"fs"
abbrev fW:Stmt:=top 45
theorem sc_full_faults:aS ["house","inside"] ["house","inside"] (aD fW):=by walk_at"fs"
abbrev l8:Stmt:=top 46
theorem sc_faults:aS ["house","plan","inside"] ["house","plan"] (aD l8):=by walk_at"fs"
abbrev eX:Stmt:=top 48
theorem sc__law_cell_at:aS ["_law_script","_law_k"] ["_law_script","_law_k"] (aD eX):=by walk_at"fs"
abbrev gK:Stmt:=top 49
theorem sc__law_mixed:aS ["_law_cell","_law_k","_law_number"] ["_law_cell","_law_k"] (aD gK):=by walk_at"fs"
abbrev iK:Stmt:=top 50
theorem sc__law_name:aS ["_law_cell","_law_k","_law_number","_law_word"] ["_law_cell","_law_k"] (aD iK):=by walk_at"fs"
abbrev gW:Stmt:=top 51
theorem sc__law_rooms:aS ["_law_cells","_law_rooms_here","_law_k","_law_number","_law_holds","_law_found"] ["_law_cells"] (aD gW):=by walk_at"fs"
abbrev iE:Stmt:=top 52
theorem sc__law_spec:aS ["_law_cell","_law_k","_law_rooms_here","_law_turns","_law_number","_law_wide","_law_start","_law_end","_law_kind","_law_first","_law_more"] ["_law_cell","_law_k","_law_rooms_here","_law_turns"] (aD iE):=by walk_at"fs"
abbrev iM:Stmt:=top 53
theorem sc__law_lets:aS ["_law_spec_here","_law_turn","_law_kind","_law_wide","_law_first","_law_more"] ["_law_spec_here","_law_turn"] (aD iM):=by walk_at"fs"
abbrev dZ:Stmt:=top 54
theorem sc__law_door:aS ["_law_spec_here","_law_name_here","_law_start","_law_end","_law_kind","_law_wide","_law_first","_law_more"] ["_law_spec_here"] (aD dZ):=by walk_at"fs"
abbrev fN:Stmt:=top 55
theorem sc__law_digits:aS ["_law_cell","_law_bases","_law_found","_law_base"] ["_law_cell","_law_bases"] (aD fN):=by walk_at"fs"
abbrev dB:Stmt:=top 56
theorem sc__law_rooms_told:aS ["_law_cells","_law_numbers","_law_rooms_here","_law_k"] ["_law_cells"] (aD dB):=by walk_at"fs"
abbrev dH:Stmt:=top 57
theorem sc__law_spec_told:aS ["_law_cell","_law_k","_law_rooms_here","_law_turns","_law_many","_law_kind","_law_start","_law_end","_law_wide","_law_first","_law_more","_law_into"] ["_law_cell","_law_k","_law_rooms_here","_law_turns"] (aD dH):=by walk_at"fs"
abbrev dA:Stmt:=top 58
theorem sc__law_drawn_told:aS ["_law_script","_law_cells","_law_rooms_here","_law_more","_law_first","_law_turns","_law_specs"] ["_law_script"] (aD dA):=by walk_at"fs"
abbrev gX:Stmt:=top 59
theorem sc__law_drawn:aS ["_law_script","_law_cells","_law_rooms_here","_law_first","_law_turns","_law_specs"] ["_law_script"] (aD gX):=by walk_at"fs"
abbrev g6:Stmt:=top 60
theorem sc__law_house:aS ["_law_rooms_here","_law_specs","_law_turns","_law_people","_law_doors"] ["_law_rooms_here","_law_specs","_law_turns"] (aD g6):=by walk_at"fs"
abbrev dL:Stmt:=top 61
theorem sc__law_told_turn:aS ["_law_cell","_law_standing","_law_specs","_law_turn","_law_stay","_law_moves","_law_spec_here","_law_most","_law_number"] ["_law_cell","_law_standing","_law_specs","_law_turn"] (aD dL):=by walk_at"fs"
abbrev dI:Stmt:=top 62
theorem sc__law_told_plan:aS ["_law_cell","_law_rooms_here","_law_specs","_law_turns","_law_standing","_law_room","_law_plan","_law_turn","_law_behind","_law_moves"] ["_law_cell","_law_rooms_here","_law_specs","_law_turns"] (aD dI):=by walk_at"fs"
abbrev d6:Stmt:=top 63
theorem sc__law_any_plan:aS ["_law_cell","_law_rooms_here","_law_specs","_law_turns","_law_standing","_law_holds","_law_room","_law_plan","_law_turn","_law_stay","_law_k","_law_name_here","_law_start","_law_end","_law_most","_law_number"] ["_law_cell","_law_rooms_here","_law_specs","_law_turns"] (aD d6):=by walk_at"fs"
abbrev jG:Stmt:=top 64
theorem sc__law_out:aS ["_law_plan","_law_specs","_law_turn","_law_exits"] ["_law_plan","_law_specs","_law_turn"] (aD jG):=by walk_at"fs"
abbrev jC:Stmt:=top 65
theorem sc__law_cut:aS ["_law_cell","_law_rooms_here","_law_turns","_law_cut_here","_law_bits","_law_turn","_law_k","_law_chosen"] ["_law_cell","_law_rooms_here","_law_turns"] (aD jC):=by walk_at"fs"
abbrev qF:Stmt:=top 66
theorem sc_law:aS ["_law_script","_law_rooms_here","_law_specs","_law_turns","_law_house_here","_law_cells","_law_cuts","_law_cell","_law_plan","_law_turn","_law_out_here","_law_cut_here"] ["_law_script"] (aD qF):=by walk_at"fs"
theorem XW:("" :Str).length=0:=by rw[cQ];rfl
theorem XU:("name" :Str).length=4:=by rw[cQ];rfl
theorem XY:("start" :Str).length=5:=by rw[cQ];rfl
theorem XJ:("wide" :Str).length=4:=by rw[cQ];rfl
theorem XF:("since" :Str).length=5:=by rw[cQ];rfl
theorem X3:("until" :Str).length=5:=by rw[cQ];rfl
theorem XR:("every" :Str).length=5:=by rw[cQ];rfl
theorem YR:("bits" :Str).length=4:=by rw[cQ];rfl
theorem XZ:("the first turn is below 0" :Str).length=25:=by rw[cQ];rfl
theorem YE:("the last turn is below the first one" :Str).length=36:=by rw[cQ];rfl
theorem RO:("a row of people is below 0" :Str).length=26:=by rw[cQ];rfl
theorem QE:("more are in a room than it holds" :Str).length=32:=by rw[cQ];rfl
theorem Q5:("door" :Str).length=4:=by rw[cQ];rfl
theorem RV:("leave" :Str).length=5:=by rw[cQ];rfl
theorem RQ:("full" :Str).length=4:=by rw[cQ];rfl
theorem RC:(" is no name" :Str).length=11:=by rw[cQ];rfl
theorem R7:(" is no whole number from " :Str).length=25:=by rw[cQ];rfl
theorem RG:(" on" :Str).length=3:=by rw[cQ];rfl
theorem QJ:("end" :Str).length=3:=by rw[cQ];rfl
theorem QN:("abcdefghijklmnopqrstuvwxyz" :Str).length=26:=by rw[cQ];rfl
theorem RX:("a" :Str).length=1:=by rw[cQ];rfl
theorem RH:("z" :Str).length=1:=by rw[cQ];rfl
structure DCls (K:W.Frag)(C:Addr):Prop where
 ic:ICls K C
 n_name:NoAttr K C "name"
 n_start:NoAttr K C "start"
 n_end:NoAttr K C "end"
 n_wide:NoAttr K C "wide"
 n_since:NoAttr K C "since"
 n_until:NoAttr K C "until"
 n_every:NoAttr K C "every"
 n_bits:NoAttr K C "bits"
 n_letting:NoAttr K C "letting"
 n_first:NoAttr K C "first"
 n_last:NoAttr K C "last"
 n_sizes:NoAttr K C "sizes"
 n_people:NoAttr K C "people"
 n_named_doors:NoAttr K C "named_doors"
set_option genInjectivity false in
set_option genSizeOfSpec false in
structure M (K:W.Frag)(mg:Str->Option Value) where
 QC:Addr
 QB:FuncData
 aFJ:FunV K "_wall" "_wall" sQ QC QB
 aFG:Binds K QB ["k"] []
 p0:Addr
 pT:FuncData
 k6:FunV K "found_beyond" "found_beyond" eW p0 pT
 G7:Binds K pT ["house","kept"] []
 DP:Addr
 D0:FuncData
 xS:FunV K "let_in" "let_in" mF DP D0
 ZE:Binds K D0 ["house","kept","room","turn"] []
 pJ:Addr
 pU:FuncData
 k4:FunV K "going_beyond" "going_beyond" eR pJ pU
 HP:Binds K pU ["house","kept","room","turn"] []
 zZ:Addr
 z6:FuncData
 u3:FunV K "let_out" "let_out" kP zZ z6
 WL:Binds K z6 ["house","kept","turn"] []
 HJ:Addr
 GV:FuncData
 A5:FunV K "bound" "bound" oM HJ GV
 aB3:Binds K GV ["house","cut","turn"] []
 xW:Addr
 xV:FuncData
 sN:FunV K "is_whole" "is_whole" jD xW xV
 R9:Binds K xV ["thing"] []
 AC:Addr
 AB:FuncData
 u4:FunV K "is_name" "is_name" kT AC AB
 WF:Binds K AB ["thing"] []
 vG:Addr
 vD:FuncData
 jY:FunV K "need_name" "need_name" iL vG vD
 OX:Binds K vD ["part","thing"] []
 t7:Addr
 tT:FuncData
 cT:FunV K "need_whole" "need_whole" gJ t7 tT
 NK:Binds K tT ["part","thing","least"] []
 tW:Addr
 uK:FuncData
 oI:FunV K "need_turns" "need_turns" g9 tW uK
 M6:Binds K uK ["first","last"] []
 mM:Addr
 mS:FuncData
 hJ:FunV K "need_each_once" "need_each_once" dO mM mS
 DV:Binds K mS ["names"] []
 lJ:Addr
 lD:FuncData
 iQ:FunV K "rooms_spoken_of" "rooms_spoken_of" dC lJ lD
 BR:Binds K lD ["doors","people"] []
 tY:Addr
 tP:FuncData
 i7:FunV K "need_rooms" "need_rooms" gU tY tP
 M4:Binds K tP ["names","sizes"] []
 pQ:Addr
 pK:FuncData
 gH:FunV K "added_people" "added_people" eT pQ pK
 G0:Binds K pK ["sizes","people"] []
 t8:Addr
 tX:FuncData
 nZ:FunV K "need_space" "need_space" gO t8 tX
 NW:Binds K tX ["sizes","people"] []
 xQ:Addr
 x0:FuncData
 sP:FunV K "added_up" "added_up" jE xQ x0
 SD:Binds K x0 ["plan"] []
 lH:Addr
 lF:FuncData
 d9:FunV K "rows_that_count" "rows_that_count" c8 lH lF
 BW:Binds K lF ["house","plan"] []
 AE:Addr
 AA:FuncData
 m3:FunV K "leaving" "leaving" kF AE AA
 WK:Binds K AA ["house","plan"] []
 DZ:Addr
 DS:FuncData
 xP:FunV K "coming" "coming" mD DZ DS
 ZB:Binds K DS ["house","plan"] []
 G9:Addr
 G3:FuncData
 A6:FunV K "there" "there" oX G9 G3
 aBX:Binds K G3 ["house","plan"] []
 qE:Addr
 pV:FuncData
 k7:FunV K "most_through" "most_through" eQ qE pV
 GT:Binds K pV ["house","turn","name"] []
 rJ:Addr
 rO:FuncData
 lY:FunV K "door_faults" "door_faults" fT rJ rO
 JZ:Binds K rO ["house","plan"] []
 pZ:Addr
 pW:FuncData
 k5:FunV K "leave_faults" "leave_faults" eO pZ pW
 GW:Binds K pW ["house","plan","inside"] []
 q0:Addr
 rB:FuncData
 lZ:FunV K "full_faults" "full_faults" fW q0 rB
 KD:Binds K rB ["house","inside"] []
 DW:Addr
 DO:FuncData
 xR:FunV K "faults" "faults" l8 DW DO
 ZH:Binds K DO ["house","plan"] []
 pD:Addr
 qD:FuncData
 cS:FunV K "_law_cell_at" "_law_cell_at" eX pD qD
 GR:Binds K qD ["_law_script","_law_k"] []
 tN:Addr
 tZ:FuncData
 cE:FunV K "_law_mixed" "_law_mixed" gK tN tZ
 NZ:Binds K tZ ["_law_cell","_law_k"] []
 vK:Addr
 vF:FuncData
 d0:FunV K "_law_name" "_law_name" iK vK vF
 OU:Binds K vF ["_law_cell","_law_k"] []
 uE:Addr
 uB:FuncData
 oG:FunV K "_law_rooms" "_law_rooms" gW uE uB
 NT:Binds K uB ["_law_cells"] []
 vC:Addr
 vO:FuncData
 qJ:FunV K "_law_spec" "_law_spec" iE vC vO
 OT:Binds K vO ["_law_cell","_law_k","_law_rooms_here","_law_turns"] []
 vB:Addr
 vM:FuncData
 jZ:FunV K "_law_lets" "_law_lets" iM vB vM
 OR:Binds K vM ["_law_spec_here","_law_turn"] []
 vN:Addr
 gA:FuncData
 qK:FunV K "_law_door" "_law_door" dZ vN gA
 OP:Binds K gA ["_law_spec_here"] []
 rL:Addr
 qY:FuncData
 eF:FunV K "_law_digits" "_law_digits" fN rL qY
 JR:Binds K qY ["_law_cell","_law_bases"] []
 lA:Addr
 lI:FuncData
 iR:FunV K "_law_rooms_told" "_law_rooms_told" dB lA lI
 BS:Binds K lI ["_law_cells"] []
 mI:Addr
 mQ:FuncData
 jI:FunV K "_law_spec_told" "_law_spec_told" dH mI mQ
 DN:Binds K mQ ["_law_cell","_law_k","_law_rooms_here","_law_turns"] []
 lB:Addr
 lL:FuncData
 iS:FunV K "_law_drawn_told" "_law_drawn_told" dA lB lL
 BV:Binds K lL ["_law_script"] []
 uM:Addr
 uH:FuncData
 nU:FunV K "_law_drawn" "_law_drawn" gX uM uH
 NQ:Binds K uH ["_law_script"] []
 uD:Addr
 uN:FuncData
 nW:FunV K "_law_house" "_law_house" g6 uD uN
 M9:Binds K uN ["_law_rooms_here","_law_specs","_law_turns"] []
 mN:Addr
 mK:FuncData
 jL:FunV K "_law_told_turn" "_law_told_turn" dL mN mK
 DM:Binds K mK ["_law_cell","_law_standing","_law_specs","_law_turn"] []
 mP:Addr
 mL:FuncData
 jK:FunV K "_law_told_plan" "_law_told_plan" dI mP mL
 DH:Binds K mL ["_law_cell","_law_rooms_here","_law_specs","_law_turns"] []
 oA:Addr
 oH:FuncData
 j7:FunV K "_law_any_plan" "_law_any_plan" d6 oA oH
 FN:Binds K oH ["_law_cell","_law_rooms_here","_law_specs","_law_turns"] []
 xT:Addr
 xY:FuncData
 sM:FunV K "_law_out" "_law_out" jG xT xY
 SK:Binds K xY ["_law_plan","_law_specs","_law_turn"] []
 xZ:Addr
 xU:FuncData
 sK:FunV K "_law_cut" "_law_cut" jC xZ xU
 SL:Binds K xU ["_law_cell","_law_rooms_here","_law_turns"] []
 SJ:Addr
 SH:FuncData
 aFg:FunV K "law" "law" qF SJ SH
 aFK:Binds K SH ["_law_script"] []
 j9:Addr
 iD:FuncData
 nX:FunV K "__init__" "Door.__init__" cW j9 iD
 u5:Binds K iD ["self","name","start","end","wide"] []
 vH:Addr
 vL:FuncData
 O1:FunV K "lets" "Door.lets" iH vH vL
 O3:Binds K vL ["self","turn"] []
 dW:Addr
 pE:FuncData
 GY:FunV K "is_exit" "Door.is_exit" eU dW pE
 gI:Binds K pE ["self"] []
 z7:Addr
 z0:FuncData
 aEq:FunV K "words" "Door.words" iZ z7 z0
 aEl:Binds K z0 ["self"] []
 mR:Addr
 mT:FuncData
 DI:FunV K "__init__" "Since.__init__" dJ mR mT
 DG:Binds K mT ["self","name","start","end","wide","since"] []
 t9:Addr
 uG:FuncData
 NP:FunV K "lets" "Since.lets" g7 t9 uG
 NS:Binds K uG ["self","turn"] []
 yI:Addr
 yJ:FuncData
 aCi:FunV K "words" "Since.words" hZ yI yJ
 aCc:Binds K yJ ["self"] []
 mJ:Addr
 mO:FuncData
 DK:FunV K "__init__" "Until.__init__" dN mJ mO
 DR:Binds K mO ["self","name","start","end","wide","until"] []
 uA:Addr
 tR:FuncData
 NE:FunV K "lets" "Until.lets" gM uA tR
 NB:Binds K tR ["self","turn"] []
 yG:Addr
 yE:FuncData
 aCb:FunV K "words" "Until.words" hU yG yE
 aCf:Binds K yE ["self"] []
 nV:Addr
 j8:FuncData
 FD:FunV K "__init__" "Beat.__init__" dD nV j8
 FJ:Binds K j8 ["self","name","start","end","wide","every","since"] []
 vE:Addr
 vP:FuncData
 OQ:FunV K "lets" "Beat.lets" iF vE vP
 OZ:Binds K vP ["self","turn"] []
 z8:Addr
 AD:FuncData
 aEm:FunV K "words" "Beat.words" iV z8 AD
 aEk:Binds K AD ["self"] []
 lK:Addr
 lG:FuncData
 BY:FunV K "__init__" "Marked.__init__" c7 lK lG
 BU:Binds K lG ["self","name","start","end","wide","bits"] []
 rN:Addr
 rD:FuncData
 KC:FunV K "lets" "Marked.lets" fO rN rD
 JX:Binds K rD ["self","turn"] []
 wE:Addr
 wG:FuncData
 aBU:FunV K "words" "Marked.words" gB wE wG
 aB5:Binds K wG ["self"] []
 oB:Addr
 oE:FuncData
 FI:FunV K "__init__" "Told.__init__" d3 oB oE
 FK:Binds K oE ["self","name","start","end","letting"] []
 vI:Addr
 vJ:FuncData
 OW:FunV K "lets" "Told.lets" iG vI vJ
 O4:Binds K vJ ["self","turn"] []
 AF:Addr
 AG:FuncData
 aEj:FunV K "words" "Told.words" iT AF AG
 aEh:Binds K AG ["self"] []
 mU:Addr
 jJ:FuncData
 DJ:FunV K "__init__" "House.__init__" cY mU jJ
 DX:Binds K jJ ["self","rooms","doors","people","last","first"] []
 rP:Addr
 rG:FuncData
 JW:FunV K "rooms" "House.rooms" fV rP rG
 JS:Binds K rG ["self"] []
 rQ:Addr
 rF:FuncData
 J8:FunV K "doors" "House.doors" fX rQ rF
 JU:Binds K rF ["self"] []
 lC:Addr
 lE:FuncData
 BX:FunV K "need_room" "House.need_room" c9 lC lE
 BO:Binds K lE ["self","room"] []
 rA:Addr
 rM:FuncData
 J7:FunV K "holds" "House.holds" fR rA rM
 KB:Binds K rM ["self","room"] []
 qZ:Addr
 rE:FuncData
 JQ:FunV K "found" "House.found" fQ qZ rE
 JT:Binds K rE ["self","room"] []
 uI:Addr
 uJ:FuncData
 M8:FunV K "into" "House.into" gT uI uJ
 NM:Binds K uJ ["self","room"] []
 rT:Addr
 rU:FuncData
 WP:FunV K "from_room" "House.from_room" d8 rT rU
 WO:Binds K rU ["self","room"] []
 tQ:Addr
 uO:FuncData
 NN:FunV K "door" "House.door" gZ tQ uO
 M5:Binds K uO ["self","name"] []
 tO:Addr
 tV:FuncData
 NR:FunV K "lets" "House.lets" g8 tO tV
 NV:Binds K tV ["self","name","turn"] []
 yH:Addr
 yF:FuncData
 aCa:FunV K "total" "House.total" h9 yH yF
 aCh:Binds K yF ["self"] []
 rR:Addr
 rK:FuncData
 JV:FunV K "pairs" "House.pairs" fU rR rK
 J5:Binds K rK ["self"] []
 aFI:mg "_wall" =some (.ref QC)
 GU:mg "found_beyond" =some (.ref p0)
 ZC:mg "let_in" =some (.ref DP)
 HL:mg "going_beyond" =some (.ref pJ)
 WI:mg "let_out" =some (.ref zZ)
 aBZ:mg "bound" =some (.ref HJ)
 SF:mg "is_whole" =some (.ref xW)
 WN:mg "is_name" =some (.ref AC)
 OV:mg "need_name" =some (.ref vG)
 NY:mg "need_whole" =some (.ref t7)
 NC:mg "need_turns" =some (.ref tW)
 DL:mg "need_each_once" =some (.ref mM)
 BT:mg "rooms_spoken_of" =some (.ref lJ)
 NJ:mg "need_rooms" =some (.ref tY)
 HM:mg "added_people" =some (.ref pQ)
 NH:mg "need_space" =some (.ref t8)
 SM:mg "added_up" =some (.ref xQ)
 B0:mg "rows_that_count" =some (.ref lH)
 WH:mg "leaving" =some (.ref AE)
 Y8:mg "coming" =some (.ref DZ)
 aB8:mg "there" =some (.ref G9)
 G1:mg "most_through" =some (.ref qE)
 J6:mg "door_faults" =some (.ref rJ)
 GS:mg "leave_faults" =some (.ref pZ)
 J4:mg "full_faults" =some (.ref q0)
 Y9:mg "faults" =some (.ref DW)
 GZ:mg "_law_cell_at" =some (.ref pD)
 NU:mg "_law_mixed" =some (.ref tN)
 O2:mg "_law_name" =some (.ref vK)
 NA:mg "_law_rooms" =some (.ref uE)
 OY:mg "_law_spec" =some (.ref vC)
 OS:mg "_law_lets" =some (.ref vB)
 O0:mg "_law_door" =some (.ref vN)
 J9:mg "_law_digits" =some (.ref rL)
 BZ:mg "_law_rooms_told" =some (.ref lA)
 DT:mg "_law_spec_told" =some (.ref mI)
 BQ:mg "_law_drawn_told" =some (.ref lB)
 NG:mg "_law_drawn" =some (.ref uM)
 NX:mg "_law_house" =some (.ref uD)
 D2:mg "_law_told_turn" =some (.ref mN)
 DQ:mg "_law_told_plan" =some (.ref mP)
 FE:mg "_law_any_plan" =some (.ref oA)
 SI:mg "_law_out" =some (.ref xT)
 SO:mg "_law_cut" =some (.ref xZ)
 aFL:mg "law" =some (.ref SJ)
 z9:∃ds,Vals [.int 1] ds/\Binds K iD ["self","name","start","end","wide"] ds
 WC:∃ds,Vals [.non,.int 1] ds/\Binds K iD ["self","name","start","end","wide"] ds
 WD:∃ds,Vals [.int 0] ds/\Binds K j8 ["self","name","start","end","wide","every","since"] ds
 SQ:∃ds,Vals [.int 0] ds/\Binds K jJ ["self","rooms","doors","people","last","first"] ds
 i6:Addr
 ND:mg "Door" =some (.ref i6)
 j4:Addr
 aB2:mg "Since" =some (.ref j4)
 jX:Addr
 aB6:mg "Until" =some (.ref jX)
 lQ:Addr
 aEn:mg "Beat" =some (.ref lQ)
 iO:Addr
 ZJ:mg "Marked" =some (.ref iO)
 lR:Addr
 aEp:mg "Told" =some (.ref lR)
 aR:Addr
 aB9:mg "House" =some (.ref aR)
 R8:Addr
 aFf:mg "OutError" =some (.ref R8)
 ZI:Addr
 aFD:mg "NoDoor" =some (.ref ZI)
 WJ:Addr
 aFk:mg "NoHouse" =some (.ref WJ)
 ZF:Addr
 aFF:mg "NoTurn" =some (.ref ZF)
 aB7:Addr
 aFH:mg "Twice" =some (.ref aB7)
 ZD:Addr
 aFE:mg "NoRoom" =some (.ref ZD)
 WM:Addr
 aFj:mg "Unknown" =some (.ref WM)
 wD:DCls K i6
 aB4:Mk K i6 j9
 NL:dP K i6 "lets" vH
 FG:dP K i6 "is_exit" dW
 aCd:dP K i6 "words" z7
 tU:DCls K j4
 ZA:Mk K j4 mR
 J0:dP K j4 "lets" t9
 aBW:dP K j4 "words" yI
 D1:dP K j4 "is_exit" dW
 uF:DCls K jX
 ZK:Mk K jX mJ
 J3:dP K jX "lets" uA
 aB1:dP K jX "words" yG
 DY:dP K jX "is_exit" dW
 wH:DCls K lQ
 aB0:Mk K lQ nV
 NO:dP K lQ "lets" vE
 aCe:dP K lQ "words" z8
 FM:dP K lQ "is_exit" dW
 qU:DCls K iO
 WG:Mk K iO lK
 HH:dP K iO "lets" rN
 aAb:dP K iO "words" wE
 BP:dP K iO "is_exit" dW
 wF:DCls K lR
 aBV:Mk K lR oB
 M7:dP K lR "lets" vI
 aCg:dP K lR "words" AF
 FF:dP K lR "is_exit" dW
 bL:DCls K aR
 ZG:Mk K aR mU
 G8:dP K aR "rooms" rP
 HQ:dP K aR "doors" rQ
 z4:dP K aR "need_room" lC
 HI:dP K aR "holds" rA
 GX:dP K aR "found" qZ
 JY:dP K aR "into" uI
 WE:dP K aR "from_room" rT
 KF:dP K aR "door" tQ
 KA:dP K aR "lets" tO
 aBY:dP K aR "total" yH
 HK:dP K aR "pairs" rR
 eZ:W.specialIn K (.ref i6) "__getattribute__" =some (some (.builtin "type.__getattribute__"))/\W.readsIn K i6 (.type "type")=true/\W.findCls K (.ref i6) (.type "type") "__init__" =some (.val (.ref j9))
 aEo:mg "ValueError" =none
 FH:mg "sum" =none
 xX:mg "min" =none
 fA:mg "range" =none
 aAc:mg "any" =none
 DU:mg "sorted" =none
 sO:mg "len" =none
 NI:mg "dict" =none
 uL:mg "isinstance" =none
 aFh:mg "int" =none
 aFi:mg "str" =none
 aFe:mg "all" =none
 NF:mg "list" =none
 aEi:mg "bool" =none
 pO:∃t:Tok,mg "LONGEST_NAME" =some (.int 8 t)
theorem gl_ {G:Prop}(h:∀G':Prop,G'=G->G'):G:=h G rfl
set_option hygiene false
local macro_rules| `(tactic| walk_at"g1")=> `(tactic| (refine gl_ ?_;intro G_ hG_))
local macro_rules| `(tactic| walk_at"g2")=> `(tactic| subst hG_)
local macro_rules| `(tactic| walk_at"cx")=> `(tactic| try dsimp only[cxK])
set_option hygiene true
local macro_rules| `(tactic| walk_at"hp")=> `(tactic| first|assumption|(refine' Same.at ?s ?h;(case s=>assumption);(case h=>walk_at"hp"))|(refine' SqL.of ?h;(case h=>walk_at"hp"))|(refine' SqT.of ?h;(case h=>walk_at"hp"))|(refine' Same.seq ?s ?h;(case s=>assumption);(case h=>walk_at"hp"))|(refine' Same.sqT ?s ?h;(case s=>assumption);(case h=>walk_at"hp")))
local macro_rules| `(tactic| walk_at"sm")=> `(tactic| first|assumption|exact Same.refl _|(refine' Same.snoc ?s ?h;(case s=>assumption);(case h=>walk_at"sm")))
local macro_rules| `(tactic| walk_at"sb")=> `(tactic| first|assumption|exact SameBut.refl|(refine' SameBut.snoc ?s ?h;(case s=>assumption);(case h=>walk_at"sb"))|(refine' SameBut.snocS ?s ?h;(case s=>assumption);(case h=>walk_at"sb")))
local macro_rules| `(tactic| walk_at"lk")=> `(tactic| first|assumption|exact aDe|(with_reducible exact aA5)|(refine' aET ?d ?h;(case d=>decide +kernel);(case h=>walk_at"lk")))
local macro_rules| `(tactic| walk_at"sz")=> `(tactic| first|omega|(simp only[vA,FZ,XW,XU,XY,XJ,XF,X3,XR,YR,XZ,YE,RO,QE,Q5,RV,RQ,RC,R7,RG,QJ,QN,RX,RH,sizeLine_eq,List.length_cons,List.length_nil,List.length_append,List.length_map];done)|(simp only[vA,FZ,XW,XU,XY,XJ,XF,X3,XR,YR,XZ,YE,RO,QE,Q5,RV,RQ,RC,R7,RG,QJ,QN,RX,RH,sizeLine_eq,List.length_cons,List.length_nil,List.length_append,List.length_map];omega)|(simp only[vA,FZ,XW,XU,XY,XJ,XF,X3,XR,YR,XZ,YE,RO,QE,Q5,RV,RQ,RC,R7,RG,QJ,QN,RX,RH,sizeLine_eq,List.length_cons,List.length_nil,List.length_append,List.length_map]at *;omega))
local macro_rules| `(tactic| walk_at"sd")=> `(tactic| first|omega|decide|assumption)
local macro_rules| `(tactic| walk_at"dc")=> `(tactic| first|((with_reducible refine ICls.cl (DCls.ic ?_));assumption)|((with_reducible refine DCls.ic ?_);assumption)|((with_reducible refine DCls.n_name ?_);assumption)|((with_reducible refine DCls.n_start ?_);assumption)|((with_reducible refine DCls.n_end ?_);assumption)|((with_reducible refine DCls.n_wide ?_);assumption)|((with_reducible refine DCls.n_since ?_);assumption)|((with_reducible refine DCls.n_until ?_);assumption)|((with_reducible refine DCls.n_every ?_);assumption)|((with_reducible refine DCls.n_bits ?_);assumption)|((with_reducible refine DCls.n_letting ?_);assumption)|((with_reducible refine DCls.n_first ?_);assumption)|((with_reducible refine DCls.n_last ?_);assumption)|((with_reducible refine DCls.n_sizes ?_);assumption)|((with_reducible refine DCls.n_people ?_);assumption)|((with_reducible refine DCls.n_named_doors ?_);assumption))
local macro_rules| `(tactic| walk_at"rd1")=> `(tactic| first|(with_reducible first|refine aD3 ?_|refine aC6 ?_|refine aFv ?_|refine aEP ?_|refine aEJ ?_|refine aEL ?_|refine aEw ?_|refine aEV ?_|refine aEt ?_|refine aE4 ?_|refine aEI ?_|refine aED ?_|refine aEO ?_|refine aEF ?_|refine aCG ?_|refine aC4 ?_|refine aCX ?_|refine aBO ?_|refine aD2 ?_|refine aEx ?_|refine aEE ?_|refine aAW ?_|refine aEN ?_|refine aDR ?_|refine aBM ?_|refine aE9 ?_|refine aD5 ?_|refine aEZ ?_|refine VA ?_|refine V4 ?_|refine aBy ?_|refine aA1 ?_|refine aE8 ?_|refine aFb ?_|refine aES ?_|refine aFd ?_|refine aE7 ?_|refine aEM ?_|refine aFa ?_|refine aEB ?_|refine aEs ?_|refine aEY ?_|refine aCR ?_|refine aDc ?_|refine aD9 ?_|refine aDG ?_|refine aBm ?_|refine aBp ?_|refine rd_retN ?_|refine aDZ ?_|refine aCv ?_|refine aEC ?_|refine rd_andV ?_|refine rd_orV ?_|refine rd_notV ?_|refine aDb ?_|refine YH ?_|refine rd_un ?_|refine rd_U ?_|refine aDD ?_|refine rd_eqB ?_|refine aCt ?_|refine rd_eqSN ?_|refine aBE ?_|refine rd_eqNN ?_|refine rd_neI ?_|refine rd_neB ?_|refine rd_neS ?_|refine rd_neNN ?_|refine aA2 ?_|refine aBR ?_|refine rd_isNI ?_|refine rd_isNR ?_|refine aBs ?_|refine aAM ?_|refine rd_ntNI ?_|refine rd_ntNR ?_|refine aAy ?_|refine rd_ntNV ?_|refine aC5 ?_|refine aCE ?_|refine aBk ?_|refine aA4 ?_|refine aA8 ?_|refine aEv ?_|refine aEK ?_|refine aDM ?_|refine rd_bmS ?_|refine aA9 ?_|refine rd_isiII ?_|refine rd_isiIB ?_|refine rd_isiBB ?_|refine rd_isiBI ?_|refine rd_isiSS ?_|refine rd_isiNS ?_|refine rd_max2 ?_|refine aBu ?_|refine rd_intB ?_|refine rd_intI ?_|refine VP ?_|refine aBt ?_|refine aDj ?_|refine rd_gsub ?_|refine aBI ?_|refine Y2 ?_|refine aDq ?_|refine YQ ?_|refine rd_iTup ?_|refine X6 ?_|refine WR ?_|refine rd_iStr ?_|refine rd_iStrV ?_|refine rd_break ?_|refine rd_cont ?_|refine U4 ?_)|((with_reducible refine' aD1 ?s ?_);(case s=>decide))|((with_reducible refine' aBP ?s ?_);(case s=>walk_at"sd");intro h0' h1')|((with_reducible refine' rd_repL ?e ?a ?b ?s ?_);(case e=>walk_at"hp");(case a=>decide);(case b=>decide);(case s=>first|(simp;done)|(simp[sizeLine_eq];done)|walk_at"sz");intro p' H' n' S' e')|((with_reducible refine' aCP ?s ?r ?_);(case s=>walk_at"sd");(case r=>walk_at"sd"))|((with_reducible refine' aAu ?s ?r ?_);(case s=>walk_at"sd");(case r=>walk_at"sd"))|((with_reducible refine' aBw ?s ?r ?_);(case s=>walk_at"sd");(case r=>walk_at"sd"))|((with_reducible refine' aAU ?s ?_);(case s=>walk_at"sz");intro p' H' n' S' e')|((with_reducible refine' aBf ?s ?_);(case s=>walk_at"sz");intro p' H' n' S' e')|((with_reducible refine aAD ?_);intro p' H' n' S' e')|((with_reducible refine' aBH ?e ?c ?n ?l ?_);(case e=>walk_at"hp");(case c=>walk_at"dc");(case n=>walk_at"dc");(case l=>walk_at"lk"))|((with_reducible refine' WY ?e ?c ?n ?l ?_);(case e=>walk_at"hp");(case c=>walk_at"dc");(case n=>walk_at"dc");(case l=>kernel_rfl);intro H' B' e')|((with_reducible refine' aDE ?e ?l ?F ?_);(case e=>walk_at"hp");(case l=>walk_at"lk");(case F=>assumption))|((with_reducible refine' rd_isiC ?e ?i ?k ?_);(case e=>walk_at"hp");(case i=>walk_at"dc");(case k=>assumption))|((with_reducible refine' aDf ?e ?l ?_);(case e=>walk_at"hp");(case l=>rfl))|((with_reducible refine' aBl ?e ?s ?r ?_);(case e=>walk_at"hp");(case s=>walk_at"sd");(case r=>walk_at"sd");intro v' hv')|((with_reducible refine' rd_ix3i ?e ?s ?r ?_);(case e=>walk_at"hp");(case s=>walk_at"sd");(case r=>walk_at"sd");intro v' hv')|((with_reducible refine' rd_setLm ?e ?l ?_);(case e=>walk_at"hp");(case l=>rfl);intro H' B' e')|((with_reducible refine' aBn ?e ?_);(case e=>walk_at"hp"))|((with_reducible refine' rd_lenS ?e ?_);(case e=>walk_at"sz"))|((with_reducible refine' aBK ?e ?_);(case e=>walk_at"sz"))|((with_reducible refine' rd_slS ?e ?_);(case e=>walk_at"sz");intro hl')|((with_reducible refine' rd_slI ?e ?_);(case e=>walk_at"hp");intro p' H' n' S' e')|((with_reducible refine' aEg ?e ?_);(case e=>walk_at"hp");intro p' H' n' S' e')|((with_reducible refine' FV ?e ?f ?s ?_);(case e=>walk_at"hp");(case f=>walk_at"hp");(case s=>walk_at"sz");intro p' H' n' S' e')|((with_reducible refine' UD ?e ?_);(case e=>walk_at"hp");intro p' H' n' S' e')|((with_reducible refine' aDS ?e ?_);(case e=>walk_at"hp"))|((with_reducible refine' IC ?e ?_);(case e=>walk_at"hp"))|((with_reducible refine' TW ?s ?r ?_);(case s=>walk_at"sd");(case r=>walk_at"sd"))|((with_reducible refine' TF ?s ?r ?t ?u ?_);(case s=>walk_at"sd");(case r=>walk_at"sd");(case t=>walk_at"sd");(case u=>walk_at"sd"))|((with_reducible refine' rd_str ?s ?r ?_);(case s=>walk_at"sd");(case r=>walk_at"sd");intro hl')|((with_reducible refine' Y4 ?e ?l ?_);(case e=>walk_at"hp");(case l=>rfl))|((with_reducible refine' aAN ?e ?l ?_);(case e=>walk_at"hp");(case l=>rfl))|((with_reducible refine' aDY ?s ?_);(case s=>walk_at"sd"))|((with_reducible refine' aDa ?s ?_);(case s=>walk_at"sd"))|((with_reducible refine' rd_ifnP ?s ?_);(case s=>walk_at"sd"))|((with_reducible refine' rd_ifnN ?s ?_);(case s=>walk_at"sd")))
local macro_rules| `(tactic| walk_at"go")=> `(tactic| repeat walk_at"rd1")
local macro_rules| `(tactic| walk_at"gs")=> `(tactic| repeat ((fail_if_success (with_reducible refine WX ?_));walk_at"rd1"))
local macro_rules| `(tactic| walk_at"nn")=> `(tactic| repeat first|exact nn_nil|refine nn_app ?_ ?_|refine nn_cons (by omega) ?_|exact nn_map (fun n=>by omega))
section
variable {P:Program}{w:World}{K:W.Frag}{mg:Str->Option Value}{base:Heap}
def aDL:V->Bool
 | .int _=>true
 | _=>false
def C5 (K:W.Frag):Sp:=fun vs H Q _=>∃x n,vs=[x]/\BTy K H x n/\Q (.bl (aDL x)) H
theorem YX {H:Hp}{Q:VK}{E:XK}{i:Int} (h:Q (.bl true) H):C5 K [.int i] H Q E:=⟨_,_,rfl,.int i,h⟩
theorem N9 (m:M K mg):FnOk P w K mg base CX0 1 m.xW m.xV ["thing"] (C5 K):=by
 refine m.sN.ok sc_is_whole (fun vs H Q E h=> ?_) (fun cdv A outer s H vs Q E hr h=> ?_)
 ·walk_at"g1";obtain⟨x,n,rfl,b,k⟩:=h;walk_at"g2";rfl
 ·walk_at"g1";obtain⟨x,n,rfl,b,k⟩:=h;walk_at"g2";have nd:=sc_is_whole.nd;walk_at"hu";refine⟨_,(aF (aV (V1 (bP DF rfl m.uL qV (aA (pv 0) (aA (QM rfl m.aFh aDQ) aE))) (TD (aC8 (bP DF rfl m.uL qV (aA (pv 0) (aA (QM rfl m.aEi aAZ) aE)))))))),?_⟩;refine aO (σ:=[some (x)]) rfl ?_;walk_at"cx";refine⟨_,rfl,_,_,_,_,_,rfl,b.ty,rfl,RW b "int" (.inl rfl),_,rfl,?_⟩;refine GI (fun h1=>⟨_,rfl,_,_,_,_,_,rfl,b.ty,rfl,RW b "bool" (.inr (.inl rfl)),_,rfl,?_⟩) (fun h1=> ?_)
  ·cases b<;>first|exact k|exact absurd h1 (by decide)
  ·cases b<;>first|exact k|exact absurd (by decide) h1
theorem N1 (m:M K mg):Fc P w K mg base "is_whole" 1 ["thing"] (C5 K):=⟨_,_,m.SF,m.sN.kp,m.R9,N9 m⟩
def nmB:V->Bool
 | .str z=>bI z
 | _=>false
def FS (K:W.Frag):Sp:=fun vs H Q _=>∃x n,vs=[x]/\BTy K H x n/\(∀z,x= .str z->z.length<=1000)/\∀H',Same H H'->Q (.bl (nmB x)) H'
theorem aBe {H:Hp}{Q:VK}{E:XK}{z:Str} (hz:bI z=true) (h:∀H',Same H H'->Q (.bl true) H'):FS K [.str z] H Q E :=
 ⟨_,_,rfl,.str z,fun y e=>by cases e;exact Nat.le_trans (WA hz) (by decide),fun H' s=>by rw[show nmB (.str z)=true from hz];exact h H' s⟩
theorem le1 (a c:Nat):(!decide ([c]<[a]))=decide (a<=c):=by
 have:([c]<[a])↔c<a:=by
  constructor
  ·intro h;cases h with
   | rel h=>exact h
   | cons h=>cases h
  ·exact fun h=> .rel h
 by_cases h:c<a
 ·rw[decide_eq_true (this.mpr h),decide_eq_false (by omega)];rfl
 ·rw[decide_eq_false (fun z=>h (this.mp z)),decide_eq_true (by omega)];rfl
theorem aEz:("a" :Str).cps.toList=[97]:=by decide +kernel
theorem aE0:("z" :Str).cps.toList=[122]:=by decide +kernel
theorem ID {α:Type}(p:α->Bool)(d:α):∀l:List α,((List.range l.length).map fun i=>p (l.getD i d)).all id=l.all p
 | []=>rfl
 | a::l=>by
  rw[List.length_cons,List.range_succ_eq_map,List.map_cons,List.all_cons,List.map_map,List.all_cons,←ID p d l];rfl
theorem W1 {H:Hp}{p:Addr}{o:HO} (h:H p=none):Same H (upd H p o):=fun b u e=>by rw[aU (bM e h)];exact e
theorem RK (m:M K mg):FnOk P w K mg base CX0 1 m.AC m.AB ["thing"] (FS K):=by
 refine m.u4.ok sc_is_name (fun vs H Q E h=> ?_) (fun cdv A outer s H vs Q E hr h=> ?_)
 ·walk_at"g1";obtain⟨x,n,rfl,b,hz,k⟩:=h;walk_at"g2";rfl
 ·walk_at"g1";obtain⟨x,n,rfl,b,hz,k⟩:=h;walk_at"g2";have nd:=sc_is_name.nd;walk_at"hu";obtain⟨tok_LONGEST_NAME,pO⟩:=m.pO;refine⟨_,(aB (bR (zO (nO (bP DF rfl m.uL qV (aA (pv 0) (aA (QM rfl m.aFi aDv) aE))))) (aF (aV AW)) bC)
   (aF (aV (V1 (MY Q1 Q1 aC (bP TV rfl m.sO nL (aA (pv 0) aE)) (aAL rfl pO)) (TD (bP (WT rfl) rfl m.aFe aCY (aA (cV (N:=["sign"]) (nl:=1) (ci:=[]) rfl (blk (s.heap.objs.size+1) rfl rfl rfl (by kernel_rfl)) (aDd (pv 0)) (fun _ _ _ _=>(aH (i:=0) (show (["sign"]:List Str).Nodup by decide +kernel) rfl (by walk_at"oi"))) (fun _ _ _ _=>fC) (fun _ _ _ _=>(MY T5 T5 fE (pv 0) fE))) aE))))))),?_⟩
  refine aO (σ:=[some (x)]) rfl ?_;walk_at"cx";refine⟨_,rfl,_,_,_,_,_,rfl,b.ty,rfl,RW b "str" (.inr (.inr rfl)),_,rfl,?_⟩;refine GI (fun h1=> ?_) (fun h1=> ?_)
  ·show Q (.bl false) H;cases b<;>first|exact k H (Same.refl H)|exact absurd h1 (by decide)
  ·have hs:∃z,x= .str z:=by
    cases b<;>first|exact⟨_,rfl⟩|exact absurd (by decide) h1
   obtain⟨z,rfl⟩:=hs;have hl:=hz z rfl;have hl':z.length<=sizeLine:=Nat.le_of_lt (UM hl);refine⟨_,rfl,z,rfl,hl',_,_,rfl,rfl,_,rfl,?_⟩;refine GI (fun h2=>⟨_,_,rfl,rfl,_,rfl,?_⟩) (fun h2=>⟨_,rfl,?_⟩)
   ·refine GI (fun h3=> ?_) (fun h3=> ?_)
    ·refine⟨_,rfl,z,rfl,?_⟩;refine aAR z.cps.size (fun i=> .bl (sgB (z.cps.toList.getD i 0))) hl' (fun H'=>H'=H) rfl (fun _ _=>rfl) (fun i _ hi _=>hi) ?_ ?_ ?_ ?_ ?_
     ·rintro i _ x H' hi rfl hq_;walk_at"g1";obtain⟨rfl,c,hc,rfl⟩:=hq_;walk_at"g2";refine⟨⟨rfl,fun j v hv=> ?_⟩,rfl,?_⟩
      ·match j,hv with
       | 0,hv=>cases hv
       | j+1,hv=>cases hv
      ·have hc':z.cps.toList.getD i 0=c:=by
        rw[List.getD_eq_getElem?_getD,Array.getElem?_toList,hc];rfl
       refine⟨_,rfl,_,_,rfl,rfl,_,rfl,?_⟩;rw[aEz,hc'];refine GI (fun h4=>⟨_,_,rfl,rfl,?_,rfl⟩) (fun h4=>⟨?_,rfl⟩)
       ·have h4':97<=c:=by rw[show (⟨#[c]⟩:Str).cps.toList=[c] from rfl,le1]at h4;exact of_decide_eq_true h4
        rw[aE0,show (⟨#[c]⟩:Str).cps.toList=[c] from rfl,le1];unfold sgB;rw[decide_eq_true h4',Bool.true_and]
       ·have h4':¬97<=c:=by rw[show (⟨#[c]⟩:Str).cps.toList=[c] from rfl,le1]at h4;exact fun z=>h4 (decide_eq_true z)
        unfold sgB;rw[decide_eq_false h4',Bool.false_and]
     ·exact fun _ _ _ _ f q=>f _ _ q
     ·rintro σ H Q Q' f hq_;walk_at"g1";obtain⟨v,e,i,j,e1,e2,k,e3,q⟩:=hq_;walk_at"g2";refine⟨v,e,i,j,e1,e2,k,e3,?_⟩;revert q
      split
      ·rintro hq_;walk_at"g1";obtain⟨i,j,e1,e2,q⟩:=hq_;walk_at"g2";exact⟨i,j,e1,e2,f _ _ q⟩
      ·exact fun q=>f _ _ q
     ·exact fun _ _ _ _ _ f q=>f _ _ q
     ·rintro _ rfl p hp;refine⟨p,(List.range z.cps.size).map (fun i=>sgB (z.cps.toList.getD i 0)),rfl,SqL.of ?_,?_⟩
      ·rw[bJ,List.map_map];rfl
      ·have e:=ID sgB 0 z.cps.toList;rw[Array.length_toList]at e;rw[e];have e2:nmB (.str z)=z.cps.toList.all sgB:=by
        show bI z=_;unfold bI;rw[show decide (1<=(z.length:Int))=true from h2,show decide ((z.length:Int)<=8)=true from h3];rfl
       rw[←e2];exact k _ (W1 hp)
    ·have e2:nmB (.str z)=false:=by
      show bI z=_;unfold bI;rw[show decide ((z.length:Int)<=8)=false from by simpa using h3];simp
     have:=k H (Same.refl H);rw[e2]at this;exact this
   ·have e2:nmB (.str z)=false:=by
     show bI z=_;unfold bI;rw[show decide (1<=(z.length:Int))=false from by simpa using h2];simp
    have:=k H (Same.refl H);rw[e2]at this;exact this
theorem RA (m:M K mg):Fc P w K mg base "is_name" 1 ["thing"] (FS K):=⟨_,_,m.WN,m.u4.kp,m.WF,RK m⟩
local macro_rules| `(tactic| walk_at"rd1")=> `(tactic| first|(with_reducible refine YX ?_)|((with_reducible refine' aBe ?s ?_);(case s=>assumption);intro H' S'))
inductive nJ (K:W.Frag)(vs:List V)(H:Hp)(Q:VK)(E:XK):Prop
 | mk (part z:Str) (_:vs=[.str part,.str z]) (_:bI z=true) (_:∀H',Same H H'->Q .non H'):nJ K vs H Q E
theorem N8 {H:Hp}{Q:VK}{E:XK}{part z:Str} (hz:bI z=true) (h:∀H',Same H H'->Q .non H'):nJ K [.str part,.str z] H Q E:=⟨_,_,rfl,hz,h⟩
theorem LT (m:M K mg):FnOk P w K mg base CX0 2 m.vG m.vD ["part","thing"] (nJ K):=by
 refine m.jY.ok sc_need_name (fun vs H Q E h=> ?_) (fun cdv A outer s H vs Q E hr h=> ?_)
 ·walk_at"g1";obtain⟨part,z,rfl,hz,k⟩:=h;walk_at"g2";rfl
 ·walk_at"g1";obtain⟨part,z,rfl,hz,k⟩:=h;walk_at"g2";have nd:=sc_need_name.nd;walk_at"hu";have u4:= @RA P w K mg base m;refine⟨_,(aF (bR (zO (nO (bF u4 hr (aA (pv 1) aE)))) (aF jF) bC)),?_⟩;refine aO (σ:=[some (.str part),some (.str z)]) rfl ?_;walk_at"cx";walk_at"go";exact k _ (by walk_at"sm")
theorem LQ (m:M K mg):Fc P w K mg base "need_name" 2 ["part","thing"] (nJ K):=⟨_,_,m.OV,m.jY.kp,m.OX,LT m⟩
inductive lV (K:W.Frag)(vs:List V)(H:Hp)(Q:VK)(E:XK):Prop
 | mk (part:Str) (i l:Int) (_:vs=[.str part,.int i,.int l]) (_:l<=i) (_:Q .non H):lV K vs H Q E
theorem MF {H:Hp}{Q:VK}{E:XK}{part:Str}{i l:Int} (hz:l<=i) (h:Q .non H):lV K [.str part,.int i,.int l] H Q E:=⟨_,_,_,rfl,hz,h⟩
theorem IT (m:M K mg):FnOk P w K mg base CX0 2 m.t7 m.tT ["part","thing","least"] (lV K):=by
 refine m.cT.ok sc_need_whole (fun vs H Q E h=> ?_) (fun cdv A outer s H vs Q E hr h=> ?_)
 ·walk_at"g1";obtain⟨part,i,l,rfl,hz,k⟩:=h;walk_at"g2";rfl
 ·walk_at"g1";obtain⟨part,i,l,rfl,hz,k⟩:=h;walk_at"g2";have nd:=sc_need_whole.nd;walk_at"hu";have sN:= @N1 P w K mg base m;refine⟨_,(aF (bR (PW.pt (EH (zO (nO (bF sN hr (aA (pv 1) aE)))) (zG (aW j6 (pv 1) (pv 2) (aY _))))) (aF jF) bC)),?_⟩;refine aO (σ:=[some (.str part),some (.int i),some (.int l)]) rfl ?_;walk_at"cx";walk_at"go";exact k
theorem jS (m:M K mg):Fc P w K mg base "need_whole" 2 ["part","thing","least"] (lV K):=⟨_,_,m.NY,m.cT.kp,m.NK,IT m⟩
local macro_rules| `(tactic| walk_at"rd1")=> `(tactic| first|((with_reducible refine' N8 ?s ?_);(case s=>assumption);intro H' S')|((with_reducible refine' MF ?s ?_);(case s=>walk_at"sd")))
abbrev nK (n s e w:V):List (Str×V):=cZ "wide" w (cZ "end" e (cZ "start" s (cZ "name" n [])))
def fB (e:V):Prop:=e= .non∨∃z,e= .str z/\bI z=true
inductive fG (K:W.Frag)(vs:List V)(H:Hp)(Q:VK)(E:XK):Prop
 | mk (p C dx:Addr) (n s:Str) (e:V) (wd:Int) (_:vs=[.ref p,.str n,.str s,e,.int wd]) (_:DCls K C) (_:H p=some (.ins C dx [])) (_:bI n=true) (_:bI s=true) (_:fB e) (_:0<=wd) (_:∀H',SameBut p H H'->H' p=some (.ins C dx (nK (.str n) (.str s) e (.int wd)))->Q .non H'):fG K vs H Q E
theorem CB {H:Hp}{Q:VK}{E:XK}{p C dx:Addr}{n s:Str}{e:V}{wd:Int} (dc:DCls K C) (hp:H p=some (.ins C dx [])) (hn:bI n=true) (hs:bI s=true) (he:fB e) (hw:0<=wd)
  (k:∀H',SameBut p H H'->H' p=some (.ins C dx (nK (.str n) (.str s) e (.int wd)))->Q .non H'):fG K [.ref p,.str n,.str s,e,.int wd] H Q E:=⟨_,_,_,_,_,_,_,rfl,dc,hp,hn,hs,he,hw,k⟩
theorem mG (m:M K mg):FnOk P w K mg base CX0 3 m.j9 m.iD ["self","name","start","end","wide"] (fG K):=by
 refine m.nX.ok sc_Door___init__ (fun vs H Q E h=> ?_) (fun cdv A outer s H vs Q E hr h=> ?_)
 ·walk_at"g1";obtain⟨p,C,dx,n,st,e,wd,rfl,dc,hp,hn,hs,he,hw,k⟩:=h;walk_at"g2";rfl
 ·walk_at"g1";obtain⟨p,C,dx,n,st,e,wd,rfl,dc,hp,hn,hs,he,hw,k⟩:=h;walk_at"g2";have nd:=sc_Door___init__.nd;walk_at"hu";have jY:= @LQ P w K mg base m;have cT:= @jS P w K mg base m;refine⟨_,(aB (bT (bF jY hr (aA fE (aA (pv 1) aE))))
   (aB (bT (bF jY hr (aA fE (aA (pv 2) aE))))
   (aB (bR (aW A3 (pv 3) qO (aY _)) (aF (bT (bF jY hr (aA fE (aA (pv 3) aE))))) bC)
   (aB (bT (bF cT hr (aA fE (aA (pv 4) (aA aC aE)))))
   (aB (gQ (pv 0) (pv 1) rfl)
   (aB (gQ (pv 0) (pv 2) rfl)
   (aB (gQ (pv 0) (pv 3) rfl)
   (aF (gQ (pv 0) (pv 4) rfl))))))))),?_⟩
  refine aO (σ:=[some (.ref p),some (.str n),some (.str st),some (e),some (.int wd)]) rfl ?_;walk_at"cx";rcases he with rfl|⟨z,rfl,hz⟩
  ·walk_at"go";exact k _ (by walk_at"sb") (by assumption)
  ·walk_at"go";exact k _ (by walk_at"sb") (by assumption)
theorem SY (m:M K mg):Kc P w K mg base "Door" m.i6 3 [] (fG K):=⟨_,_,_,_,m.ND,m.aB4,.nil,m.u5,mG m⟩
theorem hO (m:M K mg):Dc P w K mg base "Door" "__init__" 3 (fG K):=⟨_,_,_,_,m.ND,m.eZ.1,m.eZ.2.1,m.eZ.2.2,m.nX.kp,m.u5,mG m⟩
theorem u6 (m:M K mg):DcD P w K mg base "Door" "__init__" 3 [.int 1] (fG K):=by
 obtain⟨ds,h1,h2⟩:=m.z9;exact⟨_,_,_,_,_,m.ND,m.eZ.1,m.eZ.2.1,m.eZ.2.2,m.nX.kp,h1,h2,mG m⟩
theorem X5 {H:Hp}{Q:VK}{E:XK}{C:Addr}{vs dvs:List V}{n s:Str}{e:V}{wd:Int} (ev:vs++dvs=[.str n,.str s,e,.int wd]) (dc:DCls K C) (hn:bI n=true) (hs:bI s=true) (he:fB e) (hw:0<=wd)
  (k:∀p dx H',H p=none->Same H H'->H' p=some (.ins C dx (nK (.str n) (.str s) e (.int wd)))->Q (.ref p) H'):rX C (fG K) dvs E Q vs H :=
 oK (fun p dx H0 Q' h k' s0=>by rw[ev];exact CB dc h hn hs he hw k') k
local macro_rules| `(tactic| walk_at"rd1")=> `(tactic| ((with_reducible refine' X5 ?v ?d ?hn ?hs ?he ?hw ?_);(case v=>rfl);(case d=>assumption);(case hn=>assumption);(case hs=>assumption);(case he=>first|assumption|exact .inl rfl|exact .inr ⟨_,rfl,by assumption⟩);(case hw=>walk_at"sd");intro p' dx' H' n' S' e'))
inductive h8 (K:W.Frag)(vs:List V)(H:Hp)(Q:VK)(E:XK):Prop
 | mk (p C dx:Addr) (fs:List (Str×V)) (e:V) (_:vs=[.ref p]) (_:DCls K C) (_:H p=some (.ins C dx fs)) (_:fs.lookup ("end" :Str)=some e) (_:Q (.bl (decide (e= .non))) H):h8 K vs H Q E
theorem aAm {H:Hp}{Q:VK}{E:XK}{p C dx:Addr}{fs:List (Str×V)} (hp:H p=some (.ins C dx fs)) (dc:DCls K C) (l:fs.lookup ("end" :Str)=some .non) (k:Q (.bl true) H):h8 K [.ref p] H Q E:=⟨_,_,_,_,_,rfl,dc,hp,l,k⟩
theorem aAw {H:Hp}{Q:VK}{E:XK}{p C dx:Addr}{fs:List (Str×V)}{z:Str} (hp:H p=some (.ins C dx fs)) (dc:DCls K C) (l:fs.lookup ("end" :Str)=some (.str z)) (k:Q (.bl false) H):h8 K [.ref p] H Q E :=
 ⟨_,_,_,_,_,rfl,dc,hp,l,by rw[decide_eq_false (fun z=>by cases z)];exact k⟩
theorem fL (m:M K mg):FnOk P w K mg base CX0 1 m.dW m.pE ["self"] (h8 K):=by
 refine m.GY.ok sc_Door_is_exit (fun vs H Q E h=> ?_) (fun cdv A outer s H vs Q E hr h=> ?_)
 ·walk_at"g1";obtain⟨p,C,dx,fs,e,rfl,dc,hp,l,k⟩:=h;walk_at"g2";rfl
 ·walk_at"g1";obtain⟨p,C,dx,fs,e,rfl,dc,hp,l,k⟩:=h;walk_at"g2";have nd:=sc_Door_is_exit.nd;walk_at"hu";refine⟨_,(aF (aV (v9 UO (bV (pv 0) rfl) qO (aY _)))),?_⟩;refine aO (σ:=[some (.ref p)]) rfl ?_;walk_at"cx";walk_at"go";exact k
theorem EV (m:M K mg):Mc P w K mg base m.i6 "is_exit" 1 (h8 K):=⟨_,_,_,m.wD.ic.cl,m.FG,m.gI,fL m⟩
theorem CT (m:M K mg):Mc P w K mg base m.j4 "is_exit" 1 (h8 K):=⟨_,_,_,m.tU.ic.cl,m.D1,m.gI,fL m⟩
theorem CV (m:M K mg):Mc P w K mg base m.jX "is_exit" 1 (h8 K):=⟨_,_,_,m.uF.ic.cl,m.DY,m.gI,fL m⟩
theorem FB (m:M K mg):Mc P w K mg base m.lQ "is_exit" 1 (h8 K):=⟨_,_,_,m.wH.ic.cl,m.FM,m.gI,fL m⟩
theorem BL (m:M K mg):Mc P w K mg base m.iO "is_exit" 1 (h8 K):=⟨_,_,_,m.qU.ic.cl,m.BP,m.gI,fL m⟩
theorem EQ (m:M K mg):Mc P w K mg base m.lR "is_exit" 1 (h8 K):=⟨_,_,_,m.wF.ic.cl,m.FF,m.gI,fL m⟩
local macro_rules| `(tactic| walk_at"rd1")=> `(tactic| first|((with_reducible refine' aAm ?e ?d ?l ?_);(case e=>walk_at"hp");(case d=>assumption);(case l=>walk_at"lk"))|((with_reducible refine' aAw ?e ?d ?l ?_);(case e=>walk_at"hp");(case d=>assumption);(case l=>walk_at"lk")))
inductive m9 (K:W.Frag)(vs:List V)(H:Hp)(Q:VK)(E:XK):Prop
 | mk (p C dx:Addr) (fs:List (Str×V)) (t wd:Int) (_:vs=[.ref p,.int t]) (_:DCls K C) (_:H p=some (.ins C dx fs)) (_:fs.lookup ("wide" :Str)=some (.int wd)) (_:Q (.int wd) H):m9 K vs H Q E
theorem OJ {H:Hp}{Q:VK}{E:XK}{p C dx:Addr}{fs:List (Str×V)}{t wd:Int} (hp:H p=some (.ins C dx fs)) (dc:DCls K C) (l:fs.lookup ("wide" :Str)=some (.int wd)) (k:Q (.int wd) H):m9 K [.ref p,.int t] H Q E:=⟨_,_,_,_,_,_,rfl,dc,hp,l,k⟩
theorem LV (m:M K mg):FnOk P w K mg base CX0 1 m.vH m.vL ["self","turn"] (m9 K):=by
 refine m.O1.ok sc_Door_lets (fun vs H Q E h=> ?_) (fun cdv A outer s H vs Q E hr h=> ?_)
 ·walk_at"g1";obtain⟨p,C,dx,fs,t,wd,rfl,dc,hp,l,k⟩:=h;walk_at"g2";rfl
 ·walk_at"g1";obtain⟨p,C,dx,fs,t,wd,rfl,dc,hp,l,k⟩:=h;walk_at"g2";have nd:=sc_Door_lets.nd;walk_at"hu";refine⟨_,(aF (aV (bV (pv 0) rfl))),?_⟩;refine aO (σ:=[some (.ref p),some (.int t)]) rfl ?_;walk_at"cx";walk_at"go";exact k
theorem LF (m:M K mg):Mc P w K mg base m.i6 "lets" 1 (m9 K):=⟨_,_,_,m.wD.ic.cl,m.NL,m.O3,LV m⟩
local macro_rules| `(tactic| walk_at"rd1")=> `(tactic| ((with_reducible refine' CB ?d ?e ?hn ?hs ?he ?hw ?_);(case d=>assumption);(case e=>walk_at"hp");(case hn=>assumption);(case hs=>assumption);(case he=>assumption);(case hw=>walk_at"sd");intro H' B' e'))
abbrev AQ (n s e w i0:V):List (Str×V):=cZ "since" i0 (nK n s e w)
inductive jR (K:W.Frag)(vs:List V)(H:Hp)(Q:VK)(E:XK):Prop
 | mk (p C dx:Addr) (n s:Str) (e:V) (wd i0:Int) (_:vs=[.ref p,.str n,.str s,e,.int wd,.int i0]) (_:DCls K C) (_:H p=some (.ins C dx [])) (_:bI n=true) (_:bI s=true) (_:fB e) (_:0<=wd) (_:0<=i0) (_:∀H',SameBut p H H'->H' p=some (.ins C dx (AQ (.str n) (.str s) e (.int wd) (.int i0)))->Q .non H'):jR K vs H Q E
theorem MD {H:Hp}{Q:VK}{E:XK}{p C dx:Addr}{n s:Str}{e:V}{wd i0:Int} (dc:DCls K C) (hp:H p=some (.ins C dx [])) (hn:bI n=true) (hs:bI s=true) (he:fB e) (hw:0<=wd) (b0:0<=i0)
  (k:∀H',SameBut p H H'->H' p=some (.ins C dx (AQ (.str n) (.str s) e (.int wd) (.int i0)))->Q .non H'):jR K [.ref p,.str n,.str s,e,.int wd,.int i0] H Q E:=⟨_,_,_,_,_,_,_,_,rfl,dc,hp,hn,hs,he,hw,b0,k⟩
theorem A8 (m:M K mg):FnOk P w K mg base CX0 4 m.mR m.mT ["self","name","start","end","wide","since"] (jR K):=by
 refine m.DI.ok sc_Since___init__ (fun vs H Q E h=> ?_) (fun cdv A outer s H vs Q E hr h=> ?_)
 ·walk_at"g1";obtain⟨p,C,dx,n,st,e,wd,i0,rfl,dc,hp,hn,hs,he,hw,b0,k⟩:=h;walk_at"g2";rfl
 ·walk_at"g1";obtain⟨p,C,dx,n,st,e,wd,i0,rfl,dc,hp,hn,hs,he,hw,b0,k⟩:=h;walk_at"g2";have nd:=sc_Since___init__.nd;walk_at"hu";have D_Door___init__:= @hO P w K mg base m;have cT:= @jS P w K mg base m;refine⟨_,(aB (bT (KK D_Door___init__ hr (aA (pv 0) (aA (pv 1) (aA (pv 2) (aA (pv 3) (aA (pv 4) aE)))))))
   (aB (bT (bF cT hr (aA fE (aA (pv 5) (aA aC aE)))))
   (aF (gQ (pv 0) (pv 5) rfl)))),?_⟩
  refine aO (σ:=[some (.ref p),some (.str n),some (.str st),some (e),some (.int wd),some (.int i0)]) rfl ?_;walk_at"cx";walk_at"go";exact k _ (by walk_at"sb") (by assumption)
theorem RD (m:M K mg):Kc P w K mg base "Since" m.j4 4 [] (jR K):=⟨_,_,_,_,m.aB2,m.ZA,.nil,m.DG,A8 m⟩
theorem TX {H:Hp}{Q:VK}{E:XK}{C:Addr}{vs dvs:List V}{n s:Str}{e:V}{wd i0:Int} (ev:vs++dvs=[.str n,.str s,e,.int wd,.int i0]) (dc:DCls K C) (hn:bI n=true) (hs:bI s=true) (he:fB e) (hw:0<=wd) (b0:0<=i0)
  (k:∀p dx H',H p=none->Same H H'->H' p=some (.ins C dx (AQ (.str n) (.str s) e (.int wd) (.int i0)))->Q (.ref p) H'):rX C (jR K) dvs E Q vs H :=
 oK (fun p dx H0 Q' h k' s0=>by rw[ev];exact MD dc h hn hs he hw b0 k') k
local macro_rules| `(tactic| walk_at"rd1")=> `(tactic| ((with_reducible refine' TX ?v ?d ?hn ?hs ?he ?hw ?b0 ?_);(case v=>rfl);(case d=>assumption);(case hn=>assumption);(case hs=>assumption);(case he=>first|assumption|exact .inl rfl|exact .inr ⟨_,rfl,by assumption⟩);(case hw=>walk_at"sd");(case b0=>walk_at"sd");intro p' dx' H' n' S' e'))
def vV (wd i0 t:Int):Int:=if i0<=t then wd else 0
inductive lT (K:W.Frag)(vs:List V)(H:Hp)(Q:VK)(E:XK):Prop
 | mk (p C dx:Addr) (fs:List (Str×V)) (t wd i0:Int) (_:vs=[.ref p,.int t]) (_:DCls K C) (_:H p=some (.ins C dx fs)) (_:fs.lookup ("wide" :Str)=some (.int wd)) (_:fs.lookup ("since" :Str)=some (.int i0)) (_:0<=t) (_:0<=i0) (_:Q (.int (vV wd i0 t)) H):lT K vs H Q E
theorem zK {H:Hp}{Q:VK}{E:XK}{p C dx:Addr}{fs:List (Str×V)}{t wd i0:Int} (hp:H p=some (.ins C dx fs)) (dc:DCls K C) (l:fs.lookup ("wide" :Str)=some (.int wd)) (m0:fs.lookup ("since" :Str)=some (.int i0)) (ht:0<=t) (b0:0<=i0) (k:Q (.int (vV wd i0 t)) H):lT K [.ref p,.int t] H Q E:=⟨_,_,_,_,_,_,_,rfl,dc,hp,l,m0,ht,b0,k⟩
theorem JK (m:M K mg):FnOk P w K mg base CX0 1 m.t9 m.uG ["self","turn"] (lT K):=by
 refine m.NP.ok sc_Since_lets (fun vs H Q E h=> ?_) (fun cdv A outer s H vs Q E hr h=> ?_)
 ·walk_at"g1";obtain⟨p,C,dx,fs,t,wd,i0,rfl,dc,hp,l,m0,ht,b0,k⟩:=h;walk_at"g2";rfl
 ·walk_at"g1";obtain⟨p,C,dx,fs,t,wd,i0,rfl,dc,hp,l,m0,ht,b0,k⟩:=h;walk_at"g2";have nd:=sc_Since_lets.nd;walk_at"hu";refine⟨_,(aF (aV (wZ (aW E5 (pv 1) (bV (pv 0) rfl) (aY _)) (bV (pv 0) rfl) aC))),?_⟩;refine aO (σ:=[some (.ref p),some (.int t)]) rfl ?_;walk_at"cx";unfold vV at k;walk_at"go";refine cA (fun hw=> ?_) (fun hw=> ?_)
  ·walk_at"go";rw[if_pos hw]at k;exact k
  ·walk_at"go";rw[if_neg hw]at k;exact k
theorem JP (m:M K mg):Mc P w K mg base m.j4 "lets" 1 (lT K):=⟨_,_,_,m.tU.ic.cl,m.J0,m.NS,JK m⟩
local macro_rules| `(tactic| walk_at"rd1")=> `(tactic| ((with_reducible refine' zK ?e ?d ?l ?m0 ?ht ?b0 ?_);(case e=>walk_at"hp");(case d=>assumption);(case l=>walk_at"lk");(case m0=>walk_at"lk");(case ht=>walk_at"sd");(case b0=>walk_at"sd")))
abbrev AU (n s e w i0:V):List (Str×V):=cZ "until" i0 (nK n s e w)
inductive jQ (K:W.Frag)(vs:List V)(H:Hp)(Q:VK)(E:XK):Prop
 | mk (p C dx:Addr) (n s:Str) (e:V) (wd i0:Int) (_:vs=[.ref p,.str n,.str s,e,.int wd,.int i0]) (_:DCls K C) (_:H p=some (.ins C dx [])) (_:bI n=true) (_:bI s=true) (_:fB e) (_:0<=wd) (_:0<=i0) (_:∀H',SameBut p H H'->H' p=some (.ins C dx (AU (.str n) (.str s) e (.int wd) (.int i0)))->Q .non H'):jQ K vs H Q E
theorem LE {H:Hp}{Q:VK}{E:XK}{p C dx:Addr}{n s:Str}{e:V}{wd i0:Int} (dc:DCls K C) (hp:H p=some (.ins C dx [])) (hn:bI n=true) (hs:bI s=true) (he:fB e) (hw:0<=wd) (b0:0<=i0)
  (k:∀H',SameBut p H H'->H' p=some (.ins C dx (AU (.str n) (.str s) e (.int wd) (.int i0)))->Q .non H'):jQ K [.ref p,.str n,.str s,e,.int wd,.int i0] H Q E:=⟨_,_,_,_,_,_,_,_,rfl,dc,hp,hn,hs,he,hw,b0,k⟩
theorem BH (m:M K mg):FnOk P w K mg base CX0 4 m.mJ m.mO ["self","name","start","end","wide","until"] (jQ K):=by
 refine m.DK.ok sc_Until___init__ (fun vs H Q E h=> ?_) (fun cdv A outer s H vs Q E hr h=> ?_)
 ·walk_at"g1";obtain⟨p,C,dx,n,st,e,wd,i0,rfl,dc,hp,hn,hs,he,hw,b0,k⟩:=h;walk_at"g2";rfl
 ·walk_at"g1";obtain⟨p,C,dx,n,st,e,wd,i0,rfl,dc,hp,hn,hs,he,hw,b0,k⟩:=h;walk_at"g2";have nd:=sc_Until___init__.nd;walk_at"hu";have D_Door___init__:= @hO P w K mg base m;have cT:= @jS P w K mg base m;refine⟨_,(aB (bT (KK D_Door___init__ hr (aA (pv 0) (aA (pv 1) (aA (pv 2) (aA (pv 3) (aA (pv 4) aE)))))))
   (aB (bT (bF cT hr (aA fE (aA (pv 5) (aA aC aE)))))
   (aF (gQ (pv 0) (pv 5) rfl)))),?_⟩
  refine aO (σ:=[some (.ref p),some (.str n),some (.str st),some (e),some (.int wd),some (.int i0)]) rfl ?_;walk_at"cx";walk_at"go";exact k _ (by walk_at"sb") (by assumption)
theorem Q9 (m:M K mg):Kc P w K mg base "Until" m.jX 4 [] (jQ K):=⟨_,_,_,_,m.aB6,m.ZK,.nil,m.DR,BH m⟩
theorem TM {H:Hp}{Q:VK}{E:XK}{C:Addr}{vs dvs:List V}{n s:Str}{e:V}{wd i0:Int} (ev:vs++dvs=[.str n,.str s,e,.int wd,.int i0]) (dc:DCls K C) (hn:bI n=true) (hs:bI s=true) (he:fB e) (hw:0<=wd) (b0:0<=i0)
  (k:∀p dx H',H p=none->Same H H'->H' p=some (.ins C dx (AU (.str n) (.str s) e (.int wd) (.int i0)))->Q (.ref p) H'):rX C (jQ K) dvs E Q vs H :=
 oK (fun p dx H0 Q' h k' s0=>by rw[ev];exact LE dc h hn hs he hw b0 k') k
local macro_rules| `(tactic| walk_at"rd1")=> `(tactic| ((with_reducible refine' TM ?v ?d ?hn ?hs ?he ?hw ?b0 ?_);(case v=>rfl);(case d=>assumption);(case hn=>assumption);(case hs=>assumption);(case he=>first|assumption|exact .inl rfl|exact .inr ⟨_,rfl,by assumption⟩);(case hw=>walk_at"sd");(case b0=>walk_at"sd");intro p' dx' H' n' S' e'))
def vQ (wd i0 t:Int):Int:=if t<i0 then wd else 0
inductive lU (K:W.Frag)(vs:List V)(H:Hp)(Q:VK)(E:XK):Prop
 | mk (p C dx:Addr) (fs:List (Str×V)) (t wd i0:Int) (_:vs=[.ref p,.int t]) (_:DCls K C) (_:H p=some (.ins C dx fs)) (_:fs.lookup ("wide" :Str)=some (.int wd)) (_:fs.lookup ("until" :Str)=some (.int i0)) (_:0<=t) (_:0<=i0) (_:Q (.int (vQ wd i0 t)) H):lU K vs H Q E
theorem yP {H:Hp}{Q:VK}{E:XK}{p C dx:Addr}{fs:List (Str×V)}{t wd i0:Int} (hp:H p=some (.ins C dx fs)) (dc:DCls K C) (l:fs.lookup ("wide" :Str)=some (.int wd)) (m0:fs.lookup ("until" :Str)=some (.int i0)) (ht:0<=t) (b0:0<=i0) (k:Q (.int (vQ wd i0 t)) H):lU K [.ref p,.int t] H Q E:=⟨_,_,_,_,_,_,_,rfl,dc,hp,l,m0,ht,b0,k⟩
theorem JL (m:M K mg):FnOk P w K mg base CX0 1 m.uA m.tR ["self","turn"] (lU K):=by
 refine m.NE.ok sc_Until_lets (fun vs H Q E h=> ?_) (fun cdv A outer s H vs Q E hr h=> ?_)
 ·walk_at"g1";obtain⟨p,C,dx,fs,t,wd,i0,rfl,dc,hp,l,m0,ht,b0,k⟩:=h;walk_at"g2";rfl
 ·walk_at"g1";obtain⟨p,C,dx,fs,t,wd,i0,rfl,dc,hp,l,m0,ht,b0,k⟩:=h;walk_at"g2";have nd:=sc_Until_lets.nd;walk_at"hu";refine⟨_,(aF (aV (wZ (aW j6 (pv 1) (bV (pv 0) rfl) (aY _)) (bV (pv 0) rfl) aC))),?_⟩;refine aO (σ:=[some (.ref p),some (.int t)]) rfl ?_;walk_at"cx";unfold vQ at k;walk_at"go";refine cA (fun hw=> ?_) (fun hw=> ?_)
  ·walk_at"go";rw[if_pos hw]at k;exact k
  ·walk_at"go";rw[if_neg hw]at k;exact k
theorem JF (m:M K mg):Mc P w K mg base m.jX "lets" 1 (lU K):=⟨_,_,_,m.uF.ic.cl,m.J3,m.NB,JL m⟩
local macro_rules| `(tactic| walk_at"rd1")=> `(tactic| ((with_reducible refine' yP ?e ?d ?l ?m0 ?ht ?b0 ?_);(case e=>walk_at"hp");(case d=>assumption);(case l=>walk_at"lk");(case m0=>walk_at"lk");(case ht=>walk_at"sd");(case b0=>walk_at"sd")))
abbrev EA (n s e w i0 i1:V):List (Str×V):=cZ "since" i1 (cZ "every" i0 (nK n s e w))
inductive kG (K:W.Frag)(vs:List V)(H:Hp)(Q:VK)(E:XK):Prop
 | mk (p C dx:Addr) (n s:Str) (e:V) (wd i0 i1:Int) (_:vs=[.ref p,.str n,.str s,e,.int wd,.int i0,.int i1]) (_:DCls K C) (_:H p=some (.ins C dx [])) (_:bI n=true) (_:bI s=true) (_:fB e) (_:0<=wd) (_:1<=i0) (_:0<=i1) (_:∀H',SameBut p H H'->H' p=some (.ins C dx (EA (.str n) (.str s) e (.int wd) (.int i0) (.int i1)))->Q .non H'):kG K vs H Q E
theorem N2 {H:Hp}{Q:VK}{E:XK}{p C dx:Addr}{n s:Str}{e:V}{wd i0 i1:Int} (dc:DCls K C) (hp:H p=some (.ins C dx [])) (hn:bI n=true) (hs:bI s=true) (he:fB e) (hw:0<=wd) (b0:1<=i0) (b1:0<=i1)
  (k:∀H',SameBut p H H'->H' p=some (.ins C dx (EA (.str n) (.str s) e (.int wd) (.int i0) (.int i1)))->Q .non H'):kG K [.ref p,.str n,.str s,e,.int wd,.int i0,.int i1] H Q E:=⟨_,_,_,_,_,_,_,_,_,rfl,dc,hp,hn,hs,he,hw,b0,b1,k⟩
theorem CU (m:M K mg):FnOk P w K mg base CX0 4 m.nV m.j8 ["self","name","start","end","wide","every","since"] (kG K):=by
 refine m.FD.ok sc_Beat___init__ (fun vs H Q E h=> ?_) (fun cdv A outer s H vs Q E hr h=> ?_)
 ·walk_at"g1";obtain⟨p,C,dx,n,st,e,wd,i0,i1,rfl,dc,hp,hn,hs,he,hw,b0,b1,k⟩:=h;walk_at"g2";rfl
 ·walk_at"g1";obtain⟨p,C,dx,n,st,e,wd,i0,i1,rfl,dc,hp,hn,hs,he,hw,b0,b1,k⟩:=h;walk_at"g2";have nd:=sc_Beat___init__.nd;walk_at"hu";have D_Door___init__:= @hO P w K mg base m;have cT:= @jS P w K mg base m;refine⟨_,(aB (bT (KK D_Door___init__ hr (aA (pv 0) (aA (pv 1) (aA (pv 2) (aA (pv 3) (aA (pv 4) aE)))))))
   (aB (bT (bF cT hr (aA fE (aA (pv 5) (aA aC aE)))))
   (aB (bT (bF cT hr (aA fE (aA (pv 6) (aA aC aE)))))
   (aB (gQ (pv 0) (pv 5) rfl)
   (aF (gQ (pv 0) (pv 6) rfl)))))),?_⟩
  refine aO (σ:=[some (.ref p),some (.str n),some (.str st),some (e),some (.int wd),some (.int i0),some (.int i1)]) rfl ?_;walk_at"cx";walk_at"go";exact k _ (by walk_at"sb") (by assumption)
theorem TL (m:M K mg):Kc P w K mg base "Beat" m.lQ 4 [] (kG K):=⟨_,_,_,_,m.aEn,m.aB0,.nil,m.FJ,CU m⟩
theorem XA {H:Hp}{Q:VK}{E:XK}{C:Addr}{vs dvs:List V}{n s:Str}{e:V}{wd i0 i1:Int} (ev:vs++dvs=[.str n,.str s,e,.int wd,.int i0,.int i1]) (dc:DCls K C) (hn:bI n=true) (hs:bI s=true) (he:fB e) (hw:0<=wd) (b0:1<=i0) (b1:0<=i1)
  (k:∀p dx H',H p=none->Same H H'->H' p=some (.ins C dx (EA (.str n) (.str s) e (.int wd) (.int i0) (.int i1)))->Q (.ref p) H'):rX C (kG K) dvs E Q vs H :=
 oK (fun p dx H0 Q' h k' s0=>by rw[ev];exact N2 dc h hn hs he hw b0 b1 k') k
local macro_rules| `(tactic| walk_at"rd1")=> `(tactic| ((with_reducible refine' XA ?v ?d ?hn ?hs ?he ?hw ?b0 ?b1 ?_);(case v=>rfl);(case d=>assumption);(case hn=>assumption);(case hs=>assumption);(case he=>first|assumption|exact .inl rfl|exact .inr ⟨_,rfl,by assumption⟩);(case hw=>walk_at"sd");(case b0=>walk_at"sd");(case b1=>walk_at"sd");intro p' dx' H' n' S' e'))
def AM (wd i0 i1 t:Int):Int:=if 0<=t - i1/\(t - i1)%i0=0 then wd else 0
inductive nD (K:W.Frag)(vs:List V)(H:Hp)(Q:VK)(E:XK):Prop
 | mk (p C dx:Addr) (fs:List (Str×V)) (t wd i0 i1:Int) (_:vs=[.ref p,.int t]) (_:DCls K C) (_:H p=some (.ins C dx fs)) (_:fs.lookup ("wide" :Str)=some (.int wd)) (_:fs.lookup ("every" :Str)=some (.int i0)) (_:fs.lookup ("since" :Str)=some (.int i1)) (_:0<=t) (_:1<=i0) (_:0<=i1) (_:Q (.int (AM wd i0 i1 t)) H):nD K vs H Q E
theorem CA {H:Hp}{Q:VK}{E:XK}{p C dx:Addr}{fs:List (Str×V)}{t wd i0 i1:Int} (hp:H p=some (.ins C dx fs)) (dc:DCls K C) (l:fs.lookup ("wide" :Str)=some (.int wd)) (m0:fs.lookup ("every" :Str)=some (.int i0)) (m1:fs.lookup ("since" :Str)=some (.int i1)) (ht:0<=t) (b0:1<=i0) (b1:0<=i1) (k:Q (.int (AM wd i0 i1 t)) H):nD K [.ref p,.int t] H Q E:=⟨_,_,_,_,_,_,_,_,rfl,dc,hp,l,m0,m1,ht,b0,b1,k⟩
theorem MR (m:M K mg):FnOk P w K mg base CX0 1 m.vE m.vP ["self","turn"] (nD K):=by
 refine m.OQ.ok sc_Beat_lets (fun vs H Q E h=> ?_) (fun cdv A outer s H vs Q E hr h=> ?_)
 ·walk_at"g1";obtain⟨p,C,dx,fs,t,wd,i0,i1,rfl,dc,hp,l,m0,m1,ht,b0,b1,k⟩:=h;walk_at"g2";rfl
 ·walk_at"g1";obtain⟨p,C,dx,fs,t,wd,i0,i1,rfl,dc,hp,l,m0,m1,ht,b0,b1,k⟩:=h;walk_at"g2";have nd:=sc_Beat_lets.nd;walk_at"hu";refine⟨_,(aB (aP (i:=2) nd rfl (by walk_at"oi") (aI kR (pv 1) (bV (pv 0) rfl)))
   (aF (aV (wZ (PW.pt (tG (aW E5 (pv 2) aC (aY _)) (o9 (aW dG (aI bN (pv 2) (bV (pv 0) rfl)) aC (aY _))))) (bV (pv 0) rfl) aC)))),?_⟩
  refine aO (σ:=[some (.ref p),some (.int t),none]) rfl ?_;walk_at"cx";unfold AM at k;walk_at"go";refine cA (fun hw=> ?_) (fun hw=> ?_)
  ·walk_at"go";refine cA (fun hv=> ?_) (fun hv=> ?_)
   ·walk_at"go";rw[if_pos ⟨hw,hv⟩]at k;exact k
   ·walk_at"go";rw[if_neg (fun z=>hv z.2)]at k;exact k
  ·walk_at"go";rw[if_neg (fun z=>hw z.1)]at k;exact k
theorem MO (m:M K mg):Mc P w K mg base m.lQ "lets" 1 (nD K):=⟨_,_,_,m.wH.ic.cl,m.NO,m.OZ,MR m⟩
local macro_rules| `(tactic| walk_at"rd1")=> `(tactic| ((with_reducible refine' CA ?e ?d ?l ?m0 ?m1 ?ht ?b0 ?b1 ?_);(case e=>walk_at"hp");(case d=>assumption);(case l=>walk_at"lk");(case m0=>walk_at"lk");(case m1=>walk_at"lk");(case ht=>walk_at"sd");(case b0=>walk_at"sd");(case b1=>walk_at"sd")))
local macro_rules| `(tactic| walk_at"rd1")=> `(tactic| first|(with_reducible refine V6 ?_)|((with_reducible refine' VS ?s ?_);(case s=>walk_at"sd"))|((with_reducible refine' rd_pow ?s ?r ?u ?_);(case s=>walk_at"sd");(case r=>walk_at"sd");(case u=>decide)))
abbrev wU (n s e w i0:V):List (Str×V):=cZ "bits" i0 (nK n s e w)
inductive iX (K:W.Frag)(vs:List V)(H:Hp)(Q:VK)(E:XK):Prop
 | mk (p C dx:Addr) (n s:Str) (e:V) (wd i0:Int) (_:vs=[.ref p,.str n,.str s,e,.int wd,.int i0]) (_:DCls K C) (_:H p=some (.ins C dx [])) (_:bI n=true) (_:bI s=true) (_:fB e) (_:0<=wd) (_:0<=i0) (_:∀H',SameBut p H H'->H' p=some (.ins C dx (wU (.str n) (.str s) e (.int wd) (.int i0)))->Q .non H'):iX K vs H Q E
theorem IW {H:Hp}{Q:VK}{E:XK}{p C dx:Addr}{n s:Str}{e:V}{wd i0:Int} (dc:DCls K C) (hp:H p=some (.ins C dx [])) (hn:bI n=true) (hs:bI s=true) (he:fB e) (hw:0<=wd) (b0:0<=i0)
  (k:∀H',SameBut p H H'->H' p=some (.ins C dx (wU (.str n) (.str s) e (.int wd) (.int i0)))->Q .non H'):iX K [.ref p,.str n,.str s,e,.int wd,.int i0] H Q E:=⟨_,_,_,_,_,_,_,_,rfl,dc,hp,hn,hs,he,hw,b0,k⟩
theorem yL (m:M K mg):FnOk P w K mg base CX0 4 m.lK m.lG ["self","name","start","end","wide","bits"] (iX K):=by
 refine m.BY.ok sc_Marked___init__ (fun vs H Q E h=> ?_) (fun cdv A outer s H vs Q E hr h=> ?_)
 ·walk_at"g1";obtain⟨p,C,dx,n,st,e,wd,i0,rfl,dc,hp,hn,hs,he,hw,b0,k⟩:=h;walk_at"g2";rfl
 ·walk_at"g1";obtain⟨p,C,dx,n,st,e,wd,i0,rfl,dc,hp,hn,hs,he,hw,b0,k⟩:=h;walk_at"g2";have nd:=sc_Marked___init__.nd;walk_at"hu";have D_Door___init__:= @hO P w K mg base m;have cT:= @jS P w K mg base m;refine⟨_,(aB (bT (KK D_Door___init__ hr (aA (pv 0) (aA (pv 1) (aA (pv 2) (aA (pv 3) (aA (pv 4) aE)))))))
   (aB (bT (bF cT hr (aA fE (aA (pv 5) (aA aC aE)))))
   (aF (gQ (pv 0) (pv 5) rfl)))),?_⟩
  refine aO (σ:=[some (.ref p),some (.str n),some (.str st),some (e),some (.int wd),some (.int i0)]) rfl ?_;walk_at"cx";walk_at"go";exact k _ (by walk_at"sb") (by assumption)
theorem OI (m:M K mg):Kc P w K mg base "Marked" m.iO 4 [] (iX K):=⟨_,_,_,_,m.ZJ,m.WG,.nil,m.BU,yL m⟩
theorem RY {H:Hp}{Q:VK}{E:XK}{C:Addr}{vs dvs:List V}{n s:Str}{e:V}{wd i0:Int} (ev:vs++dvs=[.str n,.str s,e,.int wd,.int i0]) (dc:DCls K C) (hn:bI n=true) (hs:bI s=true) (he:fB e) (hw:0<=wd) (b0:0<=i0)
  (k:∀p dx H',H p=none->Same H H'->H' p=some (.ins C dx (wU (.str n) (.str s) e (.int wd) (.int i0)))->Q (.ref p) H'):rX C (iX K) dvs E Q vs H :=
 oK (fun p dx H0 Q' h k' s0=>by rw[ev];exact IW dc h hn hs he hw b0 k') k
local macro_rules| `(tactic| walk_at"rd1")=> `(tactic| ((with_reducible refine' RY ?v ?d ?hn ?hs ?he ?hw ?b0 ?_);(case v=>rfl);(case d=>assumption);(case hn=>assumption);(case hs=>assumption);(case he=>first|assumption|exact .inl rfl|exact .inr ⟨_,rfl,by assumption⟩);(case hw=>walk_at"sd");(case b0=>walk_at"sd");intro p' dx' H' n' S' e'))
def sV (wd i0 t:Int):Int:=if i0/2^t.toNat%2=1 then wd else 0
inductive kX (K:W.Frag)(vs:List V)(H:Hp)(Q:VK)(E:XK):Prop
 | mk (p C dx:Addr) (fs:List (Str×V)) (t wd i0:Int) (_:vs=[.ref p,.int t]) (_:DCls K C) (_:H p=some (.ins C dx fs)) (_:fs.lookup ("wide" :Str)=some (.int wd)) (_:fs.lookup ("bits" :Str)=some (.int i0)) (_:0<=t) (_:0<=i0) (_:Q (.int (sV wd i0 t)) H):kX K vs H Q E
theorem yC {H:Hp}{Q:VK}{E:XK}{p C dx:Addr}{fs:List (Str×V)}{t wd i0:Int} (hp:H p=some (.ins C dx fs)) (dc:DCls K C) (l:fs.lookup ("wide" :Str)=some (.int wd)) (m0:fs.lookup ("bits" :Str)=some (.int i0)) (ht:0<=t) (b0:0<=i0) (k:Q (.int (sV wd i0 t)) H):kX K [.ref p,.int t] H Q E:=⟨_,_,_,_,_,_,_,rfl,dc,hp,l,m0,ht,b0,k⟩
theorem GG (m:M K mg):FnOk P w K mg base CX0 1 m.rN m.rD ["self","turn"] (kX K):=by
 refine m.KC.ok sc_Marked_lets (fun vs H Q E h=> ?_) (fun cdv A outer s H vs Q E hr h=> ?_)
 ·walk_at"g1";obtain⟨p,C,dx,fs,t,wd,i0,rfl,dc,hp,l,m0,ht,b0,k⟩:=h;walk_at"g2";rfl
 ·walk_at"g1";obtain⟨p,C,dx,fs,t,wd,i0,rfl,dc,hp,l,m0,ht,b0,k⟩:=h;walk_at"g2";have nd:=sc_Marked_lets.nd;walk_at"hu";refine⟨_,(aB (bR (aW E5 (pv 1) (aCU PySem.F.plainAttrs_int PySem.F.slot_int_bit_length PySem.F.type_int_bit_length UZ (bV (pv 0) rfl)) (aY _)) (aF (aV aC)) bC)
   (aF (aV (wZ (aW dG (aI bN (aI SX (bV (pv 0) rfl) (pv 1)) aC) aC (aY _)) (bV (pv 0) rfl) aC)))),?_⟩
  refine aO (σ:=[some (.ref p),some (.int t)]) rfl ?_;walk_at"cx";unfold sV at k;walk_at"go";refine cA (fun hw=> ?_) (fun hw=> ?_)
  ·walk_at"go";rw[if_neg (by rw[U3 b0 hw];decide)]at k;exact k
  ·walk_at"go";refine cA (fun hv=> ?_) (fun hv=> ?_)
   ·walk_at"go";rw[if_pos hv]at k;exact k
   ·walk_at"go";rw[if_neg hv]at k;exact k
theorem F6 (m:M K mg):Mc P w K mg base m.iO "lets" 1 (kX K):=⟨_,_,_,m.qU.ic.cl,m.HH,m.JX,GG m⟩
local macro_rules| `(tactic| walk_at"rd1")=> `(tactic| ((with_reducible refine' yC ?e ?d ?l ?m0 ?ht ?b0 ?_);(case e=>walk_at"hp");(case d=>assumption);(case l=>walk_at"lk");(case m0=>walk_at"lk");(case ht=>walk_at"sd");(case b0=>walk_at"sd")))
abbrev aG:=Str×Str×V×(Int->Int)
def W0:HO->Prop
 | .lst _=>True
 | .dK _=>True
 | .dT _=>True
 | .tbl _=>True
 | .ins _ _ fs=>fs=[]
 | _=>False
structure bG where
 at':Hp->V->aG->Prop
 same:∀{H H' v d},at' H v d->Same H H'->at' H' v d
 but:∀{H H' v d p o},at' H v d->H p=some o->W0 o->SameBut p H H'->at' H' v d
def ZU (P:Program)(w:World)(K:W.Frag)(mg:Str->Option Value)(base:Heap)(kL:Option Nat)(p C dx:Addr)(fs:List (Str×V))(fp:List (Addr×HO))(lt:Int->Int):Prop:=∀kl,kL=some kl →
 ∃sp,Mc P w K mg base C "lets" kl sp/\∀(H':Hp) (t:Int) (Q:VK),H' p=some (.ins C dx fs)->(∀x∈fp,H' x.1=some x.2)->0<=t->(∀H'',Same H' H''->Q (.int (lt t)) H'')->sp [.ref p,.int t] H' Q E0
def DoorAt (P:Program)(w:World)(K:W.Frag)(mg:Str->Option Value)(base:Heap)(kL:Option Nat)(H:Hp)(v:V)(d:aG):Prop:=∃p C dx fs fp,v= .ref p/\H p=some (.ins C dx fs)/\DCls K C/\fs.lookup ("name" :Str)=some (.str d.1)/\fs.lookup ("start" :Str)=some (.str d.2.1)/\fs.lookup ("end" :Str)=some d.2.2.1/\fs.lookup ("is_exit" :Str)=none/\fs.lookup ("lets" :Str)=none/\Mc P w K mg base C "is_exit" 1 (h8 K)/\(∀x∈fp,H x.1=some x.2/\¬W0 x.2)/\ZU P w K mg base kL p C dx fs fp d.2.2.2
theorem DoorAt.ex {kL:Option Nat}{H:Hp}{v:V}{n st:Str}{e:V}{lt:Int->Int} (h:DoorAt P w K mg base kL H v (n,st,e,lt)):∃p C dx fs fp,v= .ref p/\H p=some (.ins C dx fs)/\DCls K C/\fs.lookup ("name" :Str)=some (.str n)/\fs.lookup ("start" :Str)=some (.str st)/\fs.lookup ("end" :Str)=some e/\fs.lookup ("is_exit" :Str)=none/\fs.lookup ("lets" :Str)=none/\Mc P w K mg base C "is_exit" 1 (h8 K)/\(∀x∈fp,H x.1=some x.2/\¬W0 x.2)/\ZU P w K mg base kL p C dx fs fp lt:=h
def aX (P:Program)(w:World)(K:W.Frag)(mg:Str->Option Value)(base:Heap)(kL:Option Nat):bG where
 at':=DoorAt P w K mg base kL
 same:=fun⟨p,C,dx,fs,fp,e,hp,dc,l1,l2,l3,l4,l5,mc,hf,lt⟩ s=>⟨p,C,dx,fs,fp,e,s _ _ hp,dc,l1,l2,l3,l4,l5,mc,fun x hx=>⟨s _ _ (hf x hx).1,(hf x hx).2⟩,lt⟩
 but:=fun {H H' v d q o} ⟨p,C,dx,fs,fp,e,hp,dc,l1,l2,l3,l4,l5,mc,hf,lt⟩ ho so sb=>⟨p,C,dx,fs,fp,e,sb _ _ hp (fun z=>by
   rw[z,ho]at hp;cases hp;have h:fs=[]:=so;rw[h]at l1;cases l1),dc,l1,l2,l3,l4,l5,mc,fun x hx=>⟨sb _ _ (hf x hx).1 (fun z=>by
   have h:=(hf x hx).1;rw[z,ho]at h;cases h;exact(hf x hx).2 so),(hf x hx).2⟩,lt⟩
local macro_rules| `(tactic| walk_at"rd1")=> `(tactic| first|(with_reducible refine aAr ?_)|(with_reducible refine aBD ?_)|(with_reducible refine aCM ?_)|(with_reducible refine TY ?_)|(with_reducible refine UT ?_)|(with_reducible refine QL ?_)|(with_reducible refine rd_iItemsT ?_)|(with_reducible refine WS ?_)|((with_reducible refine XD ?_);intro p' H' n' S' e')|((with_reducible refine WZ ?_);intro p' H' n' S' e'))
theorem iA {H:Hp}{Q:VK}{l:Addr}{xs:List V}{y:V} (e:H l=some (.lst xs)) (hz:xs.length<sizeLine) (h:∀H',SameBut l H H'->H' l=some (.lst (xs++[y]))->Q .non H'):O8 (.ref l) [y] H Q :=
 ⟨l,xs,y,rfl,rfl,e,hz,h _ SameBut.upd bJ⟩
inductive wJ (vs:List V)(H:Hp)(Q:VK)(E:XK):Prop
 | mk (f l:Int) (_:vs=[.int f,.int l]) (_:0<=f) (_:f<=l) (_:Q .non H):wJ vs H Q E
theorem aAn {H:Hp}{Q:VK}{E:XK}{f l:Int} (h0:0<=f) (h1:f<=l) (h:Q .non H):wJ [.int f,.int l] H Q E:=⟨_,_,rfl,h0,h1,h⟩
theorem IZ (m:M K mg):FnOk P w K mg base CX0 1 m.tW m.uK ["first","last"] (wJ):=by
 refine m.oI.ok sc_need_turns (fun vs H Q E h=> ?_) (fun cdv A outer s H vs Q E hr h=> ?_)
 ·walk_at"g1";obtain⟨f,l,rfl,h0,h1,k⟩:=h;walk_at"g2";rfl
 ·walk_at"g1";obtain⟨f,l,rfl,h0,h1,k⟩:=h;walk_at"g2";have nd:=sc_need_turns.nd;walk_at"hu";refine⟨_,(aB (bR (aW j6 (pv 0) aC (aY _)) (aF jF) bC)
   (aF (bR (aW j6 (pv 1) (pv 0) (aY _)) (aF jF) bC))),?_⟩
  refine aO (σ:=[some (.int f),some (.int l)]) rfl ?_;walk_at"cx";walk_at"go";exact k
theorem JD (m:M K mg):Fc P w K mg base "need_turns" 1 ["first","last"] (wJ):=⟨_,_,m.NC,m.oI.kp,m.M6,IZ m⟩
inductive AL (K:W.Frag)(vs:List V)(H:Hp)(Q:VK)(E:XK):Prop
 | mk (a:Addr) (ss:List Str) (_:vs=[.ref a]) (_:SqL K H a (ss.map V.str)) (_:ss.Nodup) (_:ss.length<=100) (_:∀H',Same H H'->Q .non H'):AL K vs H Q E
theorem TR {H:Hp}{Q:VK}{E:XK}{a:Addr}{ss:List Str} (hS:SqL K H a (ss.map V.str)) (nd:ss.Nodup) (hl:ss.length<=100) (h:∀H',Same H H'->Q .non H'):AL K [.ref a] H Q E:=⟨_,_,rfl,hS,nd,hl,h⟩
theorem wM {α:Type}{ss:List α} (nd:ss.Nodup) {i:Nat}{z:α} (hz:ss[i]? =some z):z∉ss.take i:=fun h=>by
 obtain⟨hi,e⟩:=List.getElem?_eq_some_iff.mp hz;obtain⟨j,hj,ej⟩:=List.getElem_of_mem h;rw[List.length_take]at hj;rw[List.getElem_take]at ej;exact(List.pairwise_iff_getElem.mp nd) j i (by omega) hi (by omega) (ej.trans e.symm)
theorem cU {α:Type}{ss:List α}{i:Nat}{z:α} (hz:ss[i]? =some z):ss.take (i+1)=ss.take i++[z]:=by rw[List.take_succ,hz];rfl
theorem BK (m:M K mg):FnOk P w K mg base CX0 1 m.mM m.mS ["names"] (AL K):=by
 refine m.hJ.ok sc_need_each_once (fun vs H Q E h=> ?_) (fun cdv A outer s H vs Q E hr h=> ?_)
 ·walk_at"g1";obtain⟨a,ss,rfl,hS,hnd,hlen,k⟩:=h;walk_at"g2";rfl
 ·walk_at"g1";obtain⟨a,ss,rfl,hS,hnd,hlen,k⟩:=h;walk_at"g2";have nd:=sc_need_each_once.nd;walk_at"hu";refine⟨_,(aB (aP (i:=1) nd rfl (by walk_at"oi") oQ)
   (aF (cJ PassesOwn.never rfl (bH (pv 0)) (aH (i:=2) nd rfl (by walk_at"oi")) (aB (bR (qN (zB hu1 (pv 2) (pv 1)) (by with_unfolding_all rfl)) (aF jF) bC)
   (aF (dR hu1 (pv 1) (pv 2) AW rfl)))))),?_⟩
  refine aO (σ:=[some (.ref a),none,none]) rfl ?_;walk_at"cx";walk_at"go";rename_i p H1 n1 S1 e1;let Pv1:Nat->St->Hp->Prop:=fun i σ' H'=>SameBut p H1 H'/\∃kvs,H' p=some (.dK kvs)/\kvs.length<=i/\(∀z,(bD kvs (.inr z)).isSome=true->z∈ss.take i)/\∃x,σ'=[some (.ref a),some (.ref p),x];refine dQ (ss.map V.str) Pv1 ⟨SameBut.refl,[],e1,Nat.le_refl _,(fun z h=>by cases h),_,rfl⟩ (fun i σ' H' _ q=>(SameBut.same n1 S1 q.1).seq hS) ?_ ?_
  ·rintro i x _ H' hx hq_;walk_at"g1";obtain⟨sb,kvs,ek,hk,hin,y,rfl⟩:=hq_;walk_at"g2";rw[List.getElem?_map]at hx;obtain⟨z,hz,rfl⟩:=Option.map_eq_some_iff.mp hx;have hi:i<ss.length:=(List.getElem?_eq_some_iff.mp hz).1;have hno:(bD kvs (.inr z)).isSome=false:=by
    cases e:(bD kvs (.inr z)).isSome with
    | false=>rfl
    | true=>exact absurd (hin z e) (wM hnd hz)
   walk_at"go";refine aAg (.inl ek) ?_;rw[hno];walk_at"go";refine mH ek (by rw[sizeLine_eq];omega) fun H9 B9 e9=> ?_;refine⟨by walk_at"sb",_,e9,Nat.le_trans (iI _ _ _) (by omega),fun y hy=> ?_,_,rfl⟩;rw[mE]at hy;rw[cU hz]
   by_cases e:(Sum.inr y:Key)= .inr z
   ·cases e;exact List.mem_append_right _ (.head _)
   ·rw[if_neg e]at hy;exact List.mem_append_left _ (hin y hy)
  ·rintro _ H' hq_;walk_at"g1";obtain⟨sb,kvs,ek,hk,hin,y,rfl⟩:=hq_;walk_at"g2";exact k _ (SameBut.same n1 S1 sb)
theorem A9 (m:M K mg):Fc P w K mg base "need_each_once" 1 ["names"] (AL K):=⟨_,_,m.DL,m.hJ.kp,m.DV,BK m⟩
def cK (rs:List Str)(d:aG):Prop:=d.2.1∈rs/\(d.2.2.1= .non∨∃z,d.2.2.1= .str z/\z∈rs)
def bZ (H:Hp)(v:V)(p:Str×Int):Prop:=∃q,v= .ref q/\H q=some (.tup [.str p.1,.int p.2])
theorem lP {H H':Hp}{vs:List V}{ps:List (Str×Int)} (h:Paired (bZ H) vs ps) (s:Same H H'):Paired (bZ H') vs ps:=Paired.imp' (fun v z ⟨q,e,h⟩=>⟨q,e,s _ _ h⟩) h
inductive uZ (K:W.Frag)(D:bG)(vs:List V)(H:Hp)(Q:VK)(E:XK):Prop
 | mk (a b:Addr) (us:List V) (ds:List aG) (rs:List Str) (ws:List V) (ps:List (Str×Int)) (_:vs=[.ref a,.ref b]) (_:SqL K H a us) (_:Paired (D.at' H) us ds) (_:(∀d∈ds,cK rs d)) (_:ds.length<=20) (_:SqL K H b ws) (_:Paired (bZ H) ws ps) (_:(∀p∈ps,p.1∈rs)) (_:ps.length<=40) (_:∀p (ss:List Str) H',Same H H'->H' p=some (.lst (ss.map V.str))->(∀z∈ss,z∈rs)->ss.length<=80->Q (.ref p) H'):uZ K D vs H Q E
theorem XV {D:bG}{H:Hp}{Q:VK}{E:XK}{a b:Addr}{us:List V}{ds:List aG}{rs:List Str}{ws:List V}{ps:List (Str×Int)} (hS:SqL K H a us) (hd:Paired (D.at' H) us ds) (hr:∀d∈ds,cK rs d) (hl:ds.length<=20) (hb:SqL K H b ws) (hw:Paired (bZ H) ws ps) (hwr:∀p∈ps,p.1∈rs) (hwl:ps.length<=40) (h:∀p (ss:List Str) H',Same H H'->H' p=some (.lst (ss.map V.str))->(∀z∈ss,z∈rs)->ss.length<=80->Q (.ref p) H'):uZ K D [.ref a,.ref b] H Q E:=⟨_,_,_,_,_,_,_,rfl,hS,hd,hr,hl,hb,hw,hwr,hwl,h⟩
theorem zC (m:M K mg):FnOk P w K mg base CX0 2 m.lJ m.lD ["doors","people"] (uZ K (aX P w K mg base (some 4))):=by
 refine m.iQ.ok sc_rooms_spoken_of (fun vs H Q E h=> ?_) (fun cdv A outer s H vs Q E hr h=> ?_)
 ·walk_at"g1";obtain⟨a,b,us,ds,rs,ws,ps,rfl,hS,hd,hr',hlen,hb,hw,hwr,hwl,k⟩:=h;walk_at"g2";rfl
 ·walk_at"g1";obtain⟨a,b,us,ds,rs,ws,ps,rfl,hS,hd,hr',hlen,hb,hw,hwr,hwl,k⟩:=h;walk_at"g2";have nd:=sc_rooms_spoken_of.nd;walk_at"hu";refine⟨_,(aB (aP (i:=2) nd rfl (by walk_at"oi") (dU aE))
   (aB (cJ PassesOwn.never rfl (bH (pv 0)) (aH (i:=3) nd rfl (by walk_at"oi")) (aB (bT (sI PySem.F.plainAttrs_list PySem.F.slot_list_append PySem.F.type_list_append iB (pv 2) (aA (bV (pv 3) rfl) aE)))
   (aF (bR (zO (nO (kC 1 hr (pv 3)))) (aF (bT (sI PySem.F.plainAttrs_list PySem.F.slot_list_append PySem.F.type_list_append iB (pv 2) (aA (bV (pv 3) rfl) aE)))) bC))))
   (aF (aV (aI E3 (pv 2) (cV (N:=["room","number"]) (nl:=2) (ci:=[]) rfl (blk (s.heap.objs.size+1) rfl rfl rfl (by kernel_rfl)) (bH (pv 1)) (fun _ _ _ _=>(jV (K:=K) (n:=2) rfl (aN (aH (i:=0) (show (["room","number"]:List Str).Nodup by decide +kernel) rfl (by walk_at"oi")) (aN (aH (i:=1) (show (["room","number"]:List Str).Nodup by decide +kernel) rfl (by walk_at"oi")) cM)))) (fun _ _ _ _=>fC) (fun _ _ _ _=>(pv 0)))))))),?_⟩
  refine aO (σ:=[some (.ref a),some (.ref b),none,none]) rfl ?_;walk_at"cx";have hul:us.length=ds.length:=Paired.length hd;walk_at"go";rename_i p H1 n1 S1 e1;let Pv2:Nat->St->Hp->Prop:=fun i σ' H'=>SameBut p H1 H'/\(∃ss:List Str,H' p=some (.lst (ss.map V.str))/\(∀z∈ss,z∈rs)/\ss.length<=2 * i)/\∃x,σ'=[some (.ref a),some (.ref b),some (.ref p),x];refine dQ us Pv2 ⟨SameBut.refl,⟨[],e1,(fun _ z=>nomatch z),Nat.le_refl _⟩,_,rfl⟩ (fun i σ' H' _ q=>(SameBut.same n1 S1 q.1).seq hS) ?_ ?_
  ·rintro i x _ H' hx hq_;walk_at"g1";obtain⟨sb,⟨ss,es,hin,hsl⟩,y,rfl⟩:=hq_;walk_at"g2";have hi:i<us.length:=(List.getElem?_eq_some_iff.mp hx).1;obtain⟨d,hdx⟩:∃d,ds[i]? =some d:=⟨_,List.getElem?_eq_getElem (by omega)⟩
   walk_at"g1";obtain⟨n,st,e,lt⟩:=d;walk_at"g2";walk_at"g1";obtain⟨q,C9,dx,fs,fp,rfl,hq,dcC,l1,l2,l3,l4,l5,mcE,hfp,hlt⟩:=DoorAt.ex (Paired.at2 hd hx hdx);walk_at"g2";obtain⟨r1,r2⟩:=hr' _ (List.mem_of_getElem? hdx);have hqp:q≠p:=fun z=>by rw[z,n1]at hq;cases hq
   have hq':H' q=some (.ins C9 dx fs):=sb _ _ (S1 _ _ hq) hqp;rcases r2 with r2|⟨z,r2,r3⟩
   ·have r2:e= .non:=r2;subst r2;walk_at"go";refine iA es (by rw[sizeLine_eq,List.length_map];omega) fun H8 B8 e8=> ?_;have hq8:=B8 _ _ hq' hqp;walk_at"go";exact⟨by walk_at"sb",⟨ss++[st],by rw[e8,List.map_append];rfl,fun z hz=>(List.mem_append.mp hz).elim (hin z) (fun w=>by cases List.mem_singleton.mp w;exact r1),by rw[List.length_append];show ss.length+1<=_;omega⟩,_,rfl⟩
   ·have r2:e= .str z:=r2;subst r2;walk_at"go";refine iA es (by rw[sizeLine_eq,List.length_map];omega) fun H8 B8 e8=> ?_;have hq8:=B8 _ _ hq' hqp;walk_at"go";refine iA e8 (by rw[sizeLine_eq,List.length_append,List.length_map];show ss.length+1<_;omega) fun H9 B9 e9=> ?_;walk_at"go";refine⟨by walk_at"sb",⟨ss++[st]++[z],by rw[e9,List.map_append,List.map_append];rfl,fun z hz=> ?_,by rw[List.length_append,List.length_append];show ss.length+1+1<=_;omega⟩,_,rfl⟩;rcases List.mem_append.mp hz with hz|hz
    ·exact(List.mem_append.mp hz).elim (hin z) (fun w=>by cases List.mem_singleton.mp w;exact r1)
    ·cases List.mem_singleton.mp hz;exact r3
  ·rintro _ H' hq_;walk_at"g1";obtain⟨sb,⟨ss,es,hin,hsl⟩,y,rfl⟩:=hq_;walk_at"g2";have sH:Same H H':=SameBut.same n1 S1 sb;have hb':=sH.seq hb;walk_at"go";refine oT (α:=Str×Int) (xs:=ps) (vs:=ws) (fun p=> .str p.1) (fun p=> .int p.2) (fun _=>true) (fun p y _=>y= .str p.1) (fun _ _ _ _ h _=>h) (by rw[sizeLine_eq];omega) (rest:=[]) (by rfl) hb' (lP hw sH) (fun x H1 hx s1 R hR=>hR _ (Same.refl _)) (fun x H1 hx _ s1 R hR=> ?_) ?_
   ·walk_at"go";exact hR _ _ rfl (Same.refl _)
   intro ys H2 s2 hys;rw[fM]at hys;obtain rfl:=fD hys;walk_at"go";rename_i q3 H3 n3 S3 e3 q4 H4 n4 S4 e4;refine k _ (ss++ps.map (·.1)) _ (by walk_at"sm") (by rw[e4,List.map_append,List.map_map];rfl) (fun z hz=> ?_) (by rw[List.length_append,List.length_map];omega);rcases List.mem_append.mp hz with hz|hz
   ·exact hin z hz
   ·obtain⟨p,hp,rfl⟩:=List.mem_map.mp hz;exact hwr p hp
theorem yW (m:M K mg):Fc P w K mg base "rooms_spoken_of" 2 ["doors","people"] (uZ K (aX P w K mg base (some 4))):=⟨_,_,m.BT,m.iQ.kp,m.BR,zC m⟩
inductive wP (K:W.Frag)(vs:List V)(H:Hp)(Q:VK)(E:XK):Prop
 | mk (a b:Addr) (ss:List Str) (kvs:List (Key×V)) (_:vs=[.ref a,.ref b]) (_:SqL K H a (ss.map V.str)) (_:Rd H b (.dK kvs)) (_:(∀z∈ss,(bD kvs (.inr z)).isSome=true)) (_:∀H',Same H H'->Q .non H'):wP K vs H Q E
theorem PB {H:Hp}{Q:VK}{E:XK}{a b:Addr}{ss:List Str}{kvs:List (Key×V)} (hS:SqL K H a (ss.map V.str)) (hb:Rd H b (.dK kvs)) (hk:∀z∈ss,(bD kvs (.inr z)).isSome=true) (h:∀H',Same H H'->Q .non H'):wP K [.ref a,.ref b] H Q E:=⟨_,_,_,_,rfl,hS,hb,hk,h⟩
theorem aBN {H H':Hp}{a:Addr}{u:HO} (s:Same H H') (r:Rd H a u):Rd H' a u:=r.elim (fun e=> .inl (s _ _ e)) fun⟨o,e⟩=> .inr ⟨o,s _ _ e⟩
theorem JI (m:M K mg):FnOk P w K mg base CX0 1 m.tY m.tP ["names","sizes"] (wP K):=by
 refine m.i7.ok sc_need_rooms (fun vs H Q E h=> ?_) (fun cdv A outer s H vs Q E hr h=> ?_)
 ·walk_at"g1";obtain⟨a,b,ss,kvs,rfl,hS,hb,hk,k⟩:=h;walk_at"g2";rfl
 ·walk_at"g1";obtain⟨a,b,ss,kvs,rfl,hS,hb,hk,k⟩:=h;walk_at"g2";have nd:=sc_need_rooms.nd;walk_at"hu";refine⟨_,(aF (cJ PassesOwn.never rfl (bH (pv 0)) (aH (i:=2) nd rfl (by walk_at"oi")) (aF (bR (qN (yY hu1 (pv 2) (pv 1)) (by with_unfolding_all rfl)) (aF jF) bC)))),?_⟩;refine aO (σ:=[some (.ref a),some (.ref b),none]) rfl ?_;walk_at"cx";walk_at"go";let Pv3:Nat->St->Hp->Prop:=fun i σ' H'=>Same H H'/\∃x,σ'=[some (.ref a),some (.ref b),x];refine dQ (ss.map V.str) Pv3 ⟨Same.refl _,_,rfl⟩ (fun i σ' H' _ q=>q.1.seq hS) ?_ ?_
  ·rintro i x _ H' hx ⟨s1,y,rfl⟩;rw[List.getElem?_map]at hx;obtain⟨z,hz,rfl⟩:=Option.map_eq_some_iff.mp hx;have hz':=hk z (List.mem_of_getElem? hz);walk_at"go";refine ES (aBN s1 hb) ?_;rw[hz'];walk_at"go";exact⟨s1,_,rfl⟩
  ·rintro _ H' ⟨s1,y,rfl⟩;exact k _ s1
theorem yA (m:M K mg):Fc P w K mg base "need_rooms" 1 ["names","sizes"] (wP K):=⟨_,_,m.NJ,m.i7.kp,m.M4,JI m⟩
theorem YT {H:Hp}{Q:VK}{i j:Int} (h:Q (.int (i+j)) H):aDz (.int i) (.int j) H Q:=by
 first|exact h|exact⟨_,_,rfl,rfl,h⟩|exact .inl ⟨_,_,rfl,rfl,h⟩
theorem LI {H H':Hp}{p c:Addr}{kvs:List (Key×V)}{xs:List V} (h:SqL K H c xs) (hp:H p=some (.dK kvs)) (sb:SameBut p H H'):SqL K H' c xs:=by
 rcases h with (h|⟨o,h⟩)|h
 ·exact .inl (.inl (sb _ _ h fun z=>by rw[z,hp]at h;cases h))
 ·exact .inl (.inr ⟨o,sb _ _ h fun z=>by rw[z,hp]at h;cases h⟩)
 ·exact .inr h
def szK (rz:List (Str×Int)):List (Key×V):=rz.map fun e=>((.inr e.1:Key),V.int e.2)
theorem aAI (rz:List (Str×Int)):(szK rz).map (·.1)=(rz.map (·.1)).map (Sum.inr:Str->Key):=by unfold szK;rw[List.map_map,List.map_map];rfl
theorem IS {rs:List Str}(nd:rs.Nodup):(rs.map (Sum.inr:Str->Key)).Nodup:=by
 rw[List.Nodup,List.pairwise_map];exact List.Pairwise.imp (fun h z=>h (Sum.inr.inj z)) nd
theorem C0 {rz:List (Str×Int)}(nd:(rz.map (·.1)).Nodup):((szK rz).map (·.1)).Nodup:=by rw[aAI];exact IS nd
theorem F5 {rz:List (Str×Int)}(nd:(rz.map (·.1)).Nodup){e:Str×Int}(h:e∈rz):bD (szK rz) (.inr e.1)=some (.int e.2) :=
 sU (e:=((.inr e.1:Key),V.int e.2)) (C0 nd) (List.mem_map.mpr ⟨e,h,rfl⟩)
theorem K9 {rz:List (Str×Int)}(nd:(rz.map (·.1)).Nodup){z:Str}(h:z∈rz.map (·.1)):∃i,(z,i)∈rz/\bD (szK rz) (.inr z)=some (.int i):=by
 obtain⟨e,he,rfl⟩:=List.mem_map.mp h;exact⟨e.2,he,F5 nd he⟩
theorem zR {kvs:List (Key×V)}{k:Key} (h:∀e∈kvs,e.1≠k):bD kvs k=none:=by
 induction kvs with
 | nil=>rfl
 | cons a l ih =>
  rw[d5 (h a (.head _))];exact ih fun e he=>h e (List.mem_cons_of_mem _ he)
theorem IR:∀(ps kvs:List (Key×V)),(ps.map (·.1)).Nodup->(∀e∈kvs,∀q∈ps,e.1≠q.1)->m6 kvs ps=kvs++ps
 | [],kvs,_,_=>(List.append_nil _).symm
 | (k,v)::ps,kvs,nd,h=>by
  have nd':=List.pairwise_cons.mp nd;show m6 (cP kvs k v) ps=_;rw[l9 v (zR fun e he=>h e he _ (.head _)),IR ps _ nd'.2,List.append_assoc]
  ·rfl
  ·intro e he q hq;rcases List.mem_append.mp he with he|he
   ·exact h e he q (List.mem_cons_of_mem _ hq)
   ·cases List.mem_singleton.mp he;exact nd'.1 q.1 (List.mem_map.mpr ⟨q,hq,rfl⟩)
theorem WU {rz:List (Str×Int)}(nd:(rz.map (·.1)).Nodup):m6 [] (szK rz)=szK rz:=by
 rw[IR _ _ (C0 nd) (fun e he=>absurd he (List.not_mem_nil))];rfl
theorem KL {kvs:List (Key×V)}:∀(o:Obj) (x:HO),HO.dK kvs≠ .frz o x:=fun _ _ z=>by cases z
def E9 (rz:List (Str×Int))(ps:List (Str×Int))(kvs:List (Key×V)):Prop:=∀z∈rz.map (·.1),bD kvs (.inr z)=some (.int (cC ps z))
inductive wN (K:W.Frag)(vs:List V)(H:Hp)(Q:VK)(E:XK):Prop
 | mk (a b:Addr) (rz:List (Str×Int)) (ws:List V) (ps:List (Str×Int)) (_:vs=[.ref a,.ref b]) (_:H a=some (.dK (szK rz))) (_:SqL K H b ws) (_:Paired (bZ H) ws ps) (_:(∀p∈ps,p.1∈rz.map (·.1))) (_:(rz.map (·.1)).Nodup) (_:rz.length<=100) (_:∀p H' kvs,H p=none->Same H H'->H' p=some (.dK kvs)->kvs.map (·.1)=(szK rz).map (·.1)->E9 rz ps kvs->Q (.ref p) H'):wN K vs H Q E
theorem P7 {H:Hp}{Q:VK}{E:XK}{a b:Addr}{rz:List (Str×Int)}{ws:List V}{ps:List (Str×Int)} (ha:H a=some (.dK (szK rz))) (hb:SqL K H b ws) (hw:Paired (bZ H) ws ps) (hwr:∀p∈ps,p.1∈rz.map (·.1)) (nd:(rz.map (·.1)).Nodup) (hl:rz.length<=100) (h:∀p H' kvs,H p=none->Same H H'->H' p=some (.dK kvs)->kvs.map (·.1)=(szK rz).map (·.1)->E9 rz ps kvs->Q (.ref p) H'):wN K [.ref a,.ref b] H Q E:=⟨_,_,_,_,_,rfl,ha,hb,hw,hwr,nd,hl,h⟩
theorem Y1 {kvs:List (Key×V)}{k:Key}{v:V} (h:(bD kvs k).isSome=true):(cP kvs k v).map (·.1)=kvs.map (·.1):=by
 unfold cP;rw[pB,if_pos h,List.map_map]
 apply List.map_congr_left
 intro x _;show (if x.1=k then (x.1,v) else x).1=x.1
 split<;>rfl
theorem D9 (m:M K mg):FnOk P w K mg base CX0 1 m.pQ m.pK ["sizes","people"] (wN K):=by
 refine m.gH.ok sc_added_people (fun vs H Q E h=> ?_) (fun cdv A outer s H vs Q E hr h=> ?_)
 ·walk_at"g1";obtain⟨a,b,rz,ws,ps,rfl,ha,hb,hw,hwr,ndz,hlen,k⟩:=h;walk_at"g2";rfl
 ·walk_at"g1";obtain⟨a,b,rz,ws,ps,rfl,ha,hb,hw,hwr,ndz,hlen,k⟩:=h;walk_at"g2";have nd:=sc_added_people.nd;walk_at"hu";refine⟨_,(aB (aP (i:=2) nd rfl (by walk_at"oi") oQ)
   (aB (aBv (cJ PassesOwn.never rfl (CK (pv 0)) (aH (i:=3) nd rfl (by walk_at"oi")) (aF (dR hu1 (pv 2) (pv 3) aC rfl))))
   (aB (cJ PassesOwn.never rfl (bH (pv 1)) (i3 rfl (aN (aH (i:=3) nd rfl (by walk_at"oi")) (aN (aH (i:=4) nd rfl (by walk_at"oi")) cM))) (aF (aAf hu1 (pv 2) (pv 3) (pv 4) aDJ (fun _ _ _=>rfl))))
   (aF (aV (pv 2)))))),?_⟩
  refine aO (σ:=[some (.ref a),some (.ref b),none,none,none]) rfl ?_;walk_at"cx";walk_at"go";rename_i p H1 n1 S1 e1;have hap:a≠p:=fun z=>by rw[z,n1]at ha;cases ha
  have ha1:=S1 _ _ ha;have hl2:(szK rz).length=rz.length:=by unfold szK;rw[List.length_map]
  refine X2 ha1 KL ?_;walk_at"go";refine CS ha1 fun o H2 B2 e2=> ?_;have ep2:H2 p=some (.dK []):=B2 _ _ e1 (Ne.symm hap);have hwl:ws.length=ps.length:=Paired.length hw;let Pv1:Nat->St->Hp->Prop:=fun i σ' H'=>SameBut p H2 H'/\H' p=some (.dK ((rz.take i).map fun e=>((.inr e.1:Key),V.int 0)))/\∃x,σ'=[some (.ref a),some (.ref b),some (.ref p),x,none];refine X1 (szK rz) Pv1 ⟨SameBut.refl,ep2,_,rfl⟩ (fun i σ' H' q=>q.1 _ _ e2 hap) ?_ ?_
  ·rintro i kk v _ H' hx hq_;walk_at"g1";obtain⟨sb,ek,y,rfl⟩:=hq_;walk_at"g2";unfold szK at hx;rw[List.getElem?_map]at hx;walk_at"g1";obtain⟨⟨z,sz⟩,hz,ez⟩:=Option.map_eq_some_iff.mp hx;walk_at"g2";cases ez;have hi:i<rz.length:=(List.getElem?_eq_some_iff.mp hz).1;have hnone:bD ((rz.take i).map fun e=>((.inr e.1:Key),V.int 0)) (.inr z)=none:=zR fun e he=>by
    obtain⟨d,hd,rfl⟩:=List.mem_map.mp he;intro zz;have hn:z∉(rz.map (·.1)).take i:=wM ndz (by rw[List.getElem?_map,hz];rfl)
    apply hn
    rw[←List.map_take];exact List.mem_map.mpr ⟨d,hd,Sum.inr.inj zz⟩
   show (_:TG) (.str z) _ _ _;walk_at"go";refine mH ek (by rw[sizeLine_eq,List.length_map,List.length_take];omega) fun H9 B9 e9=> ?_;refine⟨by walk_at"sb",?_,_,rfl⟩;rw[e9,l9 _ hnone,cU hz,List.map_append];rfl
  ·rintro _ H' hq_;walk_at"g1";obtain⟨sb,ek,y,rfl⟩:=hq_;walk_at"g2";rw[hl2,List.take_length]at ek;refine qP (sb _ _ e2 hap) fun H3 B3 e3=> ?_;have ep3:=B3 _ _ ek (Ne.symm hap);have sH:Same H H3:=fun x u hx=>by
    by_cases ex:x=a
    ·subst ex;rw[ha]at hx;cases hx;exact e3
    ·have hxp:x≠p:=fun z=>by rw[z,n1]at hx;cases hx
     exact B3 _ _ (sb _ _ (B2 _ _ (S1 _ _ hx) ex) hxp) ex
   have hb3:=sH.seq hb;have hw3:=lP hw sH;have hnb:∀{H':Hp}{v:V}{r:Str×Int},SameBut p H3 H'->bZ H3 v r->bZ H' v r:=fun sb ⟨q,e,hq⟩=>⟨q,e,sb _ _ hq fun z=>by rw[z,ep3]at hq;cases hq⟩
   walk_at"go";let Pv2:Nat->St->Hp->Prop:=fun i σ' H'=>SameBut p H3 H'/\(∃kvs,H' p=some (.dK kvs)/\kvs.map (·.1)=(szK rz).map (·.1)/\E9 rz (ps.take i) kvs)/\∃x y,σ'=[some (.ref a),some (.ref b),some (.ref p),x,y];refine dQ ws Pv2 ⟨SameBut.refl,⟨_,ep3,?_,?_⟩,_,_,rfl⟩ (fun i σ' H' _ q=>LI hb3 ep3 q.1) ?_ ?_
   ·unfold szK;rw[List.map_map,List.map_map];rfl
   ·intro z hz;obtain⟨e,he,rfl⟩:=List.mem_map.mp hz;exact sU (e:=((.inr e.1:Key),V.int 0)) (by rw[show (rz.map fun e=>((.inr e.1:Key),V.int 0)).map (·.1)=(szK rz).map (·.1) from by unfold szK;rw[List.map_map,List.map_map];rfl];exact C0 ndz) (List.mem_map.mpr ⟨e,he,rfl⟩)
   ·rintro i x _ H' hx hq_;walk_at"g1";obtain⟨sb',⟨kvs,ek',hkk,hin⟩,x1,x2,rfl⟩:=hq_;walk_at"g2";have hi:i<ws.length:=(List.getElem?_eq_some_iff.mp hx).1;obtain⟨⟨z,nn⟩,hpx⟩:∃d,ps[i]? =some d:=⟨_,List.getElem?_eq_getElem (by omega)⟩
    obtain⟨q,rfl,hq⟩:=Paired.at2 hw3 hx hpx;have hq':H' q=some (.tup [.str z,.int nn]):=sb' _ _ hq fun zz=>by rw[zz,ep3]at hq;cases hq
    have hzr:z∈rz.map (·.1):=hwr _ (List.mem_of_getElem? hpx);have hkl:kvs.length=rz.length:=by rw[←List.length_map (f:=fun e:Key×V=>e.1),hkk,List.length_map,hl2]
    walk_at"go";refine aAV ?_;walk_at"go";refine W7 (.inl ek') (hin z hzr) ?_;walk_at"go";refine YT ?_;refine aAK ek' (by rw[sizeLine_eq];omega) fun H9 B9 e9=> ?_;refine⟨by walk_at"sb",⟨_,e9,?_,fun y hy=> ?_⟩,_,_,rfl⟩
    ·rw[Y1 (by rw[hin z hzr];rfl)];exact hkk
    ·rw[mE,cU hpx,T3]
     by_cases e:(Sum.inr y:Key)= .inr z
     ·cases e;rw[if_pos rfl,if_pos rfl]
     ·rw[if_neg e,if_neg (fun zz=>e (by rw[show z=y from zz])),Int.add_zero];exact hin y hy
   ·rintro _ H' hq_;walk_at"g1";obtain⟨sb',⟨kvs,ek',hkk,hin⟩,x1,x2,rfl⟩:=hq_;walk_at"g2";rw[hwl,List.take_length]at hin;walk_at"go";exact k _ _ _ n1 (SameBut.same n1 (fun x u hx=>sH x u hx) sb') ek' hkk hin
theorem uY (m:M K mg):Fc P w K mg base "added_people" 1 ["sizes","people"] (wN K):=⟨_,_,m.HM,m.gH.kp,m.G0,D9 m⟩
def FQ (rz ps:List (Str×Int)):Prop:=(∀p∈ps,0<=p.2)/\∀e∈rz,cC ps e.1<=e.2
inductive wL (K:W.Frag)(vs:List V)(H:Hp)(Q:VK)(E:XK):Prop
 | mk (a b:Addr) (rz:List (Str×Int)) (ws:List V) (ps:List (Str×Int)) (_:vs=[.ref a,.ref b]) (_:H a=some (.dK (szK rz))) (_:SqL K H b ws) (_:Paired (bZ H) ws ps) (_:(∀p∈ps,p.1∈rz.map (·.1))) (_:(rz.map (·.1)).Nodup) (_:rz.length<=100) (_:ps.length<=100) (_:FQ rz ps) (_:∀H',Same H H'->Q .non H'):wL K vs H Q E
theorem aAF {H:Hp}{Q:VK}{E:XK}{a b:Addr}{rz:List (Str×Int)}{ws:List V}{ps:List (Str×Int)} (ha:H a=some (.dK (szK rz))) (hb:SqL K H b ws) (hw:Paired (bZ H) ws ps) (hwr:∀p∈ps,p.1∈rz.map (·.1)) (nd:(rz.map (·.1)).Nodup) (hl:rz.length<=100) (hpl:ps.length<=100) (hf:FQ rz ps) (h:∀H',Same H H'->Q .non H'):wL K [.ref a,.ref b] H Q E:=⟨_,_,_,_,_,rfl,ha,hb,hw,hwr,nd,hl,hpl,hf,h⟩
theorem zW {α:Type}:∀{l:List α}{ys:List V},Paired (fun _ y=>y=V.bl false) l ys->ys=(l.map fun _=>false).map V.bl
 | _,_,.nil=>rfl
 | _,_,.cons h t=>by rw[h,zW t];rfl
theorem IE {α:Type}(l:List α):(l.map fun _=>false).any id=false:=by simp
theorem JG (m:M K mg):FnOk P w K mg base CX0 2 m.t8 m.tX ["sizes","people"] (wL K):=by
 refine m.nZ.ok sc_need_space (fun vs H Q E h=> ?_) (fun cdv A outer s H vs Q E hr h=> ?_)
 ·walk_at"g1";obtain⟨a,b,rz,ws,ps,rfl,ha,hb,hw,hwr,ndz,hlen,hpl,hf,k⟩:=h;walk_at"g2";rfl
 ·walk_at"g1";obtain⟨a,b,rz,ws,ps,rfl,ha,hb,hw,hwr,ndz,hlen,hpl,hf,k⟩:=h;walk_at"g2";have nd:=sc_need_space.nd;walk_at"hu";have gH:= @uY P w K mg base m;refine⟨_,(aB (bR (nO (bP (HU rfl) rfl m.aAc VT (aA (cV (N:=["room","number"]) (nl:=2) (ci:=[]) rfl (blk (s.heap.objs.size+1) rfl rfl rfl (by kernel_rfl)) (bH (pv 1)) (fun _ _ _ _=>(jV (K:=K) (n:=2) rfl (aN (aH (i:=0) (show (["room","number"]:List Str).Nodup by decide +kernel) rfl (by walk_at"oi")) (aN (aH (i:=1) (show (["room","number"]:List Str).Nodup by decide +kernel) rfl (by walk_at"oi")) cM)))) (fun _ _ _ _=>fC) (fun _ _ _ _=>(v9 j6 (pv 1) aC (aY _)))) aE))) (aF jF) bC)
   (aB (aP (i:=2) nd rfl (by walk_at"oi") (bF gH hr (aA (pv 0) (aA (pv 1) aE))))
   (aF (bR (nO (bP (HU rfl) rfl m.aAc VT (aA (AN (cV (N:=["room","inside","sizes"]) (nl:=1) (ci:=[2,0]) rfl (blk (s.heap.objs.size+1) rfl rfl rfl (by kernel_rfl)) (CK (pv 0)) (fun _ _ _ _=>(aH (i:=0) (show (["room","inside","sizes"]:List Str).Nodup by decide +kernel) rfl (by walk_at"oi"))) (fun _ _ _ _=>fC) (fun _ _ _ _=>(v9 lX (c6 hu1 (pv 1) (pv 0) (fun _ _=>rfl)) (c6 hu1 (pv 2) (pv 0) (fun _ _=>rfl)) (aY _))))) aE))) (aF jF) bC)))),?_⟩
  refine aO (σ:=[some (.ref a),some (.ref b),none]) rfl ?_;walk_at"cx";walk_at"go";refine oT (α:=Str×Int) (xs:=ps) (vs:=ws) (fun p=> .str p.1) (fun p=> .int p.2) (fun _=>true) (fun p y _=>y= .bl false) (fun _ _ _ _ h _=>h) (by rw[sizeLine_eq];omega) (rest:=[]) (by rfl) hb hw (fun x H1 hx s1 R hR=>hR _ (Same.refl _)) (fun x H1 hx _ s1 R hR=> ?_) ?_
  ·have h0:=hf.1 x hx;walk_at"go";exact hR _ _ (by rw[decide_eq_false (by omega)]) (Same.refl _)
  intro ys H2 s2 hys;rw[fM]at hys;obtain rfl:=zW hys;walk_at"go";rename_i q H3 n3 S3 e3;refine UF (SqL.of e3) ?_;rw[IE];walk_at"go";have sA:Same H H3:=s2.trans S3;refine P7 (sA _ _ ha) (sA.seq hb) (lP hw sA) hwr ndz hlen fun p H4 kvs n4 S4 e4 hkk hv=> ?_;have ha4:=S4 _ _ (sA _ _ ha);walk_at"go";refine wY ha4 KL ?_;walk_at"go";refine CS ha4 fun o H5 B5 e5=> ?_;have hpa:p≠a:=fun z=>by rw[z,sA _ _ ha]at n4;cases n4
  have ep5:=B5 _ _ e4 hpa;refine TH (fun _=>true) (fun _ y _=>y= .bl false) (fun _ _ _ _ h _=>h) (by rw[sizeLine_eq];unfold szK;rw[List.length_map];omega) (rest:=[some (.ref p),some (.ref a)]) (by rfl) e5 (fun x H6 hx s6 R hR=>hR _ (Same.refl _)) ?_ ?_
  ·rintro x H6 hx - s6 R hR;obtain⟨e,he,rfl⟩:=List.mem_map.mp hx;have hfe:=hf.2 e he;show (_:TE) (some (V.str e.1)::[some (.ref p),some (.ref a)]) H6 R;walk_at"go";refine oV (.inl (s6 _ _ ep5)) (hv e.1 (List.mem_map.mpr ⟨e,he,rfl⟩)) ?_;walk_at"go";refine oV (.inr ⟨o,s6 _ _ e5⟩) (F5 ndz he) ?_;walk_at"go";exact hR _ _ (by rw[decide_eq_false (by omega)]) (Same.refl _)
  intro ys H6 s6 hys;rw[fM]at hys;obtain rfl:=zW hys;walk_at"go";rename_i q7 H7 n7 S7 e7;refine qP (S7 _ _ (s6 _ _ e5)) fun H8 B8 e8=> ?_;have hq7:q7≠a:=fun z=>by rw[z,s6 _ _ e5]at n7;cases n7
  have e78:=B8 _ _ e7 hq7;walk_at"go";refine UF (SqL.of e78) ?_;rw[IE];walk_at"go";exact k _ (yU (ha) (fun x u hx hxa=>B5 _ _ (S4 _ _ (sA _ _ hx)) hxa) (Same.but (s6.trans S7)) B8 e8)
theorem JM (m:M K mg):Fc P w K mg base "need_space" 2 ["sizes","people"] (wL K):=⟨_,_,m.NH,m.nZ.kp,m.NW,JG m⟩
def RoomsAt (H:Hp)(vs:List V)(rz:List (Str×Int)):Prop:=Paired (bZ H) vs rz
theorem RoomsAt.sm {H H':Hp}{vs:List V}{rs:List (Str×Int)} (h:RoomsAt H vs rs) (s:Same H H'):RoomsAt H' vs rs:=Paired.imp' (fun v z ⟨q,e,h⟩=>⟨q,e,s _ _ h⟩) h
theorem CG {H:Hp}:∀{vs:List V}{rs:List (Str×Int)},RoomsAt H vs rs->KP H vs (szK rs)
 | _,_,.nil=> .nil
 | _,_,.cons h t=> .cons h (CG t)
theorem oN {D:bG}{H H':Hp}{us:List V}{ds:List aG} (h:Paired (D.at' H) us ds) (s:Same H H'):Paired (D.at' H') us ds:=Paired.imp' (fun v d h=>D.same h s) h
abbrev PJ (f l:Int)(qs qp qd:Addr):List (Str×V):=cZ "named_doors" (.ref qd) (cZ "people" (.ref qp) (cZ "sizes" (.ref qs) (cZ "last" (.int l) (cZ "first" (.int f) []))))
def uU (D:bG)(H:Hp)(nk:List (Key×V))(ds:List aG):Prop:=Paired (fun e d=>e.1= .inr d.1/\D.at' H e.2 d) nk ds
theorem XT {D:bG}{H H':Hp}{nk:List (Key×V)}{ds:List aG} (h:uU D H nk ds) (s:Same H H'):uU D H' nk ds:=Paired.imp' (fun e d h=>⟨h.1,D.same h.2 s⟩) h
structure bB (C:Addr)(D:bG)(H:Hp)(h:Addr)(f l:Int)(rz ps:List (Str×Int))(ds:List aG):Prop where
 ex:∃dx qs qp qd nk kvs,H h=some (.ins C dx (PJ f l qs qp qd))/\H qs=some (.dK (szK rz))/\H qp=some (.dK kvs)/\kvs.map (·.1)=(szK rz).map (·.1)/\E9 rz ps kvs/\H qd=some (.dK nk)/\uU D H nk ds
theorem bK {C:Addr}{D:bG}{H H':Hp}{h:Addr}{f l:Int}{rz ps:List (Str×Int)}{ds:List aG} (x:bB C D H h f l rz ps ds) (s:Same H H'):bB C D H' h f l rz ps ds:=by
 walk_at"g1";obtain⟨dx,qs,qp,qd,nk,kvs,e1,e2,e3,e4,e5,e6,e7⟩:=x.ex;walk_at"g2";exact⟨dx,qs,qp,qd,nk,kvs,s _ _ e1,s _ _ e2,s _ _ e3,e4,e5,s _ _ e6,XT e7 s⟩
theorem PM {H H':Hp}{p c C dx:Addr}{fs:List (Str×V)}{xs:List V} (h:SqL K H c xs) (hp:H p=some (.ins C dx fs)) (sb:SameBut p H H'):SqL K H' c xs:=by
 rcases h with (h|⟨o,h⟩)|h
 ·exact .inl (.inl (sb _ _ h fun z=>by rw[z,hp]at h;cases h))
 ·exact .inl (.inr ⟨o,sb _ _ h fun z=>by rw[z,hp]at h;cases h⟩)
 ·exact .inr h
theorem rZ {α β:Type}{F:α->β->Prop}:∀{l:List α}{m:List β}{x:α},Paired F l m->x∈l->∃y∈m,F x y
 | _,_,_,.cons r t,h=>by
  rcases List.mem_cons.mp h with rfl|h
  ·exact⟨_,.head _,r⟩
  ·obtain⟨y,hy,f⟩:=rZ t h;exact⟨y,List.mem_cons_of_mem _ hy,f⟩
 | _,_,_,.nil,h=>nomatch h
inductive jO (K:W.Frag)(D:bG)(vs:List V)(H:Hp)(Q:VK)(E:XK):Prop
 | mk (p C dx a b c:Addr) (ws us cs:List V) (rz ps:List (Str×Int)) (ds:List aG) (f l:Int) (_:vs=[.ref p,.ref a,.ref b,.ref c,.int l,.int f]) (_:DCls K C) (_:H p=some (.ins C dx [])) (_:H a=some (.lst ws)) (_:RoomsAt H ws rz) (_:SqL K H b us) (_:Paired (D.at' H) us ds) (_:SqL K H c cs) (_:Paired (bZ H) cs ps) (_:(rz.map (·.1)).Nodup) (_:(ds.map (·.1)).Nodup) (_:(∀d∈ds,cK (rz.map (·.1)) d)) (_:(∀p∈ps,p.1∈rz.map (·.1))) (_:FQ rz ps) (_:rz.length<=20) (_:ds.length<=20) (_:ps.length<=40) (_:0<=f) (_:f<=l) (_:∀H',SameBut p H H'->bB C D H' p f l rz ps ds->Q .non H'):jO K D vs H Q E
theorem K5 {D:bG}{H:Hp}{Q:VK}{E:XK}{p C dx a b c:Addr}{ws us cs:List V}{rz ps:List (Str×Int)}{ds:List aG}{f l:Int} (dc:DCls K C) (hp:H p=some (.ins C dx [])) (ha:H a=some (.lst ws)) (hr:RoomsAt H ws rz) (hb:SqL K H b us) (hd:Paired (D.at' H) us ds) (hc:SqL K H c cs) (hcp:Paired (bZ H) cs ps) (nr:(rz.map (·.1)).Nodup) (nd:(ds.map (·.1)).Nodup) (hin:∀d∈ds,cK (rz.map (·.1)) d) (hpr:∀p∈ps,p.1∈rz.map (·.1)) (hf:FQ rz ps) (lr:rz.length<=20) (ld:ds.length<=20) (lp:ps.length<=40) (h0:0<=f) (h1:f<=l)
  (k:∀H',SameBut p H H'->bB C D H' p f l rz ps ds->Q .non H'):jO K D [.ref p,.ref a,.ref b,.ref c,.int l,.int f] H Q E:=⟨_,_,_,_,_,_,_,_,_,_,_,_,_,_,rfl,dc,hp,ha,hr,hb,hd,hc,hcp,nr,nd,hin,hpr,hf,lr,ld,lp,h0,h1,k⟩
theorem BN (m:M K mg):FnOk P w K mg base CX0 4 m.mU m.jJ ["self","rooms","doors","people","last","first"] (jO K (aX P w K mg base (some 4))):=by
 refine m.DJ.ok sc_House___init__ (fun vs H Q E h=> ?_) (fun cdv A outer s H vs Q E hr h=> ?_)
 ·walk_at"g1";obtain⟨p,C,dx,a,b,c,ws,us,cs,rz,ps,ds,f,l,rfl,dc,hp,ha,hra,hb,hd,hc,hcp,nr,nd',hin,hpr,hf,lr,ld,lp,h0,h1,k⟩:=h;walk_at"g2";rfl
 ·walk_at"g1";obtain⟨p,C,dx,a,b,c,ws,us,cs,rz,ps,ds,f,l,rfl,dc,hp,ha,hra,hb,hd,hc,hcp,nr,nd',hin,hpr,hf,lr,ld,lp,h0,h1,k⟩:=h;walk_at"g2";have nd:=sc_House___init__.nd;walk_at"hu";have gH:= @uY P w K mg base m;have hJ:= @A9 P w K mg base m;have i7:= @yA P w K mg base m;have nZ:= @JM P w K mg base m;have oI:= @JD P w K mg base m;have iQ:= @yW P w K mg base m;refine⟨_,(aB (bT (bF oI hr (aA (pv 5) (aA (pv 4) aE))))
   (aB (bT (bF hJ hr (aA (cV (N:=["name","size"]) (nl:=2) (ci:=[]) rfl (blk (s.heap.objs.size+1) rfl rfl rfl (by kernel_rfl)) (bH (pv 1)) (fun _ _ _ _=>(jV (K:=K) (n:=2) rfl (aN (aH (i:=0) (show (["name","size"]:List Str).Nodup by decide +kernel) rfl (by walk_at"oi")) (aN (aH (i:=1) (show (["name","size"]:List Str).Nodup by decide +kernel) rfl (by walk_at"oi")) cM)))) (fun _ _ _ _=>fC) (fun _ _ _ _=>(pv 0))) aE)))
   (aB (bT (bF hJ hr (aA (cV (N:=["door"]) (nl:=1) (ci:=[]) rfl (blk (s.heap.objs.size+1) rfl rfl rfl (by kernel_rfl)) (bH (pv 2)) (fun _ _ _ _=>(aH (i:=0) (show (["door"]:List Str).Nodup by decide +kernel) rfl (by walk_at"oi"))) (fun _ _ _ _=>fC) (fun _ _ _ _=>(kZ (K:=K) (pv 0) rfl))) aE)))
   (aB (aP (i:=6) nd rfl (by walk_at"oi") (mV (RN rfl) rfl m.NI GE (aA (pv 1) aE)))
   (aB (bT (bF i7 hr (aA (bF iQ hr (aA (pv 2) (aA (pv 3) aE))) (aA (pv 6) aE))))
   (aB (bT (bF nZ hr (aA (pv 6) (aA (pv 3) aE))))
   (aB (gQ (pv 0) (pv 5) rfl)
   (aB (gQ (pv 0) (pv 4) rfl)
   (aB (gQ (pv 0) (pv 6) rfl)
   (aB (gQ (pv 0) (bF gH hr (aA (pv 6) (aA (pv 3) aE))) rfl)
   (aB (gQ (pv 0) oQ rfl)
   (aF (cJ PassesOwn.never rfl (bH (pv 2)) (aH (i:=7) nd rfl (by walk_at"oi")) (aF (dR hu1 (bV (pv 0) rfl) (bV (pv 7) rfl) (pv 7) rfl))))))))))))))),?_⟩
  refine aO (σ:=[some (.ref p),some (.ref a),some (.ref b),some (.ref c),some (.int l),some (.int f),none,none]) rfl ?_;walk_at"cx";have hul:us.length=ds.length:=Paired.length hd;have hwl:ws.length=rz.length:=Paired.length hra;walk_at"go";refine aAn h0 h1 ?_;walk_at"go";refine oT (α:=Str×Int) (xs:=rz) (vs:=ws) (fun e=> .str e.1) (fun e=> .int e.2) (fun _=>true) (fun z y _=>y= .str z.1) (fun _ _ _ _ h _=>h) (by rw[sizeLine_eq];omega) (rest:=[]) (by rfl) (SqL.of ha) hra (fun x H1 hx s1 R hR=>hR _ (Same.refl _)) (fun x H1 hx _ s1 R hR=> ?_) ?_
  ·walk_at"go";exact hR _ _ rfl (Same.refl _)
  intro ys H1 s1 hys;rw[fM]at hys;obtain rfl:=fD hys;walk_at"go";rename_i q1 H2 n2 S2 e2;refine TR (ss:=rz.map (·.1)) (SqL.of (by rw[e2,List.map_map];rfl)) nr (by rw[List.length_map];omega) fun H3 S3=> ?_;have sA:Same H H3:=(s1.trans S2).trans S3;walk_at"go";refine fI (α:=aG) (xs:=ds) (vs:=us) ((aX P w K mg base (some 4)).at' H3) (fun _=>true) (fun d y _=>y= .str d.1) (fun _ _ _ _ h _=>h) (by rw[sizeLine_eq];omega) (rest:=[]) (by rfl) (sA.seq hb) (oN hd sA) (fun v x H1 _ hx s1 R hR=>hR _ (Same.refl _)) ?_ ?_
  ·rintro v ⟨n,st,e,lt⟩ H4 hv hm - s4 R hR;walk_at"g1";obtain⟨q,C9,dx',fs,fp,rfl,hq,dcC,l1,l2,l3,l4,l5,mcE,hfp,hlt⟩:=DoorAt.ex hv;walk_at"g2";have hq':=s4 _ _ hq;walk_at"go";exact hR _ _ rfl (Same.refl _)
  intro ys H4 s4 hys;rw[fM]at hys;obtain rfl:=fD hys;walk_at"go";rename_i q5 H5 n5 S5 e5;refine TR (ss:=ds.map (·.1)) (SqL.of (by rw[e5,List.map_map];rfl)) nd' (by rw[List.length_map];omega) fun H6 S6=> ?_;have sB:Same H H6:=((sA.trans s4).trans S5).trans S6;walk_at"go";refine XQ (sB _ _ ha) (CG (hra.sm sB)) fun qs H7 n7 S7 e7=> ?_;rw[WU nr]at e7;have sC:Same H H7:=sB.trans S7;walk_at"go";refine XV (sC.seq hb) (oN hd sC) hin ld (sC.seq hc) (lP hcp sC) hpr lp fun q8 ss H8 S8 e8 hss lss=> ?_;walk_at"go";refine PB (SqL.of e8) (.inl (S8 _ _ e7)) (fun z hz=>by obtain⟨i,_,e⟩:=K9 nr (hss z hz);rw[e];rfl) fun H9 S9=> ?_;have sD:Same H7 H9:=S8.trans S9;walk_at"go";refine aAF (sD _ _ e7) ((sC.trans sD).seq hc) (lP hcp (sC.trans sD)) hpr nr (by omega) (by omega) hf fun H10 S10=> ?_;have sE:Same H H10:=(sC.trans sD).trans S10;have es:H10 qs=some (.dK (szK rz)):=S10 _ _ (sD _ _ e7);have hp10:=sE _ _ hp;have hqp:qs≠p:=fun z=>by rw[z,hp10]at es;cases es
  walk_at"go";rename_i H11 B11 e11 H12 B12 e12 H13 B13 e13;have sb13:SameBut p H10 H13:=by walk_at"sb"
  have es13:=sb13 _ _ es hqp;have hc13:SqL K H13 c cs:=PM (sE.seq hc) hp10 sb13;have hcp13:Paired (bZ H13) cs ps:=Paired.imp' (fun v r ⟨q,e,hq⟩=>⟨q,e,sb13 _ _ (sE _ _ hq) fun z=>by rw[z,hp]at hq;cases hq⟩) hcp;refine P7 es13 hc13 hcp13 hpr nr (by omega) fun qp H14 kvs n14 S14 e14 hkk hv14=> ?_;have hp14:=S14 _ _ e13;walk_at"go";rename_i H15 B15 e15 qd H16 n16 S16 e16 H17 B17 e17;have hqd:qd≠p:=fun z=>by rw[z,e15]at n16;cases n16
  have sb17:SameBut p H10 H17:=((((sb13.trans S14.but).trans B15).trans S16.but).trans B17)
  have es17:=sb17 _ _ es hqp;have ed17:=B17 _ _ e16 hqd;have hqpp:qp≠p:=fun z=>by rw[z,e13]at n14;cases n14
  have eq17:H17 qp=some (.dK kvs):=B17 _ _ (S16 _ _ (B15 _ _ e14 hqpp)) hqpp;have hqpd:qp≠qd:=fun z=>by rw[←z,B15 _ _ e14 hqpp]at n16;cases n16
  have fresh:∀x u,H10 x=some u->x≠p->x≠qd:=fun x u hx hxp z=>by
   have h15:H15 x=some u:=B15 _ _ (S14 _ _ (sb13 _ _ hx hxp)) hxp;rw[z,n16]at h15;cases h15
  have hb17:SqL K H17 b us:=PM (sE.seq hb) hp10 sb17;have hd17:Paired ((aX P w K mg base (some 4)).at' H17) us ds:=Paired.imp' (fun v d h=>(aX P w K mg base (some 4)).but ((aX P w K mg base (some 4)).same h sE) hp10 rfl sb17) hd;have ddq:∀{H':Hp}{v:V}{d:aG},SameBut qd H17 H'->(aX P w K mg base (some 4)).at' H17 v d->(aX P w K mg base (some 4)).at' H' v d:=fun sb h=>(aX P w K mg base (some 4)).but h ed17 trivial sb;refine IC hb17 ?_;let Pv1:Nat->St->Hp->Prop:=fun i σ' H'=>SameBut qd H17 H'/\(∃nk,H' qd=some (.dK nk)/\nk.length<=i/\Paired (fun e d=>e.1= .inr d.1/\(aX P w K mg base (some 4)).at' H17 e.2 d) nk (ds.take i))/\∃x,σ'=[some (.ref p),some (.ref a),some (.ref b),some (.ref c),some (.int l),some (.int f),some (.ref qs),x];refine dQ us Pv1 ⟨SameBut.refl,⟨[],ed17,Nat.le_refl _,.nil⟩,_,rfl⟩ (fun i σ' H' _ q=>LI hb17 ed17 q.1) ?_ ?_
  ·rintro i x _ H' hx hq_;walk_at"g1";obtain⟨sb,⟨nk,ek,hk,pr⟩,y,rfl⟩:=hq_;walk_at"g2";have hi:i<us.length:=(List.getElem?_eq_some_iff.mp hx).1;obtain⟨d,hdx⟩:∃d,ds[i]? =some d:=⟨_,List.getElem?_eq_getElem (by omega)⟩
   have hD:=Paired.at2 hd17 hx hdx;walk_at"g1";obtain⟨n,st,e,lt⟩:=d;walk_at"g2";have hD':=ddq sb hD;walk_at"g1";obtain⟨q,C9,dx',fs,fp,rfl,hq',dcC,l1,l2,l3,l4,l5,mcE,hfp,hlt⟩:=DoorAt.ex hD';walk_at"g2";have hpp:H' p=some (.ins C dx (PJ f l qs qp qd)):=sb _ _ e17 (Ne.symm hqd);have hnone:bD nk (.inr n)=none:=zR fun e he=>by
    walk_at"g1";obtain⟨d',hd',h1,_⟩:=rZ pr he;walk_at"g2";rw[h1];intro z;have hn:n∉(ds.map (·.1)).take i:=wM nd' (by rw[List.getElem?_map,hdx];rfl)
    apply hn
    rw[←List.map_take];exact List.mem_map.mpr ⟨d',hd',Sum.inr.inj z⟩
   walk_at"go";refine mH ek (by rw[sizeLine_eq];omega) fun H9' B9' e9'=> ?_;rw[l9 _ hnone]at e9';refine⟨by walk_at"sb",⟨_,e9',by rw[List.length_append];show nk.length+1<=_;omega,?_⟩,_,rfl⟩;rw[cU hdx];exact L2.Paired.snoc pr ⟨rfl,hD⟩
  ·rintro _ H' hq_;walk_at"g1";obtain⟨sb,⟨nk,ek,hk,pr⟩,y,rfl⟩:=hq_;walk_at"g2";rw[hul,List.take_length]at pr;refine k _ (fun x u hx hxp=>sb _ _ (sb17 _ _ (sE _ _ hx) hxp) (fresh x u (sE _ _ hx) hxp)) ⟨dx,qs,qp,qd,nk,kvs,sb _ _ e17 (Ne.symm hqd),sb _ _ es17 (fresh _ _ es hqp),sb _ _ eq17 hqpd,hkk,hv14,ek,?_⟩;exact Paired.imp' (fun e d h=>⟨h.1,ddq sb h.2⟩) pr
theorem RP (m:M K mg):Kc P w K mg base "House" m.aR 4 [] (jO K (aX P w K mg base (some 4))):=⟨_,_,_,_,m.aB9,m.ZG,.nil,m.DX,BN m⟩
theorem TK {C:Addr}{D:bG}{H:Hp}{Q:VK}{E:XK}{dvs vs:List V}{a b c:Addr}{ws us cs:List V}{rz ps:List (Str×Int)}{ds:List aG}{f l:Int} (ev:vs++dvs=[.ref a,.ref b,.ref c,.int l,.int f]) (dc:DCls K C) (ha:H a=some (.lst ws)) (hr:RoomsAt H ws rz) (hb:SqL K H b us) (hd:Paired (D.at' H) us ds) (hc:SqL K H c cs) (hcp:Paired (bZ H) cs ps) (nr:(rz.map (·.1)).Nodup) (nd:(ds.map (·.1)).Nodup) (hin:∀d∈ds,cK (rz.map (·.1)) d) (hpr:∀p∈ps,p.1∈rz.map (·.1)) (hf:FQ rz ps) (lr:rz.length<=20) (ld:ds.length<=20) (lp:ps.length<=40) (h0:0<=f) (h1:f<=l)
  (k:∀p H',H p=none->Same H H'->bB C D H' p f l rz ps ds->Q (.ref p) H'):rX C (jO K D) dvs E Q vs H:=by
 intro x dx nx nd0 ne;have s0:Same H (upd (upd H dx (.own x)) x (.ins C dx [])):=fun b o e=>by
  rw[aU (bM e nx),aU (bM e nd0)];exact e
 rw[ev];exact K5 dc bJ (s0 _ _ ha) (hr.sm s0) (s0.seq hb) (oN hd s0) (s0.seq hc) (lP hcp s0) nr nd hin hpr hf lr ld lp h0 h1 fun H' sb hh=>⟨rfl,k x H' nx (fun b o q=>sb b o (s0 b o q) (bM q nx)) hh⟩
theorem aBx (rz:List (Str×Int)):((szK rz).map fun e=>kV e.1)=(rz.map (·.1)).map V.str:=by unfold szK;rw[List.map_map,List.map_map];rfl
theorem D4 {D:bG}{H:Hp}:∀{nk:List (Key×V)}{ds:List aG},uU D H nk ds->(nk.map fun e=>kV e.1)=(ds.map (·.1)).map V.str
 | _,_,.nil=>rfl
 | (k,v)::_,_,.cons h t=>by
  rw[List.map_cons,D4 t,List.map_cons,List.map_cons];have:k= .inr _:=h.1;rw[this];rfl
theorem EB {D:bG}{H:Hp}:∀{nk:List (Key×V)}{ds:List aG},uU D H nk ds->nk.map (·.1)=(ds.map (·.1)).map (Sum.inr:Str->Key)
 | _,_,.nil=>rfl
 | (k,v)::_,_,.cons h t=>by
  rw[List.map_cons,EB t,List.map_cons,List.map_cons];have:k= .inr _:=h.1;rw[this]
theorem VH {D:bG}{H:Hp}{nk:List (Key×V)}{ds:List aG} (h:uU D H nk ds):nk.length=ds.length:=Paired.length h
theorem YN {D:bG}{H:Hp}{nk:List (Key×V)}{ds:List aG} (h:uU D H nk ds) (nd:(ds.map (·.1)).Nodup) {d:aG} (hd:d∈ds):∃v,bD nk (.inr d.1)=some v/\D.at' H v d:=by
 obtain⟨i,hi,e⟩:=List.getElem_of_mem hd;have hl:=VH h;have hx:nk[i]? =some nk[i]:=List.getElem?_eq_getElem (by omega);obtain⟨h1,h2⟩:=Paired.at2 h hx (show ds[i]? =some d by rw[List.getElem?_eq_getElem hi,e]);refine⟨_,?_,h2⟩;rw[←h1];exact sU (by rw[EB h];exact IS nd) (List.mem_of_getElem? hx)
inductive oS (C:Addr)(D:bG)(g:List (Str×Int)->List aG->List Str)(vs:List V)(H:Hp)(Q:VK)(E:XK):Prop
 | mk (h:Addr) (f l:Int) (rz ps:List (Str×Int)) (ds:List aG) (_:vs=[.ref h]) (_:bB C D H h f l rz ps ds) (_:∀p H',H p=none->Same H H'->H' p=some (.lst ((g rz ds).map V.str))->Q (.ref p) H'):oS C D g vs H Q E
theorem vT {C:Addr}{D:bG}{g:List (Str×Int)->List aG->List Str}{H:Hp}{Q:VK}{E:XK}{h:Addr}{f l:Int}{rz ps:List (Str×Int)}{ds:List aG} (hh:bB C D H h f l rz ps ds) (k:∀p H',H p=none->Same H H'->H' p=some (.lst ((g rz ds).map V.str))->Q (.ref p) H'):oS C D g [.ref h] H Q E:=⟨_,_,_,_,_,_,rfl,hh,k⟩
theorem FW (m:M K mg):FnOk P w K mg base CX0 1 m.rP m.rG ["self"] (oS m.aR (aX P w K mg base (some 4)) fun rz _=>rz.map (·.1)):=by
 refine m.JW.ok sc_House_rooms (fun vs H Q E h=> ?_) (fun cdv A outer s H vs Q E hr h=> ?_)
 ·walk_at"g1";obtain⟨h,f,l,rz,ps,ds,rfl,hh,k⟩:=h;walk_at"g2";rfl
 ·walk_at"g1";obtain⟨h,f,l,rz,ps,ds,rfl,hh,k⟩:=h;walk_at"g2";have nd:=sc_House_rooms.nd;walk_at"hu";have w_dc_House:=m.bL;refine⟨_,(aF (aV (mV (FC rfl) rfl m.NF F1 (aA (bV (pv 0) rfl) aE)))),?_⟩;refine aO (σ:=[some (.ref h)]) rfl ?_;walk_at"cx";walk_at"g1";obtain⟨dx,qs,qp,qd,nk,kvs,e1,e2,e3,e4,e5,e6,e7⟩:=hh.ex;walk_at"g2";walk_at"go";refine K7 (.inl e2) fun p H1 n1 S1 e8=> ?_;rw[aBx]at e8;walk_at"go";exact k _ _ n1 S1 e8
theorem v4 (m:M K mg):Mc P w K mg base m.aR "rooms" 1 (oS m.aR (aX P w K mg base (some 4)) fun rz _=>rz.map (·.1)):=⟨_,_,_,m.bL.ic.cl,m.G8,m.JS,FW m⟩
theorem F2 (m:M K mg):FnOk P w K mg base CX0 1 m.rQ m.rF ["self"] (oS m.aR (aX P w K mg base (some 4)) fun _ ds=>ds.map (·.1)):=by
 refine m.J8.ok sc_House_doors (fun vs H Q E h=> ?_) (fun cdv A outer s H vs Q E hr h=> ?_)
 ·walk_at"g1";obtain⟨h,f,l,rz,ps,ds,rfl,hh,k⟩:=h;walk_at"g2";rfl
 ·walk_at"g1";obtain⟨h,f,l,rz,ps,ds,rfl,hh,k⟩:=h;walk_at"g2";have nd:=sc_House_doors.nd;walk_at"hu";have w_dc_House:=m.bL;refine⟨_,(aF (aV (mV (FC rfl) rfl m.NF F1 (aA (bV (pv 0) rfl) aE)))),?_⟩;refine aO (σ:=[some (.ref h)]) rfl ?_;walk_at"cx";walk_at"g1";obtain⟨dx,qs,qp,qd,nk,kvs,e1,e2,e3,e4,e5,e6,e7⟩:=hh.ex;walk_at"g2";walk_at"go";refine K7 (.inl e6) fun p H1 n1 S1 e8=> ?_;rw[D4 e7]at e8;walk_at"go";exact k _ _ n1 S1 e8
theorem oO (m:M K mg):Mc P w K mg base m.aR "doors" 1 (oS m.aR (aX P w K mg base (some 4)) fun _ ds=>ds.map (·.1)):=⟨_,_,_,m.bL.ic.cl,m.HQ,m.JU,F2 m⟩
inductive nI (C:Addr)(D:bG)(vs:List V)(H:Hp)(Q:VK)(E:XK):Prop
 | mk (h:Addr) (z:Str) (f l:Int) (rz ps:List (Str×Int)) (ds:List aG) (_:vs=[.ref h,.str z]) (_:bB C D H h f l rz ps ds) (_:(rz.map (·.1)).Nodup) (_:z∈rz.map (·.1)) (_:∀H',Same H H'->Q .non H'):nI C D vs H Q E
theorem u8 {C:Addr}{D:bG}{H:Hp}{Q:VK}{E:XK}{h:Addr}{z:Str}{f l:Int}{rz ps:List (Str×Int)}{ds:List aG} (hh:bB C D H h f l rz ps ds) (nr:(rz.map (·.1)).Nodup) (hz:z∈rz.map (·.1)) (k:∀H',Same H H'->Q .non H'):nI C D [.ref h,.str z] H Q E:=⟨_,_,_,_,_,_,_,rfl,hh,nr,hz,k⟩
theorem zN (m:M K mg):FnOk P w K mg base CX0 2 m.lC m.lE ["self","room"] (nI m.aR (aX P w K mg base (some 4))):=by
 refine m.BX.ok sc_House_need_room (fun vs H Q E h=> ?_) (fun cdv A outer s H vs Q E hr h=> ?_)
 ·walk_at"g1";obtain⟨h,z,f,l,rz,ps,ds,rfl,hh,nr,hz,k⟩:=h;walk_at"g2";rfl
 ·walk_at"g1";obtain⟨h,z,f,l,rz,ps,ds,rfl,hh,nr,hz,k⟩:=h;walk_at"g2";have nd:=sc_House_need_room.nd;walk_at"hu";have i7:= @yA P w K mg base m;have w_dc_House:=m.bL;refine⟨_,(aF (bT (bF i7 hr (aA (dU (aA (pv 1) aE)) (aA (bV (pv 0) rfl) aE))))),?_⟩;refine aO (σ:=[some (.ref h),some (.str z)]) rfl ?_;walk_at"cx";walk_at"g1";obtain⟨dx,qs,qp,qd,nk,kvs,e1,e2,e3,e4,e5,e6,e7⟩:=hh.ex;walk_at"g2";obtain⟨i,hi,ev⟩:=K9 nr hz;walk_at"go";rename_i p H1 n1 S1 e8;refine PB (ss:=[z]) (SqL.of e8) (.inl (S1 _ _ e2)) (fun y hy=>by cases List.mem_singleton.mp hy;rw[ev];rfl) fun H2 S2=> ?_;walk_at"go";exact k _ (S1.trans S2)
theorem kQ (m:M K mg):Mc P w K mg base m.aR "need_room" 2 (nI m.aR (aX P w K mg base (some 4))):=⟨_,_,_,m.bL.ic.cl,m.z4,m.BO,zN m⟩
inductive xC (C:Addr)(D:bG)(vs:List V)(H:Hp)(Q:VK)(E:XK):Prop
 | mk (h:Addr) (z:Str) (i f l:Int) (rz ps:List (Str×Int)) (ds:List aG) (_:vs=[.ref h,.str z]) (_:bB C D H h f l rz ps ds) (_:(rz.map (·.1)).Nodup) (_:(z,i)∈rz) (_:∀H',Same H H'->Q (.int i) H'):xC C D vs H Q E
theorem GD {C:Addr}{D:bG}{H:Hp}{Q:VK}{E:XK}{h:Addr}{z:Str}{i f l:Int}{rz ps:List (Str×Int)}{ds:List aG} (hh:bB C D H h f l rz ps ds) (nr:(rz.map (·.1)).Nodup) (hz:(z,i)∈rz) (k:∀H',Same H H'->Q (.int i) H'):xC C D [.ref h,.str z] H Q E:=⟨_,_,_,_,_,_,_,_,rfl,hh,nr,hz,k⟩
theorem GF (m:M K mg):FnOk P w K mg base CX0 3 m.rA m.rM ["self","room"] (xC m.aR (aX P w K mg base (some 4))):=by
 refine m.J7.ok sc_House_holds (fun vs H Q E h=> ?_) (fun cdv A outer s H vs Q E hr h=> ?_)
 ·walk_at"g1";obtain⟨h,z,i,f,l,rz,ps,ds,rfl,hh,nr,hz,k⟩:=h;walk_at"g2";rfl
 ·walk_at"g1";obtain⟨h,z,i,f,l,rz,ps,ds,rfl,hh,nr,hz,k⟩:=h;walk_at"g2";have nd:=sc_House_holds.nd;walk_at"hu";have w_dc_House:=m.bL;have w_mc_House_need_room:= @kQ P w K mg base m;refine⟨_,(aB (bT (kU 2 hr (pv 0) (aA (pv 1) aE)))
   (aF (aV (c6 hu1 (bV (pv 0) rfl) (pv 1) (fun _ _=>rfl))))),?_⟩
  refine aO (σ:=[some (.ref h),some (.str z)]) rfl ?_;walk_at"cx";walk_at"g1";obtain⟨dx,qs,qp,qd,nk,kvs,e1,e2,e3,e4,e5,e6,e7⟩:=hh.ex;walk_at"g2";walk_at"go";refine u8 hh nr (List.mem_map.mpr ⟨_,hz,rfl⟩) fun H1 S1=> ?_;have e11:=S1 _ _ e1;walk_at"go";refine oV (.inl (S1 _ _ e2)) (F5 nr hz) ?_;walk_at"go";exact k _ S1
theorem vW (m:M K mg):Mc P w K mg base m.aR "holds" 3 (xC m.aR (aX P w K mg base (some 4))):=⟨_,_,_,m.bL.ic.cl,m.HI,m.KB,GF m⟩
inductive xG (C:Addr)(D:bG)(vs:List V)(H:Hp)(Q:VK)(E:XK):Prop
 | mk (h:Addr) (z:Str) (f l:Int) (rz ps:List (Str×Int)) (ds:List aG) (_:vs=[.ref h,.str z]) (_:bB C D H h f l rz ps ds) (_:(rz.map (·.1)).Nodup) (_:z∈rz.map (·.1)) (_:∀H',Same H H'->Q (.int (cC ps z)) H'):xG C D vs H Q E
theorem PH {C:Addr}{D:bG}{H:Hp}{Q:VK}{E:XK}{h:Addr}{z:Str}{f l:Int}{rz ps:List (Str×Int)}{ds:List aG} (hh:bB C D H h f l rz ps ds) (nr:(rz.map (·.1)).Nodup) (hz:z∈rz.map (·.1)) (k:∀H',Same H H'->Q (.int (cC ps z)) H'):xG C D [.ref h,.str z] H Q E:=⟨_,_,_,_,_,_,_,rfl,hh,nr,hz,k⟩
theorem FY (m:M K mg):FnOk P w K mg base CX0 3 m.qZ m.rE ["self","room"] (xG m.aR (aX P w K mg base (some 4))):=by
 refine m.JQ.ok sc_House_found (fun vs H Q E h=> ?_) (fun cdv A outer s H vs Q E hr h=> ?_)
 ·walk_at"g1";obtain⟨h,z,f,l,rz,ps,ds,rfl,hh,nr,hz,k⟩:=h;walk_at"g2";rfl
 ·walk_at"g1";obtain⟨h,z,f,l,rz,ps,ds,rfl,hh,nr,hz,k⟩:=h;walk_at"g2";have nd:=sc_House_found.nd;walk_at"hu";have w_dc_House:=m.bL;have w_mc_House_need_room:= @kQ P w K mg base m;refine⟨_,(aB (bT (kU 2 hr (pv 0) (aA (pv 1) aE)))
   (aF (aV (c6 hu1 (bV (pv 0) rfl) (pv 1) (fun _ _=>rfl))))),?_⟩
  refine aO (σ:=[some (.ref h),some (.str z)]) rfl ?_;walk_at"cx";walk_at"g1";obtain⟨dx,qs,qp,qd,nk,kvs,e1,e2,e3,e4,e5,e6,e7⟩:=hh.ex;walk_at"g2";walk_at"go";refine u8 hh nr hz fun H1 S1=> ?_;have e11:=S1 _ _ e1;walk_at"go";refine oV (.inl (S1 _ _ e3)) (e5 z hz) ?_;walk_at"go";exact k _ S1
theorem v8 (m:M K mg):Mc P w K mg base m.aR "found" 3 (xG m.aR (aX P w K mg base (some 4))):=⟨_,_,_,m.bL.ic.cl,m.GX,m.JT,FY m⟩
inductive A2 (C:Addr)(D:bG)(vs:List V)(H:Hp)(Q:VK)(E:XK):Prop
 | mk (h:Addr) (d:aG) (f l:Int) (rz ps:List (Str×Int)) (ds:List aG) (_:vs=[.ref h,.str d.1]) (_:bB C D H h f l rz ps ds) (_:(ds.map (·.1)).Nodup) (_:d∈ds) (_:∀v,D.at' H v d->Q v H):A2 C D vs H Q E
theorem zT {C:Addr}{D:bG}{H:Hp}{Q:VK}{E:XK}{h:Addr}{d:aG}{f l:Int}{rz ps:List (Str×Int)}{ds:List aG} (hh:bB C D H h f l rz ps ds) (nd:(ds.map (·.1)).Nodup) (hd:d∈ds) (k:∀v,D.at' H v d->Q v H):A2 C D [.ref h,.str d.1] H Q E:=⟨_,_,_,_,_,_,_,rfl,hh,nd,hd,k⟩
theorem JJ (m:M K mg):FnOk P w K mg base CX0 1 m.tQ m.uO ["self","name"] (A2 m.aR (aX P w K mg base (some 4))):=by
 refine m.NN.ok sc_House_door (fun vs H Q E h=> ?_) (fun cdv A outer s H vs Q E hr h=> ?_)
 ·walk_at"g1";obtain⟨h,d,f,l,rz,ps,ds,rfl,hh,ndd,hd,k⟩:=h;walk_at"g2";rfl
 ·walk_at"g1";obtain⟨h,d,f,l,rz,ps,ds,rfl,hh,ndd,hd,k⟩:=h;walk_at"g2";have nd:=sc_House_door.nd;walk_at"hu";have w_dc_House:=m.bL;refine⟨_,(aB (bR (qN (yY hu1 (pv 1) (bV (pv 0) rfl)) (by with_unfolding_all rfl)) (aF jF) bC)
   (aF (aV (c6 hu1 (bV (pv 0) rfl) (pv 1) (fun _ _=>rfl))))),?_⟩
  refine aO (σ:=[some (.ref h),some (.str d.1)]) rfl ?_;walk_at"cx";walk_at"g1";obtain⟨dx,qs,qp,qd,nk,kvs,e1,e2,e3,e4,e5,e6,e7⟩:=hh.ex;walk_at"g2";obtain⟨v,ev,hv⟩:=YN e7 ndd hd;walk_at"go";refine ES (.inl e6) ?_;rw[show (bD nk (.inr d.1)).isSome=true by rw[ev];rfl];walk_at"go";refine oV (.inl e6) ev ?_;walk_at"go";exact k _ hv
theorem jP (m:M K mg):Mc P w K mg base m.aR "door" 1 (A2 m.aR (aX P w K mg base (some 4))):=⟨_,_,_,m.bL.ic.cl,m.KF,m.M5,JJ m⟩
def bQ (rz:List (Str×Int))(f:Int)(n:Nat):List (Str×Int):=((List.range n).map fun (i:Nat)=>rz.map fun e=>(e.1,f+(i:Int))).flatten
theorem lM (rz:List (Str×Int))(f:Int)(n:Nat):bQ rz f (n+1)=bQ rz f n++rz.map fun e=>(e.1,f+(n:Int)):=by
 unfold bQ;rw[List.range_succ,List.map_append,List.flatten_append];simp
theorem rW (rz:List (Str×Int))(f:Int):∀n,(bQ rz f n).length=n * rz.length
 | 0=>by simp[bQ]
 | n+1=>by rw[lM,List.length_append,rW rz f n,List.length_map,Nat.succ_mul]
theorem KY {H:Hp}{t:Int}:∀{rz:List (Str×Int)}{ys:List V},Paired (fun (e:Key×V) y=>∀z,e.1= .inr z->bZ H y (z,t)) (szK rz) ys->Paired (bZ H) ys (rz.map fun e=>(e.1,t))
 | [],_,.nil=> .nil
 | _::_,_,.cons h t=> .cons (h _ rfl) (KY t)
theorem P1 {H H':Hp}{p:Addr}{xs ws:List V}{ps:List (Str×Int)} (h:Paired (bZ H) ws ps) (e:H p=some (.lst xs)) (sb:SameBut p H H'):Paired (bZ H') ws ps:=Paired.imp' (fun v r ⟨q,e1,h⟩=>⟨q,e1,sb _ _ h fun z=>by rw[z,e]at h;cases h⟩) h
theorem ED {α β:Type}{F:α->β->Prop}:∀{l l2:List α}{m m2:List β},Paired F l m->Paired F l2 m2->Paired F (l++l2) (m++m2)
 | _,_,_,_,.nil,h=>h
 | _,_,_,_,.cons r t,h=> .cons r (ED t h)
inductive w4 (C:Addr)(D:bG)(vs:List V)(H:Hp)(Q:VK)(E:XK):Prop
 | mk (h:Addr) (f l:Int) (rz ps:List (Str×Int)) (ds:List aG) (_:vs=[.ref h]) (_:bB C D H h f l rz ps ds) (_:0<=f) (_:f<=l) (_:l<1000000000000) (_:l - f<=1000) (_:rz.length<=20) (_:∀p ys H',H p=none->Same H H'->H' p=some (.lst ys)->Paired (bZ H') ys (bQ rz f (l+1 - f).toNat)->Q (.ref p) H'):w4 C D vs H Q E
theorem FX {C:Addr}{D:bG}{H:Hp}{Q:VK}{E:XK}{h:Addr}{f l:Int}{rz ps:List (Str×Int)}{ds:List aG} (hh:bB C D H h f l rz ps ds) (h0:0<=f) (h1:f<=l) (h2:l<1000000000000) (h3:l - f<=1000) (lr:rz.length<=20) (k:∀p ys H',H p=none->Same H H'->H' p=some (.lst ys)->Paired (bZ H') ys (bQ rz f (l+1 - f).toNat)->Q (.ref p) H'):w4 C D [.ref h] H Q E:=⟨_,_,_,_,_,_,rfl,hh,h0,h1,h2,h3,lr,k⟩
theorem F3 (m:M K mg):FnOk P w K mg base CX0 1 m.rR m.rK ["self"] (w4 m.aR (aX P w K mg base (some 4))):=by
 refine m.JV.ok sc_House_pairs (fun vs H Q E h=> ?_) (fun cdv A outer s H vs Q E hr h=> ?_)
 ·walk_at"g1";obtain⟨h,f,l,rz,ps,ds,rfl,hh,h0,h1,h2,h3,lr,k⟩:=h;walk_at"g2";rfl
 ·walk_at"g1";obtain⟨h,f,l,rz,ps,ds,rfl,hh,h0,h1,h2,h3,lr,k⟩:=h;walk_at"g2";have nd:=sc_House_pairs.nd;walk_at"hu";have w_dc_House:=m.bL;refine⟨_,(aB (aP (i:=1) nd rfl (by walk_at"oi") (dU aE))
   (aB (cJ PassesOwn.never rfl (kI rfl m.fA (aA (bV (pv 0) rfl) (aA (aI bO (bV (pv 0) rfl) aC) aE))) (aH (i:=2) nd rfl (by walk_at"oi")) (aF (bT (sI PySem.F.plainAttrs_list PySem.F.slot_list_extend PySem.F.type_list_extend U2 (pv 1) (aA (AN (cV (N:=["room","turn"]) (nl:=1) (ci:=[2]) rfl (blk (s.heap.objs.size+1) rfl rfl rfl (by kernel_rfl)) (CK (bV (pv 0) rfl)) (fun _ _ _ _=>(aH (i:=0) (show (["room","turn"]:List Str).Nodup by decide +kernel) rfl (by walk_at"oi"))) (fun _ _ _ _=>fC) (fun _ _ _ _=>(bU (aA (pv 0) (aA (pv 1) aE)))))) aE)))))
   (aF (aV (pv 1))))),?_⟩
  refine aO (σ:=[some (.ref h),none,none]) rfl ?_;walk_at"cx";walk_at"g1";obtain⟨dx,qs,qp,qd,nk,kvs,e1,e2,e3,e4,e5,e6,e7⟩:=hh.ex;walk_at"g2";have hl2:(szK rz).length=rz.length:=by unfold szK;rw[List.length_map]
  walk_at"go";rename_i p H1 n1 S1 ep;have e21:=S1 _ _ e2;have e11:=S1 _ _ e1;have hqsp:qs≠p:=fun z=>by rw[z,n1]at e2;cases e2
  have hhp:h≠p:=fun z=>by rw[z,n1]at e1;cases e1
  let Pv1:Nat->St->Hp->Prop:=fun i σ' H'=>SameBut p H1 H'/\(∃ys,H' p=some (.lst ys)/\Paired (bZ H') ys (bQ rz f i))/\∃x,σ'=[some (.ref h),some (.ref p),x];refine iU Pv1 ⟨SameBut.refl,⟨[],ep,.nil⟩,_,rfl⟩ ?_ ?_
  ·rintro i _ H' hi hq_;walk_at"g1";obtain⟨sb,⟨ys,ey,hys⟩,x,rfl⟩:=hq_;walk_at"g2";have e2':=sb _ _ e21 hqsp;have e1':=sb _ _ e11 hhp;have hyl:ys.length=i * rz.length:=by rw[Paired.length hys,rW]
   have hyb:ys.length<=1001 * 20:=by
    rw[hyl];exact Nat.mul_le_mul (by omega) lr
   walk_at"go";refine wY e2' KL ?_;walk_at"go";refine CS e2' fun o H2 B2 e22=> ?_;have hpq:p≠qs:=Ne.symm hqsp;refine TH (fun _=>true) (fun e y H=>∀z,e.1= .inr z->bZ H y (z,f+(i:Int))) (fun _ _ _ _ hh s z hz=>let ⟨q,a1,a2⟩:=hh z hz;⟨q,a1,s _ _ a2⟩) (by rw[sizeLine_eq];omega) (rest:=[some (.int (f+(i:Int)))]) (by rfl) e22 (fun x H6 hx s6 R hR=>hR _ (Same.refl _)) ?_ ?_
   ·rintro x H6 hx - s6 R hR;obtain⟨e,he,rfl⟩:=List.mem_map.mp hx;show (_:TE) (some (V.str e.1)::[some (.int (f+(i:Int)))]) H6 R;walk_at"go";rename_i q7 H7 n7 S7 e77;exact hR _ _ (fun z hz=>by cases hz;exact⟨q7,rfl,e77⟩) S7
   intro zs H3 s3 hzs;rw[fM]at hzs;have hzp:=KY hzs;walk_at"go";rename_i q4 H4 n4 S4 e44;refine qP (S4 _ _ (s3 _ _ e22)) fun H5 B5 e55=> ?_;have hq4:q4≠qs:=fun z=>by rw[z,s3 _ _ e22]at n4;cases n4
   have ey2:=B2 _ _ ey hpq;have ey5:H5 p=some (.lst ys):=B5 _ _ (S4 _ _ (s3 _ _ ey2)) hpq;have sX:Same H' H5:=yU e2' B2 (Same.but (s3.trans S4)) B5 e55;have hz5:Paired (bZ H5) zs (rz.map fun e=>(e.1,f+(i:Int))):=Paired.imp' (fun v r ⟨q,a1,a2⟩=>⟨q,a1,B5 _ _ (S4 _ _ a2) fun z=>by rw[z,s3 _ _ e22]at a2;cases a2⟩) hzp;have hzl:zs.length=rz.length:=by rw[Paired.length hz5,List.length_map]
   walk_at"go";refine V7 ey5 (B5 _ _ e44 hq4) (by rw[sizeLine_eq];omega) fun H6 B6 e66=> ?_;walk_at"go";refine⟨(sb.trans sX.but).trans B6,⟨_,e66,?_⟩,_,rfl⟩;rw[lM];exact ED (P1 (lP hys sX) ey5 B6) (P1 hz5 ey5 B6)
  ·rintro _ H' hq_;walk_at"g1";obtain⟨sb,⟨ys,ey,hys⟩,x,rfl⟩:=hq_;walk_at"g2";walk_at"go";exact k _ _ _ n1 (SameBut.same n1 S1 sb) ey hys
theorem oR (m:M K mg):Mc P w K mg base m.aR "pairs" 1 (w4 m.aR (aX P w K mg base (some 4))):=⟨_,_,_,m.bL.ic.cl,m.HK,m.J5,F3 m⟩
local macro_rules| `(tactic| walk_at"rd1")=> `(tactic| first|(with_reducible refine rd_vals ?_)|(with_reducible refine aDp ?_)|(with_reducible refine aEd ?_)|(with_reducible refine aCI ?_)|(with_reducible refine aDu ?_)|(with_reducible refine aDm ?_)|(with_reducible refine aCH ?_)|(with_reducible refine rd_v16 ?_)|(with_reducible refine rd_s16 ?_)|(with_reducible refine rd_v17 ?_)|(with_reducible refine rd_s17 ?_)|(with_reducible refine rd_v18 ?_)|(with_reducible refine rd_s18 ?_)|(with_reducible refine rd_iEnum ?_)|((with_reducible refine' rd_iEnumV ?e ?_);(case e=>walk_at"hp"))|((with_reducible refine' rd_repS ?a ?b ?c ?_);(case a=>walk_at"sd");(case b=>walk_at"sd");(case c=>walk_at"sz")))
def AZ (ds:List aG)(z:Str):List Str:=(ds.filter fun d=>decide (d.2.2.1= .str z)).map (·.1)
inductive A0 (C:Addr)(D:bG)(g:List aG->Str->List Str)(vs:List V)(H:Hp)(Q:VK)(E:XK):Prop
 | mk (h:Addr) (z:Str) (f l:Int) (rz ps:List (Str×Int)) (ds:List aG) (_:vs=[.ref h,.str z]) (_:bB C D H h f l rz ps ds) (_:(rz.map (·.1)).Nodup) (_:z∈rz.map (·.1)) (_:ds.length<=20) (_:(∀d∈ds,cK (rz.map (·.1)) d)) (_:∀p H',H p=none->Same H H'->H' p=some (.lst ((g ds z).map V.str))->Q (.ref p) H'):A0 C D g vs H Q E
theorem aDC {C:Addr}{D:bG}{g:List aG->Str->List Str}{H:Hp}{Q:VK}{E:XK}{h:Addr}{z:Str}{f l:Int}{rz ps:List (Str×Int)}{ds:List aG} (hh:bB C D H h f l rz ps ds) (nr:(rz.map (·.1)).Nodup) (hz:z∈rz.map (·.1)) (ld:ds.length<=20) (hin:∀d∈ds,cK (rz.map (·.1)) d) (k:∀p H',H p=none->Same H H'->H' p=some (.lst ((g ds z).map V.str))->Q (.ref p) H'):A0 C D g [.ref h,.str z] H Q E:=⟨_,_,_,_,_,_,_,rfl,hh,nr,hz,ld,hin,k⟩
theorem IY (m:M K mg):FnOk P w K mg base CX0 3 m.uI m.uJ ["self","room"] (A0 m.aR (aX P w K mg base (some 4)) AZ):=by
 refine m.M8.ok sc_House_into (fun vs H Q E h=> ?_) (fun cdv A outer s H vs Q E hr h=> ?_)
 ·walk_at"g1";obtain⟨h,z,f,l,rz,ps,ds,rfl,hh,nr,hz,hlen,hin,k⟩:=h;walk_at"g2";rfl
 ·walk_at"g1";obtain⟨h,z,f,l,rz,ps,ds,rfl,hh,nr,hz,hlen,hin,k⟩:=h;walk_at"g2";have nd:=sc_House_into.nd;walk_at"hu";have w_dc_House:=m.bL;have w_mc_House_need_room:= @kQ P w K mg base m;refine⟨_,(aB (bT (kU 2 hr (pv 0) (aA (pv 1) aE)))
   (aF (aV (AN (cV (N:=["name","door","room"]) (nl:=2) (ci:=[1]) rfl (blk (s.heap.objs.size+1) rfl rfl rfl (by kernel_rfl)) (VM (bV (pv 0) rfl)) (fun _ _ _ _=>(jV (K:=K) (n:=2) rfl (aN (aH (i:=0) (show (["name","door","room"]:List Str).Nodup by decide +kernel) rfl (by walk_at"oi")) (aN (aH (i:=1) (show (["name","door","room"]:List Str).Nodup by decide +kernel) rfl (by walk_at"oi")) cM)))) (fun _ _ _ _=>(gY (aW dG (kZ (K:=K) (pv 1) rfl) (pv 2) (aY _)))) (fun _ _ _ _=>(pv 0))))))),?_⟩
  refine aO (σ:=[some (.ref h),some (.str z)]) rfl ?_;walk_at"cx";walk_at"g1";obtain⟨dx,qs,qp,qd,nk,kvs,e1,e2,e3',e4',e5',e6,e7⟩:=hh.ex;walk_at"g2";walk_at"go";refine u8 hh nr hz fun H1 S1=> ?_;have e31:=S1 _ _ e6;have e11:=S1 _ _ e1;walk_at"go";refine wY e31 KL ?_;walk_at"go";refine VG e31 fun o H2 B2 e32=> ?_;have hn2:uU (aX P w K mg base (some 4)) H2 nk ds:=Paired.imp' (fun e d h=>⟨h.1,(aX P w K mg base (some 4)).but ((aX P w K mg base (some 4)).same h.2 S1) e31 trivial B2⟩) e7;refine aAT (α:=aG) (xs:=ds) (fun e d=>e.1= .inr d.1/\(aX P w K mg base (some 4)).at' H2 e.2 d) (fun d=>decide (d.2.2.1= .str z)) (fun d y _=>y= .str d.1) (fun _ _ _ _ h _=>h) (by rw[sizeLine_eq];omega) (rest:=[some (.str z)]) (by rfl) e32 hn2 ?_ ?_ ?_
  ·rintro ⟨kk,v⟩ ⟨n,st,e,lt⟩ H3 ⟨h1,h2⟩ hm s3 R hR;walk_at"g1";obtain⟨q,C9,dx,fs,fp,h3,hq,dcC,l1,l2,l3,l4,l5,mcE,hfp,hlt⟩:=DoorAt.ex h2;walk_at"g2";cases h1;have h3:v= .ref q:=h3;subst h3;have hq:=s3 _ _ hq;have hend:=(hin _ hm).2;have hR':=hR _ (Same.refl _);show (_:TT) (some (V.str n)::some (V.ref q)::[some (.str z)]) H3 R;rcases hend with hend|⟨y,hend,hy⟩
   ·have hde:e= .non:=hend;subst hde;rw[show decide (((n,st,V.non,lt):aG).2.2.1= .str z)=false from decide_eq_false fun z=>nomatch z]at hR';walk_at"go";exact hR'
   ·have hde:e= .str y:=hend;subst hde;rw[show decide (((n,st,V.str y,lt):aG).2.2.1= .str z)=decide (y=z) by
     by_cases h:y=z
     ·rw[decide_eq_true h];exact decide_eq_true (by rw[h])
     ·rw[decide_eq_false h];exact decide_eq_false fun x=>h (V.str.inj x)]at hR'
    walk_at"go";exact hR'
  ·rintro ⟨kk,v⟩ ⟨n,st,e,lt⟩ H3 ⟨h1,h2⟩ hm - s3 R hR;cases h1;show (_:TE) (some (V.str n)::some v::[some (.str z)]) H3 R;walk_at"go";exact hR _ _ rfl (Same.refl _)
  intro ys H3 s3 hys;have ey:=fD hys;walk_at"go";rename_i p H4 n4 S4 e4;refine qP (S4 _ _ (s3 _ _ e32)) fun H5 B5 e5=> ?_;have hpq:p≠qd:=fun z=>by rw[z,s3 _ _ e32]at n4;cases n4
  have hn:H p=none:=by
   cases hq:H p with
   | none=>rfl
   | some u =>
    have:=s3 _ _ (B2 _ _ (S1 _ _ hq) hpq);rw[n4]at this;cases this
  walk_at"go";refine k p H5 hn (yU e6 (fun x u hx hxa=>B2 _ _ (S1 _ _ hx) hxa) (Same.but (s3.trans S4)) B5 e5) ?_;have:=B5 _ _ e4 hpq;rw[this,ey];unfold AZ;rw[List.map_map];rfl
theorem JO (m:M K mg):Mc P w K mg base m.aR "into" 3 (A0 m.aR (aX P w K mg base (some 4)) AZ):=⟨_,_,_,m.bL.ic.cl,m.JY,m.NM,IY m⟩
def iY (f l:Int)(d:aG)(t:Int):Int:=if f<=t/\t<l then d.2.2.2 t else 0
inductive wK (C:Addr)(D:bG)(vs:List V)(H:Hp)(Q:VK)(E:XK):Prop
 | mk (h:Addr) (d:aG) (t f l:Int) (rz ps:List (Str×Int)) (ds:List aG) (_:vs=[.ref h,.str d.1,.int t]) (_:bB C D H h f l rz ps ds) (_:(ds.map (·.1)).Nodup) (_:d∈ds) (_:0<=f) (_:∀H',Same H H'->Q (.int (iY f l d t)) H'):wK C D vs H Q E
theorem FR {C:Addr}{D:bG}{H:Hp}{Q:VK}{E:XK}{h:Addr}{d:aG}{t f l:Int}{rz ps:List (Str×Int)}{ds:List aG} (hh:bB C D H h f l rz ps ds) (nd:(ds.map (·.1)).Nodup) (hd:d∈ds) (hf:0<=f) (k:∀H',Same H H'->Q (.int (iY f l d t)) H'):wK C D [.ref h,.str d.1,.int t] H Q E:=⟨_,_,_,_,_,_,_,_,rfl,hh,nd,hd,hf,k⟩
theorem JA (m:M K mg):FnOk P w K mg base CX0 6 m.tO m.tV ["self","name","turn"] (wK m.aR (aX P w K mg base (some 4))):=by
 refine m.NR.ok sc_House_lets (fun vs H Q E h=> ?_) (fun cdv A outer s H vs Q E hr h=> ?_)
 ·walk_at"g1";obtain⟨h,d,t,f,l,rz,ps,ds,rfl,hh,ndd,hd,hf,k⟩:=h;walk_at"g2";rfl
 ·walk_at"g1";obtain⟨h,d,t,f,l,rz,ps,ds,rfl,hh,ndd,hd,hf,k⟩:=h;walk_at"g2";have nd:=sc_House_lets.nd;walk_at"hu";have w_dc_House:=m.bL;have w_mc_House_door:= @jP P w K mg base m;refine⟨_,(aB (aP (i:=3) nd rfl (by walk_at"oi") (kU 1 hr (pv 0) (aA (pv 1) aE)))
   (aB (bR (PW.pt (EH (aW j6 (pv 2) (bV (pv 0) rfl) (aY _)) (zG (aW E5 (pv 2) (bV (pv 0) rfl) (aY _))))) (aF (aV aC)) bC)
   (aF (aV (kU 4 hr (pv 3) (aA (pv 2) aE)))))),?_⟩
  refine aO (σ:=[some (.ref h),some (.str d.1),some (.int t),none]) rfl ?_;walk_at"cx";walk_at"g1";obtain⟨dx,qs,qp,qd,nk,kvs,e1,_⟩:=hh.ex;walk_at"g2";walk_at"g1";obtain⟨n,st,e,lt⟩:=d;walk_at"g2";walk_at"go";refine zT (d:=(n,st,e,lt)) hh ndd hd fun v hv=> ?_;walk_at"g1";obtain⟨q2,C2,dx2,fs2,fp2,rfl,hq2,dcC,l1,l2,l3,l4,l5,mcE,hfp,hlt⟩:=DoorAt.ex hv;walk_at"g2";obtain⟨sp,mcL,hsp⟩:=hlt _ rfl;walk_at"go";refine cA (fun hc=> ?_) (fun hc=> ?_)
  ·have hk:iY f l (n,st,e,lt) t=0:=by unfold iY;rw[if_neg (by omega)]
   rw[hk]at k;walk_at"go";exact k _ (Same.refl _)
  ·walk_at"go";refine cA (fun hc2=> ?_) (fun hc2=> ?_)
   ·have hk:iY f l (n,st,e,lt) t=0:=by unfold iY;rw[if_neg (by omega)]
    rw[hk]at k;walk_at"go";exact k _ (Same.refl _)
   ·have hk:iY f l (n,st,e,lt) t=lt t:=by unfold iY;rw[if_pos (by omega)]
    rw[hk]at k;walk_at"go";exact hsp _ _ _ hq2 (fun x hx=>(hfp x hx).1) (by omega) k
theorem qX (m:M K mg):Mc P w K mg base m.aR "lets" 6 (wK m.aR (aX P w K mg base (some 4))):=⟨_,_,_,m.bL.ic.cl,m.KA,m.NV,JA m⟩
def zX (H:Hp)(v:V)(r:aT):Prop:=∃q,v= .ref q/\H q=some (.tup [.int r.1,.str r.2.1,.int r.2.2])
abbrev bS (H:Hp)(vs:List V)(rows:List aT):Prop:=Paired (zX H) vs rows
theorem d7 {H H':Hp}{vs:List V}{rows:List aT} (h:bS H vs rows) (s:Same H H'):bS H' vs rows:=Paired.imp' (fun v r ⟨q,e,h⟩=>⟨q,e,s _ _ h⟩) h
theorem iJ {α β:Type}{F:α->β->Prop}:∀{l:List α}{m:List β},Paired F l m->Paired (fun b a=>F a b) m l
 | _,_,.nil=> .nil
 | _,_,.cons h t=> .cons h (iJ t)
def cnt (ns:List Str)(f l:Int)(r:aT):Bool:=decide (r.2.1∈ns)&&(decide (f<=r.1)&&decide (r.1<l))
inductive wI (K:W.Frag)(C:Addr)(D:bG)(vs:List V)(H:Hp)(Q:VK)(E:XK):Prop
 | mk (h a:Addr) (f l:Int) (rz ps:List (Str×Int)) (ds:List aG) (us:List V) (rows:List aT) (_:vs=[.ref h,.ref a]) (_:bB C D H h f l rz ps ds) (_:SqL K H a us) (_:bS H us rows) (_:rows.length<=200) (_:∀p ys H',H p=none->Same H H'->H' p=some (.lst ys)->bS H' ys (rows.filter (cnt (ds.map (·.1)) f l))->Q (.ref p) H'):wI K C D vs H Q E
theorem PP {C:Addr}{D:bG}{H:Hp}{Q:VK}{E:XK}{h a:Addr}{f l:Int}{rz ps:List (Str×Int)}{ds:List aG}{us:List V}{rows:List aT} (hh:bB C D H h f l rz ps ds) (hS:SqL K H a us) (hp:bS H us rows) (hl:rows.length<=200) (k:∀p ys H',H p=none->Same H H'->H' p=some (.lst ys)->bS H' ys (rows.filter (cnt (ds.map (·.1)) f l))->Q (.ref p) H'):wI K C D [.ref h,.ref a] H Q E:=⟨_,_,_,_,_,_,_,_,_,rfl,hh,hS,hp,hl,k⟩
theorem yZ (m:M K mg):FnOk P w K mg base CX0 2 m.lH m.lF ["house","plan"] (wI K m.aR (aX P w K mg base (some 4))):=by
 refine m.d9.ok sc_rows_that_count (fun vs H Q E h=> ?_) (fun cdv A outer s H vs Q E hr h=> ?_)
 ·walk_at"g1";obtain⟨h,a,f,l,rz,ps,ds,us,rows,rfl,hh,hS,hpl,hlen,k⟩:=h;walk_at"g2";rfl
 ·walk_at"g1";obtain⟨h,a,f,l,rz,ps,ds,us,rows,rfl,hh,hS,hpl,hlen,k⟩:=h;walk_at"g2";have nd:=sc_rows_that_count.nd;walk_at"hu";have w_dc_House:=m.bL;have w_mc_House_doors:= @oO P w K mg base m;refine⟨_,(aB (aP (i:=2) nd rfl (by walk_at"oi") (kC 1 hr (pv 0)))
   (aF (aV (cV (N:=["row","doors","house"]) (nl:=1) (ci:=[2,0]) rfl (blk (s.heap.objs.size+1) rfl rfl rfl (by kernel_rfl)) (bH (pv 1)) (fun _ _ _ _=>(aH (i:=0) (show (["row","doors","house"]:List Str).Nodup by decide +kernel) rfl (by walk_at"oi"))) (fun _ _ _ _=>(gY (PW.pt (tG (aW (EC (K:=K)) (bA (gE (K:=K)) (pv 0) aC (fun _ _=>rfl)) (pv 1) (by with_unfolding_all rfl)) (o9 (XG Q1 j6 (kZ (K:=K) (pv 2) rfl) (bA (gE (K:=K)) (pv 0) aC (fun _ _=>rfl)) (kZ (K:=K) (pv 2) rfl))))))) (fun _ _ _ _=>(pv 0)))))),?_⟩
  refine aO (σ:=[some (.ref h),some (.ref a),none]) rfl ?_;walk_at"cx";walk_at"g1";obtain⟨dx,qs,qp,qd,nk,kvs,e1,e2,e3,e4,e5,e6,e7⟩:=hh.ex;walk_at"g2";walk_at"go";refine vT hh fun p1 H1 n1 S1 e8=> ?_;have e11:=S1 _ _ e1;walk_at"go";refine fI (α:=aT) (xs:=rows) (vs:=us) (zX H1) (cnt (ds.map (·.1)) f l) (fun r y H=>zX H y r) (fun _ _ _ _ ⟨q,h1,h2⟩ s=>⟨q,h1,s _ _ h2⟩) (by rw[sizeLine_eq];omega) (rest:=[some (.ref p1),some (.ref h)]) (by rfl) (S1.seq hS) (d7 hpl S1) ?_ ?_ ?_
  ·rintro v ⟨t0,n0,j0⟩ H2 ⟨q,rfl,hq⟩ hm s2 R hR;have hq':H2 q=some (.tup [.int t0,.str n0,.int j0]):=s2 _ _ hq;have ep:=s2 _ _ e8;have eh:=s2 _ _ e11;walk_at"go";refine⟨q,_,1,_,rfl,rfl,SqT.of hq',rfl,?_⟩;walk_at"go";refine L5 (SqL.of ep) ?_;have hR':=hR _ (Same.refl _);unfold cnt at hR';walk_at"go";refine cA (fun hc=> ?_) (fun hc=> ?_)
   ·rw[decide_eq_true hc,Bool.true_and]at hR';walk_at"go";refine⟨q,_,0,_,rfl,rfl,SqT.of hq',rfl,?_⟩;walk_at"go";refine cA (fun hc2=> ?_) (fun hc2=> ?_)
    ·rw[decide_eq_true hc2,Bool.true_and]at hR';walk_at"go";exact hR'
    ·rw[decide_eq_false hc2,Bool.false_and]at hR';exact⟨false,rfl,hR'⟩
   ·rw[decide_eq_false hc,Bool.false_and]at hR';exact hR'
  ·rintro v ⟨t0,n0,j0⟩ H2 ⟨q,rfl,hq⟩ hm - s2 R hR;walk_at"go";exact hR _ _ ⟨q,rfl,s2 _ _ hq⟩ (Same.refl _)
  intro ys H2 s2 hys;have hpl2:=iJ hys;walk_at"go";rename_i p3 H3 n3 S3 e33;refine k _ _ _ ?_ ((S1.trans s2).trans S3) e33 (d7 hpl2 S3);cases hq:H p3 with
  | none=>rfl
  | some u=>rw[s2 _ _ (S1 _ _ hq)]at n3;cases n3
theorem qS (m:M K mg):Fc P w K mg base "rows_that_count" 2 ["house","plan"] (wI K m.aR (aX P w K mg base (some 4))):=⟨_,_,m.B0,m.d9.kp,m.BW,yZ m⟩
def yX (key:aT->Option (List Key))(kvs:List (List Key×V))(r:aT):List (List Key×V):=match key r with
 | some k=>cP kvs k (.int (xO ((bD kvs k).getD (.int 0))+r.2.2))
 | none=>kvs
def k8 (key:aT->Option (List Key))(rows:List aT):List (List Key×V):=rows.foldl (yX key) []
theorem mY (key:aT->Option (List Key))(rows:List aT)(r:aT):k8 key (rows++[r])=yX key (k8 key rows) r:=by unfold k8;rw[List.foldl_append];rfl
def dX (key:aT->Option (List Key))(rows:List aT)(k:List Key):Int:=((rows.filter fun r=>decide (key r=some k)).map (·.2.2)).sum
theorem VX (key:aT->Option (List Key))(rows:List aT)(r:aT)(k:List Key):dX key (rows++[r]) k=dX key rows k+if key r=some k then r.2.2 else 0:=by
 unfold dX;rw[List.filter_append,List.map_append,List.sum_append]
 congr 1
 by_cases h:key r=some k
 ·rw[if_pos h];simp[h]
 ·rw[if_neg h];simp[h]
theorem WW (key:aT->Option (List Key))(k:List Key)(rows:List aT):xO ((bD (k8 key rows) k).getD (.int 0))=dX key rows k:=by
 induction rows using sT with
 | h0=>rfl
 | hs l r ih =>
  rw[mY,VX];unfold yX;cases hk:key r with
  | none =>
   rw[if_neg (by intro z;cases z),Int.add_zero];exact ih
  | some k2 =>
   show xO ((bD (cP (k8 key l) k2 _) k).getD (.int 0))=_;rw[mE]
   by_cases e:k=k2
   ·subst e;rw[if_pos rfl,if_pos rfl,←ih];rfl
   ·rw[if_neg e,if_neg (fun z=>e (Option.some.inj z).symm),Int.add_zero];exact ih
theorem VR (key:aT->Option (List Key))(rows:List aT):∀e∈k8 key rows,∃i,e.2= .int i:=by
 induction rows using sT with
 | h0=>intro e h;nomatch h
 | hs l r ih =>
  rw[mY];unfold yX;cases hk:key r with
  | none=>exact ih
  | some k2 =>
   intro e he;rcases MG he with h|⟨h1,h2⟩
   ·exact ih e h
   ·exact⟨_,h2⟩
theorem CQ (key:aT->Option (List Key))(rows:List aT)(k:List Key):∃i,(bD (k8 key rows) k).getD (.int 0)= .int i:=by
 cases h:bD (k8 key rows) k with
 | none=>exact⟨0,rfl⟩
 | some v =>
  obtain⟨i,e⟩:=VR key rows _ (zA h);exact⟨i,e⟩
theorem M1 (key:aT->Option (List Key))(rows:List aT):(k8 key rows).length<=rows.length:=by
 induction rows using sT with
 | h0=>exact Nat.le_refl _
 | hs l r ih =>
  rw[mY,List.length_append];unfold yX;cases hk:key r with
  | none=>exact Nat.le_trans ih (Nat.le_add_right _ _)
  | some k2=>exact Nat.le_trans (iI _ _ _) (by simp;omega)
def cX (ds:List aG)(n:Str):Option aG:=ds.find? fun d=>decide (d.1=n)
theorem f9 {ds:List aG}{n:Str} (h:n∈ds.map (·.1)):∃d∈ds,d.1=n/\cX ds n=some d:=by
 obtain⟨d,hd,e⟩:=List.mem_map.mp h;cases hf:cX ds n with
 | none =>
  have:=List.find?_eq_none.mp hf d hd;exact absurd (decide_eq_true e) this
 | some d2 =>
  have h1:decide (d2.1=n)=true:=List.find?_some (p:=fun d:aG=>decide (d.1=n)) hf;exact⟨d2,List.mem_of_find?_eq_some hf,of_decide_eq_true h1,rfl⟩
def eG (ds:List aG)(r:aT):Option (List Key):=(cX ds r.2.1).map fun d=>[.inr d.2.1,.inl r.1]
def fZ (ds:List aG)(r:aT):Option (List Key):=(cX ds r.2.1).bind fun d=>match d.2.2.1 with
 | .str z=>some [.inr z,.inl r.1]
 | _=>none
inductive oZ (K:W.Frag)(C:Addr)(D:bG)(key:List aG->aT->Option (List Key))(vs:List V)(H:Hp)(Q:VK)(E:XK):Prop
 | mk (h a:Addr) (f l:Int) (rz ps:List (Str×Int)) (ds:List aG) (us:List V) (rows:List aT) (_:vs=[.ref h,.ref a]) (_:bB C D H h f l rz ps ds) (_:(ds.map (·.1)).Nodup) (_:(∀d∈ds,cK (rz.map (·.1)) d)) (_:SqL K H a us) (_:bS H us rows) (_:rows.length<=200) (_:∀p H',H p=none->Same H H'->H' p=some (.dT (k8 (key ds) (rows.filter (cnt (ds.map (·.1)) f l))))->Q (.ref p) H'):oZ K C D key vs H Q E
theorem F7 {C:Addr}{D:bG}{key:List aG->aT->Option (List Key)}{H:Hp}{Q:VK}{E:XK}{h a:Addr}{f l:Int}{rz ps:List (Str×Int)}{ds:List aG}{us:List V}{rows:List aT} (hh:bB C D H h f l rz ps ds) (nd:(ds.map (·.1)).Nodup) (hin:∀d∈ds,cK (rz.map (·.1)) d) (hS:SqL K H a us) (hp:bS H us rows) (hl:rows.length<=200) (k:∀p H',H p=none->Same H H'->H' p=some (.dT (k8 (key ds) (rows.filter (cnt (ds.map (·.1)) f l))))->Q (.ref p) H'):oZ K C D key [.ref h,.ref a] H Q E:=⟨_,_,_,_,_,_,_,_,_,rfl,hh,nd,hin,hS,hp,hl,k⟩
theorem R6 (m:M K mg):FnOk P w K mg base CX0 3 m.AE m.AA ["house","plan"] (oZ K m.aR (aX P w K mg base (some 4)) eG):=by
 refine m.m3.ok sc_leaving (fun vs H Q E h=> ?_) (fun cdv A outer s H vs Q E hr h=> ?_)
 ·walk_at"g1";obtain⟨h,a,f,l,rz,ps,ds,us,rows,rfl,hh,ndd,hin,hS,hpl,hlen,k⟩:=h;walk_at"g2";rfl
 ·walk_at"g1";obtain⟨h,a,f,l,rz,ps,ds,us,rows,rfl,hh,ndd,hin,hS,hpl,hlen,k⟩:=h;walk_at"g2";have nd:=sc_leaving.nd;walk_at"hu";have d9:= @qS P w K mg base m;have w_dc_House:=m.bL;have w_mc_House_door:= @jP P w K mg base m;refine⟨_,(aB (aP (i:=2) nd rfl (by walk_at"oi") tD)
   (aB (cJ PassesOwn.never rfl (bH (bF d9 hr (aA (pv 0) (aA (pv 1) aE)))) (i3 rfl (aN (aH (i:=3) nd rfl (by walk_at"oi")) (aN (aH (i:=4) nd rfl (by walk_at"oi")) (aN (aH (i:=5) nd rfl (by walk_at"oi")) cM)))) (aB (aP (i:=6) nd rfl (by walk_at"oi") (bU (aA (bV (kU 1 hr (pv 0) (aA (pv 4) aE)) rfl) (aA (pv 3) aE))))
   (aF (dR hu1 (pv 2) (pv 6) (aI bO (o0 hu1 (pv 2) (pv 6) aC ⟨rfl,rfl,rfl,rfl⟩) (pv 5)) rfl))))
   (aF (aV (pv 2))))),?_⟩
  refine aO (σ:=[some (.ref h),some (.ref a),none,none,none,none,none]) rfl ?_;walk_at"cx";walk_at"go";rename_i p H1 n1 S1 ep;refine PP (bK hh S1) (S1.seq hS) (d7 hpl S1) hlen fun q ys H2 n2 S2 eq hcr=> ?_;generalize hce:rows.filter (cnt (ds.map (·.1)) f l)=cr at hcr k;have hcn:∀r∈cr,r.2.1∈ds.map (·.1):=fun r hr=>by
   rw[←hce]at hr;have:=(List.mem_filter.mp hr).2;unfold cnt at this;rw[Bool.and_eq_true]at this;exact of_decide_eq_true this.1
  have hcl:cr.length<=200:=by rw[←hce];exact Nat.le_trans (List.length_filter_le _ _) hlen
  have hyl:ys.length=cr.length:=Paired.length hcr;have ep2:=S2 _ _ ep;have hqp:q≠p:=fun z=>by rw[z,ep]at n2;cases n2
  have hh2:=bK hh (S1.trans S2);have npd:∀x u,H x=some u->x≠p:=fun x u hx z=>by rw[z,n1]at hx;cases hx
  walk_at"go";let Pv1:Nat->St->Hp->Prop:=fun i σ' H'=>SameBut p H2 H'/\H' p=some (.dT (k8 (eG ds) (cr.take i)))/\∃x y z u,σ'=[some (.ref h),some (.ref a),some (.ref p),x,y,z,u];refine dQ ys Pv1 ⟨SameBut.refl,ep2,_,_,_,_,rfl⟩ (fun i σ' H' _ g=>SqL.of (g.1 _ _ eq hqp)) ?_ ?_
  ·rintro i x _ H' hx hq_;walk_at"g1";obtain⟨sb,ek,x1,x2,x3,x4,rfl⟩:=hq_;walk_at"g2";have hi:i<ys.length:=(List.getElem?_eq_some_iff.mp hx).1;obtain⟨⟨t,n,j⟩,hrx⟩:∃r,cr[i]? =some r:=⟨_,List.getElem?_eq_getElem (by omega)⟩
   obtain⟨q1,rfl,hq1⟩:=Paired.at2 hcr hx hrx;have hq1':H' q1=some (.tup [.int t,.str n,.int j]):=sb _ _ hq1 fun z=>by rw[z,ep2]at hq1;cases hq1
   have sH:Same H H':=fun x u hx=>sb _ _ (S2 _ _ (S1 _ _ hx)) (npd x u hx);have hh':=bK hh sH;walk_at"g1";obtain⟨dx,qs,qp,qd,nk,kvs,e1,_⟩:=hh'.ex;walk_at"g2";walk_at"g1";obtain⟨⟨dn,dst,de,dw⟩,hd,rfl,hdo⟩:=f9 (hcn _ (List.mem_of_getElem? hrx));walk_at"g2";have hkey:eG ds (t,dn,j)=some [.inr dst,.inl t]:=by
    unfold eG;rw[show cX ds ((t,dn,j):aT).2.1=some (dn,dst,de,dw) from hdo];rfl
   obtain⟨i0,ei⟩:=CQ (eG ds) (cr.take i) [.inr dst,.inl t];have hkl:=M1 (eG ds) (cr.take i);rw[List.length_take]at hkl;walk_at"go";refine zT (d:=(dn,dst,de,dw)) hh' ndd hd fun v hv=> ?_;walk_at"g1";obtain⟨q2,C2,dx2,fs2,fp2,rfl,hq2,dcC,l1,l2,l3,l4,l5,mcE,hfp,hlt⟩:=DoorAt.ex hv;walk_at"g2";walk_at"go";rename_i b3 H3 n3 S3 e3;refine mX (S3 _ _ ek) ?_;walk_at"go";refine o7 [.inr dst,.inl t] (S3 _ _ ek) e3 ?_;rw[ei];walk_at"go";refine oY [.inr dst,.inl t] (S3 _ _ ek) e3 (by rw[sizeLine_eq];omega) fun H4 B4 e4=> ?_;refine⟨(sb.trans S3.but).trans B4,?_,_,_,_,_,rfl⟩;rw[e4,cU hrx,mY];unfold yX;rw[hkey];show _=some (HO.dT (cP _ _ (.int (xO ((bD _ _).getD (.int 0))+j))));rw[ei];rfl
  ·rintro _ H' hq_;walk_at"g1";obtain⟨sb,ek,x1,x2,x3,x4,rfl⟩:=hq_;walk_at"g2";rw[hyl,List.take_length]at ek;walk_at"go";exact k _ _ n1 (fun x u hx=>sb _ _ (S2 _ _ (S1 _ _ hx)) (npd x u hx)) ek
theorem EE (m:M K mg):Fc P w K mg base "leaving" 3 ["house","plan"] (oZ K m.aR (aX P w K mg base (some 4)) eG):=⟨_,_,m.WH,m.m3.kp,m.WK,R6 m⟩
theorem UW (m:M K mg):FnOk P w K mg base CX0 3 m.DZ m.DS ["house","plan"] (oZ K m.aR (aX P w K mg base (some 4)) fZ):=by
 refine m.xP.ok sc_coming (fun vs H Q E h=> ?_) (fun cdv A outer s H vs Q E hr h=> ?_)
 ·walk_at"g1";obtain⟨h,a,f,l,rz,ps,ds,us,rows,rfl,hh,ndd,hin,hS,hpl,hlen,k⟩:=h;walk_at"g2";rfl
 ·walk_at"g1";obtain⟨h,a,f,l,rz,ps,ds,us,rows,rfl,hh,ndd,hin,hS,hpl,hlen,k⟩:=h;walk_at"g2";have nd:=sc_coming.nd;walk_at"hu";have d9:= @qS P w K mg base m;have w_dc_House:=m.bL;have w_mc_House_door:= @jP P w K mg base m;refine⟨_,(aB (aP (i:=2) nd rfl (by walk_at"oi") tD)
   (aB (cJ PassesOwn.never rfl (bH (bF d9 hr (aA (pv 0) (aA (pv 1) aE)))) (i3 rfl (aN (aH (i:=3) nd rfl (by walk_at"oi")) (aN (aH (i:=4) nd rfl (by walk_at"oi")) (aN (aH (i:=5) nd rfl (by walk_at"oi")) cM)))) (aB (aP (i:=6) nd rfl (by walk_at"oi") (kU 1 hr (pv 0) (aA (pv 4) aE)))
   (aF (bR (zO (nO (kC 1 hr (pv 6)))) (aB (aP (i:=7) nd rfl (by walk_at"oi") (bU (aA (bV (pv 6) rfl) (aA (pv 3) aE))))
   (aF (dR hu1 (pv 2) (pv 7) (aI bO (o0 hu1 (pv 2) (pv 7) aC ⟨rfl,rfl,rfl,rfl⟩) (pv 5)) rfl))) bC))))
   (aF (aV (pv 2))))),?_⟩
  refine aO (σ:=[some (.ref h),some (.ref a),none,none,none,none,none,none]) rfl ?_;walk_at"cx";walk_at"go";rename_i p H1 n1 S1 ep;refine PP (bK hh S1) (S1.seq hS) (d7 hpl S1) hlen fun q ys H2 n2 S2 eq hcr=> ?_;generalize hce:rows.filter (cnt (ds.map (·.1)) f l)=cr at hcr k;have hcn:∀r∈cr,r.2.1∈ds.map (·.1):=fun r hr=>by
   rw[←hce]at hr;have:=(List.mem_filter.mp hr).2;unfold cnt at this;rw[Bool.and_eq_true]at this;exact of_decide_eq_true this.1
  have hcl:cr.length<=200:=by rw[←hce];exact Nat.le_trans (List.length_filter_le _ _) hlen
  have hyl:ys.length=cr.length:=Paired.length hcr;have ep2:=S2 _ _ ep;have hqp:q≠p:=fun z=>by rw[z,ep]at n2;cases n2
  have hh2:=bK hh (S1.trans S2);have npd:∀x u,H x=some u->x≠p:=fun x u hx z=>by rw[z,n1]at hx;cases hx
  walk_at"go";let Pv2:Nat->St->Hp->Prop:=fun i σ' H'=>SameBut p H2 H'/\H' p=some (.dT (k8 (fZ ds) (cr.take i)))/\∃x y z u w,σ'=[some (.ref h),some (.ref a),some (.ref p),x,y,z,u,w];refine dQ ys Pv2 ⟨SameBut.refl,ep2,_,_,_,_,_,rfl⟩ (fun i σ' H' _ g=>SqL.of (g.1 _ _ eq hqp)) ?_ ?_
  ·rintro i x _ H' hx hq_;walk_at"g1";obtain⟨sb,ek,x1,x2,x3,x4,x5,rfl⟩:=hq_;walk_at"g2";have hi:i<ys.length:=(List.getElem?_eq_some_iff.mp hx).1;obtain⟨⟨t,n,j⟩,hrx⟩:∃r,cr[i]? =some r:=⟨_,List.getElem?_eq_getElem (by omega)⟩
   obtain⟨q1,rfl,hq1⟩:=Paired.at2 hcr hx hrx;have hq1':H' q1=some (.tup [.int t,.str n,.int j]):=sb _ _ hq1 fun z=>by rw[z,ep2]at hq1;cases hq1
   have sH:Same H H':=fun x u hx=>sb _ _ (S2 _ _ (S1 _ _ hx)) (npd x u hx);have hh':=bK hh sH;walk_at"g1";obtain⟨dx,qs,qp,qd,nk,kvs,e1,_⟩:=hh'.ex;walk_at"g2";walk_at"g1";obtain⟨⟨dn,dst,de,dw⟩,hd,rfl,hdo⟩:=f9 (hcn _ (List.mem_of_getElem? hrx));walk_at"g2";have hkl:=M1 (fZ ds) (cr.take i);rw[List.length_take]at hkl;have hend:=(hin _ hd).2;walk_at"go";refine zT (d:=(dn,dst,de,dw)) hh' ndd hd fun v hv=> ?_;walk_at"g1";obtain⟨q2,C2,dx2,fs2,fp2,rfl,hq2,dcC,l1,l2,l3,l4,l5,mcE,hfp,hlt⟩:=DoorAt.ex hv;walk_at"g2";rcases hend with hend|⟨z,hend,hz⟩
   ·have hde:de= .non:=hend;subst hde;have hkey:fZ ds (t,dn,j)=none:=by
     unfold fZ;rw[show cX ds ((t,dn,j):aT).2.1=some (dn,dst,.non,dw) from hdo];rfl
    walk_at"go";refine⟨sb,?_,_,_,_,_,_,rfl⟩;rw[ek,cU hrx,mY];unfold yX;rw[hkey]
   ·have hde:de= .str z:=hend;subst hde;have hkey:fZ ds (t,dn,j)=some [.inr z,.inl t]:=by
     unfold fZ;rw[show cX ds ((t,dn,j):aT).2.1=some (dn,dst,.str z,dw) from hdo];rfl
    obtain⟨i0,ei⟩:=CQ (fZ ds) (cr.take i) [.inr z,.inl t];walk_at"go";rename_i b3 H3 n3 S3 e3;refine mX (S3 _ _ ek) ?_;walk_at"go";refine o7 [.inr z,.inl t] (S3 _ _ ek) e3 ?_;rw[ei];walk_at"go";refine oY [.inr z,.inl t] (S3 _ _ ek) e3 (by rw[sizeLine_eq];omega) fun H4 B4 e4=> ?_;refine⟨(sb.trans S3.but).trans B4,?_,_,_,_,_,_,rfl⟩;rw[e4,cU hrx,mY];unfold yX;rw[hkey];show _=some (HO.dT (cP _ _ (.int (xO ((bD _ _).getD (.int 0))+j))));rw[ei];rfl
  ·rintro _ H' hq_;walk_at"g1";obtain⟨sb,ek,x1,x2,x3,x4,x5,rfl⟩:=hq_;walk_at"g2";rw[hyl,List.take_length]at ek;walk_at"go";exact k _ _ n1 (fun x u hx=>sb _ _ (S2 _ _ (S1 _ _ hx)) (npd x u hx)) ek
theorem ST (m:M K mg):Fc P w K mg base "coming" 3 ["house","plan"] (oZ K m.aR (aX P w K mg base (some 4)) fZ):=⟨_,_,m.Y8,m.xP.kp,m.ZB,UW m⟩
theorem CP (key:aT->Option (List Key))(rows:List aT)(k:List Key):(bD (k8 key rows) k).getD (.int 0)= .int (dX key rows k):=by
 obtain⟨i,e⟩:=CQ key rows k;have h:=WW key k rows;rw[e]at h ⊢;rw[←h];rfl
theorem pairsN_mem {rz:List (Str×Int)}{f:Int}{z:Str}{t:Int}:∀{n:Nat},(z,t)∈bQ rz f n↔z∈rz.map (·.1)/\∃i:Nat,i<n/\t=f+i
 | 0=>⟨(fun h=>by cases h),(fun⟨_,i,h,_⟩=>absurd h (Nat.not_lt_zero _))⟩
 | n+1=>by
  rw[lM,List.mem_append,pairsN_mem (n:=n)]
  constructor
  ·rintro (⟨h1,i,h2,h3⟩|h)
   ·exact⟨h1,i,by omega,h3⟩
   ·obtain⟨e,he,ee⟩:=List.mem_map.mp h;cases ee;exact⟨List.mem_map.mpr ⟨e,he,rfl⟩,n,by omega,rfl⟩
  ·rintro hq_;walk_at"g1";obtain⟨h1,i,h2,h3⟩:=hq_;walk_at"g2"
   by_cases hi:i=n
   ·subst hi;obtain⟨e,he,rfl⟩:=List.mem_map.mp h1;exact .inr (List.mem_map.mpr ⟨e,he,by rw[h3]⟩)
   ·exact .inl ⟨h1,i,by omega,h3⟩
theorem nE {rz:List (Str×Int)}(nd:(rz.map (·.1)).Nodup)(f:Int):∀n,(bQ rz f n).Nodup
 | 0=>by simp[bQ]
 | n+1=>by
  rw[lM,List.nodup_append];refine⟨nE nd f n,?_,?_⟩
  ·rw[List.Nodup,List.pairwise_map]at nd ⊢;exact nd.imp fun h z=>h (Prod.mk.inj z).1
  ·intro a ha b hb e;subst e;obtain⟨z,t⟩:=a;walk_at"g1";obtain⟨_,i,hi,ht⟩:=pairsN_mem.mp ha;walk_at"g2";obtain⟨e,_,ee⟩:=List.mem_map.mp hb;cases ee;omega
theorem D5 (rz:List (Str×Int))(f:Int)(m:Nat):∀k,∃l,bQ rz f (m+k)=bQ rz f m++l
 | 0=>⟨[],by rw[Nat.add_zero,List.append_nil]⟩
 | k+1=>by
  obtain⟨l,e⟩:=D5 rz f m k;exact⟨l++_,by rw[←Nat.add_assoc,lM,e,List.append_assoc]⟩
theorem LH {rz:List (Str×Int)}{f:Int}{n i:Nat}{z:Str}{t:Int} (h:(bQ rz f n)[i]? =some (z,t)) (ht:t≠f):(z,t - 1)∈(bQ rz f n).take i/\f<t:=by
 have hi:=(List.getElem?_eq_some_iff.mp h).1;walk_at"g1";obtain⟨hz,m,hm,rfl⟩:=pairsN_mem.mp (List.mem_of_getElem? h);walk_at"g2";have hm0:0<m:=by
  cases m with
  | zero=>exact absurd (by simp) ht
  | succ m=>exact Nat.succ_pos _
 obtain⟨l,el⟩:=D5 rz f m (n - m);rw[show m+(n - m)=n by omega]at el;have hge:(bQ rz f m).length<=i:=by
  rcases Nat.lt_or_ge i (bQ rz f m).length with hlt|hge
  ·rw[el,List.getElem?_append_left hlt]at h;walk_at"g1";obtain⟨_,j,hj,ej⟩:=pairsN_mem.mp (List.mem_of_getElem? h);walk_at"g2";omega
  ·exact hge
 refine⟨?_,by omega⟩;have h1:(z,f+(m:Int) - 1)∈bQ rz f m:=pairsN_mem.mpr ⟨hz,m - 1,by omega,by omega⟩;rw[el,List.take_append,List.take_of_length_le hge];exact List.mem_append_left _ h1
def bW (p:Str×Int):List Key:=[.inr p.1,.inl p.2]
theorem w9 {a b:Str×Int}(h:bW a=bW b):a=b:=by
 unfold bW at h;injection h with h1 h2;injection h2 with h2;exact Prod.ext (Sum.inr.inj h1) (Sum.inl.inj h2)
def g0 (ps:List (Str×Int))(L C:List Key->Int)(z:Str)(f:Int):Nat->Int
 | 0=>cC ps z
 | n+1=>g0 ps L C z f n - L (bW (z,f+(n:Int)))+C (bW (z,f+(n:Int)))
def kB (ps:List (Str×Int))(L C:List Key->Int)(f:Int)(pp:List (Str×Int)):List (List Key×V):=pp.map fun p=>(bW p,V.int (g0 ps L C p.1 f (p.2 - f).toNat))
theorem CN {ps:List (Str×Int)}{L C:List Key->Int}{f:Int}{pp:List (Str×Int)} (nd:pp.Nodup) {p:Str×Int} (h:p∈pp):bD (kB ps L C f pp) (bW p)=some (.int (g0 ps L C p.1 f (p.2 - f).toNat)):=by
 refine sU (e:=(bW p,V.int (g0 ps L C p.1 f (p.2 - f).toNat))) ?_ (List.mem_map.mpr ⟨p,h,rfl⟩);unfold kB;rw[List.map_map,List.Nodup,List.pairwise_map];exact nd.imp fun hne z=>hne (w9 z)
theorem LY {ps:List (Str×Int)}{L C:List Key->Int}{f:Int}{pp:List (Str×Int)}{p:Str×Int} (h:p∉pp):bD (kB ps L C f pp) (bW p)=none:=by
 have:∀e∈kB ps L C f pp,e.1≠bW p:=fun e he z=>by
  obtain⟨q,hq,rfl⟩:=List.mem_map.mp he;exact h (w9 z▸hq)
 revert this;generalize kB ps L C f pp=kvs;intro this
 induction kvs with
 | nil=>rfl
 | cons a l ih =>
  rw[d5 (this a (.head _))];exact ih fun e he=>this e (List.mem_cons_of_mem _ he)
inductive C3 (K:W.Frag)(C:Addr)(D:bG)(vs:List V)(H:Hp)(Q:VK)(E:XK):Prop
 | mk (h a:Addr) (f l:Int) (rz ps:List (Str×Int)) (ds:List aG) (us:List V) (rows:List aT) (_:vs=[.ref h,.ref a]) (_:bB C D H h f l rz ps ds) (_:(rz.map (·.1)).Nodup) (_:(ds.map (·.1)).Nodup) (_:(∀d∈ds,cK (rz.map (·.1)) d)) (_:0<=f) (_:f<=l) (_:l<1000000000000) (_:l - f<=1000) (_:rz.length<=20) (_:SqL K H a us) (_:bS H us rows) (_:rows.length<=200) (_:∀p H',H p=none->Same H H'->H' p=some (.dT (kB ps (dX (eG ds) (rows.filter (cnt (ds.map (·.1)) f l))) (dX (fZ ds) (rows.filter (cnt (ds.map (·.1)) f l))) f (bQ rz f (l+1 - f).toNat)))->Q (.ref p) H'):C3 K C D vs H Q E
theorem YL (m:M K mg):FnOk P w K mg base CX0 4 m.G9 m.G3 ["house","plan"] (C3 K m.aR (aX P w K mg base (some 4))):=by
 refine m.A6.ok sc_there (fun vs H Q E h=> ?_) (fun cdv A outer s H vs Q E hr h=> ?_)
 ·walk_at"g1";obtain⟨h,a,f,l,rz,ps,ds,us,rows,rfl,hh,nr,ndd,hin,h0,h1,h2,h3,lr,hS,hpl,hlen,k⟩:=h;walk_at"g2";rfl
 ·walk_at"g1";obtain⟨h,a,f,l,rz,ps,ds,us,rows,rfl,hh,nr,ndd,hin,h0,h1,h2,h3,lr,hS,hpl,hlen,k⟩:=h;walk_at"g2";have nd:=sc_there.nd;walk_at"hu";have xP:= @ST P w K mg base m;have m3:= @EE P w K mg base m;have w_dc_House:=m.bL;have w_mc_House_pairs:= @oR P w K mg base m;have w_mc_House_found:= @v8 P w K mg base m;refine⟨_,(aB (aP (i:=2) nd rfl (by walk_at"oi") (bF m3 hr (aA (pv 0) (aA (pv 1) aE))))
   (aB (aP (i:=3) nd rfl (by walk_at"oi") (bF xP hr (aA (pv 0) (aA (pv 1) aE))))
   (aB (aP (i:=4) nd rfl (by walk_at"oi") tD)
   (aB (cJ PassesOwn.never rfl (bH (kC 1 hr (pv 0))) (i3 rfl (aN (aH (i:=5) nd rfl (by walk_at"oi")) (aN (aH (i:=6) nd rfl (by walk_at"oi")) cM))) (aF (bR (aW dG (pv 6) (bV (pv 0) rfl) (aY _)) (aF (dR hu1 (pv 4) (bU (aA (pv 5) (aA (pv 6) aE))) (kU 3 hr (pv 0) (aA (pv 5) aE)) rfl)) (aB (aP (i:=7) nd rfl (by walk_at"oi") (bU (aA (pv 5) (aA (aI kR (pv 6) aC) aE))))
   (aF (dR hu1 (pv 4) (bU (aA (pv 5) (aA (pv 6) aE))) (aI bO (aI kR (c6 hu1 (pv 4) (pv 7) (fun _ _=>rfl)) (o0 hu1 (pv 2) (pv 7) aC ⟨rfl,rfl,rfl,rfl⟩)) (o0 hu1 (pv 3) (pv 7) aC ⟨rfl,rfl,rfl,rfl⟩)) rfl))))))
   (aF (aV (pv 4))))))),?_⟩
  refine aO (σ:=[some (.ref h),some (.ref a),none,none,none,none,none,none]) rfl ?_;walk_at"cx";walk_at"g1";obtain⟨dx,qs,qp,qd,nk,kvs,e1,_⟩:=hh.ex;walk_at"g2";walk_at"go";refine F7 hh ndd hin hS hpl hlen fun pL H1 n1 S1 eL=> ?_;walk_at"go";refine F7 (bK hh S1) ndd hin (S1.seq hS) (d7 hpl S1) hlen fun pC H2 n2 S2 eC=> ?_;have e12:=S2 _ _ (S1 _ _ e1);walk_at"go";rename_i p H3 n3 S3 ep;have e13:=S3 _ _ e12;walk_at"go";have sA:Same H H3:=(S1.trans S2).trans S3;refine FX (bK hh sA) h0 h1 h2 h3 lr fun q ys H4 n4 S4 eq hpp=> ?_;have ep4:=S4 _ _ ep;have hqp:q≠p:=fun z=>by rw[z,ep]at n4;cases n4
  have npd:∀x u,H2 x=some u->x≠p:=fun x u hx z=>by rw[z,n3]at hx;cases hx
  have pnd:=nE nr f (l+1 - f).toNat;have pll:=rW rz f (l+1 - f).toNat;have plb:(l+1 - f).toNat * rz.length<=1001 * 20:=Nat.mul_le_mul (by omega) lr;have hyl:ys.length=(bQ rz f (l+1 - f).toNat).length:=Paired.length hpp;generalize hLe:dX (eG ds) (rows.filter (cnt (ds.map (·.1)) f l))=LL at k;generalize hCe:dX (fZ ds) (rows.filter (cnt (ds.map (·.1)) f l))=CC at k;walk_at"go";let Pv1:Nat->St->Hp->Prop:=fun i σ' H'=>SameBut p H4 H'/\H' p=some (.dT (kB ps LL CC f ((bQ rz f (l+1 - f).toNat).take i)))/\∃x y z,σ'=[some (.ref h),some (.ref a),some (.ref pL),some (.ref pC),some (.ref p),x,y,z];refine dQ ys Pv1 ⟨SameBut.refl,ep4,_,_,_,rfl⟩ (fun i σ' H' _ g=>SqL.of (g.1 _ _ eq hqp)) ?_ ?_
  ·rintro i x _ H' hx hq_;walk_at"g1";obtain⟨sb,ek,x1,x2,x3,rfl⟩:=hq_;walk_at"g2";have hi:i<ys.length:=(List.getElem?_eq_some_iff.mp hx).1;obtain⟨⟨z,t⟩,hrx⟩:∃r,(bQ rz f (l+1 - f).toNat)[i]? =some r:=⟨_,List.getElem?_eq_getElem (by omega)⟩
   obtain⟨q1,rfl,hq1⟩:=Paired.at2 hpp hx hrx;have hq1':H' q1=some (.tup [.str z,.int t]):=sb _ _ hq1 fun zz=>by rw[zz,ep4]at hq1;cases hq1
   have sH2:Same H2 H':=fun x u hx=>sb _ _ (S4 _ _ (S3 _ _ hx)) (npd x u hx);have hh':=bK hh ((S1.trans S2).trans sH2);have e1':=sH2 _ _ e12;have eL':=sH2 _ _ (S2 _ _ eL);have eC':=sH2 _ _ eC;have hz:z∈rz.map (·.1):=(pairsN_mem.mp (List.mem_of_getElem? hrx)).1;have hnew:(z,t)∉(bQ rz f (l+1 - f).toNat).take i:=wM pnd hrx;have hkl:(kB ps LL CC f ((bQ rz f (l+1 - f).toNat).take i)).length<=20020:=by unfold kB;rw[List.length_map,List.length_take];omega
   have nd':((bQ rz f (l+1 - f).toNat).take i).Nodup:=pnd.sublist (List.take_sublist _ _);walk_at"go";refine cA (fun hc=> ?_) (fun hc=> ?_)
   ·subst hc;walk_at"go";refine PH hh' nr hz fun H5 S5=> ?_;walk_at"go";rename_i b6 H6 n6 S6 e6;have ek6:=S6 _ _ (S5 _ _ ek);refine oY (bW (z,t)) ek6 e6 (by rw[sizeLine_eq];omega) fun H7 B7 e7=> ?_;refine⟨(sb.trans (S5.trans S6).but).trans B7,?_,_,_,_,rfl⟩;rw[e7,l9 _ (LY hnew),cU hrx];unfold kB;rw[List.map_append]
    congr 3
    show [(bW (z,t),V.int (cC ps z))]=[(bW (z,t),V.int (g0 ps LL CC z t (t - t).toNat))];rw[show (t - t).toNat=0 by omega];rfl
   ·obtain⟨hah,hft⟩:=LH hrx hc;have gL:(bD (k8 (eG ds) (rows.filter (cnt (ds.map (·.1)) f l))) (bW (z,t - 1))).getD (.int 0)= .int (LL (bW (z,t - 1))):=by rw[←hLe];exact CP _ _ _
    have gC:(bD (k8 (fZ ds) (rows.filter (cnt (ds.map (·.1)) f l))) (bW (z,t - 1))).getD (.int 0)= .int (CC (bW (z,t - 1))):=by rw[←hCe];exact CP _ _ _
    walk_at"go";rename_i b6 H6 n6 S6 e6;refine xK (bW (z,t - 1)) (.inl (S6 _ _ ek)) e6 (CN nd' hah) ?_;walk_at"go";refine mX (S6 _ _ eL') ?_;walk_at"go";refine o7 (bW (z,t - 1)) (S6 _ _ eL') e6 ?_;rw[gL];walk_at"go";refine mX (S6 _ _ eC') ?_;walk_at"go";refine o7 (bW (z,t - 1)) (S6 _ _ eC') e6 ?_;rw[gC];walk_at"go";rename_i b8 H8 n8 S8 e8;have ek8:=S8 _ _ (S6 _ _ ek);refine oY (bW (z,t)) ek8 e8 (by rw[sizeLine_eq];omega) fun H9 B9 e9=> ?_;refine⟨(sb.trans (S6.trans S8).but).trans B9,?_,_,_,_,rfl⟩;rw[e9,l9 _ (LY hnew),cU hrx];unfold kB;rw[List.map_append]
    congr 3
    show [(bW (z,t),V.int (g0 ps LL CC z f (t - 1 - f).toNat - LL (bW (z,t - 1))+CC (bW (z,t - 1))))]=[(bW (z,t),V.int (g0 ps LL CC z f (t - f).toNat))];rw[show (t - f).toNat=(t - 1 - f).toNat+1 by omega];show _=[(bW (z,t),V.int (g0 ps LL CC z f (t - 1 - f).toNat - LL (bW (z,f+((t - 1 - f).toNat:Int)))+CC (bW (z,f+((t - 1 - f).toNat:Int)))))];rw[show f+((t - 1 - f).toNat:Int)=t - 1 by omega]
  ·rintro _ H' hq_;walk_at"g1";obtain⟨sb,ek,x1,x2,x3,rfl⟩:=hq_;walk_at"g2";rw[hyl,List.take_length]at ek;walk_at"go";refine k _ _ ?_ (fun x u hx=>sb _ _ (S4 _ _ (S3 _ _ (S2 _ _ (S1 _ _ hx)))) (npd x u (S2 _ _ (S1 _ _ hx)))) ek;cases hq:H p with
   | none=>rfl
   | some u=>rw[S2 _ _ (S1 _ _ hq)]at n3;cases n3
theorem XO (m:M K mg):Fc P w K mg base "there" 4 ["house","plan"] (C3 K m.aR (aX P w K mg base (some 4))):=⟨_,_,m.aB8,m.A6.kp,m.aBX,YL m⟩
def kO (cut:List (Str×Int))(kvs:List (List Key×V)):Prop:=∀p:Str×Int,(bD kvs (bW p)).isSome=decide (p∈cut)
def jU (rz ps:List (Str×Int))(f:Int)(cut:List (Str×Int)):Int:=((rz.filter fun e=> !decide ((e.1,f)∈cut)).map fun e=>cC ps e.1).sum
inductive uP (C:Addr)(D:bG)(vs:List V)(H:Hp)(Q:VK)(E:XK):Prop
 | mk (h a:Addr) (f l:Int) (rz ps:List (Str×Int)) (ds:List aG) (cut:List (Str×Int)) (kvs:List (List Key×V)) (_:vs=[.ref h,.ref a]) (_:bB C D H h f l rz ps ds) (_:(rz.map (·.1)).Nodup) (_:rz.length<=20) (_:H a=some (.dT kvs)) (_:kO cut kvs) (_:∀H',Same H H'->Q (.int (jU rz ps f cut)) H'):uP C D vs H Q E
theorem WQ {C:Addr}{D:bG}{H:Hp}{Q:VK}{E:XK}{h a:Addr}{f l:Int}{rz ps:List (Str×Int)}{ds:List aG}{cut:List (Str×Int)}{kvs:List (List Key×V)} (hh:bB C D H h f l rz ps ds) (nr:(rz.map (·.1)).Nodup) (lr:rz.length<=20) (ea:H a=some (.dT kvs)) (hk:kO cut kvs) (k:∀H',Same H H'->Q (.int (jU rz ps f cut)) H'):uP C D [.ref h,.ref a] H Q E:=⟨_,_,_,_,_,_,_,_,_,rfl,hh,nr,lr,ea,hk,k⟩
theorem E6 (rz:List (Str×Int)):Paired (fun v (e:Str×Int)=>v=V.str e.1) ((rz.map (·.1)).map V.str) rz:=by
 induction rz with
 | nil=>exact .nil
 | cons a l ih=>exact .cons rfl ih
theorem D7 (m:M K mg):FnOk P w K mg base CX0 4 m.p0 m.pT ["house","kept"] (uP m.aR (aX P w K mg base (some 4))):=by
 refine m.k6.ok sc_found_beyond (fun vs H Q E h=> ?_) (fun cdv A outer s H vs Q E hr h=> ?_)
 ·walk_at"g1";obtain⟨h,a,f,l,rz,ps,ds,cut,kvs,rfl,hh,nr,lr,ea,hk,k⟩:=h;walk_at"g2";rfl
 ·walk_at"g1";obtain⟨h,a,f,l,rz,ps,ds,cut,kvs,rfl,hh,nr,lr,ea,hk,k⟩:=h;walk_at"g2";have nd:=sc_found_beyond.nd;walk_at"hu";have w_dc_House:=m.bL;have w_mc_House_rooms:= @v4 P w K mg base m;have w_mc_House_found:= @v8 P w K mg base m;refine⟨_,(aF (aV (bP (qQ rfl) rfl m.FH yO (aA (cV (N:=["room","house","kept"]) (nl:=1) (ci:=[0,1]) rfl (blk (s.heap.objs.size+1) rfl rfl rfl (by kernel_rfl)) (bH (kC 1 hr (pv 0))) (fun _ _ _ _=>(aH (i:=0) (show (["room","house","kept"]:List Str).Nodup by decide +kernel) rfl (by walk_at"oi"))) (fun _ _ _ _=>(gY (qN (yY hu1 (bU (aA (pv 0) (aA (kZ (K:=K) (pv 1) rfl) aE))) (pv 2)) (by with_unfolding_all rfl)))) (fun _ _ _ _=>(vZ (P:=P) (w:=w) (K:=K) (mg:=mg) (base:=base) 3 hr (pv 1) (aA (pv 0) aE)))) aE)))),?_⟩;refine aO (σ:=[some (.ref h),some (.ref a)]) rfl ?_;walk_at"cx";walk_at"g1";obtain⟨dx,qs,qp,qd,nk,kvs0,e1,_⟩:=hh.ex;walk_at"g2";walk_at"go";refine vT hh fun p1 H1 n1 S1 f1=> ?_;have e11:=S1 _ _ e1;have ea1:=S1 _ _ ea;walk_at"go";refine fI (α:=Str×Int) (xs:=rz) (vs:=(rz.map (·.1)).map V.str) (fun v e=>v= .str e.1) (fun e=> !decide ((e.1,f)∈cut)) (fun e y _=>y= .int (cC ps e.1)) (fun _ _ _ _ h _=>h) (by rw[sizeLine_eq];omega) (rest:=[some (.ref h),some (.ref a)]) (by rfl) (SqL.of f1) (E6 rz) ?_ ?_ ?_
  ·rintro v e H2 rfl he s2 R hR;have e12:=s2 _ _ e11;have ea2:=s2 _ _ ea1;walk_at"go";rename_i b3 H3 n3 S3 e3;refine QI (bW (e.1,f)) (S3 _ _ ea2) e3 ?_;rw[hk];walk_at"go";exact hR _ S3
  ·rintro v e H2 rfl he - s2 R hR;have e12:=s2 _ _ e11;have hh2:=bK hh (S1.trans s2);walk_at"go";refine PH hh2 nr (List.mem_map.mpr ⟨e,he,rfl⟩) fun H3 S3=> ?_;exact hR _ _ rfl S3
  intro ys H2 s2 hys;have ey:ys=((rz.filter fun e=> !decide ((e.1,f)∈cut)).map fun e=>cC ps e.1).map V.int:=by rw[fD hys,List.map_map];rfl
  subst ey;walk_at"go";rename_i q3 H3 n3 S3 e3;refine zP (SqL.of e3) ?_;exact k _ ((S1.trans s2).trans S3)
theorem FA (m:M K mg):Fc P w K mg base "found_beyond" 4 ["house","kept"] (uP m.aR (aX P w K mg base (some 4))):=⟨_,_,m.GU,m.k6.kp,m.G7,D7 m⟩
def vS (ds:List aG)(f l:Int)(cut:List (Str×Int))(z:Str)(t:Int):Int:=(((ds.filter fun d=>decide (d.2.2.1= .str z)).filter fun d=>decide ((d.2.1,t)∈cut)).map fun d=>iY f l d t).sum
inductive xM (C:Addr)(D:bG)(vs:List V)(H:Hp)(Q:VK)(E:XK):Prop
 | mk (h a:Addr) (z:Str) (t f l:Int) (rz ps:List (Str×Int)) (ds:List aG) (cut:List (Str×Int)) (kvs:List (List Key×V)) (_:vs=[.ref h,.ref a,.str z,.int t]) (_:bB C D H h f l rz ps ds) (_:(rz.map (·.1)).Nodup) (_:(ds.map (·.1)).Nodup) (_:z∈rz.map (·.1)) (_:ds.length<=20) (_:(∀d∈ds,cK (rz.map (·.1)) d)) (_:0<=f) (_:H a=some (.dT kvs)) (_:kO cut kvs) (_:∀H',Same H H'->Q (.int (vS ds f l cut z t)) H'):xM C D vs H Q E
theorem aBF {C:Addr}{D:bG}{H:Hp}{Q:VK}{E:XK}{h a:Addr}{z:Str}{t f l:Int}{rz ps:List (Str×Int)}{ds:List aG}{cut:List (Str×Int)}{kvs:List (List Key×V)} (hh:bB C D H h f l rz ps ds) (nr:(rz.map (·.1)).Nodup) (nd:(ds.map (·.1)).Nodup) (hz:z∈rz.map (·.1)) (ld:ds.length<=20) (hin:∀d∈ds,cK (rz.map (·.1)) d) (hf:0<=f) (ea:H a=some (.dT kvs)) (hk:kO cut kvs) (k:∀H',Same H H'->Q (.int (vS ds f l cut z t)) H'):xM C D [.ref h,.ref a,.str z,.int t] H Q E:=⟨_,_,_,_,_,_,_,_,_,_,_,rfl,hh,nr,nd,hz,ld,hin,hf,ea,hk,k⟩
theorem Q8 (ds:List aG)(z:Str):Paired (fun v (d:aG)=>v=V.str d.1) ((AZ ds z).map V.str) (ds.filter fun d=>decide (d.2.2.1= .str z)):=by
 unfold AZ
 induction (ds.filter fun d=>decide (d.2.2.1= .str z)) with
 | nil=>exact .nil
 | cons a l ih=>exact .cons rfl ih
theorem VE (m:M K mg):FnOk P w K mg base CX0 8 m.DP m.D0 ["house","kept","room","turn"] (xM m.aR (aX P w K mg base (some 4))):=by
 refine m.xS.ok sc_let_in (fun vs H Q E h=> ?_) (fun cdv A outer s H vs Q E hr h=> ?_)
 ·walk_at"g1";obtain⟨h,a,z,t,f,l,rz,ps,ds,cut,kvs,rfl,hh,nr,ndd,hz,ld,hin,hf,ea,hk,k⟩:=h;walk_at"g2";rfl
 ·walk_at"g1";obtain⟨h,a,z,t,f,l,rz,ps,ds,cut,kvs,rfl,hh,nr,ndd,hz,ld,hin,hf,ea,hk,k⟩:=h;walk_at"g2";have nd:=sc_let_in.nd;walk_at"hu";have w_dc_House:=m.bL;have w_mc_House_into:= @JO P w K mg base m;have w_mc_House_door:= @jP P w K mg base m;have w_mc_House_lets:= @qX P w K mg base m;refine⟨_,(aB (d4 (i:=4) nd rfl (by walk_at"oi") (N:=["name","house"]) (nl:=1) (ci:=[0]) rfl (blk (s.heap.objs.size+1) rfl rfl rfl (by kernel_rfl)) (bH (kU 3 hr (pv 0) (aA (pv 2) aE))) (fun _ _ _ _=>(aH (i:=0) (show (["name","house"]:List Str).Nodup by decide +kernel) rfl (by walk_at"oi"))) (fun _ _ _ _=>fC) (fun _ _ _ _=>(bU (aA (kZ (K:=K) (vZ (P:=P) (w:=w) (K:=K) (mg:=mg) (base:=base) 1 hr (pv 1) (aA (pv 0) aE)) rfl) (aA (pv 0) aE)))))
   (aF (aV (bP (qQ rfl) rfl m.FH yO (aA (cV (N:=["start","name","turn","house","kept"]) (nl:=2) (ci:=[3,0,1]) rfl (blk (s.heap.objs.size+1) rfl rfl rfl (by kernel_rfl)) (bH (pv 4)) (fun _ _ _ _=>(jV (K:=K) (n:=2) rfl (aN (aH (i:=0) (show (["start","name","turn","house","kept"]:List Str).Nodup by decide +kernel) rfl (by walk_at"oi")) (aN (aH (i:=1) (show (["start","name","turn","house","kept"]:List Str).Nodup by decide +kernel) rfl (by walk_at"oi")) cM)))) (fun _ _ _ _=>(gY (qN (zB hu1 (bU (aA (pv 0) (aA (pv 2) aE))) (pv 4)) (by with_unfolding_all rfl)))) (fun _ _ _ _=>(vZ (P:=P) (w:=w) (K:=K) (mg:=mg) (base:=base) 6 hr (pv 3) (aA (pv 1) (aA (pv 2) aE))))) aE))))),?_⟩
  refine aO (σ:=[some (.ref h),some (.ref a),some (.str z),some (.int t),none]) rfl ?_;walk_at"cx";walk_at"g1";obtain⟨dx,qs,qp,qd,nk,kvs0,e1,_⟩:=hh.ex;walk_at"g2";have hfl:(ds.filter fun d=>decide (d.2.2.1= .str z)).length<=ds.length:=List.length_filter_le _ _;have hsub:∀d∈ds.filter (fun d=>decide (d.2.2.1= .str z)),d∈ds:=fun d hd=>(List.mem_filter.mp hd).1;walk_at"go";refine aDC hh nr hz ld hin fun p1 H1 n1 S1 f1=> ?_;have e11:=S1 _ _ e1;have hh1:=bK hh S1;unfold vS at k;have hip:=Q8 ds z;generalize hfe:(ds.filter fun d=>decide (d.2.2.1= .str z))=fd at hfl hsub k hip;walk_at"go";refine fI (α:=aG) (xs:=fd) (vs:=(AZ ds z).map V.str) (fun v d=>v= .str d.1) (fun _=>true) (fun d y H=>∃q,y= .ref q/\H q=some (.tup [.str d.2.1,.str d.1])) (fun _ _ _ _ ⟨q,h1,h2⟩ s=>⟨q,h1,s _ _ h2⟩) (by rw[sizeLine_eq];omega) (rest:=[some (.ref h)]) (by rfl) (SqL.of f1) hip (fun v x H1 _ hx s1 R hR=>hR _ (Same.refl _)) ?_ ?_
  ·rintro v ⟨n,st,e,lt⟩ H2 rfl hd - s2 R hR;have e12:=s2 _ _ e11;walk_at"go";refine zT (d:=(n,st,e,lt)) (bK hh1 s2) ndd (hsub _ hd) fun v hv=> ?_;walk_at"g1";obtain⟨q2,C2,dx2,fs2,fp2,rfl,hq2,dcC,l1,l2,l3,l4,l5,mcE,hfp,hlt⟩:=DoorAt.ex hv;walk_at"g2";walk_at"go";rename_i q3 H3 n3 S3 e3;exact hR _ _ ⟨q3,rfl,e3⟩ S3
  intro ys H2 s2 hys;rw[fM]at hys;have hyl:ys.length=fd.length:=(Paired.length hys).symm;walk_at"go";rename_i p3 H3 n3 S3 e3;have s03:Same H H3:=(S1.trans s2).trans S3;have hys3:Paired (fun v (d:aG)=>∃q,v= .ref q/\H3 q=some (.tup [.str d.2.1,.str d.1])) ys fd:=iJ (Paired.imp' (fun d y ⟨q,h1,h2⟩=>⟨q,h1,S3 _ _ h2⟩) hys);refine oT (α:=aG) (xs:=fd) (vs:=ys) (fun d=> .str d.2.1) (fun d=> .str d.1) (fun d=>decide ((d.2.1,t)∈cut)) (fun d y _=>y= .int (iY f l d t)) (fun _ _ _ _ h _=>h) (by rw[sizeLine_eq];omega) (rest:=[some (.int t),some (.ref h),some (.ref a)]) (by rfl) (SqL.of e3) hys3 (fun d H4 hd s4 R hR=> ?_) (fun d H4 hd _ s4 R hR=> ?_) ?_
  ·have ea4:=s4 _ _ (s03 _ _ ea);walk_at"go";rename_i b5 H5 n5 S5 e5;refine AT (bW (d.2.1,t)) (S5 _ _ ea4) e5 ?_;rw[hk];walk_at"go";exact hR _ S5
  ·have hh4:=bK hh (s03.trans s4);have e14:=(s03.trans s4) _ _ e1;walk_at"go";refine FR (d:=d) hh4 ndd (hsub _ hd) hf fun H5 S5=> ?_;exact hR _ _ rfl S5
  intro zs H4 s4 hzs;have ez:zs=((fd.filter fun d=>decide ((d.2.1,t)∈cut)).map fun d=>iY f l d t).map V.int:=by rw[fD hzs,List.map_map];rfl
  subst ez;walk_at"go";rename_i q5 H5 n5 S5 e5;refine zP (SqL.of e5) ?_;exact k _ (s03.trans (s4.trans S5))
theorem VL (m:M K mg):Fc P w K mg base "let_in" 8 ["house","kept","room","turn"] (xM m.aR (aX P w K mg base (some 4))):=⟨_,_,m.ZC,m.xS.kp,m.ZE,VE m⟩
def iW (rz:List (Str×Int))(ds:List aG)(f l:Int)(cut:List (Str×Int))(z:Str)(hz:Int)(t:Int):Int:=if (z,t+1)∈cut then 0 else if (z,t)∈cut then hz else min hz (vS ds f l cut z t)
inductive uT (C:Addr)(D:bG)(vs:List V)(H:Hp)(Q:VK)(E:XK):Prop
 | mk (h a:Addr) (z:Str) (j t f l:Int) (rz ps:List (Str×Int)) (ds:List aG) (cut:List (Str×Int)) (kvs:List (List Key×V)) (_:vs=[.ref h,.ref a,.str z,.int t]) (_:bB C D H h f l rz ps ds) (_:(rz.map (·.1)).Nodup) (_:(ds.map (·.1)).Nodup) (_:(z,j)∈rz) (_:ds.length<=20) (_:(∀d∈ds,cK (rz.map (·.1)) d)) (_:0<=f) (_:H a=some (.dT kvs)) (_:kO cut kvs) (_:∀H',Same H H'->Q (.int (iW rz ds f l cut z j t)) H'):uT C D vs H Q E
theorem YO {C:Addr}{D:bG}{H:Hp}{Q:VK}{E:XK}{h a:Addr}{z:Str}{j t f l:Int}{rz ps:List (Str×Int)}{ds:List aG}{cut:List (Str×Int)}{kvs:List (List Key×V)} (hh:bB C D H h f l rz ps ds) (nr:(rz.map (·.1)).Nodup) (nd:(ds.map (·.1)).Nodup) (hz:(z,j)∈rz) (ld:ds.length<=20) (hin:∀d∈ds,cK (rz.map (·.1)) d) (hf:0<=f) (ea:H a=some (.dT kvs)) (hk:kO cut kvs) (k:∀H',Same H H'->Q (.int (iW rz ds f l cut z j t)) H'):uT C D [.ref h,.ref a,.str z,.int t] H Q E:=⟨_,_,_,_,_,_,_,_,_,_,_,_,rfl,hh,nr,nd,hz,ld,hin,hf,ea,hk,k⟩
theorem ER (m:M K mg):FnOk P w K mg base CX0 9 m.pJ m.pU ["house","kept","room","turn"] (uT m.aR (aX P w K mg base (some 4))):=by
 refine m.k4.ok sc_going_beyond (fun vs H Q E h=> ?_) (fun cdv A outer s H vs Q E hr h=> ?_)
 ·walk_at"g1";obtain⟨h,a,z,j,t,f,l,rz,ps,ds,cut,kvs,rfl,hh,nr,ndd,hz,ld,hin,hf,ea,hk,k⟩:=h;walk_at"g2";rfl
 ·walk_at"g1";obtain⟨h,a,z,j,t,f,l,rz,ps,ds,cut,kvs,rfl,hh,nr,ndd,hz,ld,hin,hf,ea,hk,k⟩:=h;walk_at"g2";have nd:=sc_going_beyond.nd;walk_at"hu";have xS:= @VL P w K mg base m;have w_dc_House:=m.bL;have w_mc_House_holds:= @vW P w K mg base m;refine⟨_,(aB (bR (qN (zB hu1 (bU (aA (pv 2) (aA (aI bO (pv 3) aC) aE))) (pv 1)) (by with_unfolding_all rfl)) (aF (aV aC)) bC)
   (aB (bR (qN (zB hu1 (bU (aA (pv 2) (aA (pv 3) aE))) (pv 1)) (by with_unfolding_all rfl)) (aF (aV (kU 3 hr (pv 0) (aA (pv 2) aE)))) bC)
   (aF (aV (bP (kJ rfl) rfl m.xX sW (aA (kU 3 hr (pv 0) (aA (pv 2) aE)) (aA (bF xS hr (aA (pv 0) (aA (pv 1) (aA (pv 2) (aA (pv 3) aE))))) aE))))))),?_⟩
  refine aO (σ:=[some (.ref h),some (.ref a),some (.str z),some (.int t)]) rfl ?_;walk_at"cx";walk_at"g1";obtain⟨dx,qs,qp,qd,nk,kvs0,e1,_⟩:=hh.ex;walk_at"g2";have hzm:z∈rz.map (·.1):=List.mem_map.mpr ⟨_,hz,rfl⟩;unfold iW at k;walk_at"go";rename_i b1 H1 n1 S1 f1;refine AT (bW (z,t+1)) (S1 _ _ ea) f1 ?_;rw[hk];walk_at"go";refine cA (fun hc=> ?_) (fun hc=> ?_)
  ·rw[if_pos hc]at k;walk_at"go";exact k _ S1
  ·rw[if_neg hc]at k;have ea1:=S1 _ _ ea;have e11:=S1 _ _ e1;walk_at"go";rename_i b2 H2 n2 S2 f2;refine AT (bW (z,t)) (S2 _ _ ea1) f2 ?_;rw[hk];have s02:=S1.trans S2;have e12:=S2 _ _ e11;walk_at"go";refine cA (fun hc2=> ?_) (fun hc2=> ?_)
   ·rw[if_pos hc2]at k;walk_at"go";refine GD (bK hh s02) nr hz fun H3 S3=> ?_;exact k _ (s02.trans S3)
   ·rw[if_neg hc2]at k;walk_at"go";refine GD (bK hh s02) nr hz fun H3 S3=> ?_;have s03:=s02.trans S3;walk_at"go";refine aBF (bK hh s03) nr ndd hzm ld hin hf (s03 _ _ ea) hk fun H4 S4=> ?_;walk_at"go";exact k _ (s03.trans S4)
theorem EX (m:M K mg):Fc P w K mg base "going_beyond" 9 ["house","kept","room","turn"] (uT m.aR (aX P w K mg base (some 4))):=⟨_,_,m.HL,m.k4.kp,m.HP,ER m⟩
def hV (ds:List aG)(f l:Int)(cut:List (Str×Int))(t:Int):Int:=(((ds.filter fun d=>decide (d.2.2.1= .non)).filter fun d=>decide ((d.2.1,t)∈cut)).map fun d=>iY f l d t).sum
inductive u0 (C:Addr)(D:bG)(vs:List V)(H:Hp)(Q:VK)(E:XK):Prop
 | mk (h a:Addr) (t f l:Int) (rz ps:List (Str×Int)) (ds:List aG) (cut:List (Str×Int)) (kvs:List (List Key×V)) (_:vs=[.ref h,.ref a,.int t]) (_:bB C D H h f l rz ps ds) (_:(ds.map (·.1)).Nodup) (_:ds.length<=20) (_:(∀d∈ds,cK (rz.map (·.1)) d)) (_:0<=f) (_:H a=some (.dT kvs)) (_:kO cut kvs) (_:∀H',Same H H'->Q (.int (hV ds f l cut t)) H'):u0 C D vs H Q E
theorem XB {C:Addr}{D:bG}{H:Hp}{Q:VK}{E:XK}{h a:Addr}{t f l:Int}{rz ps:List (Str×Int)}{ds:List aG}{cut:List (Str×Int)}{kvs:List (List Key×V)} (hh:bB C D H h f l rz ps ds) (nd:(ds.map (·.1)).Nodup) (ld:ds.length<=20) (hin:∀d∈ds,cK (rz.map (·.1)) d) (hf:0<=f) (ea:H a=some (.dT kvs)) (hk:kO cut kvs) (k:∀H',Same H H'->Q (.int (hV ds f l cut t)) H'):u0 C D [.ref h,.ref a,.int t] H Q E:=⟨_,_,_,_,_,_,_,_,_,_,rfl,hh,nd,ld,hin,hf,ea,hk,k⟩
theorem QW (ds:List aG):Paired (fun v (d:aG)=>v=V.str d.1) ((ds.map (·.1)).map V.str) ds:=by
 induction ds with
 | nil=>exact .nil
 | cons a l ih=>exact .cons rfl ih
theorem QK (m:M K mg):FnOk P w K mg base CX0 8 m.zZ m.z6 ["house","kept","turn"] (u0 m.aR (aX P w K mg base (some 4))):=by
 refine m.u3.ok sc_let_out (fun vs H Q E h=> ?_) (fun cdv A outer s H vs Q E hr h=> ?_)
 ·walk_at"g1";obtain⟨h,a,t,f,l,rz,ps,ds,cut,kvs,rfl,hh,ndd,ld,hin,hf,ea,hk,k⟩:=h;walk_at"g2";rfl
 ·walk_at"g1";obtain⟨h,a,t,f,l,rz,ps,ds,cut,kvs,rfl,hh,ndd,ld,hin,hf,ea,hk,k⟩:=h;walk_at"g2";have nd:=sc_let_out.nd;walk_at"hu";have w_dc_House:=m.bL;have w_mc_House_doors:= @oO P w K mg base m;have w_mc_House_door:= @jP P w K mg base m;have w_mc_House_lets:= @qX P w K mg base m;refine⟨_,(aB (d4 (i:=3) nd rfl (by walk_at"oi") (N:=["name","house"]) (nl:=1) (ci:=[0]) rfl (blk (s.heap.objs.size+1) rfl rfl rfl (by kernel_rfl)) (bH (kC 1 hr (pv 0))) (fun _ _ _ _=>(aH (i:=0) (show (["name","house"]:List Str).Nodup by decide +kernel) rfl (by walk_at"oi"))) (fun _ _ _ _=>fC) (fun _ _ _ _=>(vZ (P:=P) (w:=w) (K:=K) (mg:=mg) (base:=base) 1 hr (pv 1) (aA (pv 0) aE))))
   (aB (d4 (i:=4) nd rfl (by walk_at"oi") (N:=["door"]) (nl:=1) (ci:=[]) rfl (blk (s.heap.objs.size+1) rfl rfl rfl (by kernel_rfl)) (bH (pv 3)) (fun _ _ _ _=>(aH (i:=0) (show (["door"]:List Str).Nodup by decide +kernel) rfl (by walk_at"oi"))) (fun _ _ _ _=>(gY (nO (aAh (P:=P) (w:=w) (K:=K) (mg:=mg) (base:=base) 1 hr (pv 0))))) (fun _ _ _ _=>(pv 0)))
   (aF (aV (bP (qQ rfl) rfl m.FH yO (aA (cV (N:=["door","turn","house","kept"]) (nl:=1) (ci:=[2,0,1]) rfl (blk (s.heap.objs.size+1) rfl rfl rfl (by kernel_rfl)) (bH (pv 4)) (fun _ _ _ _=>(aH (i:=0) (show (["door","turn","house","kept"]:List Str).Nodup by decide +kernel) rfl (by walk_at"oi"))) (fun _ _ _ _=>(gY (qN (zB hu1 (bU (aA (kZ (K:=K) (pv 0) rfl) (aA (pv 1) aE))) (pv 3)) (by with_unfolding_all rfl)))) (fun _ _ _ _=>(vZ (P:=P) (w:=w) (K:=K) (mg:=mg) (base:=base) 6 hr (pv 2) (aA (kZ (K:=K) (pv 0) rfl) (aA (pv 1) aE))))) aE)))))),?_⟩
  refine aO (σ:=[some (.ref h),some (.ref a),some (.int t),none,none]) rfl ?_;walk_at"cx";walk_at"g1";obtain⟨dx,qs,qp,qd,nk,kvs0,e1,_⟩:=hh.ex;walk_at"g2";walk_at"go";refine vT hh fun p1 H1 n1 S1 f1=> ?_;have e11:=S1 _ _ e1;have hh1:=bK hh S1;walk_at"go";refine fI (α:=aG) (xs:=ds) (vs:=(ds.map (·.1)).map V.str) (fun v d=>v= .str d.1) (fun _=>true) (fun d y H=>(aX P w K mg base (some 4)).at' H y d) (fun _ _ _ _ h s=>(aX P w K mg base (some 4)).same h s) (by rw[sizeLine_eq];omega) (rest:=[some (.ref h)]) (by rfl) (SqL.of f1) (QW ds) (fun v x H1 _ hx s1 R hR=>hR _ (Same.refl _)) ?_ ?_
  ·rintro v d H2 rfl hd - s2 R hR;have e12:=s2 _ _ e11;walk_at"go";refine zT (d:=d) (bK hh1 s2) ndd hd fun v hv=> ?_;exact hR _ _ hv (Same.refl _)
  intro ys H2 s2 hys;rw[fM]at hys;have hyd:Paired ((aX P w K mg base (some 4)).at' H2) ys ds:=iJ hys;have hyl:ys.length=ds.length:=Paired.length hyd;walk_at"go";rename_i p3 H3 n3 S3 e3;refine fI (α:=aG) (xs:=ds) (vs:=ys) ((aX P w K mg base (some 4)).at' H3) (fun d=>decide (d.2.2.1= .non)) (fun d y H=>(aX P w K mg base (some 4)).at' H y d) (fun _ _ _ _ h s=>(aX P w K mg base (some 4)).same h s) (by rw[sizeLine_eq];omega) (rest:=[]) (by rfl) (SqL.of e3) (oN hyd S3) ?_ ?_ ?_
  ·rintro v ⟨n,st,e,lt⟩ H4 hv hm s4 R hR;walk_at"g1";obtain⟨q2,C2,dx2,fs2,fp2,rfl,hq2,dcC,l1,l2,l3,l4,l5,mcE,hfp,hlt⟩:=DoorAt.ex hv;walk_at"g2";have hq2:=s4 _ _ hq2;have hR':=hR _ (Same.refl _);have hend:=(hin _ hm).2;rcases hend with hend|⟨z,hend,hz⟩
   ·have hde:e= .non:=hend;subst hde;rw[show decide (((n,st,V.non,lt):aG).2.2.1= .non)=true from decide_eq_true rfl]at hR';walk_at"go";exact hR'
   ·have hde:e= .str z:=hend;subst hde;rw[show decide (((n,st,V.str z,lt):aG).2.2.1= .non)=false from decide_eq_false fun z=>nomatch z]at hR';walk_at"go";exact hR'
  ·rintro v d H4 hv hm - s4 R hR;walk_at"go";exact hR _ _ ((aX P w K mg base (some 4)).same hv s4) (Same.refl _)
  intro zs H4 s4 hzs;have hzd:Paired ((aX P w K mg base (some 4)).at' H4) zs (ds.filter fun d=>decide (d.2.2.1= .non)):=iJ hzs;have hfl:(ds.filter fun d=>decide (d.2.2.1= .non)).length<=ds.length:=List.length_filter_le _ _;have hsub:∀d∈ds.filter (fun d=>decide (d.2.2.1= .non)),d∈ds:=fun d hd=>(List.mem_filter.mp hd).1;unfold hV at k;generalize hfe:(ds.filter fun d=>decide (d.2.2.1= .non))=fd at hfl hsub k hzd;have hzl:zs.length=fd.length:=Paired.length hzd;walk_at"go";rename_i p5 H5 n5 S5 e5;have s05:Same H H5:=(S1.trans s2).trans (S3.trans (s4.trans S5));refine fI (α:=aG) (xs:=fd) (vs:=zs) ((aX P w K mg base (some 4)).at' H5) (fun d=>decide ((d.2.1,t)∈cut)) (fun d y _=>y= .int (iY f l d t)) (fun _ _ _ _ h _=>h) (by rw[sizeLine_eq];omega) (rest:=[some (.int t),some (.ref h),some (.ref a)]) (by rfl) (SqL.of e5) (oN hzd S5) ?_ ?_ ?_
  ·rintro v ⟨n,st,e,lt⟩ H6 hv hm s6 R hR;walk_at"g1";obtain⟨q2,C2,dx2,fs2,fp2,rfl,hq2,dcC,l1,l2,l3,l4,l5,mcE,hfp,hlt⟩:=DoorAt.ex hv;walk_at"g2";have hq2:=s6 _ _ hq2;have ea6:=s6 _ _ (s05 _ _ ea);walk_at"go";rename_i b7 H7 n7 S7 e7;refine AT (bW (st,t)) (S7 _ _ ea6) e7 ?_;rw[hk];walk_at"go";exact hR _ S7
  ·rintro v ⟨n,st,e,lt⟩ H6 hv hm - s6 R hR;walk_at"g1";obtain⟨q2,C2,dx2,fs2,fp2,rfl,hq2,dcC,l1,l2,l3,l4,l5,mcE,hfp,hlt⟩:=DoorAt.ex hv;walk_at"g2";have hq2:=s6 _ _ hq2;have hh6:=bK hh (s05.trans s6);have e16:=(s05.trans s6) _ _ e1;walk_at"go";refine FR (d:=(n,st,e,lt)) hh6 ndd (hsub _ hm) hf fun H7 S7=> ?_;exact hR _ _ rfl S7
  intro ws H6 s6 hws;have ez:ws=((fd.filter fun d=>decide ((d.2.1,t)∈cut)).map fun d=>iY f l d t).map V.int:=by rw[fD hws,List.map_map];rfl
  subst ez;walk_at"go";rename_i q7 H7 n7 S7 e7;refine zP (SqL.of e7) ?_;exact k _ (s05.trans (s6.trans S7))
theorem QS (m:M K mg):Fc P w K mg base "let_out" 8 ["house","kept","turn"] (u0 m.aR (aX P w K mg base (some 4))):=⟨_,_,m.WI,m.u3.kp,m.WL,QK m⟩
local macro_rules| `(tactic| walk_at"rd1")=> `(tactic| first|((with_reducible refine' U4 ?e ?_);(case e=>rfl))|(with_reducible refine aCl ?_))
def qT (rz ps:List (Str×Int))(ds:List aG)(f l:Int)(cut:List (Str×Int))(t:Int):Int:=if t=f then 0 else jU rz ps f cut+((List.range (t - 1 - f).toNat).map fun i:Nat=>(rz.map fun e=>iW rz ds f l cut e.1 e.2 (f+(i:Int))).sum).sum+((List.range (t - f).toNat).map fun i:Nat=>hV ds f l cut (f+(i:Int))).sum
theorem W8 {cut:List (Str×Int)}{kvs:List (List Key×V)} (h:kO cut kvs) (p:Str×Int) (v:V):kO (cut++[p]) (cP kvs (bW p) v):=fun q=>by
 rw[mE]
 by_cases hq:bW q=bW p
 ·have hqp:=w9 hq;subst hqp;rw[if_pos rfl];exact(decide_eq_true (List.mem_append_right _ (.head _))).symm
 ·rw[if_neg hq,h q];have hqp:q≠p:=fun z=>hq (by rw[z])
  by_cases hm:q∈cut
  ·rw[decide_eq_true hm,decide_eq_true (List.mem_append_left _ hm)]
  ·rw[decide_eq_false hm,decide_eq_false fun z=>(List.mem_append.mp z).elim hm fun y=>hqp (List.mem_singleton.mp y)]
inductive w6 (K:W.Frag)(C:Addr)(D:bG)(vs:List V)(H:Hp)(Q:VK)(E:XK):Prop
 | mk (h c:Addr) (t f l:Int) (rz ps:List (Str×Int)) (ds:List aG) (cs:List V) (cut:List (Str×Int)) (_:vs=[.ref h,.ref c,.int t]) (_:bB C D H h f l rz ps ds) (_:(rz.map (·.1)).Nodup) (_:(ds.map (·.1)).Nodup) (_:rz.length<=20) (_:ds.length<=20) (_:(∀d∈ds,cK (rz.map (·.1)) d)) (_:0<=f) (_:f<=t) (_:t<1000000000000) (_:SqL K H c cs) (_:Paired (bZ H) cs cut) (_:cut.length<=600) (_:∀H',Same H H'->Q (.int (qT rz ps ds f l cut t)) H'):w6 K C D vs H Q E
theorem aAz {C:Addr}{D:bG}{H:Hp}{Q:VK}{E:XK}{h c:Addr}{t f l:Int}{rz ps:List (Str×Int)}{ds:List aG}{cs:List V}{cut:List (Str×Int)} (hh:bB C D H h f l rz ps ds) (nr:(rz.map (·.1)).Nodup) (nd:(ds.map (·.1)).Nodup) (lr:rz.length<=20) (ld:ds.length<=20) (hin:∀d∈ds,cK (rz.map (·.1)) d) (hf:0<=f) (ht:f<=t) (ht2:t<1000000000000) (hS:SqL K H c cs) (hc:Paired (bZ H) cs cut) (hl:cut.length<=600) (k:∀H',Same H H'->Q (.int (qT rz ps ds f l cut t)) H'):w6 K C D [.ref h,.ref c,.int t] H Q E:=⟨_,_,_,_,_,_,_,_,_,_,rfl,hh,nr,nd,lr,ld,hin,hf,ht,ht2,hS,hc,hl,k⟩
theorem WV (m:M K mg):FnOk P w K mg base CX0 10 m.HJ m.GV ["house","cut","turn"] (w6 K m.aR (aX P w K mg base (some 4))):=by
 refine m.A5.ok sc_bound (fun vs H Q E h=> ?_) (fun cdv A outer s H vs Q E hr h=> ?_)
 ·walk_at"g1";obtain⟨h,c,t,f,l,rz,ps,ds,cs,cut,rfl,hh,nr,ndd,lr,ld,hin,hf,ht,ht2,hS,hcp,hcl,k⟩:=h;walk_at"g2";rfl
 ·walk_at"g1";obtain⟨h,c,t,f,l,rz,ps,ds,cs,cut,rfl,hh,nr,ndd,lr,ld,hin,hf,ht,ht2,hS,hcp,hcl,k⟩:=h;walk_at"g2";have nd:=sc_bound.nd;walk_at"hu";have k6:= @FA P w K mg base m;have k4:= @EX P w K mg base m;have u3:= @QS P w K mg base m;have w_dc_House:=m.bL;have w_mc_House_rooms:= @v4 P w K mg base m;refine⟨_,(aB (bR (aW dG (pv 2) (bV (pv 0) rfl) (aY _)) (aF (aV aC)) bC)
   (aB (aP (i:=3) nd rfl (by walk_at"oi") tD)
   (aB (cJ PassesOwn.never rfl (bH (pv 1)) (i3 rfl (aN (aH (i:=4) nd rfl (by walk_at"oi")) (aN (aH (i:=5) nd rfl (by walk_at"oi")) cM))) (aF (dR hu1 (pv 3) (bU (aA (pv 4) (aA (pv 5) aE))) AW rfl)))
   (aB (aP (i:=6) nd rfl (by walk_at"oi") (bF k6 hr (aA (pv 0) (aA (pv 3) aE))))
   (aB (cJ PassesOwn.never rfl (kI rfl m.fA (aA (bV (pv 0) rfl) (aA (aI kR (pv 2) aC) aE))) (aH (i:=5) nd rfl (by walk_at"oi")) (aF (WB (i:=6) nd rfl (by walk_at"oi") (bP (qQ rfl) rfl m.FH yO (aA (cV (N:=["room","house","kept","at"]) (nl:=1) (ci:=[0,3,5]) rfl (blk (s.heap.objs.size+1) rfl rfl rfl (by kernel_rfl)) (bH (kC 1 hr (pv 0))) (fun _ _ _ _=>(aH (i:=0) (show (["room","house","kept","at"]:List Str).Nodup by decide +kernel) rfl (by walk_at"oi"))) (fun _ _ _ _=>fC) (fun _ _ _ _=>(bF k4 hr (aA (pv 1) (aA (pv 2) (aA (pv 0) (aA (pv 3) aE))))))) aE)) UP)))
   (aB (cJ PassesOwn.never rfl (kI rfl m.fA (aA (bV (pv 0) rfl) (aA (pv 2) aE))) (aH (i:=5) nd rfl (by walk_at"oi")) (aF (WB (i:=6) nd rfl (by walk_at"oi") (bF u3 hr (aA (pv 0) (aA (pv 3) (aA (pv 5) aE)))) UP)))
   (aF (aV (pv 6))))))))),?_⟩
  refine aO (σ:=[some (.ref h),some (.ref c),some (.int t),none,none,none,none]) rfl ?_;walk_at"cx";walk_at"g1";obtain⟨dx,qs,qp,qd,nk,kvs0,e1,_⟩:=hh.ex;walk_at"g2";have hll:cs.length=cut.length:=Paired.length hcp;unfold qT at k;walk_at"go";refine cA (fun hc=> ?_) (fun hc=> ?_)
  ·rw[if_pos hc]at k;walk_at"go";exact k _ (Same.refl _)
  ·rw[if_neg hc]at k;walk_at"go";rename_i p H1 n1 S1 ep;have fr:∀x u,H x=some u->x≠p:=fun x u hx z=>by rw[z,n1]at hx;cases hx
   let Pv1:Nat->St->Hp->Prop:=fun i σ' H'=>SameBut p H1 H'/\(∃kvs,H' p=some (.dT kvs)/\kvs.length<=i/\kO (cut.take i) kvs)/\∃x y,σ'=[some (.ref h),some (.ref c),some (.int t),some (.ref p),x,y,none];refine dQ cs Pv1 ⟨SameBut.refl,⟨[],ep,Nat.le_refl _,fun q=>rfl⟩,_,_,rfl⟩ (fun i σ' H' _ g=>(SameBut.same n1 S1 g.1).seq hS) ?_ ?_
   ·rintro i x _ H' hx hq_;walk_at"g1";obtain⟨sb,⟨kvs,ek,hkl,hk⟩,x1,x2,rfl⟩:=hq_;walk_at"g2";have hi:i<cs.length:=(List.getElem?_eq_some_iff.mp hx).1;obtain⟨⟨z,u⟩,hrx⟩:∃r,cut[i]? =some r:=⟨_,List.getElem?_eq_getElem (by omega)⟩
    obtain⟨q1,rfl,hq1⟩:=Paired.at2 hcp hx hrx;have hq1':H' q1=some (.tup [.str z,.int u]):=(SameBut.same n1 S1 sb) _ _ hq1;walk_at"go";rename_i b3 H3 n3 S3 e3;refine oY (bW (z,u)) (S3 _ _ ek) e3 (by rw[sizeLine_eq];omega) fun H4 B4 e4=> ?_;refine⟨(sb.trans S3.but).trans B4,⟨_,e4,Nat.le_trans (iI _ _ _) (by omega),?_⟩,_,_,rfl⟩;rw[cU hrx];exact W8 hk _ _
   ·rintro _ H2 hq_;walk_at"g1";obtain⟨sb,⟨kvs,ek,hkl,hk⟩,x1,x2,rfl⟩:=hq_;walk_at"g2";rw[hll,List.take_length]at hk;have s02:Same H H2:=SameBut.same n1 S1 sb;have hh2:=bK hh s02;walk_at"go";refine WQ hh2 nr lr ek hk fun H3 S3=> ?_;have e13:=S3 _ _ (s02 _ _ e1);walk_at"go";let Pv2:Nat->St->Hp->Prop:=fun i σ' G=>Same H3 G/\∃x y,σ'=[some (.ref h),some (.ref c),some (.int t),some (.ref p),x,y,some (.int (jU rz ps f cut+((List.range i).map fun i:Nat=>(rz.map fun e=>iW rz ds f l cut e.1 e.2 (f+(i:Int))).sum).sum))];refine iU Pv2 ⟨Same.refl _,_,_,by rw[List.range_zero];show _=[_,_,_,_,_,_,some (V.int (_+0))];rw[Int.add_zero]⟩ ?_ ?_
    ·rintro i _ G hi hq_;walk_at"g1";obtain⟨sG,y1,y2,rfl⟩:=hq_;walk_at"g2";have s2G:Same H2 G:=S3.trans sG;have hhG:=bK hh2 s2G;have e1G:=s2G _ _ (s02 _ _ e1);have ekG:=s2G _ _ ek;walk_at"go";refine vT hhG fun p4 G4 n4 S4 f4=> ?_;walk_at"go";refine fI (α:=Str×Int) (xs:=rz) (vs:=(rz.map (·.1)).map V.str) (fun v e=>v= .str e.1) (fun _=>true) (fun e y _=>y= .int (iW rz ds f l cut e.1 e.2 (f+(i:Int)))) (fun _ _ _ _ h _=>h) (by rw[sizeLine_eq];omega) (rest:=[some (.ref h),some (.ref p),some (.int (f+(i:Int)))]) (by rfl) (SqL.of f4) (E6 rz) (fun v x H1 _ hx s1 R hR=>hR _ (Same.refl _)) ?_ ?_
     ·rintro v e G5 rfl he - s5 R hR;have s45:=S4.trans s5;walk_at"go";refine YO (bK hhG s45) nr ndd (show (e.1,e.2)∈rz from he) ld hin hf (s45 _ _ ekG) hk fun G6 S6=> ?_;exact hR _ _ rfl S6
     intro ys G5 s5 hys;rw[fM]at hys;have ey:ys=(rz.map fun e=>iW rz ds f l cut e.1 e.2 (f+(i:Int))).map V.int:=by rw[fD hys,List.map_map];rfl
     subst ey;walk_at"go";rename_i q6 G6 n6 S6 e6;refine zP (SqL.of e6) ?_;walk_at"go";refine⟨sG.trans (S4.trans (s5.trans S6)),y1,some (.int (f+(i:Int))),?_⟩;rw[List.range_succ,List.map_append,List.sum_append];show [_,_,_,_,_,_,some (V.int (jU rz ps f cut+_+_))]=[_,_,_,_,_,_,some (V.int (jU rz ps f cut+(_+(_+0))))];rw[Int.add_zero,Int.add_assoc]
    ·rintro _ G hq_;walk_at"g1";obtain⟨sG,y1,y2,rfl⟩:=hq_;walk_at"g2";have s2G:Same H2 G:=S3.trans sG;have e1G:=s2G _ _ (s02 _ _ e1);walk_at"go";generalize hbe:jU rz ps f cut+((List.range (t - 1 - f).toNat).map fun i:Nat=>(rz.map fun e=>iW rz ds f l cut e.1 e.2 (f+(i:Int))).sum).sum=bb at k;let Pv3:Nat->St->Hp->Prop:=fun i σ' J=>Same G J/\∃x y,σ'=[some (.ref h),some (.ref c),some (.int t),some (.ref p),x,y,some (.int (bb+((List.range i).map fun i:Nat=>hV ds f l cut (f+(i:Int))).sum))];refine iU Pv3 ⟨Same.refl _,_,_,by rw[List.range_zero];show _=[_,_,_,_,_,_,some (V.int (_+0))];rw[Int.add_zero]⟩ ?_ ?_
     ·rintro i _ J hi hq_;walk_at"g1";obtain⟨sJ,z1,z2,rfl⟩:=hq_;walk_at"g2";have s2J:=s2G.trans sJ;walk_at"go";refine XB (bK hh2 s2J) ndd ld hin hf (s2J _ _ ek) hk fun J2 S2=> ?_;walk_at"go";refine⟨sJ.trans S2,z1,some (.int (f+(i:Int))),?_⟩;rw[List.range_succ,List.map_append,List.sum_append];show [_,_,_,_,_,_,some (V.int (bb+_+_))]=[_,_,_,_,_,_,some (V.int (bb+(_+(_+0))))];rw[Int.add_zero,Int.add_assoc]
     ·rintro _ J hq_;walk_at"g1";obtain⟨sJ,z1,z2,rfl⟩:=hq_;walk_at"g2";walk_at"go";exact k _ (s02.trans (s2G.trans sJ))
theorem YK (m:M K mg):Fc P w K mg base "bound" 10 ["house","cut","turn"] (w6 K m.aR (aX P w K mg base (some 4))):=⟨_,_,m.aBZ,m.A5.kp,m.aB3,WV m⟩
def iP (ns:List Int)(k:Int):Int:=ns.getD k.toNat 0
inductive AS (K:W.Frag)(vs:List V)(H:Hp)(Q:VK)(E:XK):Prop
 | mk (a:Addr) (ns:List Int) (k:Int) (_:vs=[.ref a,.int k]) (_:SqL K H a (ns.map V.int)) (_:0<=k) (_:Q (.int (iP ns k)) H):AS K vs H Q E
theorem aDr {H:Hp}{Q:VK}{E:XK}{a:Addr}{ns:List Int}{i:Int} (hS:SqL K H a (ns.map V.int)) (hi:0<=i) (h:Q (.int (iP ns i)) H):AS K [.ref a,.int i] H Q E:=⟨_,_,_,rfl,hS,hi,h⟩
theorem EN (m:M K mg):FnOk P w K mg base CX0 1 m.pD m.qD ["_law_script","_law_k"] (AS K):=by
 refine m.cS.ok sc__law_cell_at (fun vs H Q E h=> ?_) (fun cdv A outer s H vs Q E hr h=> ?_)
 ·walk_at"g1";obtain⟨a,ns,i,rfl,hS,hi,k⟩:=h;walk_at"g2";rfl
 ·walk_at"g1";obtain⟨a,ns,i,rfl,hS,hi,k⟩:=h;walk_at"g2";have nd:=sc__law_cell_at.nd;walk_at"hu";refine⟨_,(aB (bR (aW j6 (pv 1) (bP jA rfl m.sO nL (aA (pv 0) aE)) (aY _)) (aF (aV (bA b9 (pv 0) (pv 1) (fun _ _=>rfl)))) bC)
   (aF (aV aC))),?_⟩
  refine aO (σ:=[some (.ref a),some (.int i)]) rfl ?_;walk_at"cx";walk_at"go";rw[List.length_map];refine cA (fun h1=> ?_) (fun h1=> ?_)
  ·have hlt:i.toNat<ns.length:=by omega
   have e:=AR (xs:=ns.map V.int) (j:=i.toNat) (v:= .int (iP ns i)) (by
    rw[List.getElem?_map,List.getElem?_eq_getElem hlt];unfold iP;rw[List.getD_eq_getElem?_getD,List.getElem?_eq_getElem hlt];rfl)
   rw[show ((i.toNat:Nat):Int)=i by omega]at e;exact⟨_,rfl,_,rfl,a,_,i,_,rfl,rfl,hS,e,k⟩
  ·have e:iP ns i=0:=by
    unfold iP;rw[List.getD_eq_getElem?_getD,List.getElem?_eq_none (by omega)];rfl
   rw[e]at k;exact k
theorem nF (m:M K mg):Fc P w K mg base "_law_cell_at" 1 ["_law_script","_law_k"] (AS K):=⟨_,_,m.GZ,m.cS.kp,m.GR,EN m⟩
local macro_rules| `(tactic| walk_at"rd1")=> `(tactic| first|(with_reducible refine r_lwhole ?_)|((with_reducible refine' aDr ?e ?s ?_);(case e=>walk_at"hp");(case s=>walk_at"sd")))
inductive xI (vs:List V)(H:Hp)(Q:VK)(E:XK):Prop
 | mk (c k:Int) (_:vs=[.int c,.int k]) (_:∀n,0<=n->n<2147483648->Q (.int n) H):xI vs H Q E
theorem aBz {H:Hp}{Q:VK}{E:XK}{c k:Int} (h:∀n,0<=n->n<2147483648->Q (.int n) H):xI [.int c,.int k] H Q E:=⟨_,_,rfl,h⟩
theorem JB (m:M K mg):FnOk P w K mg base CX0 1 m.tN m.tZ ["_law_cell","_law_k"] (xI):=by
 refine m.cE.ok sc__law_mixed (fun vs H Q E h=> ?_) (fun cdv A outer s H vs Q E hr h=> ?_)
 ·walk_at"g1";obtain⟨c,j,rfl,k⟩:=h;walk_at"g2";rfl
 ·walk_at"g1";obtain⟨c,j,rfl,k⟩:=h;walk_at"g2";have nd:=sc__law_mixed.nd;walk_at"hu";refine⟨_,(aB (aP (i:=2) nd rfl (by walk_at"oi") (aI bN (aI i5 (aI bO (aI bO (pv 0) (aI i5 aC (pv 1))) aC) aC) aC))
   (aB (aP (i:=2) nd rfl (by walk_at"oi") (aI bN (aI i5 (pv 2) (aI bO (aI cI (pv 2) aC) aC)) aC))
   (aF (aV (aI bN (aI i5 (pv 2) (aI bO (aI cI (pv 2) aC) aC)) aC))))),?_⟩
  refine aO (σ:=[some (.int c),some (.int j),none]) rfl ?_;walk_at"cx";walk_at"go";refine k _ ?_ ?_
  ·exact Int.emod_nonneg _ (by decide)
  ·exact Int.lt_trans (Int.emod_lt_of_pos _ (by decide)) (by decide)
theorem jM (m:M K mg):Fc P w K mg base "_law_mixed" 1 ["_law_cell","_law_k"] (xI):=⟨_,_,m.NU,m.cE.kp,m.NZ,JB m⟩
local macro_rules| `(tactic| walk_at"rd1")=> `(tactic| ((with_reducible refine aBz ?_);intro n' h0' h1'))
theorem V0 {x:Str}{b n:Nat} (hx:x.cps.toList=List.range' b n) {i:Int} (h0:0<=i) (h1:i<n):atI x.cps.toList i=some (b+i.toNat):=by
 have e:=AR (xs:=x.cps.toList) (j:=i.toNat) (v:=b+i.toNat) (by rw[hx,List.getElem?_range' (by omega)];simp);rw[show ((i.toNat:Nat):Int)=i by omega]at e;exact e
theorem xL {α β γ:Type}{F:α->γ->Prop} (g:β->γ):∀{l:List β}{m:List α},Paired (fun x y=>F y (g x)) l m->Paired F m (l.map g)
 | _,_,.nil=> .nil
 | _,_,.cons r t=> .cons r (xL g t)
theorem yR {H:Hp}{Q:VK}{p:Addr}{xs:List V}{j:Nat}{v:V} (e:SqL K H p xs) (hx:xs[j]? =some v) (h:Q v H):GM K (.ref p) (.int (j:Int)) H Q:=⟨p,xs,_,v,rfl,rfl,e,AR hx,h⟩
def wdL (n:Nat):List Nat:=if n<26 then [97+n] else wdL (n/26)++[97+n%26]
termination_by n
decreasing_by omega
def wdV (l:List Nat):Nat:=l.foldl (fun a x=>a * 26+(x - 97)) 0
theorem V3 (n:Nat):wdV (wdL n)=n:=by
 induction n using Nat.strongRecOn with
 | _ n ih =>
  rw[wdL]
  by_cases h:n<26
  ·rw[if_pos h];show 0 * 26+(97+n - 97)=n;omega
  ·rw[if_neg h];have:=ih (n/26) (by omega);unfold wdV at this ⊢;rw[List.foldl_append,this];show n/26 * 26+(97+n%26 - 97)=n;omega
theorem aAB {a b:Nat}(h:wdL a=wdL b):a=b:=by rw[←V3 a,←V3 b,h]
theorem aA3 (n:Nat):∀x∈wdL n,97<=x/\x<123:=by
 induction n using Nat.strongRecOn with
 | _ n ih =>
  rw[wdL]
  by_cases h:n<26
  ·rw[if_pos h];intro x hx;rw[List.mem_singleton.mp hx];omega
  ·rw[if_neg h];intro x hx;rcases List.mem_append.mp hx with hx|hx
   ·exact ih (n/26) (by omega) x hx
   ·rw[List.mem_singleton.mp hx];omega
theorem P2 (k:Nat):∀n:Nat,n<26^(k+1)->(wdL n).length<=k+1:=by
 induction k with
 | zero=>intro n h;rw[wdL,if_pos (by simpa using h)];exact Nat.le_refl _
 | succ k ih =>
  intro n h;rw[wdL]
  by_cases h2:n<26
  ·rw[if_pos h2];show 1<=_;omega
  ·rw[if_neg h2,List.length_append];have:=ih (n/26) (by rw[Nat.div_lt_iff_lt_mul (by decide)];rw[←Nat.pow_succ];exact h);show _+1<=_;omega
theorem aAH (n:Nat):0<(wdL n).length:=by
 rw[wdL]
 by_cases h:n<26
 ·rw[if_pos h];exact Nat.one_pos
 ·rw[if_neg h,List.length_append];show 0<_+1;omega
def wdS (n:Nat):Str:=⟨⟨wdL n⟩⟩
theorem aCQ {n:Nat}(h:n<26^8):bI (wdS n)=true:=by
 refine Y6 ?_ ?_ ?_
 ·exact aAH n
 ·exact P2 7 n h
 ·show (wdL n).all sgB=true;rw[List.all_eq_true];intro x hx;have:=aA3 n x hx;unfold sgB;simp only[Bool.and_eq_true,decide_eq_true_eq];omega
theorem aAj {a b:Nat}(h:wdS a=wdS b):a=b:=aAB (congrArg (fun z:Str=>z.cps.toList) h)
def wnF (c k:Int):Str:=wdS (c%3000000007 * 61+k).toNat
theorem EJ {c k:Int}(h0:0<=k)(h1:k<61):bI (wnF c k)=true:=aCQ (by
 have:=Int.emod_nonneg c (show (3000000007:Int)≠0 by decide);have:=Int.emod_lt_of_pos c (show (0:Int)<3000000007 by decide);have:(26:Nat)^8=208827064576:=by decide
 omega)
theorem P0 {c d k j:Int}(h0:0<=k)(h1:k<61)(h2:0<=j)(h3:j<61)(h:wnF c k=wnF d j):k=j:=by
 have h':=aAj h;have:=Int.emod_nonneg c (show (3000000007:Int)≠0 by decide);have:=Int.emod_nonneg d (show (3000000007:Int)≠0 by decide);omega
theorem L0:("abcdefghijklmnopqrstuvwxyz" :Str).cps.toList=List.range' 97 26:=by decide +kernel
theorem aBB:("abcdefghijklmnopqrstuvwxyz" :Str).length=26:=by rw[cQ];decide
inductive wV (vs:List V)(H:Hp)(Q:VK)(E:XK):Prop
 | mk (c k:Int) (_:vs=[.int c,.int k]) (_:0<=k) (_:k<61) (_:Q (.str (wnF c k)) H):wV vs H Q E
theorem aAs {H:Hp}{Q:VK}{E:XK}{c k:Int} (h0:0<=k) (h1:k<61) (h:Q (.str (wnF c k)) H):wV [.int c,.int k] H Q E:=⟨_,_,rfl,h0,h1,h⟩
theorem CY (a:Nat)(z:Str):(⟨#[a]⟩++z:Str)≠ "" :=fun h=>by
 have h':=congrArg (fun z:Str=>z.cps.toList) h;simp only[CD]at h';rw[show ("" :Str).cps.toList=[] by decide +kernel]at h';cases h'
def WdI (N0:Nat)(nu:Int)(z:Str):Prop:=(nu=0/\z≠ "" /\z.cps.toList=wdL N0)∨((0<nu∨z= "")/\wdL N0=wdL nu.toNat++z.cps.toList)
theorem O6 {N0:Nat}{nu:Int}{z:Str} (hnu:0<=nu) (hor:WdI N0 nu z) (hc:0<nu∨z= ""):0<=nu/26/\(nu/26).toNat+0<nu.toNat+(if z= "" then 1 else 0)/\WdI N0 (nu/26) (⟨#[97+(nu%26).toNat]⟩++z):=by
 have h2:wdL N0=wdL nu.toNat++z.cps.toList:=by
  rcases hor with⟨h1,h2,_⟩|⟨_,h⟩
  ·exact absurd hc (by rintro (h|h);omega;exact h2 h)
  ·exact h
 have hl:(⟨#[97+(nu%26).toNat]⟩++z:Str).cps.toList=(97+(nu%26).toNat)::z.cps.toList:=by rw[CD];rfl
 refine⟨by omega,?_,?_⟩
 ·rcases hc with hc|hc
  ·have:(nu/26).toNat<nu.toNat:=by omega
   omega
  ·rw[if_pos hc];omega
 ·by_cases h26:nu.toNat<26
  ·refine .inl ⟨by omega,CY _ _,?_⟩;rw[hl,h2,wdL,if_pos h26,show (nu%26).toNat=nu.toNat by omega];rfl
  ·refine .inr ⟨.inl (by omega),?_⟩;rw[hl,h2,wdL,if_neg h26,show (nu/26).toNat=nu.toNat/26 by omega,show (nu%26).toNat=nu.toNat%26 by omega,List.append_assoc];rfl
theorem LO (m:M K mg):FnOk P w K mg base CX0 1 m.vK m.vF ["_law_cell","_law_k"] (wV):=by
 refine m.d0.ok sc__law_name (fun vs H Q E h=> ?_) (fun cdv A outer s H vs Q E hr h=> ?_)
 ·walk_at"g1";obtain⟨c,j,rfl,h0,h1,k⟩:=h;walk_at"g2";rfl
 ·walk_at"g1";obtain⟨c,j,rfl,h0,h1,k⟩:=h;walk_at"g2";have nd:=sc__law_name.nd;walk_at"hu";refine⟨_,(aB (aP (i:=2) nd rfl (by walk_at"oi") (aI bO (aI i5 (aI bN (pv 0) aC) aC) (pv 1)))
   (aB (aP (i:=3) nd rfl (by walk_at"oi") fE)
   (aB (X7 PassesOwn.never (PW.pt (EH (aW lX (pv 2) aC (aY _)) (zG (aW dG (pv 3) fE (aY _))))) (aB (aP (i:=3) nd rfl (by walk_at"oi") (aI aA6 (bA aCu fE (aI bN (pv 2) aC) (fun _ _=>rfl)) (pv 3)))
   (aF (aP (i:=2) nd rfl (by walk_at"oi") (aI cI (pv 2) aC)))))
   (aF (aV (pv 3)))))),?_⟩
  refine aO (σ:=[some (.int c),some (.int j),none,none]) rfl ?_;walk_at"cx";have hla:=aBB;have hc0:=Int.emod_nonneg c (show (3000000007:Int)≠0 by decide);have hc1:=Int.emod_lt_of_pos c (show (0:Int)<3000000007 by decide);unfold wnF at k;walk_at"go";have hN:(c%3000000007 * 61+j).toNat<26^8:=by
   have:(26:Nat)^8=208827064576:=by decide
   omega
  have hNl:=P2 7 _ hN;have hn0:0<=c%3000000007 * 61+j:=by omega
  generalize c%3000000007 * 61+j=N0 at k hNl hn0;have hem:("" :Str).cps.toList=[]:=by decide +kernel
  have hbody:∀(nu:Int) (z:Str) (mm:Nat),0<=nu->mm=nu.toNat+(if z= "" then 1 else 0)->WdI N0.toNat nu z->(0<nu∨z= "")->z.length<=8:=fun nu z mm h1 h2 h3 h4=>by
   rcases h3 with⟨h5,h6,_⟩|⟨_,h⟩
   ·exact absurd h4 (by rintro (h|h);omega;exact h6 h)
   ·have:=congrArg List.length h;rw[List.length_append]at this;show z.cps.size<=8;rw[←Array.length_toList];omega
  refine⟨fun mm σ' H'=>H'=H/\∃(nu:Int) (z:Str),0<=nu/\mm=nu.toNat+(if z= "" then 1 else 0)/\WdI N0.toNat nu z/\σ'=[some (.int c),some (.int j),some (.int nu),some (.str z)],⟨_,rfl,N0,"",hn0,rfl,.inr ⟨.inr rfl,by rw[hem,List.append_nil]⟩,rfl⟩,?_⟩;rintro mm _ H0 hq_;walk_at"g1";obtain⟨hH0,nu,z,hnu,hmm,hor,rfl⟩:=hq_;walk_at"g2";subst hH0;walk_at"go";refine cA (fun hc=> ?_) (fun hc=> ?_)
  ·have hs:=O6 hnu hor (.inl hc);have hzl:=hbody nu z mm hnu hmm hor (.inl hc);rw[if_pos rfl];refine⟨fun σ' H'=>H'=H0/\σ'=[some (.int c),some (.int j),some (.int (nu/26)),some (.str (⟨#[97+(nu%26).toNat]⟩++z))],?_,?_⟩
   ·rintro _ _ ⟨rfl,rfl⟩;exact⟨(nu/26).toNat+0,by rw[hmm];exact hs.2.1,rfl,_,_,hs.1,by rw[if_neg (CY _ _)],hs.2.2,rfl⟩
   ·walk_at"go";refine⟨_,_,_,rfl,rfl,(by walk_at"sz"),V0 L0 (by omega) (by omega),?_⟩;have h1':(⟨#[97+(nu%26).toNat]⟩:Str).length=1:=rfl;walk_at"go";exact⟨rfl,rfl⟩
  ·walk_at"go";refine cA (fun hc2=> ?_) (fun hc2=> ?_)
   ·have hs:=O6 hnu hor (.inr hc2);have hzl:=hbody nu z mm hnu hmm hor (.inr hc2);refine⟨fun σ' H'=>H'=H0/\σ'=[some (.int c),some (.int j),some (.int (nu/26)),some (.str (⟨#[97+(nu%26).toNat]⟩++z))],?_,?_⟩
    ·rintro _ _ ⟨rfl,rfl⟩;exact⟨(nu/26).toNat+0,by rw[hmm];exact hs.2.1,rfl,_,_,hs.1,by rw[if_neg (CY _ _)],hs.2.2,rfl⟩
    ·walk_at"go";refine⟨_,_,_,rfl,rfl,(by walk_at"sz"),V0 L0 (by omega) (by omega),?_⟩;have h1':(⟨#[97+(nu%26).toNat]⟩:Str).length=1:=rfl;walk_at"go";exact⟨rfl,rfl⟩
   ·have he:z=wdS N0.toNat:=by
     rcases hor with⟨_,_,h⟩|⟨h,_⟩
     ·exact aAq h
     ·exact absurd h (by rintro (h|h);exact hc h;exact hc2 h)
    walk_at"go";rw[he];exact k
theorem m7 (m:M K mg):Fc P w K mg base "_law_name" 1 ["_law_cell","_law_k"] (wV):=⟨_,_,m.O2,m.d0.kp,m.OU,LO m⟩
local macro_rules| `(tactic| walk_at"rd1")=> `(tactic| ((with_reducible refine' aAs ?a ?b ?_);(case a=>walk_at"sd");(case b=>walk_at"sd")))
abbrev bE:=Str×Int×Int
def eK (H:Hp)(v:V)(r:bE):Prop:=∃q,v= .ref q/\H q=some (.tup [.str r.1,.int r.2.1,.int r.2.2])
theorem k3 {H H':Hp}{us:List V}{rs:List bE} (h:Paired (eK H) us rs) (s:Same H H'):Paired (eK H') us rs:=Paired.imp' (fun v d ⟨q,e,h⟩=>⟨q,e,s _ _ h⟩) h
structure nQ (rs:List bE):Prop where
 nd:(rs.map (·.1)).Nodup
 nm:∀r∈rs,bI r.1=true
 ok:∀r∈rs,0<=r.2.2/\r.2.2<=r.2.1
 l0:0<rs.length
 l1:rs.length<=4
 wn:∀r∈rs,∃c k:Int,0<=k/\k<20/\r.1=wnF c k
theorem LZ (c:Int)(n:Nat)(h:n<=61):((List.range n).map fun i:Nat=>wnF c (i:Int)).Nodup:=by
 rw[List.Nodup,List.pairwise_map];refine List.Pairwise.imp_of_mem ?_ (List.nodup_range (n:=n));intro i j hi hj hne z;have hi':=List.mem_range.mp hi;have hj':=List.mem_range.mp hj;have:=P0 (by omega) (by omega) (by omega) (by omega) z;omega
inductive mW (vs:List V)(H:Hp)(Q:VK)(E:XK):Prop
 | mk (a:Addr) (c0 c1 c2 c3:Int) (_:vs=[.ref a]) (_:H a=some (.lst [.int c0,.int c1,.int c2,.int c3])) (_:∀p us rs H',H p=none->Same H H'->H' p=some (.lst us)->Paired (eK H') us rs->nQ rs->Q (.ref p) H'):mW vs H Q E
theorem MW {H:Hp}{Q:VK}{E:XK}{a:Addr}{c0 c1 c2 c3:Int} (ea:H a=some (.lst [.int c0,.int c1,.int c2,.int c3])) (k:∀p us rs H',H p=none->Same H H'->H' p=some (.lst us)->Paired (eK H') us rs->nQ rs->Q (.ref p) H'):mW [.ref a] H Q E:=⟨_,_,_,_,_,rfl,ea,k⟩
theorem IV (m:M K mg):FnOk P w K mg base CX0 2 m.uE m.uB ["_law_cells"] (mW):=by
 refine m.oG.ok sc__law_rooms (fun vs H Q E h=> ?_) (fun cdv A outer s H vs Q E hr h=> ?_)
 ·walk_at"g1";obtain⟨a,c0,c1,c2,c3,rfl,ea,k⟩:=h;walk_at"g2";rfl
 ·walk_at"g1";obtain⟨a,c0,c1,c2,c3,rfl,ea,k⟩:=h;walk_at"g2";have nd:=sc__law_rooms.nd;walk_at"hu";have cE:= @jM P w K mg base m;have d0:= @m7 P w K mg base m;refine⟨_,(aB (aP (i:=1) nd rfl (by walk_at"oi") (dU aE))
   (aB (cJ PassesOwn.never rfl (i8 rfl m.fA (aA (aI bO aC (aI bN (bF cE hr (aA (bA b9 (pv 0) aC (fun _ _=>rfl)) (aA aC aE))) aC)) aE)) (aH (i:=2) nd rfl (by walk_at"oi")) (aB (aP (i:=3) nd rfl (by walk_at"oi") (bF cE hr (aA (bA b9 (pv 0) aC (fun _ _=>rfl)) (aA (pv 2) aE))))
   (aB (aP (i:=4) nd rfl (by walk_at"oi") (aI bO aC (aI bN (pv 3) aC)))
   (aB (bR (aW dG (aI bN (aI cI (pv 3) aC) aC) aC (aY _)) (aF (aP (i:=4) nd rfl (by walk_at"oi") (aI bO aC (aI bN (aI bO (bA b9 (pv 0) aC (fun _ _=>rfl)) (aI i5 aC (pv 2))) (gD 100000000000 (by decide) ⟨by decide,by decide,by decide⟩))))) bC)
   (aB (bR (aW dG (aI bN (aI cI (pv 3) aC) aC) aC (aY _)) (aF (aP (i:=4) nd rfl (by walk_at"oi") aC)) bC)
   (aB (aP (i:=5) nd rfl (by walk_at"oi") (bA b9 (dU (aA aC (aA (pv 4) (aA (aI bN (aI cI (pv 3) aC) (aI bO (pv 4) aC)) (aA (aI cI (aI bO (pv 4) aC) aC) aE))))) (aI bN (aI cI (pv 3) aC) aC) (fun _ _=>rfl)))
   (aF (bT (sI PySem.F.plainAttrs_list PySem.F.slot_list_append PySem.F.type_list_append iB (pv 1) (aA (bU (aA (bF d0 hr (aA (bA b9 (pv 0) aC (fun _ _=>rfl)) (aA (pv 2) aE))) (aA (pv 4) (aA (pv 5) aE)))) aE))))))))))
   (aF (aV (pv 1))))),?_⟩
  refine aO (σ:=[some (.ref a),none,none,none,none,none]) rfl ?_;walk_at"cx";walk_at"go";rename_i p H1 n1 S1 e1 nn hn0 hn1;have fr:∀x u,H x=some u->x≠p:=fun x u hx z=>by rw[z,n1]at hx;cases hx
  let Pv1:Nat->St->Hp->Prop:=fun i σ' H'=>SameBut p H1 H'/\(∃us rs,H' p=some (.lst us)/\Paired (eK H') us rs/\rs.map (·.1)=(List.range i).map (fun i:Nat=>wnF c2 (i:Int))/\∀r∈rs,0<=r.2.2/\r.2.2<=r.2.1)/\∃x y z u,σ'=[some (.ref a),some (.ref p),x,y,z,u];refine iU Pv1 ⟨SameBut.refl,⟨[],[],e1,.nil,rfl,(fun _ z=>nomatch z)⟩,_,_,_,_,rfl⟩ ?_ ?_
  ·rintro i _ H' hi hq_;walk_at"g1";obtain⟨sb,⟨us,rs,eu,hrs,hnm,hok⟩,x1,x2,x3,x4,rfl⟩:=hq_;walk_at"g2";have hul:us.length=i:=by
    have h5:rs.length=i:=by rw[←List.length_map (f:=fun d:bE=>d.1),hnm,List.length_map,List.length_range]
    rw[Paired.length hrs];exact h5
   have ea':H' a=some (.lst [.int c0,.int c1,.int c2,.int c3]):=(SameBut.same n1 S1 sb) _ _ ea;walk_at"gs";rename_i nu hu0' hu1';refine kW (fun σ' G=>H'=G/\∃hh,0<=hh/\σ'=[some (.ref a),some (.ref p),some (.int (0+(i:Int))),some (.int nu),some (.int hh),x4]) ?_ ?_
   rotate_left
   ·intro nx' hnx;walk_at"go";refine cA (fun hc=> ?_) (fun hc=> ?_)
    ·walk_at"go";exact hnx _ _ ⟨rfl,_,by omega,rfl⟩
    ·walk_at"go";exact hnx _ _ ⟨rfl,_,by omega,rfl⟩
   rintro _ G hq_;walk_at"g1";obtain⟨hG,h1,hh1,rfl⟩:=hq_;walk_at"g2";subst hG;walk_at"gs";refine kW (fun σ' G=>H'=G/\∃hh,0<=hh/\σ'=[some (.ref a),some (.ref p),some (.int (0+(i:Int))),some (.int nu),some (.int hh),x4]) ?_ ?_
   rotate_left
   ·intro nx' hnx;walk_at"go";refine cA (fun hc=> ?_) (fun hc=> ?_)
    ·walk_at"go";exact hnx _ _ ⟨rfl,_,by omega,rfl⟩
    ·walk_at"go";exact hnx _ _ ⟨rfl,_,hh1,rfl⟩
   rintro _ G hq_;walk_at"g1";obtain⟨hG,h2,hh2,rfl⟩:=hq_;walk_at"g2";subst hG;walk_at"go";rename_i hr0 hr1 p5 H5 n5 S5 e5;refine qM (SqL.of e5) (by omega) (by show _<(4:Int);omega) fun v hv=> ?_;obtain⟨ff,rfl,hf0,hf1⟩:∃ff,v= .int ff/\0<=ff/\ff<=h2:=by
    simp only[List.mem_cons,List.not_mem_nil,or_false]at hv;rcases hv with rfl|rfl|rfl|rfl
    ·exact⟨_,rfl,by omega,by omega⟩
    ·exact⟨_,rfl,by omega,by omega⟩
    ·exact⟨_,rfl,hr0,by omega⟩
    ·exact⟨_,rfl,by omega,by omega⟩
   have ea5:=S5 _ _ ea';walk_at"go";rename_i q6 H6 n6 S6 e6;have eu6:H6 p=some (.lst us):=S6 _ _ (S5 _ _ eu);refine iA eu6 (by rw[sizeLine_eq];omega) fun H7 B7 e7=> ?_;have hq6:q6≠p:=fun z=>by rw[z,S5 _ _ eu]at n6;cases n6
   refine⟨(sb.trans (S5.trans S6).but).trans B7,⟨us++[.ref q6],rs++[(wnF c2 (0+(i:Int)),h2,ff)],e7,?_,?_,?_⟩,_,_,_,_,rfl⟩
   ·exact L2.Paired.snoc (Paired.imp' (fun w d ⟨q,e,h⟩=>⟨q,e,B7 _ _ (S6 _ _ (S5 _ _ h)) fun z=>by rw[z,eu]at h;cases h⟩) hrs) ⟨q6,rfl,B7 _ _ e6 hq6⟩
   ·rw[List.map_append,hnm,List.range_succ,List.map_append,Int.zero_add];rfl
   ·intro r hr;rcases List.mem_append.mp hr with hr|hr
    ·exact hok r hr
    ·cases List.mem_singleton.mp hr;exact⟨hf0,hf1⟩
  ·rintro _ H' hq_;walk_at"g1";obtain⟨sb,⟨us,rs,eu,hrs,hnm,hok⟩,x1,x2,x3,x4,rfl⟩:=hq_;walk_at"g2";have hrl:rs.length=(1+nn%4).toNat:=by rw[←List.length_map (f:=fun d:bE=>d.1),hnm,List.length_map,List.length_range]
   walk_at"go";have hwn:∀r∈rs,∃c k:Int,0<=k/\k<20/\r.1=wnF c k:=fun r hr=>by
    have hm:r.1∈rs.map (·.1):=List.mem_map.mpr ⟨r,hr,rfl⟩;rw[hnm]at hm;obtain⟨i,hi,e⟩:=List.mem_map.mp hm;have:=List.mem_range.mp hi;exact⟨c2,(i:Int),by omega,by omega,e.symm⟩
   refine k _ _ _ _ n1 (SameBut.same n1 S1 sb) eu hrs ⟨by rw[hnm];exact LZ _ _ (by omega),fun r hr=> ?_,hok,by omega,by omega,hwn⟩;have hm:r.1∈rs.map (·.1):=List.mem_map.mpr ⟨r,hr,rfl⟩;rw[hnm]at hm;obtain⟨i,hi,e⟩:=List.mem_map.mp hm;have:=List.mem_range.mp hi;rw[←e];exact EJ (by omega) (by omega)
theorem JH (m:M K mg):Fc P w K mg base "_law_rooms" 2 ["_law_cells"] (mW):=⟨_,_,m.NA,m.oG.kp,m.NT,IV m⟩
inductive r6 (K:W.Frag)(vs:List V)(H:Hp)(Q:VK)(E:XK):Prop
 | mk (c:Int) (b:Addr) (bs:List Int) (_:vs=[.int c,.ref b]) (_:SqL K H b (bs.map V.int)) (_:(∀x∈bs,0<x/\x<1000000000000)) (_:bs.length<=20) (_:∀p (ns:List Int) H',H p=none->Same H H'->H' p=some (.lst (ns.map V.int))->Paired (fun (n x:Int)=>0<=n/\n<x) ns bs->Q (.ref p) H'):r6 K vs H Q E
theorem yV {H:Hp}{Q:VK}{E:XK}{c:Int}{b:Addr}{bs:List Int} (hS:SqL K H b (bs.map V.int)) (hb:∀x∈bs,0<x/\x<1000000000000) (hl:bs.length<=20) (k:∀p (ns:List Int) H',H p=none->Same H H'->H' p=some (.lst (ns.map V.int))->Paired (fun (n x:Int)=>0<=n/\n<x) ns bs->Q (.ref p) H'):r6 K [.int c,.ref b] H Q E:=⟨_,_,_,rfl,hS,hb,hl,k⟩
theorem FU (m:M K mg):FnOk P w K mg base CX0 1 m.rL m.qY ["_law_cell","_law_bases"] (r6 K):=by
 refine m.eF.ok sc__law_digits (fun vs H Q E h=> ?_) (fun cdv A outer s H vs Q E hr h=> ?_)
 ·walk_at"g1";obtain⟨c,b,bs,rfl,hS,hb,hl,k⟩:=h;walk_at"g2";rfl
 ·walk_at"g1";obtain⟨c,b,bs,rfl,hS,hb,hl,k⟩:=h;walk_at"g2";have nd:=sc__law_digits.nd;walk_at"hu";refine⟨_,(aB (aP (i:=2) nd rfl (by walk_at"oi") (dU aE))
   (aB (cJ PassesOwn.never rfl (bH (pv 1)) (aH (i:=3) nd rfl (by walk_at"oi")) (aB (bT (sI PySem.F.plainAttrs_list PySem.F.slot_list_append PySem.F.type_list_append iB (pv 2) (aA (aI bN (pv 0) (pv 3)) aE)))
   (aF (aP (i:=0) nd rfl (by walk_at"oi") (aI K4 (pv 0) (pv 3))))))
   (aF (aV (pv 2))))),?_⟩
  refine aO (σ:=[some (.int c),some (.ref b),none,none]) rfl ?_;walk_at"cx";walk_at"go";rename_i p H1 n1 S1 e1;let Pv1:Nat->St->Hp->Prop:=fun i σ' H'=>SameBut p H1 H'/\(∃ns:List Int,H' p=some (.lst (ns.map V.int))/\Paired (fun (n x:Int)=>0<=n/\n<x) ns (bs.take i))/\∃c' x,σ'=[some (.int c'),some (.ref b),some (.ref p),x];refine dQ (bs.map V.int) Pv1 ⟨SameBut.refl,⟨[],e1,.nil⟩,_,_,rfl⟩ (fun i σ' H' _ q=>(SameBut.same n1 S1 q.1).seq hS) ?_ ?_
  ·rintro i x _ H' hx hq_;walk_at"g1";obtain⟨sb,⟨ns,ek,hns⟩,c',y,rfl⟩:=hq_;walk_at"g2";rw[List.getElem?_map]at hx;obtain⟨d,hd,rfl⟩:=Option.map_eq_some_iff.mp hx;obtain⟨hd0,hd1⟩:=hb d (List.mem_of_getElem? hd);have hi:i<bs.length:=(List.getElem?_eq_some_iff.mp hd).1;have hnl:ns.length=i:=by rw[Paired.length hns,List.length_take];omega
   walk_at"go";rename_i hm0 hm1;refine iA ek (by rw[sizeLine_eq,List.length_map];omega) fun H2 B2 e2=> ?_;walk_at"go";refine PR hd0 (Int.lt_trans hd1 (by decide)) ?_;walk_at"go";refine⟨sb.trans B2,⟨ns++[c'%d],by rw[e2,List.map_append];rfl,?_⟩,_,_,rfl⟩;rw[cU hd];exact L2.Paired.snoc hns ⟨hm0,hm1⟩
  ·rintro _ H' hq_;walk_at"g1";obtain⟨sb,⟨ns,ek,hns⟩,c',y,rfl⟩:=hq_;walk_at"g2";rw[List.length_map,List.take_length]at hns;walk_at"go";exact k _ _ _ n1 (SameBut.same n1 S1 sb) ek hns
theorem oW (m:M K mg):Fc P w K mg base "_law_digits" 1 ["_law_cell","_law_bases"] (r6 K):=⟨_,_,m.J9,m.eF.kp,m.JR,FU m⟩
theorem yT (m:M K mg):FnOk P w K mg base CX0 3 m.lA m.lI ["_law_cells"] (mW):=by
 refine m.iR.ok sc__law_rooms_told (fun vs H Q E h=> ?_) (fun cdv A outer s H vs Q E hr h=> ?_)
 ·walk_at"g1";obtain⟨a,c0,c1,c2,c3,rfl,ea,k⟩:=h;walk_at"g2";rfl
 ·walk_at"g1";obtain⟨a,c0,c1,c2,c3,rfl,ea,k⟩:=h;walk_at"g2";have nd:=sc__law_rooms_told.nd;walk_at"hu";have eF:= @oW P w K mg base m;have d0:= @m7 P w K mg base m;refine⟨_,(aB (aP (i:=1) nd rfl (by walk_at"oi") (bF eF hr (aA (bA b9 (pv 0) aC (fun _ _=>rfl)) (aA (dU (aA (gD 100000000000 (by decide) ⟨by decide,by decide,by decide⟩) (aA (gD 100000000000 (by decide) ⟨by decide,by decide,by decide⟩) (aA (gD 100000000000 (by decide) ⟨by decide,by decide,by decide⟩) (aA (gD 100000000000 (by decide) ⟨by decide,by decide,by decide⟩) (aA (gD 100000000000 (by decide) ⟨by decide,by decide,by decide⟩) (aA (gD 100000000000 (by decide) ⟨by decide,by decide,by decide⟩) (aA (gD 100000000000 (by decide) ⟨by decide,by decide,by decide⟩) (aA (gD 100000000000 (by decide) ⟨by decide,by decide,by decide⟩) aE))))))))) aE))))
   (aB (aP (i:=2) nd rfl (by walk_at"oi") (dU aE))
   (aB (cJ PassesOwn.never rfl (i8 rfl m.fA (aA (aI bO aC (aI bN (aI cI (bA b9 (pv 0) aC (fun _ _=>rfl)) aC) aC)) aE)) (aH (i:=3) nd rfl (by walk_at"oi")) (aF (bT (sI PySem.F.plainAttrs_list PySem.F.slot_list_append PySem.F.type_list_append iB (pv 2) (aA (bU (aA (bF d0 hr (aA (bA b9 (pv 0) aC (fun _ _=>rfl)) (aA (pv 3) aE))) (aA (bA b9 (pv 1) (aI i5 aC (pv 3)) (fun _ _=>rfl)) (aA (bP (kJ rfl) rfl m.xX sW (aA (bA b9 (pv 1) (aI i5 aC (pv 3)) (fun _ _=>rfl)) (aA (bA b9 (pv 1) (aI bO (aI i5 aC (pv 3)) aC) (fun _ _=>rfl)) aE))) aE)))) aE)))))
   (aF (aV (pv 2)))))),?_⟩
  refine aO (σ:=[some (.ref a),none,none,none]) rfl ?_;walk_at"cx";walk_at"go";rename_i b1 H1 n1 S1 f1;refine yV (bs:=List.replicate 8 100000000000) (SqL.of f1) (fun x hx=>by rw[List.eq_of_mem_replicate hx];decide) (by decide) fun p2 ns H2 n2 S2 f2 hns=> ?_;have hnl:ns.length=8:=Paired.length hns;have hnn:∀(i:Nat) (x:Int),ns[i]? =some x->0<=x:=fun i x hx=>by
   have hi:i<ns.length:=(List.getElem?_eq_some_iff.mp hx).1;exact(Paired.at2 hns hx (List.getElem?_eq_getElem (by rw[List.length_replicate];omega))).1
  have ea2:=S2 _ _ (S1 _ _ ea);walk_at"go";rename_i p H3 n3 S3 e3;have s03:Same H H3:=(S1.trans S2).trans S3;have fr:∀x u,H2 x=some u->x≠p:=fun x u hx z=>by rw[z,n3]at hx;cases hx
  let Pv2:Nat->St->Hp->Prop:=fun i σ' H'=>SameBut p H3 H'/\(∃us rs,H' p=some (.lst us)/\Paired (eK H') us rs/\rs.map (·.1)=(List.range i).map (fun i:Nat=>wnF c2 (i:Int))/\∀r∈rs,0<=r.2.2/\r.2.2<=r.2.1)/\∃x,σ'=[some (.ref a),some (.ref p2),some (.ref p),x];refine iU Pv2 ⟨SameBut.refl,⟨[],[],e3,.nil,rfl,(fun _ z=>nomatch z)⟩,_,rfl⟩ ?_ ?_
  ·rintro i _ H' hi hq_;walk_at"g1";obtain⟨sb,⟨us,rs,eu,hrs,hnm,hok⟩,x1,rfl⟩:=hq_;walk_at"g2";have hul:us.length=i:=by
    have h5:rs.length=i:=by rw[←List.length_map (f:=fun d:bE=>d.1),hnm,List.length_map,List.length_range]
    rw[Paired.length hrs];exact h5
   have s2':Same H2 H':=SameBut.same n3 S3 sb;have ea':=s2' _ _ ea2;have f2':=s2' _ _ f2;have hA:ns[2 * i]? =some ns[2 * i]:=List.getElem?_eq_getElem (by omega);have hB:ns[2 * i+1]? =some ns[2 * i+1]:=List.getElem?_eq_getElem (by omega);have hA0:=hnn _ _ hA;have hB0:=hnn _ _ hB;have hA':(ns.map V.int)[2 * i]? =some (.int ns[2 * i]):=by rw[List.getElem?_map,hA];rfl
   have hB':(ns.map V.int)[2 * i+1]? =some (.int ns[2 * i+1]):=by rw[List.getElem?_map,hB];rfl
   generalize ns[2 * i]=xa at hA0 hA';generalize ns[2 * i+1]=xb at hB0 hB';walk_at"go";rw[Int.zero_add,show (2:Int) * (i:Int)=((2 * i:Nat):Int) by omega];refine yR (SqL.of f2') hA' ?_;walk_at"go";rw[show (2:Int) * (i:Int)=((2 * i:Nat):Int) by omega];refine yR (SqL.of f2') hA' ?_;walk_at"go";rw[show (2:Int) * (i:Int)+1=((2 * i+1:Nat):Int) by omega];refine yR (SqL.of f2') hB' ?_;walk_at"go";rename_i q6 H6 n6 S6 e6;have eu6:H6 p=some (.lst us):=S6 _ _ eu;refine iA eu6 (by rw[sizeLine_eq];omega) fun H7 B7 e7=> ?_;have hq6:q6≠p:=fun z=>by rw[z,eu]at n6;cases n6
   refine⟨(sb.trans S6.but).trans B7,⟨us++[.ref q6],rs++[(wnF c2 (i:Int),xa,min xa xb)],e7,?_,?_,?_⟩,_,rfl⟩
   ·exact L2.Paired.snoc (Paired.imp' (fun w d ⟨q,e,h⟩=>⟨q,e,B7 _ _ (S6 _ _ h) fun z=>by rw[z,eu]at h;cases h⟩) hrs) ⟨q6,rfl,B7 _ _ e6 hq6⟩
   ·rw[List.map_append,hnm,List.range_succ,List.map_append];rfl
   ·intro r hr;rcases List.mem_append.mp hr with hr|hr
    ·exact hok r hr
    ·cases List.mem_singleton.mp hr;show 0<=min xa xb/\min xa xb<=xa;omega
  ·rintro _ H' hq_;walk_at"g1";obtain⟨sb,⟨us,rs,eu,hrs,hnm,hok⟩,x1,rfl⟩:=hq_;walk_at"g2";have hrl:rs.length=(1+c0/2%4).toNat:=by rw[←List.length_map (f:=fun d:bE=>d.1),hnm,List.length_map,List.length_range]
   have hp:H p=none:=by
    cases hq:H p with
    | none=>rfl
    | some u=>rw[S2 _ _ (S1 _ _ hq)]at n3;cases n3
   walk_at"go";have hwn:∀r∈rs,∃c k:Int,0<=k/\k<20/\r.1=wnF c k:=fun r hr=>by
    have hm:r.1∈rs.map (·.1):=List.mem_map.mpr ⟨r,hr,rfl⟩;rw[hnm]at hm;obtain⟨i,hi,e⟩:=List.mem_map.mp hm;have:=List.mem_range.mp hi;exact⟨c2,(i:Int),by omega,by omega,e.symm⟩
   refine k _ _ _ _ hp (fun x u hx=>(SameBut.same n3 S3 sb) _ _ (S2 _ _ (S1 _ _ hx))) eu hrs ⟨by rw[hnm];exact LZ _ _ (by omega),fun r hr=> ?_,hok,by omega,by omega,hwn⟩;have hm:r.1∈rs.map (·.1):=List.mem_map.mpr ⟨r,hr,rfl⟩;rw[hnm]at hm;obtain⟨i,hi,e⟩:=List.mem_map.mp hm;have:=List.mem_range.mp hi;rw[←e];exact EJ (by omega) (by omega)
theorem zH (m:M K mg):Fc P w K mg base "_law_rooms_told" 3 ["_law_cells"] (mW):=⟨_,_,m.BZ,m.iR.kp,m.BS,yT m⟩
structure SpecD where
 n:Str
 st:Str
 e:V
 kd:Int
 wd:Int
 fi:Int
 mo:Int
def dE (H:Hp)(v:V)(s:SpecD):Prop:=∃q,v= .ref q/\H q=some (.tup [.str s.n,.str s.st,s.e,.int s.kd,.int s.wd,.int s.fi,.int s.mo])
structure kN (rs:List bE)(f:Int)(s:SpecD):Prop where
 nm:bI s.n=true
 sm:bI s.st=true
 sin:s.st∈rs.map (·.1)
 eo:fB s.e
 ein:s.e= .non∨∃z,s.e= .str z/\z∈rs.map (·.1)
 k0:0<=s.kd
 k1:s.kd<6
 w0:0<=s.wd
 f0:f<=s.fi
 m0:0<=s.mo
 m1:s.kd=3->1<=s.mo
 w1:s.wd<1000000000000
theorem sZ {H:Hp}{us:List V}{rs:List bE} (hr:Paired (eK H) us rs) {v:V} (hv:v∈us):∃z i j q,v= .ref q/\H q=some (.tup [.str z,.int i,.int j])/\(z,i,j)∈rs:=by
 walk_at"g1";obtain⟨e,he,q,rfl,hq⟩:=rZ hr hv;walk_at"g2";exact⟨e.1,e.2.1,e.2.2,q,rfl,hq,he⟩
inductive o6 (K:W.Frag)(vs:List V)(H:Hp)(Q:VK)(E:XK):Prop
 | mk (c j f l:Int) (a b:Addr) (us:List V) (rs:List bE) (_:vs=[.int c,.int j,.ref a,.ref b]) (_:0<=j) (_:j<7) (_:SqL K H a us) (_:Paired (eK H) us rs) (_:nQ rs) (_:H b=some (.tup [.int f,.int l])) (_:∀q s H',Same H H'->dE H' (.ref q) s->kN rs f s->s.n=wnF c (20+j)->Q (.ref q) H'):o6 K vs H Q E
theorem P8 {H:Hp}{Q:VK}{E:XK}{c j f l:Int}{a b:Addr}{us:List V}{rs:List bE} (h0:0<=j) (h1:j<7) (hS:SqL K H a us) (hr:Paired (eK H) us rs) (ro:nQ rs) (eb:H b=some (.tup [.int f,.int l])) (k:∀q s H',Same H H'->dE H' (.ref q) s->kN rs f s->s.n=wnF c (20+j)->Q (.ref q) H'):o6 K [.int c,.int j,.ref a,.ref b] H Q E:=⟨_,_,_,_,_,_,_,_,rfl,h0,h1,hS,hr,ro,eb,k⟩
theorem LG (m:M K mg):FnOk P w K mg base CX0 2 m.vC m.vO ["_law_cell","_law_k","_law_rooms_here","_law_turns"] (o6 K):=by
 refine m.qJ.ok sc__law_spec (fun vs H Q E h=> ?_) (fun cdv A outer s H vs Q E hr h=> ?_)
 ·walk_at"g1";obtain⟨c,j,f,l,a,b,us,rs,rfl,h0,h1,hS,hr',ro,eb,k⟩:=h;walk_at"g2";rfl
 ·walk_at"g1";obtain⟨c,j,f,l,a,b,us,rs,rfl,h0,h1,hS,hr',ro,eb,k⟩:=h;walk_at"g2";have nd:=sc__law_spec.nd;walk_at"hu";have cE:= @jM P w K mg base m;have d0:= @m7 P w K mg base m;refine⟨_,(aB (aP (i:=4) nd rfl (by walk_at"oi") (bF cE hr (aA (pv 0) (aA (pv 1) aE))))
   (aB (aP (i:=5) nd rfl (by walk_at"oi") (aI bN (pv 4) aC))
   (aB (bR (aW dG (aI bN (aI cI (pv 4) aC) aC) aC (aY _)) (aF (aP (i:=5) nd rfl (by walk_at"oi") (aI bN (aI bO (pv 0) (aI i5 aC (pv 1))) (gD 100000000000 (by decide) ⟨by decide,by decide,by decide⟩)))) bC)
   (aB (aP (i:=6) nd rfl (by walk_at"oi") (bA cG (bA b9 (pv 2) (aI bN (aI cI (pv 4) aC) (bP jA rfl m.sO nL (aA (pv 2) aE))) (fun _ _=>rfl)) aC (fun _ _=>rfl)))
   (aB (aP (i:=7) nd rfl (by walk_at"oi") qO)
   (aB (bR (aW lX (aI bN (aI cI (pv 4) aC) aC) aC (aY _)) (aF (aP (i:=7) nd rfl (by walk_at"oi") (bA cG (bA b9 (pv 2) (aI bN (aI cI (pv 4) aC) (bP jA rfl m.sO nL (aA (pv 2) aE))) (fun _ _=>rfl)) aC (fun _ _=>rfl)))) bC)
   (aB (aP (i:=8) nd rfl (by walk_at"oi") (aI bN (aI cI (pv 4) aC) aC))
   (aB (aP (i:=9) nd rfl (by walk_at"oi") (aI bO (bA cG (pv 3) aC (fun _ _=>rfl)) (aI bN (aI cI (pv 4) aC) aC)))
   (aB (aP (i:=10) nd rfl (by walk_at"oi") (bA b9 (dU (aA (aI bO aC (aI bN (aI cI (pv 4) aC) aC)) (aA (aI bN (pv 0) aC) aE))) (aI bN (aI cI (pv 8) aC) aC) (fun _ _=>rfl)))
   (aF (aV (bU (aA (bF d0 hr (aA (pv 0) (aA (aI bO aC (pv 1)) aE))) (aA (pv 6) (aA (pv 7) (aA (pv 8) (aA (pv 5) (aA (pv 9) (aA (pv 10) aE))))))))))))))))))),?_⟩
  refine aO (σ:=[some (.int c),some (.int j),some (.ref a),some (.ref b),none,none,none,none,none,none,none]) rfl ?_;walk_at"cx";have hul:us.length=rs.length:=Paired.length hr';have hu0':0<us.length:=by have:=ro.l0;omega
  walk_at"gs";rename_i nu hn0 hn1;refine kW (fun σ' G=>H=G/\∃wd,0<=wd/\wd<1000000000000/\σ'=[some (.int c),some (.int j),some (.ref a),some (.ref b),some (.int nu),some (.int wd),none,none,none,none,none]) ?_ ?_
  rotate_left
  ·intro nx' hnx;walk_at"go";refine cA (fun hc=> ?_) (fun hc=> ?_)
   ·walk_at"go";exact hnx _ _ ⟨rfl,_,by omega,by omega,rfl⟩
   ·walk_at"go";exact hnx _ _ ⟨rfl,_,by omega,by omega,rfl⟩
  rintro _ G hq_;walk_at"g1";obtain⟨hG,wd,hwd,hwd1,rfl⟩:=hq_;walk_at"g2";subst hG;walk_at"gs";rename_i hm0 hm1;refine qM hS hm0 hm1 fun v1 hv1=> ?_;walk_at"g1";obtain⟨z1,i1,j1,q1,rfl,hq1,hz1⟩:=sZ hr' hv1;walk_at"g2";walk_at"gs";refine⟨q1,_,0,_,rfl,rfl,SqT.of hq1,rfl,?_⟩;walk_at"gs";refine kW (fun σ' G=>H=G/\∃e,fB e/\(e= .non∨∃z,e= .str z/\z∈rs.map (·.1))/\σ'=[some (.int c),some (.int j),some (.ref a),some (.ref b),some (.int nu),some (.int wd),some (.str z1),some e,none,none,none]) ?_ ?_
  rotate_left
  ·intro nx' hnx;walk_at"go";refine cA (fun hc=> ?_) (fun hc=> ?_)
   ·walk_at"go";rename_i ha0 ha1;refine qM hS ha0 ha1 fun v2 hv2=> ?_;walk_at"g1";obtain⟨z2,i2,j2,q2,rfl,hq2,hz2⟩:=sZ hr' hv2;walk_at"g2";walk_at"go";refine⟨q2,_,0,_,rfl,rfl,SqT.of hq2,rfl,?_⟩;walk_at"go";exact hnx _ _ ⟨rfl,_,.inr ⟨z2,rfl,ro.nm _ hz2⟩,.inr ⟨z2,rfl,List.mem_map.mpr ⟨_,hz2,rfl⟩⟩,rfl⟩
   ·walk_at"go";exact hnx _ _ ⟨rfl,_,.inl rfl,.inl rfl,rfl⟩
  rintro _ G hq_;walk_at"g1";obtain⟨hG,e,he,hei,rfl⟩:=hq_;walk_at"g2";subst hG;walk_at"go";refine⟨b,_,0,_,rfl,rfl,SqT.of eb,rfl,?_⟩;walk_at"go";rename_i p5 H5 n5 S5 e5 mo hmo q6 H6 n6 S6 e6;exact k q6 ⟨wnF c (20+j),z1,e,nu/2000%6,wd,f+nu/12000%4,mo⟩ _ (S5.trans S6) ⟨q6,rfl,e6⟩ ⟨EJ (by omega) (by omega),ro.nm _ hz1,List.mem_map.mpr ⟨_,hz1,rfl⟩,he,hei,by show 0<=nu/2000%6;omega,by show nu/2000%6<6;omega,hwd,by show f<=f+nu/12000%4;omega,by show 0<=mo;omega,(fun h3=>by
   have h3:nu/2000%6=3:=h3;show 1<=mo;omega),hwd1⟩ rfl
theorem MS (m:M K mg):Fc P w K mg base "_law_spec" 2 ["_law_cell","_law_k","_law_rooms_here","_law_turns"] (o6 K):=⟨_,_,m.OY,m.qJ.kp,m.OT,LG m⟩
theorem i9 {α β:Type}{F:α->β->Prop}{l:List α}{b:β}{m:List β} (h:Paired F l (b::m)):∃a l',l=a::l'/\F a b/\Paired F l' m:=by
 cases h with
 | cons r t=>exact⟨_,_,rfl,r,t⟩
theorem KZ {α β:Type}{F:α->β->Prop}{l:List α} (h:Paired F l ([]:List β)):l=[]:=by cases h;rfl
theorem BA (m:M K mg):FnOk P w K mg base CX0 3 m.mI m.mQ ["_law_cell","_law_k","_law_rooms_here","_law_turns"] (o6 K):=by
 refine m.jI.ok sc__law_spec_told (fun vs H Q E h=> ?_) (fun cdv A outer s H vs Q E hr h=> ?_)
 ·walk_at"g1";obtain⟨c,j,f,l,a,b,us,rs,rfl,h0,h1,hS,hr',ro,eb,k⟩:=h;walk_at"g2";rfl
 ·walk_at"g1";obtain⟨c,j,f,l,a,b,us,rs,rfl,h0,h1,hS,hr',ro,eb,k⟩:=h;walk_at"g2";have nd:=sc__law_spec_told.nd;walk_at"hu";have eF:= @oW P w K mg base m;have d0:= @m7 P w K mg base m;refine⟨_,(aB (aP (i:=4) nd rfl (by walk_at"oi") (bP jA rfl m.sO nL (aA (pv 2) aE)))
   (aB (tM (bF eF hr (aA (pv 0) (aA (dU (aA aC (aA (pv 4) (aA (aI bO (pv 4) aC) (aA (gD 100000000000 (by decide) ⟨by decide,by decide,by decide⟩) (aA aC (aA aC aE))))))) aE))) (O5 rfl (aN (aH (i:=5) nd rfl (by walk_at"oi")) (aN (aH (i:=6) nd rfl (by walk_at"oi")) (aN (aH (i:=7) nd rfl (by walk_at"oi")) (aN (aH (i:=8) nd rfl (by walk_at"oi")) (aN (aH (i:=9) nd rfl (by walk_at"oi")) (aN (aH (i:=10) nd rfl (by walk_at"oi")) cM))))))))
   (aB (aP (i:=11) nd rfl (by walk_at"oi") qO)
   (aB (bR (aW j6 (pv 7) (pv 4) (aY _)) (aF (aP (i:=11) nd rfl (by walk_at"oi") (bA cG (bA b9 (pv 2) (pv 7) (fun _ _=>rfl)) aC (fun _ _=>rfl)))) bC)
   (aB (bR (aW dG (pv 5) aC (aY _)) (aF (aP (i:=10) nd rfl (by walk_at"oi") (aI bO aC (aI bN (pv 10) aC)))) bC)
   (aF (aV (bU (aA (bF d0 hr (aA (pv 0) (aA (aI bO aC (pv 1)) aE))) (aA (bA cG (bA b9 (pv 2) (pv 6) (fun _ _=>rfl)) aC (fun _ _=>rfl)) (aA (pv 11) (aA (pv 5) (aA (pv 8) (aA (aI bO (bA cG (pv 3) aC (fun _ _=>rfl)) (pv 9)) (aA (pv 10) aE))))))))))))))),?_⟩
  refine aO (σ:=[some (.int c),some (.int j),some (.ref a),some (.ref b),none,none,none,none,none,none,none,none]) rfl ?_;walk_at"cx";have hul:us.length=rs.length:=Paired.length hr';have hu0':0<us.length:=by have:=ro.l0;omega
  have hu4:us.length<=4:=by have:=ro.l1;omega
  walk_at"gs";rename_i p1 H1 n1 S1 e1;refine yV (bs:=[6,(us.length:Int),(us.length:Int)+1,100000000000,30,4096]) (SqL.of e1) (fun x hx=>by
   simp only[List.mem_cons,List.not_mem_nil,or_false]at hx;rcases hx with rfl|rfl|rfl|rfl|rfl|rfl<;>omega) (show 6<=20 by decide) fun p2 ns H2 n2 S2 e2 hns=> ?_
  walk_at"g1";obtain⟨kd,t1,rfl,hk,hns⟩:=i9 hns;walk_at"g2";walk_at"g1";obtain⟨sx,t2,rfl,hs,hns⟩:=i9 hns;walk_at"g2";walk_at"g1";obtain⟨ex,t3,rfl,hx,hns⟩:=i9 hns;walk_at"g2";walk_at"g1";obtain⟨wd,t4,rfl,hw,hns⟩:=i9 hns;walk_at"g2";walk_at"g1";obtain⟨fi,t5,rfl,hfi,hns⟩:=i9 hns;walk_at"g2";walk_at"g1";obtain⟨mo,t6,rfl,hmo,hns⟩:=i9 hns;walk_at"g2";obtain rfl:=KZ hns;have e2':H2 p2=some (.lst [.int kd,.int sx,.int ex,.int wd,.int fi,.int mo]):=e2;have s02:=S1.trans S2;have hS2:=s02.seq hS;have hr2:=k3 hr' s02;have eb2:=s02 _ _ eb;walk_at"gs";refine kW (fun σ' G=>H2=G/\∃e,fB e/\(e= .non∨∃z,e= .str z/\z∈rs.map (·.1))/\σ'=[some (.int c),some (.int j),some (.ref a),some (.ref b),some (.int (us.length:Int)),some (.int kd),some (.int sx),some (.int ex),some (.int wd),some (.int fi),some (.int mo),some e]) ?_ ?_
  rotate_left
  ·intro nx' hnx;walk_at"go";refine cA (fun hc=> ?_) (fun hc=> ?_)
   ·walk_at"go";refine qM hS2 hx.1 hc fun v2 hv2=> ?_;walk_at"g1";obtain⟨z2,i2,j2,q2,rfl,hq2,hz2⟩:=sZ hr2 hv2;walk_at"g2";walk_at"go";refine⟨q2,_,0,_,rfl,rfl,SqT.of hq2,rfl,?_⟩;walk_at"go";exact hnx _ _ ⟨rfl,_,.inr ⟨z2,rfl,ro.nm _ hz2⟩,.inr ⟨z2,rfl,List.mem_map.mpr ⟨_,hz2,rfl⟩⟩,rfl⟩
   ·walk_at"go";exact hnx _ _ ⟨rfl,_,.inl rfl,.inl rfl,rfl⟩
  rintro _ G hq_;walk_at"g1";obtain⟨hG,e,he,hei,rfl⟩:=hq_;walk_at"g2";subst hG;walk_at"gs";refine kW (fun σ' G=>H2=G/\∃m2,0<=m2/\(kd=3->1<=m2)/\σ'=[some (.int c),some (.int j),some (.ref a),some (.ref b),some (.int (us.length:Int)),some (.int kd),some (.int sx),some (.int ex),some (.int wd),some (.int fi),some (.int m2),some e]) ?_ ?_
  rotate_left
  ·intro nx' hnx;walk_at"go";refine cA (fun hc=> ?_) (fun hc=> ?_)
   ·walk_at"go";exact hnx _ _ ⟨rfl,_,by omega,by omega,rfl⟩
   ·walk_at"go";exact hnx _ _ ⟨rfl,_,hmo.1,(fun h=>absurd h hc),rfl⟩
  rintro _ G hq_;walk_at"g1";obtain⟨hG,m2,hm2,hm3,rfl⟩:=hq_;walk_at"g2";subst hG;walk_at"go";refine qM hS2 hs.1 hs.2 fun v1 hv1=> ?_;walk_at"g1";obtain⟨z1,i1,j1,q1,rfl,hq1,hz1⟩:=sZ hr2 hv1;walk_at"g2";walk_at"go";refine⟨q1,_,0,_,rfl,rfl,SqT.of hq1,rfl,?_⟩;walk_at"go";refine⟨b,_,0,_,rfl,rfl,SqT.of eb2,rfl,?_⟩;walk_at"go";rename_i q6 H6 n6 S6 e6;exact k q6 ⟨wnF c (20+j),z1,e,kd,wd,f+fi,m2⟩ _ (s02.trans S6) ⟨q6,rfl,e6⟩ ⟨EJ (by omega) (by omega),ro.nm _ hz1,List.mem_map.mpr ⟨_,hz1,rfl⟩,he,hei,hk.1,hk.2,hw.1,by have:=hfi.1;show f<=f+fi;omega,hm2,hm3,by have:=hw.2;show wd<_;omega⟩ rfl
theorem BG (m:M K mg):Fc P w K mg base "_law_spec_told" 3 ["_law_cell","_law_k","_law_rooms_here","_law_turns"] (o6 K):=⟨_,_,m.DT,m.jI.kp,m.DN,BA m⟩
def gN (s:SpecD)(t:Int):Int:=if s.kd=1/\t<s.fi∨s.kd=2/\s.fi<=t then 0 else if s.kd=3/\(t<s.fi∨0<(t - s.fi)%s.mo) then 0 else if s.kd=4/\s.mo/2^t.toNat%2=0 then 0 else s.wd
inductive DD (vs:List V)(H:Hp)(Q:VK)(E:XK):Prop
 | mk (q:Addr) (s:SpecD) (t:Int) (_:vs=[.ref q,.int t]) (_:dE H (.ref q) s) (_:0<=t) (_:(s.kd=3->1<=s.mo)) (_:0<=s.mo) (_:∀H',Same H H'->Q (.int (gN s t)) H'):DD vs H Q E
theorem aAi {H:Hp}{Q:VK}{p:Addr}{a b c d e f g:V} (h0:H p=some (.tup [a,b,c,d,e,f,g])) (h:∀q H',H q=none->Same H H'->H' q=some (.tup [d,e,f,g])->Q (.ref q) H'):YI K (.ref p) (some 3) none H Q :=
 ⟨p,_,rfl,SqT.of h0,(by rintro ⟨z,_⟩;revert z;exact(show ¬(3=0) by decide)),fJ h⟩
theorem L1 (m:M K mg):FnOk P w K mg base CX0 1 m.vB m.vM ["_law_spec_here","_law_turn"] (DD):=by
 refine m.jZ.ok sc__law_lets (fun vs H Q E h=> ?_) (fun cdv A outer s H vs Q E hr h=> ?_)
 ·walk_at"g1";obtain⟨q,s',t,rfl,hs,ht,hm1,hm0,k⟩:=h;walk_at"g2";rfl
 ·walk_at"g1";obtain⟨q,s',t,rfl,hs,ht,hm1,hm0,k⟩:=h;walk_at"g2";have nd:=sc__law_lets.nd;walk_at"hu";refine⟨_,(aB (tM (DE UQ (pv 0) (GQ aC) GA) (i3 rfl (aN (aH (i:=2) nd rfl (by walk_at"oi")) (aN (aH (i:=3) nd rfl (by walk_at"oi")) (aN (aH (i:=4) nd rfl (by walk_at"oi")) (aN (aH (i:=5) nd rfl (by walk_at"oi")) cM))))))
   (aB (bR (PW.pt (EH (PW.pt (tG (aW dG (pv 2) aC (aY _)) (o9 (aW j6 (pv 1) (pv 4) (aY _))))) (zG (PW.pt (tG (aW dG (pv 2) aC (aY _)) (o9 (aW E5 (pv 1) (pv 4) (aY _)))))))) (aF (aV aC)) bC)
   (aB (bR (PW.pt (tG (aW dG (pv 2) aC (aY _)) (o9 (PW.pt (EH (aW j6 (pv 1) (pv 4) (aY _)) (zG (aW lX (aI bN (aI kR (pv 1) (pv 4)) (pv 5)) aC (aY _)))))))) (aF (aV aC)) bC)
   (aB (bR (PW.pt (tG (aW dG (pv 2) aC (aY _)) (o9 (aW dG (aI bN (aI SX (pv 5) (pv 1)) aC) aC (aY _))))) (aF (aV aC)) bC)
   (aF (aV (pv 3))))))),?_⟩
  refine aO (σ:=[some (.ref q),some (.int t),none,none,none,none]) rfl ?_;walk_at"cx";walk_at"g1";obtain⟨n,st,e,kd,wd,fi,mo⟩:=s';walk_at"g2";obtain⟨q',hq',eq'⟩:=hs;cases hq';have eq:H q=some (.tup [.str n,.str st,e,.int kd,.int wd,.int fi,.int mo]):=eq';clear eq';have hm1:kd=3->1<=mo:=hm1;have hm0:0<=mo:=hm0;unfold gN at k;simp only[]at k;walk_at"go";refine aAi eq fun q2 H2 n2 S2 e2=> ?_
  by_cases c1:kd=1
  ·by_cases h:t<fi
   ·rw[if_pos (.inl ⟨c1,h⟩)]at k;walk_at"go";exact k _ S2
   ·rw[if_neg (by omega),if_neg (fun z=>by have:=z.1;omega),if_neg (fun z=>by have:=z.1;omega)]at k;walk_at"go";exact k _ S2
  ·by_cases c2:kd=2
   ·by_cases h:fi<=t
    ·rw[if_pos (.inr ⟨c2,h⟩)]at k;walk_at"go";exact k _ S2
    ·rw[if_neg (by omega),if_neg (fun z=>by have:=z.1;omega),if_neg (fun z=>by have:=z.1;omega)]at k;walk_at"go";exact k _ S2
   ·rw[if_neg (by omega)]at k
    by_cases c3:kd=3
    ·have hm:=hm1 c3
     by_cases h:t<fi
     ·rw[if_pos ⟨c3,.inl h⟩]at k;walk_at"go";exact k _ S2
     ·by_cases h2:0<(t - fi)%mo
      ·rw[if_pos ⟨c3,.inr h2⟩]at k;walk_at"go";exact k _ S2
      ·rw[if_neg (fun z=>z.2.elim h h2),if_neg (fun z=>by have:=z.1;omega)]at k;walk_at"go";exact k _ S2
    ·rw[if_neg (fun z=>c3 z.1)]at k
     by_cases c4:kd=4
     ·walk_at"go";refine cA (fun hc=> ?_) (fun hc=> ?_)
      ·rw[if_pos ⟨c4,hc⟩]at k;walk_at"go";exact k _ S2
      ·rw[if_neg (fun z=>hc z.2)]at k;walk_at"go";exact k _ S2
     ·rw[if_neg (fun z=>c4 z.1)]at k;walk_at"go";exact k _ S2
theorem yN (m:M K mg):Fc P w K mg base "_law_lets" 1 ["_law_spec_here","_law_turn"] (DD):=⟨_,_,m.OS,m.jZ.kp,m.OR,L1 m⟩
theorem Mc.mono {C:Addr}{nm:Str}{j k:Nat}{sp:Sp} (F:Mc P w K mg base C nm j sp) (h:j<=k):Mc P w K mg base C nm k sp:=by
 walk_at"g1";obtain⟨f,fd,ps,h1,h2,h3,h4⟩:=F.ex;walk_at"g2";exact⟨f,fd,ps,h1,h2,h3,h4.mono h⟩
abbrev ET (n s e l:V):List (Str×V):=cZ "letting" l (nK n s e (.int 1))
inductive kK (K:W.Frag)(vs:List V)(H:Hp)(Q:VK)(E:XK):Prop
 | mk (p C dx:Addr) (n s:Str) (e l:V) (_:vs=[.ref p,.str n,.str s,e,l]) (_:DCls K C) (_:H p=some (.ins C dx [])) (_:bI n=true) (_:bI s=true) (_:fB e) (_:∀H',SameBut p H H'->H' p=some (.ins C dx (ET (.str n) (.str s) e l))->Q .non H'):kK K vs H Q E
theorem OE {H:Hp}{Q:VK}{E:XK}{p C dx:Addr}{n s:Str}{e l:V} (dc:DCls K C) (hp:H p=some (.ins C dx [])) (hn:bI n=true) (hs:bI s=true) (he:fB e)
  (k:∀H',SameBut p H H'->H' p=some (.ins C dx (ET (.str n) (.str s) e l))->Q .non H'):kK K [.ref p,.str n,.str s,e,l] H Q E:=⟨_,_,_,_,_,_,_,rfl,dc,hp,hn,hs,he,k⟩
theorem CL (m:M K mg):FnOk P w K mg base CX0 4 m.oB m.oE ["self","name","start","end","letting"] (kK K):=by
 refine m.FI.ok sc_Told___init__ (fun vs H Q E h=> ?_) (fun cdv A outer s H vs Q E hr h=> ?_)
 ·walk_at"g1";obtain⟨p,C,dx,n,st,e,l,rfl,dc,hp,hn,hs,he,k⟩:=h;walk_at"g2";rfl
 ·walk_at"g1";obtain⟨p,C,dx,n,st,e,l,rfl,dc,hp,hn,hs,he,k⟩:=h;walk_at"g2";have nd:=sc_Told___init__.nd;walk_at"hu";have DD_Door___init___1:=u6 (P:=P) (w:=w) (base:=base) m;refine⟨_,(aB (bT (aDl DD_Door___init___1 hr (aA (pv 0) (aA (pv 1) (aA (pv 2) (aA (pv 3) aE))))))
   (aF (gQ (pv 0) (pv 4) rfl))),?_⟩
  refine aO (σ:=[some (.ref p),some (.str n),some (.str st),some (e),some (l)]) rfl ?_;walk_at"cx";walk_at"go";refine YZ ?_;walk_at"go";show fG K [.ref p,.str n,.str st,e,.int 1] _ _ _;walk_at"go";exact k _ (by walk_at"sb") (by assumption)
theorem UU (m:M K mg):Kc P w K mg base "Told" m.lR 4 [] (kK K):=⟨_,_,_,_,m.aEp,m.aBV,.nil,m.FK,CL m⟩
theorem YM {H:Hp}{Q:VK}{E:XK}{C:Addr}{vs dvs:List V}{n s:Str}{e l:V} (ev:vs++dvs=[.str n,.str s,e,l]) (dc:DCls K C) (hn:bI n=true) (hs:bI s=true) (he:fB e)
  (k:∀p dx H',H p=none->Same H H'->H' p=some (.ins C dx (ET (.str n) (.str s) e l))->Q (.ref p) H'):rX C (kK K) dvs E Q vs H :=
 oK (fun p dx H0 Q' h k' s0=>by rw[ev];exact OE dc h hn hs he k') k
inductive m8 (P:Program)(w:World)(K:W.Frag)(mg:Str->Option Value)(base:Heap)(vs:List V)(H:Hp)(Q:VK)(E:XK):Prop
 | mk (p C dx:Addr) (fs:List (Str×V)) (t:Int) (F:Addr) (o:Obj) (fd:FuncData) (ps:List Str) (sp:Sp) (_:vs=[.ref p,.int t]) (_:DCls K C) (_:H p=some (.ins C dx fs)) (_:fs.lookup ("letting" :Str)=some (.ref F)) (_:H F=some (kn o)) (_:o.data= .func fd) (_:Binds K fd ps []) (_:FnOk P w K mg base CX0 3 F fd ps sp) (_:sp [.int t] H Q E0):m8 P w K mg base vs H Q E
theorem OA {H:Hp}{Q:VK}{E:XK}{p C dx:Addr}{fs:List (Str×V)}{t:Int}{F:Addr}{o:Obj}{fd:FuncData}{ps:List Str}{sp:Sp} (hp:H p=some (.ins C dx fs)) (dc:DCls K C) (l:fs.lookup ("letting" :Str)=some (.ref F)) (hF:H F=some (kn o)) (hd:o.data= .func fd)
  (hb:Binds K fd ps [])(hf:FnOk P w K mg base CX0 3 F fd ps sp)(k:sp [.int t] H Q E0):m8 P w K mg base [.ref p,.int t] H Q E:=⟨_,_,_,_,_,_,_,_,_,_,rfl,dc,hp,l,hF,hd,hb,hf,k⟩
theorem MH (m:M K mg):FnOk P w K mg base CX0 4 m.vI m.vJ ["self","turn"] (m8 P w K mg base):=by
 refine m.OW.ok sc_Told_lets (fun vs H Q E h=> ?_) (fun cdv A outer s H vs Q E hr h=> ?_)
 ·walk_at"g1";obtain⟨p,C,dx,fs,t,F,o,fd,ps,sp,rfl,dc,hp,l,hF,hd,hb,hf,k⟩:=h;walk_at"g2";rfl
 ·walk_at"g1";obtain⟨p,C,dx,fs,t,F,o,fd,ps,sp,rfl,dc,hp,l,hF,hd,hb,hf,k⟩:=h;walk_at"g2";have nd:=sc_Told_lets.nd;walk_at"hu";refine⟨_,(aB (aP (i:=2) nd rfl (by walk_at"oi") (bV (pv 0) rfl))
   (aF (aV (Y0 3 2 hr (aA (pv 1) aE))))),?_⟩
  refine aO (σ:=[some (.ref p),some (.int t),none]) rfl ?_;walk_at"cx";walk_at"go";refine⟨F,o,fd,rfl,hF,hd,?_⟩;walk_at"go";exact⟨ps,sp,hF,hb,hf,k⟩
theorem M3 (m:M K mg):Mc P w K mg base m.lR "lets" 4 (m8 P w K mg base):=⟨_,_,_,m.wF.ic.cl,m.M7,m.O4,MH m⟩
theorem aBA {H:Hp}{p dx:Addr}{n st:Str}{e:V}{wd:Int} (m:M K mg) (h:H p=some (.ins m.i6 dx (nK (.str n) (.str st) e (.int wd)))):(aX P w K mg base (some 4)).at' H (.ref p) (n,st,e,fun _=>wd) :=
 ⟨p,_,dx,_,[],rfl,h,m.wD,by walk_at"lk",by walk_at"lk",by walk_at"lk",by walk_at"lk",by walk_at"lk",EV m,(fun _ z=>nomatch z),fun kl hk=>by
  cases hk;exact⟨_,Mc.mono (LF m) (by decide),fun H' t Q hp _ ht k=>OJ hp m.wD (by walk_at"lk") (k _ (Same.refl _))⟩⟩
theorem XE {H:Hp}{p dx:Addr}{n st:Str}{e:V}{wd i0:Int} (m:M K mg) (b0:0<=i0) (h:H p=some (.ins m.j4 dx (AQ (.str n) (.str st) e (.int wd) (.int i0)))):(aX P w K mg base (some 4)).at' H (.ref p) (n,st,e,vV wd i0) :=
 ⟨p,_,dx,_,[],rfl,h,m.tU,by walk_at"lk",by walk_at"lk",by walk_at"lk",by walk_at"lk",by walk_at"lk",CT m,(fun _ z=>nomatch z),fun kl hk=>by
  cases hk;exact⟨_,Mc.mono (JP m) (by decide),fun H' t Q hp _ ht k=>zK hp m.tU (by walk_at"lk") (by walk_at"lk") ht b0 (k _ (Same.refl _))⟩⟩
theorem W4 {H:Hp}{p dx:Addr}{n st:Str}{e:V}{wd i0:Int} (m:M K mg) (b0:0<=i0) (h:H p=some (.ins m.jX dx (AU (.str n) (.str st) e (.int wd) (.int i0)))):(aX P w K mg base (some 4)).at' H (.ref p) (n,st,e,vQ wd i0) :=
 ⟨p,_,dx,_,[],rfl,h,m.uF,by walk_at"lk",by walk_at"lk",by walk_at"lk",by walk_at"lk",by walk_at"lk",CV m,(fun _ z=>nomatch z),fun kl hk=>by
  cases hk;exact⟨_,Mc.mono (JF m) (by decide),fun H' t Q hp _ ht k=>yP hp m.uF (by walk_at"lk") (by walk_at"lk") ht b0 (k _ (Same.refl _))⟩⟩
theorem aBL {H:Hp}{p dx:Addr}{n st:Str}{e:V}{wd i0 i1:Int} (m:M K mg) (b0:1<=i0) (b1:0<=i1) (h:H p=some (.ins m.lQ dx (EA (.str n) (.str st) e (.int wd) (.int i0) (.int i1)))):(aX P w K mg base (some 4)).at' H (.ref p) (n,st,e,AM wd i0 i1) :=
 ⟨p,_,dx,_,[],rfl,h,m.wH,by walk_at"lk",by walk_at"lk",by walk_at"lk",by walk_at"lk",by walk_at"lk",FB m,(fun _ z=>nomatch z),fun kl hk=>by
  cases hk;exact⟨_,Mc.mono (MO m) (by decide),fun H' t Q hp _ ht k=>CA hp m.wH (by walk_at"lk") (by walk_at"lk") (by walk_at"lk") ht b0 b1 (k _ (Same.refl _))⟩⟩
theorem S0 {H:Hp}{p dx:Addr}{n st:Str}{e:V}{wd i0:Int} (m:M K mg) (b0:0<=i0) (h:H p=some (.ins m.iO dx (wU (.str n) (.str st) e (.int wd) (.int i0)))):(aX P w K mg base (some 4)).at' H (.ref p) (n,st,e,sV wd i0) :=
 ⟨p,_,dx,_,[],rfl,h,m.qU,by walk_at"lk",by walk_at"lk",by walk_at"lk",by walk_at"lk",by walk_at"lk",BL m,(fun _ z=>nomatch z),fun kl hk=>by
  cases hk;exact⟨_,Mc.mono (F6 m) (by decide),fun H' t Q hp _ ht k=>yC hp m.qU (by walk_at"lk") (by walk_at"lk") ht b0 (k _ (Same.refl _))⟩⟩
theorem aD6 {kL:Option Nat}{H H':Hp}{v:V}{d:aG} (h:DoorAt P w K mg base kL H v d) (T:SameT H H'):DoorAt P w K mg base kL H' v d:=by
 walk_at"g1";obtain⟨p,C,dx,fs,fp,e,hp,dc,l1,l2,l3,l4,l5,mc,hf,lt⟩:=h;walk_at"g2";exact⟨p,C,dx,fs,fp,e,T _ _ hp (fun ps z=>by cases z),dc,l1,l2,l3,l4,l5,mc,fun x hx=>⟨T _ _ (hf x hx).1 (fun ps z=>(hf x hx).2 (by rw[z];trivial)),(hf x hx).2⟩,lt⟩
theorem aAp {sc:Scope}{y:Str} (h:∀q∈sc.names,q.2= .free->q.1=y):∀z,sc.names.lookup z=some .free->z=y:=fun z e=>h (z,.free) (PySem.mem_of_lookup e) rfl
inductive MT (F c:Addr)(fd:FuncData)(qual:Str)(args:Arguments)(body:Expr)(sc:Scope)(cell:Int)(vs:List V)(H:Hp)(Q:VK)(E:XK):Prop
 | mk (t:Int) (_:vs=[.int t]) (_:LamAt H F fd qual args body sc "_law_wide" c) (_:KQ H c (.int cell)) (_:Q (.int cell) H):MT F c fd qual args body sc cell vs H Q E
theorem aCJ {qual:Str}{args:Arguments}{body:Expr}{sc:Scope}{F c:Addr}{fd:FuncData}{cell:Int}{G:Hp} (hL:LamAt G F fd qual args body sc "_law_wide" c) (hk:sc.kind= .function) (hco:sc.isCoroutine=false) (hgen:sc.isGenerator=false) (hcell:∀z∈sc.names,z.2≠ .cell)
  (hx:sc.names.lookup ("_law_turn" :Str)=some .local)(hfree:∀z,sc.names.lookup z=some .free->z= "_law_wide")(hy:sc.names.lookup ("_law_wide" :Str)=some .free)
  (hb:∀(cdv:Value) (A:Around) (outer:List Env) (s:Shared) (H:Hp) (E:XK),PE (cxL CX0 P w K mg base ["_law_turn","_law_wide"] qual sc F cdv [("_law_wide",c)] A outer s H E).nox body (i4 1)) :
  FnOk P w K mg base CX0 3 F fd ["_law_turn"] (MT F c fd qual args body sc cell):=by
 refine aAY (qual:=qual) (args:=args) (body:=body) (c:=c) (v:= .int cell) hk hco hgen hcell hx hfree hy (fun vs H Q E h=> ?_) fun cdv A outer s H a Q E hr h=> ?_
 ·walk_at"g1";obtain⟨t,e,L,kc,_⟩:=h;walk_at"g2";exact⟨.int t,e,L,kc⟩
 ·walk_at"g1";obtain⟨t,e,L,kc,k⟩:=h;walk_at"g2";cases e;refine⟨_,hb cdv A outer s (off H c) E,fun o ho=> ?_⟩;walk_at"go";rw[X8 ho];exact k
theorem aBb (m:M K mg){H:Hp}{p dx F c:Addr}{nm st:Str}{e:V}{fd:FuncData}{qual:Str}{args:Arguments}{body:Expr}{sc:Scope}{cell:Int} (hp:H p=some (.ins m.lR dx (ET (.str nm) (.str st) e (.ref F))))
  (hL:LamAt H F fd qual args body sc "_law_wide" c)(kc:KQ H c (.int cell))(hbd:Binds K fd ["_law_turn"] [])(FL:FnOk P w K mg base CX0 3 F fd ["_law_turn"] (MT F c fd qual args body sc cell)) :
  (aX P w K mg base (some 4)).at' H (.ref p) (nm,st,e,fun _=>cell):=by
 walk_at"g1";obtain⟨c',pm,ctv,oc,fv,tt,hfd,hF,hc',hdc,hfv⟩:=id hL;walk_at"g2";walk_at"g1";obtain⟨oC,uC,hC,hdC,rC⟩:=id kc;walk_at"g2";refine⟨p,_,dx,_,[(F,kn (W.kla_obj "<lambda>" qual args body sc [("_law_wide",c)] pm c' ctv)),(c',kn oc),(c,kn oC)],rfl,hp,m.wF,by walk_at"lk",by walk_at"lk",by walk_at"lk",by walk_at"lk",by walk_at"lk",EQ m,?_,fun kl hk=> ?_⟩
 ·intro x hx;simp only[List.mem_cons,List.not_mem_nil,or_false]at hx;rcases hx with rfl|rfl|rfl
  ·exact⟨hF,fun z=>z⟩
  ·exact⟨hc',fun z=>z⟩
  ·exact⟨hC,fun z=>z⟩
 ·cases hk;refine⟨_,Mc.mono (M3 m) (by decide),fun H' t Q hp' hfp ht k=> ?_⟩;have gF:=hfp _ (.head _);have gc':=hfp _ (.tail _ (.head _));have gC:=hfp _ (.tail _ (.tail _ (.head _)));exact OA hp' m.wF (by walk_at"lk") gF (by rw[hfd]) hbd FL ⟨t,rfl,⟨c',pm,ctv,oc,fv,tt,hfd,gF,gc',hdc,hfv⟩,⟨oC,uC,gC,hdC,rC⟩,k _ (Same.refl _)⟩
theorem aFu {s:SpecD}(h:s.kd=0∨s.kd=5):gN s=fun _=>s.wd:=funext fun t=>by
 unfold gN;rw[if_neg (by omega),if_neg (fun z=>by have:=z.1;omega),if_neg (fun z=>by have:=z.1;omega)]
theorem aFy {s:SpecD}(h:s.kd=1):gN s=vV s.wd s.fi:=funext fun t=>by
 unfold gN vV
 by_cases c:t<s.fi
 ·rw[if_pos (.inl ⟨h,c⟩),if_neg (by omega)]
 ·rw[if_neg (by omega),if_neg (fun z=>by have:=z.1;omega),if_neg (fun z=>by have:=z.1;omega),if_pos (by omega)]
theorem aFr {s:SpecD}(h:s.kd=2):gN s=vQ s.wd s.fi:=funext fun t=>by
 unfold gN vQ
 by_cases c:t<s.fi
 ·rw[if_neg (by omega),if_neg (fun z=>by have:=z.1;omega),if_neg (fun z=>by have:=z.1;omega),if_pos (by omega)]
 ·rw[if_pos (.inr ⟨h,by omega⟩),if_neg (by omega)]
theorem aFx {s:SpecD}(h:s.kd=3)(hm:1<=s.mo):gN s=AM s.wd s.mo s.fi:=funext fun t=>by
 unfold gN AM;have h0:=Int.emod_nonneg (t - s.fi) (show s.mo≠0 by omega);rw[if_neg (by omega)]
 by_cases c:t<s.fi∨0<(t - s.fi)%s.mo
 ·rw[if_pos ⟨h,c⟩,if_neg (by omega)]
 ·rw[if_neg (fun z=>c z.2),if_neg (fun z=>by have:=z.1;omega),if_pos (by omega)]
theorem aFo {s:SpecD}(h:s.kd=4):gN s=sV s.wd s.mo:=funext fun t=>by
 unfold gN sV;rw[if_neg (by omega),if_neg (fun z=>by have:=z.1;omega)]
 by_cases c:s.mo/2^t.toNat%2=0
 ·rw[if_pos ⟨h,c⟩,if_neg (by omega)]
 ·rw[if_neg (fun z=>c z.2),if_pos (by omega)]
def aZ (s:SpecD):aG:=(s.n,s.st,s.e,gN s)
abbrev qL:Str:=("_law_door" :Str)++ ".<locals>." ++ "<lambda>"
abbrev pL:Pos:=⟨362,54,362,81⟩
inductive wS (P:Program)(w:World)(K:W.Frag)(mg:Str->Option Value)(base:Heap)(PL:Addr)(vs:List V)(H:Hp)(Q:VK)(E:XK):Prop
 | mk (q:Addr) (s:SpecD) (rs:List bE) (f:Int) (_:vs=[.ref q]) (_:dE H (.ref q) s) (_:kN rs f s) (_:0<=f) (_:TabS H PL pL qL) (_:∀v H',SameT H H'->TabS H' PL pL qL->(aX P w K mg base (some 4)).at' H' v (aZ s)->Q v H'):wS P w K mg base PL vs H Q E
theorem aAv {PL:Addr}{H:Hp}{Q:VK}{E:XK}{q:Addr}{s:SpecD}{rs:List bE}{f:Int} (hs:dE H (.ref q) s) (so:kN rs f s) (hf:0<=f) (ht:TabS H PL pL qL) (k:∀v H',SameT H H'->TabS H' PL pL qL->(aX P w K mg base (some 4)).at' H' v (aZ s)->Q v H'):wS P w K mg base PL [.ref q] H Q E:=⟨_,_,_,_,rfl,hs,so,hf,ht,k⟩
local macro_rules| `(tactic| walk_at"rd1")=> `(tactic| first|(with_reducible refine aBS ?_)|(with_reducible refine aBd ?_))
theorem MI (m:M K mg){cL PL:Addr}(hcL:m.gA.code= .ref cL)(hCL:W.CodeHd base cL PL)(hBL:base.BuiltinsAt mg PL):FnOk P w K mg base CX0 6 m.vN m.gA ["_law_spec_here"] (wS P w K mg base PL):=by
 refine m.qK.okR sc__law_door (i:=5) (y:= "_law_wide") rfl (by kernel_rfl) (fun vs H Q E h=> ?_) (fun cdv A outer s H vs Q E c hcd hc hr h=> ?_)
 ·walk_at"g1";obtain⟨q,s',rs,f,rfl,hs,so,hf,hPL,k⟩:=h;walk_at"g2";rfl
 ·walk_at"g1";obtain⟨q,s',rs,f,rfl,hs,so,hf,hPL,k⟩:=h;walk_at"g2";have nd:=sc__law_door.nd;walk_at"hu";obtain rfl:=hcd.symm.trans hcL;obtain rfl:s.heap.objs.size+1=c:=Option.some.inj ((show _=some (s.heap.objs.size+1) from by kernel_rfl).symm.trans hc);have K_Beat_0:= @TL P w K mg base m;have K_Door_0:= @SY P w K mg base m;have K_Marked_0:= @OI P w K mg base m;have K_Since_0:= @RD P w K mg base m;have K_Told_0:= @UU P w K mg base m;have K_Until_0:= @Q9 P w K mg base m;have w_dc_Door:=m.wD;have w_dc_Since:=m.tU;have w_dc_Until:=m.uF;have w_dc_Beat:=m.wH;have w_dc_Marked:=m.qU;have w_dc_Told:=m.wF;refine⟨_,(oP (tM (pv 0) (i3 rfl (aN (aH (i:=1) nd rfl (by walk_at"oi")) (aN (aH (i:=2) nd rfl (by walk_at"oi")) (aN (aH (i:=3) nd rfl (by walk_at"oi")) (aN (aH (i:=4) nd rfl (by walk_at"oi")) (aN (aH (i:=5) nd rfl (by walk_at"oi")) (aN (aH (i:=6) nd rfl (by walk_at"oi")) (aN (aH (i:=7) nd rfl (by walk_at"oi")) cM)))))))))
   (oP (bR (aW dG (pv 4) aC (aY _)) (aF (aV (w5 K_Door_0 hr (aA (pv 1) (aA (pv 2) (aA (pv 3) (aA (pv 5) aE))))))) bC)
   (oP (bR (aW dG (pv 4) aC (aY _)) (aF (aV (w5 K_Since_0 hr (aA (pv 1) (aA (pv 2) (aA (pv 3) (aA (pv 5) (aA (pv 6) aE)))))))) bC)
   (oP (bR (aW dG (pv 4) aC (aY _)) (aF (aV (w5 K_Until_0 hr (aA (pv 1) (aA (pv 2) (aA (pv 3) (aA (pv 5) (aA (pv 6) aE)))))))) bC)
   (oP (bR (aW dG (pv 4) aC (aY _)) (aF (aV (w5 K_Beat_0 hr (aA (pv 1) (aA (pv 2) (aA (pv 3) (aA (pv 5) (aA (pv 7) (aA (pv 6) aE))))))))) bC)
   (oP (bR (aW dG (pv 4) aC (aY _)) (aF (aV (w5 K_Marked_0 hr (aA (pv 1) (aA (pv 2) (aA (pv 3) (aA (pv 5) (aA (pv 7) aE)))))))) bC)
   (aBh (w5 K_Told_0 hr (aA (pv 1) (aA (pv 2) (aA (pv 3) (aA (aAC (y:= "_law_wide") (c:=s.heap.objs.size+1) rfl hCL hBL rfl) aE)))))))))))),?_⟩
  refine UJ (σ:=[some (.ref q),none,none,none,none,none,none,none]) rfl ?_;walk_at"g1";obtain⟨hnm,hsm,-,heo,-,hk0,hk1,hw0,hf0,hm0,hm1,-⟩:=so;walk_at"g2";have fx0:=aFu (s:=s');have fx1:=aFy (s:=s');have fx2:=aFr (s:=s');have fx3:=aFx (s:=s');have fx4:=aFo (s:=s');unfold aZ at k;generalize gN s'=LS at k fx0 fx1 fx2 fx3 fx4;walk_at"g1";obtain⟨n,st,e,kd,wd,fi,mo⟩:=s';walk_at"g2";obtain⟨q',hq',eq'⟩:=hs;cases hq';have eq:H q=some (.tup [.str n,.str st,e,.int kd,.int wd,.int fi,.int mo]):=eq';clear eq';simp only[]at hnm hsm heo hk0 hk1 hw0 hf0 hm0 hm1 k fx0 fx1 fx2 fx3 fx4;walk_at"go";refine cA (fun h0=> ?_) (fun h0=> ?_)
  ·rw[fx0 (.inl h0)]at k;walk_at"go";rename_i p dx H2 n2 S2 e2;exact k _ _ (Same.t S2) (hPL.same S2) (aBA (P:=P) (w:=w) (base:=base) m e2)
  walk_at"go";refine cA (fun h1=> ?_) (fun h1=> ?_)
  ·rw[fx1 h1]at k;walk_at"go";rename_i p dx H2 n2 S2 e2;exact k _ _ (Same.t S2) (hPL.same S2) (XE (P:=P) (w:=w) (base:=base) m (by omega) e2)
  walk_at"go";refine cA (fun h2=> ?_) (fun h2=> ?_)
  ·rw[fx2 h2]at k;walk_at"go";rename_i p dx H2 n2 S2 e2;exact k _ _ (Same.t S2) (hPL.same S2) (W4 (P:=P) (w:=w) (base:=base) m (by omega) e2)
  walk_at"go";refine cA (fun h3=> ?_) (fun h3=> ?_)
  ·rw[fx3 h3 (hm1 h3)]at k;have hm1':=hm1 h3;walk_at"go";rename_i p dx H2 n2 S2 e2;exact k _ _ (Same.t S2) (hPL.same S2) (aBL (P:=P) (w:=w) (base:=base) m (hm1 h3) (by omega) e2)
  walk_at"go";refine cA (fun h4=> ?_) (fun h4=> ?_)
  ·rw[fx4 h4]at k;walk_at"go";rename_i p dx H2 n2 S2 e2;exact k _ _ (Same.t S2) (hPL.same S2) (S0 (P:=P) (w:=w) (base:=base) m hm0 e2)
  walk_at"go";refine⟨hPL,fun F fd G4 hFn hL T hT4=> ?_⟩;have FL:=fun (cell:Int)=>aCJ (P:=P) (w:=w) (K:=K) (mg:=mg) (base:=base) (cell:=cell) hL rfl rfl rfl (by decide +kernel) (by kernel_rfl) (aAp (by decide +kernel)) (by kernel_rfl) (fun cdv A outer s H E=>pv 1);have hbd:Binds K fd ["_law_turn"] []:=by
   walk_at"g1";obtain⟨c',pm,ctv,oc,fv,tt,rfl,_⟩:=id hL;walk_at"g2";exact Binds.all<|aL 1 _ fun _=>rfl
  walk_at"go";refine YM rfl w_dc_Told hnm hsm heo fun p5 dx5 G5 n5 S5 e5=> ?_;refine⟨_,rfl,fun H6 S6 nc kc=> ?_⟩;rw[fx0 (by omega)]at k;exact k _ _ ((T.snoc S5).snoc S6) ((hT4.same S5).same S6) (aBb (P:=P) (w:=w) (base:=base) m (S6 _ _ e5) ((hL.same S5).same S6) kc hbd (FL wd))
theorem K3 (m:M K mg){cL PL:Addr}(hcL:m.gA.code= .ref cL)(hCL:W.CodeHd base cL PL)(hBL:base.BuiltinsAt mg PL):Fc P w K mg base "_law_door" 6 ["_law_spec_here"] (wS P w K mg base PL):=⟨_,_,m.O0,m.qK.kp,m.OP,MI m hcL hCL hBL⟩
structure fH (H:Hp)(q p1 p2 p3:Addr)(us ws:List V)(rs:List bE)(ss:List SpecD)(f l:Int):Prop where
 eq:H q=some (.tup [.ref p1,.ref p2,.ref p3])
 e1:H p1=some (.lst us)
 e2:H p2=some (.lst ws)
 e3:H p3=some (.tup [.int f,.int l])
 ru:Paired (eK H) us rs
 sw:Paired (dE H) ws ss
 ro:nQ rs
 so:∀s∈ss,kN rs f s
 nd:(ss.map (·.n)).Nodup
 l7:ss.length<=7
 f0:0<=f
 f1:f<100000000000
 fl:f<=l
 fl7:l<=f+7
theorem PV {H H':Hp}{us:List V}{ss:List SpecD} (h:Paired (dE H) us ss) (s:Same H H'):Paired (dE H') us ss:=Paired.imp' (fun v d ⟨q,e,h⟩=>⟨q,e,s _ _ h⟩) h
theorem aDi {H H':Hp}{us:List V}{ss:List SpecD} (h:Paired (dE H) us ss) (s:SameT H H'):Paired (dE H') us ss:=Paired.imp' (fun v d ⟨q,e,h⟩=>⟨q,e,s.tup h⟩) h
theorem aCC {H H':Hp}{us:List V}{ss:List bE} (h:Paired (eK H) us ss) (s:SameT H H'):Paired (eK H') us ss:=Paired.imp' (fun v d ⟨q,e,h⟩=>⟨q,e,s.tup h⟩) h
theorem C7 {H:Hp}{rs:List bE}{f:Int}:∀{l:List Nat}{ys:List V},Paired (fun i y=>∃s c,dE H y s/\kN rs f s/\s.n=wnF c (20+(i:Nat))) l ys->(∀i∈l,i<7)->l.Nodup →
  ∃ss,Paired (dE H) ys ss/\(∀s∈ss,kN rs f s)/\(ss.map (·.n)).Nodup/\(∀s∈ss,∃i∈l,∃c,s.n=wnF c (20+(i:Nat)))/\ss.length=l.length
 | _,_,.nil,_,_=>⟨[],.nil,(fun _ z=>nomatch z),List.nodup_nil,(fun _ z=>nomatch z),rfl⟩
 | i::l,_,.cons ⟨s,c,h1,h2,h3⟩ t,h7,nd=>by
  walk_at"g1";obtain⟨ss,g1,g2,g3,g4,g5⟩:=C7 t (fun j hj=>h7 j (List.mem_cons_of_mem _ hj)) (List.nodup_cons.mp nd).2;walk_at"g2";refine⟨s::ss,.cons h1 g1,fun x hx=> ?_,?_,fun x hx=> ?_,by rw[List.length_cons,List.length_cons,g5]⟩
  ·rcases List.mem_cons.mp hx with rfl|hx
   ·exact h2
   ·exact g2 x hx
  ·rw[List.map_cons,List.nodup_cons];refine⟨fun z=> ?_,g3⟩;obtain⟨x,hx,e⟩:=List.mem_map.mp z;walk_at"g1";obtain⟨j,hj,c',e'⟩:=g4 x hx;walk_at"g2";have hi7:=h7 i (.head _);have hj7:=h7 j (List.mem_cons_of_mem _ hj);have e:=e'.symm.trans (e.trans h3);have:=P0 (by omega) (by omega) (by omega) (by omega) e;have hij:i=j:=by omega
   exact(List.nodup_cons.mp nd).1 (hij▸hj)
  ·rcases List.mem_cons.mp hx with rfl|hx
   ·exact⟨i,.head _,c,h3⟩
   ·obtain⟨j,hj,r⟩:=g4 x hx;exact⟨j,List.mem_cons_of_mem _ hj,r⟩
inductive mZ (K:W.Frag)(vs:List V)(H:Hp)(Q:VK)(E:XK):Prop
 | mk (a:Addr) (ns:List Int) (_:vs=[.ref a]) (_:SqL K H a (ns.map V.int)) (_:ns.length<=63) (_:∀q p1 p2 p3 us ws rs ss f l H',Same H H'->fH H' q p1 p2 p3 us ws rs ss f l->Q (.ref q) H'):mZ K vs H Q E
theorem K6 {H:Hp}{Q:VK}{E:XK}{a:Addr}{ns:List Int} (hS:SqL K H a (ns.map V.int)) (hl:ns.length<=63) (k:∀q p1 p2 p3 us ws rs ss f l H',Same H H'->fH H' q p1 p2 p3 us ws rs ss f l->Q (.ref q) H'):mZ K [.ref a] H Q E:=⟨_,_,rfl,hS,hl,k⟩
theorem V5 (ns:List Int):(List.range (Int.toNat 4)).map (fun i:Nat=>V.int (iP ns (i:Int)))=[.int (iP ns 0),.int (iP ns 1),.int (iP ns 2),.int (iP ns 3)]:=rfl
theorem KM {ns:List Int}{i:Nat} (h:i<(min ((ns.length:Int) - 4) 7).toNat):4+i<ns.length/\i<7:=by omega
theorem y0 (m:M K mg):FnOk P w K mg base CX0 4 m.lB m.lL ["_law_script"] (mZ K):=by
 refine m.iS.ok sc__law_drawn_told (fun vs H Q E h=> ?_) (fun cdv A outer s H vs Q E hr h=> ?_)
 ·walk_at"g1";obtain⟨a,ns,rfl,hS,hlen,k⟩:=h;walk_at"g2";rfl
 ·walk_at"g1";obtain⟨a,ns,rfl,hS,hlen,k⟩:=h;walk_at"g2";have nd:=sc__law_drawn_told.nd;walk_at"hu";have cS:= @nF P w K mg base m;have eF:= @oW P w K mg base m;have iR:= @zH P w K mg base m;have jI:= @BG P w K mg base m;refine⟨_,(aB (d4 (i:=1) nd rfl (by walk_at"oi") (N:=["_law_k","_law_script"]) (nl:=1) (ci:=[0]) rfl (blk (s.heap.objs.size+1) rfl rfl rfl (by kernel_rfl)) (i8 rfl m.fA (aA aC aE)) (fun _ _ _ _=>(aH (i:=0) (show (["_law_k","_law_script"]:List Str).Nodup by decide +kernel) rfl (by walk_at"oi"))) (fun _ _ _ _=>fC) (fun _ _ _ _=>(bF cS hr (aA (pv 1) (aA (pv 0) aE)))))
   (aB (aP (i:=2) nd rfl (by walk_at"oi") (bF iR hr (aA (pv 1) aE)))
   (aB (tM (bF eF hr (aA (bA b9 (pv 1) aC (fun _ _=>rfl)) (aA (dU (aA aC (aA (gD 100000000000 (by decide) ⟨by decide,by decide,by decide⟩) aE))) aE))) (O5 rfl (aN (aH (i:=3) nd rfl (by walk_at"oi")) (aN (aH (i:=4) nd rfl (by walk_at"oi")) cM))))
   (aB (aP (i:=5) nd rfl (by walk_at"oi") (bU (aA (pv 4) (aA (aI bO (pv 4) (pv 3)) aE))))
   (aB (d4 (i:=6) nd rfl (by walk_at"oi") (N:=["_law_k","_law_rooms_here","_law_turns","_law_script"]) (nl:=1) (ci:=[2,5,0]) rfl (blk (s.heap.objs.size+1) rfl rfl rfl (by kernel_rfl)) (i8 rfl m.fA (aA (bP (kJ rfl) rfl m.xX sW (aA (aI kR (bP jA rfl m.sO nL (aA (pv 0) aE)) aC) (aA aC aE))) aE)) (fun _ _ _ _=>(aH (i:=0) (show (["_law_k","_law_rooms_here","_law_turns","_law_script"]:List Str).Nodup by decide +kernel) rfl (by walk_at"oi"))) (fun _ _ _ _=>fC) (fun _ _ _ _=>(bF jI hr (aA (bA (L6 (K:=K)) (pv 3) (aI bO aC (pv 0)) (fun _ _=>rfl)) (aA (pv 0) (aA (pv 1) (aA (pv 2) aE)))))))
   (aF (aV (bU (aA (pv 2) (aA (pv 6) (aA (pv 5) aE))))))))))),?_⟩
  refine aO (σ:=[some (.ref a),none,none,none,none,none,none]) rfl ?_;walk_at"cx";walk_at"go";refine ME (fun i=> .int (iP ns (i:Int))) (by decide) (rest:=[some (.ref a)]) (by rfl) ?_ ?_
  ·intro i H1 hi s1 R hR;walk_at"go";rw[Int.zero_add];exact hR _ (Same.refl _)
  intro H1 S1;rw[V5];walk_at"go";rename_i p2 H2 n2 S2 e2;refine MW e2 fun p4 us rs H4 n4 S4 e4 hr4 ro=> ?_;have e24:=S4 _ _ e2;walk_at"go";rename_i p5 H5 n5 S5 e5;refine yV (bs:=[8,100000000000]) (SqL.of e5) (fun x hx=>by
   simp only[List.mem_cons,List.not_mem_nil,or_false]at hx;rcases hx with rfl|rfl<;>omega) (show 2<=20 by decide) fun p6 ds H6 n6 S6 e6 hds=> ?_
  walk_at"g1";obtain⟨mo,t1,rfl,hm,hds⟩:=i9 hds;walk_at"g2";walk_at"g1";obtain⟨fi,t2,rfl,hf,hds⟩:=i9 hds;walk_at"g2";obtain rfl:=KZ hds;have e6':H6 p6=some (.lst [.int mo,.int fi]):=e6;walk_at"go";rename_i p7 H7 n7 S7 e7;have s07:Same H H7:=(S1.trans S2).trans (S4.trans (S5.trans (S6.trans S7)));have s47:Same H4 H7:=S5.trans (S6.trans S7);have hS7:=s07.seq hS;have e47:=s47 _ _ e4;have hr7:=k3 hr4 s47;walk_at"go";rw[List.length_map];refine UG (fun i y H=>∃s c,dE H y s/\kN rs fi s/\s.n=wnF c (20+(i:Nat))) (fun _ _ _ _ ⟨s,c,⟨q,h1,h2⟩,h3⟩ s2=>⟨s,c,⟨q,h1,s2 _ _ h2⟩,h3⟩) (by rw[sizeLine_eq];omega) (rest:=[some (.ref p4),some (.ref p7),some (.ref a)]) (by rfl) ?_ ?_
  ·intro i H8 hi s8 R hR;have h47:=KM hi;have hS8:=s8.seq hS7;have e48:=s8 _ _ e47;have e78:=s8 _ _ e7;have hr8:=k3 hr7 s8;walk_at"go";refine qM hS8 (by omega) (by rw[List.length_map];omega) fun v hv=> ?_;obtain⟨c,hc,rfl⟩:=List.mem_map.mp hv;walk_at"go";refine P8 (by omega) (by omega) (SqL.of e48) hr8 ro e78 fun q s H9 S9 hs so hn=> ?_;rw[Int.zero_add]at hn;exact hR _ _ ⟨s,c,hs,so,hn⟩ S9
  intro ys H8 s8 hys;walk_at"g1";obtain⟨ss,g1,g2,g3,g4,g5⟩:=C7 hys (fun i hi=>(KM (List.mem_range.mp hi)).2) List.nodup_range;walk_at"g2";rw[List.length_range]at g5;walk_at"go";rename_i p9 H9 n9 S9 e9 pA HA nA SA eA;have s79:Same H7 HA:=s8.trans (S9.trans SA);refine k _ _ _ _ _ _ _ _ _ _ _ (s07.trans s79) ⟨eA,s79 _ _ e47,SA _ _ e9,s79 _ _ e7,k3 hr7 s79,PV g1 (S9.trans SA),ro,g2,g3,by omega,hf.1,hf.2,by omega,by omega⟩
theorem zJ (m:M K mg):Fc P w K mg base "_law_drawn_told" 4 ["_law_script"] (mZ K):=⟨_,_,m.BQ,m.iS.kp,m.BV,y0 m⟩
theorem IU (m:M K mg):FnOk P w K mg base CX0 5 m.uM m.uH ["_law_script"] (mZ K):=by
 refine m.nU.ok sc__law_drawn (fun vs H Q E h=> ?_) (fun cdv A outer s H vs Q E hr h=> ?_)
 ·walk_at"g1";obtain⟨a,ns,rfl,hS,hlen,k⟩:=h;walk_at"g2";rfl
 ·walk_at"g1";obtain⟨a,ns,rfl,hS,hlen,k⟩:=h;walk_at"g2";have nd:=sc__law_drawn.nd;walk_at"hu";have cS:= @nF P w K mg base m;have iS:= @zJ P w K mg base m;have cE:= @jM P w K mg base m;have oG:= @JH P w K mg base m;have qJ:= @MS P w K mg base m;refine⟨_,(aB (bR (aW dG (aI bN (bF cS hr (aA (pv 0) (aA aC aE))) aC) aC (aY _)) (aF (aV (bF iS hr (aA (pv 0) aE)))) bC)
   (aB (d4 (i:=1) nd rfl (by walk_at"oi") (N:=["_law_k","_law_script"]) (nl:=1) (ci:=[0]) rfl (blk (s.heap.objs.size+1) rfl rfl rfl (by kernel_rfl)) (i8 rfl m.fA (aA aC aE)) (fun _ _ _ _=>(aH (i:=0) (show (["_law_k","_law_script"]:List Str).Nodup by decide +kernel) rfl (by walk_at"oi"))) (fun _ _ _ _=>fC) (fun _ _ _ _=>(bF cS hr (aA (pv 1) (aA (pv 0) aE)))))
   (aB (aP (i:=2) nd rfl (by walk_at"oi") (bF oG hr (aA (pv 1) aE)))
   (aB (aP (i:=3) nd rfl (by walk_at"oi") (bA b9 (dU (aA aC (aA (aI bN (bF cE hr (aA (bA b9 (pv 1) aC (fun _ _=>rfl)) (aA aC aE))) aC) aE))) (aI bN (bA b9 (pv 1) aC (fun _ _=>rfl)) aC) (fun _ _=>rfl)))
   (aB (bR (aW dG (aI bN (aI cI (bA b9 (pv 1) aC (fun _ _=>rfl)) aC) aC) aC (aY _)) (aF (aP (i:=3) nd rfl (by walk_at"oi") (aI bN (aI cI (bA b9 (pv 1) aC (fun _ _=>rfl)) aC) (gD 100000000000 (by decide) ⟨by decide,by decide,by decide⟩)))) bC)
   (aB (aP (i:=4) nd rfl (by walk_at"oi") (bU (aA (pv 3) (aA (aI bO (pv 3) (aI bN (bF cE hr (aA (bA b9 (pv 1) aC (fun _ _=>rfl)) (aA aC aE))) aC)) aE))))
   (aB (d4 (i:=5) nd rfl (by walk_at"oi") (N:=["_law_k","_law_rooms_here","_law_turns","_law_script"]) (nl:=1) (ci:=[2,4,0]) rfl (blk (s.heap.objs.size+1) rfl rfl rfl (by kernel_rfl)) (i8 rfl m.fA (aA (bP (kJ rfl) rfl m.xX sW (aA (aI kR (bP jA rfl m.sO nL (aA (pv 0) aE)) aC) (aA aC aE))) aE)) (fun _ _ _ _=>(aH (i:=0) (show (["_law_k","_law_rooms_here","_law_turns","_law_script"]:List Str).Nodup by decide +kernel) rfl (by walk_at"oi"))) (fun _ _ _ _=>fC) (fun _ _ _ _=>(bF qJ hr (aA (bA (L6 (K:=K)) (pv 3) (aI bO aC (pv 0)) (fun _ _=>rfl)) (aA (pv 0) (aA (pv 1) (aA (pv 2) aE)))))))
   (aF (aV (bU (aA (pv 2) (aA (pv 5) (aA (pv 4) aE))))))))))))),?_⟩
  refine aO (σ:=[some (.ref a),none,none,none,none,none]) rfl ?_;walk_at"cx";walk_at"go";refine cA (fun hc=> ?_) (fun hc=> ?_)
  ·walk_at"go";refine K6 hS hlen fun q p1 p2 p3 us ws rs ss f l H1 S1 dr=> ?_;exact k _ _ _ _ _ _ _ _ _ _ _ S1 dr
  walk_at"go";refine ME (fun i=> .int (iP ns (i:Int))) (by decide) (rest:=[some (.ref a)]) (by rfl) ?_ ?_
  ·intro i H1 hi s1 R hR;walk_at"go";rw[Int.zero_add];exact hR _ (Same.refl _)
  intro H1 S1;rw[V5];walk_at"gs";rename_i p2 H2 n2 S2 e2;refine MW e2 fun p4 us rs H4 n4 S4 e4 hr4 ro=> ?_;have e24:=S4 _ _ e2;walk_at"gs";rename_i n5 h50 h51 p5 H5 m5 S5 e5 v5 hv5;refine kW (fun σ' G=>H5=G/\∃f6,0<=f6/\f6<100000000000/\σ'=[some (.ref a),some (.ref p2),some (.ref p4),some (.int f6),none,none]) ?_ ?_
  rotate_left
  ·intro nx' hnx;have e25:=S5 _ _ e24;walk_at"go";refine cA (fun hc=> ?_) (fun hc=> ?_)
   ·walk_at"go";exact hnx _ _ ⟨rfl,_,by omega,by omega,rfl⟩
   ·walk_at"go";exact hnx _ _ ⟨rfl,_,by omega,by omega,rfl⟩
  rintro _ G hq_;walk_at"g1";obtain⟨hG,f6,hf0,hf1,rfl⟩:=hq_;walk_at"g2";subst hG;have e25:=S5 _ _ e24;walk_at"go";rename_i n6 h60 h61 p7 H7 n7 S7 e7;have s07:Same H H7:=(S1.trans S2).trans (S4.trans (S5.trans S7));have s47:Same H4 H7:=S5.trans S7;have hS7:=s07.seq hS;have e47:=s47 _ _ e4;have hr7:=k3 hr4 s47;walk_at"go";rw[List.length_map];refine UG (fun i y H=>∃s c,dE H y s/\kN rs f6 s/\s.n=wnF c (20+(i:Nat))) (fun _ _ _ _ ⟨s,c,⟨q,h1,h2⟩,h3⟩ s2=>⟨s,c,⟨q,h1,s2 _ _ h2⟩,h3⟩) (by rw[sizeLine_eq];omega) (rest:=[some (.ref p4),some (.ref p7),some (.ref a)]) (by rfl) ?_ ?_
  ·intro i H8 hi s8 R hR;have h47:=KM hi;have hS8:=s8.seq hS7;have e48:=s8 _ _ e47;have e78:=s8 _ _ e7;have hr8:=k3 hr7 s8;walk_at"go";refine qM hS8 (by omega) (by rw[List.length_map];omega) fun v hv=> ?_;obtain⟨c,hc,rfl⟩:=List.mem_map.mp hv;walk_at"go";refine P8 (by omega) (by omega) (SqL.of e48) hr8 ro e78 fun q s H9 S9 hs so hn=> ?_;rw[Int.zero_add]at hn;exact hR _ _ ⟨s,c,hs,so,hn⟩ S9
  intro ys H8 s8 hys;walk_at"g1";obtain⟨ss,g1,g2,g3,g4,g5⟩:=C7 hys (fun i hi=>(KM (List.mem_range.mp hi)).2) List.nodup_range;walk_at"g2";rw[List.length_range]at g5;walk_at"go";rename_i p9 H9 n9 S9 e9 pA HA nA SA eA;have s79:Same H7 HA:=s8.trans (S9.trans SA);refine k _ _ _ _ _ _ _ _ _ _ _ (s07.trans s79) ⟨eA,s79 _ _ e47,SA _ _ e9,s79 _ _ e7,k3 hr7 s79,PV g1 (S9.trans SA),ro,g2,g3,by omega,hf0,hf1,by omega,by omega⟩
theorem JC (m:M K mg):Fc P w K mg base "_law_drawn" 5 ["_law_script"] (mZ K):=⟨_,_,m.NG,m.nU.kp,m.NQ,IU m⟩
def c5 (rs:List bE):List (Str×Int):=rs.map fun r=>(r.1,r.2.1)
def cD (rs:List bE):List (Str×Int):=(rs.filter fun r=>decide (0<r.2.2)).map fun r=>(r.1,r.2.2)
theorem tF (rs:List bE):(c5 rs).map (·.1)=rs.map (·.1):=by unfold c5;rw[List.map_map];rfl
theorem gR (ss:List SpecD):(ss.map aZ).map (·.1)=ss.map (·.n):=by rw[List.map_map];rfl
theorem T7 {rs:List bE}{z:Str} (h:z∉rs.map (·.1)):cC (cD rs) z=0:=by
 have e:(cD rs).filter (fun p=>decide (p.1=z))=[]:=by
  rw[List.filter_eq_nil_iff];intro p hp;unfold cD at hp;obtain⟨r,hr,rfl⟩:=List.mem_map.mp hp;have hr':=(List.mem_filter.mp hr).1;intro hz;exact h (List.mem_map.mpr ⟨r,hr',by simpa using hz⟩)
 unfold cC;rw[e];rfl
theorem AX {r:bE}:∀{rs:List bE},(rs.map (·.1)).Nodup->(∀r∈rs,0<=r.2.2)->r∈rs->cC (cD rs) r.1=r.2.2
 | a::rs,nd,h0,hm=>by
  have nd':=List.nodup_cons.mp nd;have ha:=h0 a (.head _);have hz:=T7 nd'.1;rcases List.mem_cons.mp hm with rfl|hm
  ·by_cases hc:0<r.2.2
   ·unfold cC cD at hz ⊢;rw[List.filter_cons_of_pos (by simpa using hc),List.map_cons,List.filter_cons_of_pos (by simp),List.map_cons,List.sum_cons,hz];exact Int.add_zero _
   ·have:r.2.2=0:=by omega
    rw[this];unfold cC cD at hz ⊢;rw[List.filter_cons_of_neg (by simpa using hc)];exact hz
  ·have ih:=AX nd'.2 (fun x hx=>h0 x (List.mem_cons_of_mem _ hx)) hm;have hne:¬a.1=r.1:=fun z=>nd'.1 (show a.1∈_ by rw[z];exact List.mem_map.mpr ⟨r,hm,rfl⟩)
   by_cases hc:0<a.2.2
   ·unfold cC cD at ih ⊢;rw[List.filter_cons_of_pos (by simpa using hc),List.map_cons,List.filter_cons_of_neg (by simpa using hne)];exact ih
   ·unfold cC cD at ih ⊢;rw[List.filter_cons_of_neg (by simpa using hc)];exact ih
theorem aAJ {rs:List bE}(ro:nQ rs):FQ (c5 rs) (cD rs):=by
 refine⟨fun p hp=> ?_,fun e he=> ?_⟩
 ·unfold cD at hp;obtain⟨r,hr,rfl⟩:=List.mem_map.mp hp;exact(ro.ok r (List.mem_filter.mp hr).1).1
 ·unfold c5 at he;obtain⟨r,hr,rfl⟩:=List.mem_map.mp he;rw[show ((r.1,r.2.1):Str×Int).1=r.1 from rfl,AX ro.nd (fun x hx=>(ro.ok x hx).1) hr];exact(ro.ok r hr).2
theorem FP {H H':Hp}{q p1 p2 p3:Addr}{us ws:List V}{rs:List bE}{ss:List SpecD}{f l:Int} (x:fH H q p1 p2 p3 us ws rs ss f l) (T:SameT H H'):fH H' q p1 p2 p3 us ws rs ss f l :=
 ⟨T.tup x.eq,T.lst x.e1,T.lst x.e2,T.tup x.e3,aCC x.ru T,aDi x.sw T,x.ro,x.so,x.nd,x.l7,x.f0,x.f1,x.fl,x.fl7⟩
theorem dM {H H':Hp}{q p1 p2 p3:Addr}{us ws:List V}{rs:List bE}{ss:List SpecD}{f l:Int} (x:fH H q p1 p2 p3 us ws rs ss f l) (s:Same H H'):fH H' q p1 p2 p3 us ws rs ss f l:=FP x s.t
def TabR (PL:Addr)(A B:Hp):Prop:=SameT A B/\(TabS A PL pL qL->TabS B PL pL qL)
theorem TabR.refl (PL:Addr)(H:Hp):TabR PL H H:=⟨SameT.refl _,id⟩
theorem TabR.trans {PL:Addr}{A B C:Hp} (x:TabR PL A B) (y:TabR PL B C):TabR PL A C:=⟨x.1.trans y.1,fun h=>y.2 (x.2 h)⟩
theorem TB {j k:Nat}{H:Hp}{v:V}{d:aG} (h:DoorAt P w K mg base (some j) H v d) (hjk:j<=k):DoorAt P w K mg base (some k) H v d:=by
 walk_at"g1";obtain⟨p,C,dx,fs,fp,e,hp,dc,l1,l2,l3,l4,l5,mc,hf,lt⟩:=h;walk_at"g2";refine⟨p,C,dx,fs,fp,e,hp,dc,l1,l2,l3,l4,l5,mc,hf,fun kl hk=> ?_⟩;cases hk;obtain⟨sp,m1,m2⟩:=lt j rfl;exact⟨sp,Mc.mono m1 hjk,m2⟩
theorem aEr {H H':Hp}{us:List V}{ss:List (Str×Int)} (h:Paired (bZ H) us ss) (s:SameT H H'):Paired (bZ H') us ss:=Paired.imp' (fun v d ⟨q,e,h⟩=>⟨q,e,s.tup h⟩) h
inductive uQ (P:Program)(w:World)(base:Heap)(m:M K mg)(PL:Addr)(vs:List V)(H:Hp)(Q:VK)(E:XK):Prop
 | mk (q p1 p2 p3:Addr) (us ws:List V) (rs:List bE) (ss:List SpecD) (f l:Int) (_:vs=[.ref p1,.ref p2,.ref p3]) (_:fH H q p1 p2 p3 us ws rs ss f l) (_:TabS H PL pL qL) (_:∀h H',SameT H H'->TabS H' PL pL qL->bB m.aR (aX P w K mg base (some 4)) H' h f l (c5 rs) (cD rs) (ss.map aZ)->Q (.ref h) H'):uQ P w base m PL vs H Q E
theorem YG {m:M K mg}{PL:Addr}{H:Hp}{Q:VK}{E:XK}{q p1 p2 p3:Addr}{us ws:List V}{rs:List bE}{ss:List SpecD}{f l:Int} (x:fH H q p1 p2 p3 us ws rs ss f l) (ht:TabS H PL pL qL) (k:∀h H',SameT H H'->TabS H' PL pL qL->bB m.aR (aX P w K mg base (some 4)) H' h f l (c5 rs) (cD rs) (ss.map aZ)->Q (.ref h) H'):uQ P w base m PL [.ref p1,.ref p2,.ref p3] H Q E:=⟨_,_,_,_,_,_,_,_,_,_,rfl,x,ht,k⟩
theorem IX (m:M K mg){cL PL:Addr}(hcL:m.gA.code= .ref cL)(hCL:W.CodeHd base cL PL)(hBL:base.BuiltinsAt mg PL):FnOk P w K mg base CX0 7 m.uD m.uN ["_law_rooms_here","_law_specs","_law_turns"] (uQ P w base m PL):=by
 refine m.nW.ok sc__law_house (fun vs H Q E h=> ?_) (fun cdv A outer s H vs Q E hr h=> ?_)
 ·walk_at"g1";obtain⟨q,p1,p2,p3,us,ws,rs,ss,f,l,rfl,dr,hPL,k⟩:=h;walk_at"g2";rfl
 ·walk_at"g1";obtain⟨q,p1,p2,p3,us,ws,rs,ss,f,l,rfl,dr,hPL,k⟩:=h;walk_at"g2";have nd:=sc__law_house.nd;walk_at"hu";have qK:=K3 (P:=P) (w:=w) (base:=base) m hcL hCL hBL;have K_House_0:= @RP P w K mg base m;have w_dc_House:=m.bL;refine⟨_,(aB (d4 (i:=3) nd rfl (by walk_at"oi") (N:=["_law_room"]) (nl:=1) (ci:=[]) rfl (blk (s.heap.objs.size+1) rfl rfl rfl (by kernel_rfl)) (bH (pv 0)) (fun _ _ _ _=>(aH (i:=0) (show (["_law_room"]:List Str).Nodup by decide +kernel) rfl (by walk_at"oi"))) (fun _ _ _ _=>(gY (aW lX (bA (gE (K:=K)) (pv 0) aC (fun _ _=>rfl)) aC (aY _)))) (fun _ _ _ _=>(bU (aA (bA (gE (K:=K)) (pv 0) aC (fun _ _=>rfl)) (aA (bA (gE (K:=K)) (pv 0) aC (fun _ _=>rfl)) aE)))))
   (aB (d4 (i:=4) nd rfl (by walk_at"oi") (N:=["_law_spec_here"]) (nl:=1) (ci:=[]) rfl (blk (s.heap.objs.size+1) rfl rfl rfl (by kernel_rfl)) (bH (pv 1)) (fun _ _ _ _=>(aH (i:=0) (show (["_law_spec_here"]:List Str).Nodup by decide +kernel) rfl (by walk_at"oi"))) (fun _ _ _ _=>fC) (fun _ _ _ _=>(bF qK hr (aA (pv 0) aE))))
   (aF (aV (w5 K_House_0 hr (aA (cV (N:=["_law_room"]) (nl:=1) (ci:=[]) rfl (blk (s.heap.objs.size+1) rfl rfl rfl (by kernel_rfl)) (bH (pv 0)) (fun _ _ _ _=>(aH (i:=0) (show (["_law_room"]:List Str).Nodup by decide +kernel) rfl (by walk_at"oi"))) (fun _ _ _ _=>fC) (fun _ _ _ _=>(bU (aA (bA (gE (K:=K)) (pv 0) aC (fun _ _=>rfl)) (aA (bA (gE (K:=K)) (pv 0) aC (fun _ _=>rfl)) aE))))) (aA (pv 4) (aA (pv 3) (aA (bA cG (pv 2) aC (fun _ _=>rfl)) (aA (bA cG (pv 2) aC (fun _ _=>rfl)) aE)))))))))),?_⟩
  refine aO (σ:=[some (.ref p1),some (.ref p2),some (.ref p3),none,none]) rfl ?_;walk_at"cx";have ro:=dr.ro;have hrl:rs.length<=4:=ro.l1;have e1:=dr.e1;have e2:=dr.e2;have e3:=dr.e3;have hul:us.length=rs.length:=Paired.length dr.ru;have hwl:ws.length=ss.length:=Paired.length dr.sw;walk_at"go";refine fI (α:=bE) (xs:=rs) (vs:=us) (eK H) (fun r=>decide (0<r.2.2)) (fun r y H=>bZ H y (r.1,r.2.2)) (fun _ _ _ _ ⟨q,h1,h2⟩ s=>⟨q,h1,s _ _ h2⟩) (by rw[sizeLine_eq];omega) (rest:=[]) (by rfl) (SqL.of e1) dr.ru ?_ ?_ ?_
  ·rintro v ⟨z,i,j⟩ H2 ⟨q2,rfl,hq2⟩ hm s2 R hR;have hq2:H2 q2=some (.tup [.str z,.int i,.int j]):=s2 _ _ hq2;walk_at"go";refine⟨q2,_,2,_,rfl,rfl,SqT.of hq2,rfl,?_⟩;walk_at"go";exact hR _ (Same.refl _)
  ·rintro v ⟨z,i,j⟩ H2 ⟨q2,rfl,hq2⟩ hm - s2 R hR;have hq2:H2 q2=some (.tup [.str z,.int i,.int j]):=s2 _ _ hq2;walk_at"go";refine⟨q2,_,0,_,rfl,rfl,SqT.of hq2,rfl,?_⟩;walk_at"go";refine⟨q2,_,2,_,rfl,rfl,SqT.of hq2,rfl,?_⟩;walk_at"go";rename_i q3 H3 n3 S3 e3';exact hR _ _ ⟨q3,rfl,e3'⟩ S3
  intro ys H2 s2 hys;have hyp:Paired (bZ H2) ys (cD rs):=xL (F:=bZ H2) (fun r:bE=>(r.1,r.2.2)) hys;walk_at"go";rename_i p4 H4 n4 S4 e4;have s04:=s2.trans S4;have dr4:=dM dr s04;have hPL4:=hPL.same s04;refine aAt (α:=SpecD) (xs:=ss) (vs:=ws) (TabR PL) (TabR.refl PL) (fun _ _ _=>TabR.trans) (dE H4) (fun s y H=>(aX P w K mg base (some 4)).at' H y (aZ s)) (fun _ _ _ _ h s=>aD6 h s.1) (by have:=dr.l7;rw[sizeLine_eq];omega) (rest:=[]) (by rfl) (fun H1 s=>s.1.seq (SqL.of dr4.e2)) dr4.sw (fun v x H1 _ _ _ R hR=>hR _ (TabR.refl _ _)) ?_ ?_
  ·rintro v s5 H5 ⟨q5,rfl,h5⟩ hm t5 R hR;have hs5:dE H5 (.ref q5) s5:=⟨q5,rfl,t5.1.tup h5⟩
   walk_at"go";refine aAv hs5 (dr.so s5 hm) dr.f0 (t5.2 hPL4) fun v6 H6 T6 hT6 hd6=> ?_;exact hR _ _ hd6 ⟨T6,fun _=>hT6⟩
  intro zs H5 t5 hzs;have dr5:=FP dr4 t5.1;have hPL5:=t5.2 hPL4;have e45:=t5.1.lst e4;have e15:=dr5.e1;have e35:=dr5.e3;have hyp5:=aEr hyp ((Same.t S4).trans t5.1);have hzd:Paired ((aX P w K mg base (some 4)).at' H5) zs (ss.map aZ):=xL (F:=(aX P w K mg base (some 4)).at' H5) aZ (Paired.imp' (fun s y h=>TB h (by decide)) hzs);walk_at"go";rename_i p6 H6 n6 S6 e6;have e16:=S6 _ _ e15;refine fI (α:=bE) (xs:=rs) (vs:=us) (eK H6) (fun _=>true) (fun r y H=>bZ H y (r.1,r.2.1)) (fun _ _ _ _ ⟨q,h1,h2⟩ s=>⟨q,h1,s _ _ h2⟩) (by rw[sizeLine_eq];omega) (rest:=[]) (by rfl) (SqL.of e16) (k3 dr5.ru S6) (fun v x H1 _ hx s1 R hR=>hR _ (Same.refl _)) ?_ ?_
  ·rintro v ⟨z,i,j⟩ H7 ⟨q2,rfl,hq2⟩ hm - s7 R hR;have hq2:H7 q2=some (.tup [.str z,.int i,.int j]):=s7 _ _ hq2;walk_at"go";refine⟨q2,_,0,_,rfl,rfl,SqT.of hq2,rfl,?_⟩;walk_at"go";refine⟨q2,_,1,_,rfl,rfl,SqT.of hq2,rfl,?_⟩;walk_at"go";rename_i q3 H3 n3 S3 e3';exact hR _ _ ⟨q3,rfl,e3'⟩ S3
  intro xs H7 s7 hxs;rw[fM]at hxs;have hxr:Paired (bZ H7) xs (c5 rs):=xL (F:=bZ H7) (fun r:bE=>(r.1,r.2.1)) hxs;walk_at"go";rename_i p8 H8 n8 S8 e8;have s58:Same H5 H8:=S6.trans (s7.trans S8);have e38:=s58 _ _ e35;refine⟨p3,_,1,_,rfl,rfl,SqT.of e38,rfl,?_⟩;walk_at"go";refine⟨p3,_,0,_,rfl,rfl,SqT.of e38,rfl,?_⟩;walk_at"go";have hin:∀d∈ss.map aZ,cK ((c5 rs).map (·.1)) d:=fun d hd=>by
   obtain⟨s,hs,rfl⟩:=List.mem_map.mp hd;rw[tF];exact⟨(dr.so s hs).sin,(dr.so s hs).ein⟩
  have hpr:∀p∈cD rs,p.1∈(c5 rs).map (·.1):=fun p hp=>by
   unfold cD at hp;obtain⟨r,hr,rfl⟩:=List.mem_map.mp hp;rw[tF];exact List.mem_map.mpr ⟨r,(List.mem_filter.mp hr).1,rfl⟩
  have hlp:(cD rs).length<=40:=by
   have h1:(rs.filter fun r=>decide (0<r.2.2)).length<=rs.length:=List.length_filter_le _ _;unfold cD;rw[List.length_map];omega
  have hl7:=dr.l7;refine TK (f:=f) (l:=l) (rz:=c5 rs) (ps:=cD rs) (ds:=ss.map aZ) rfl w_dc_House e8 (RoomsAt.sm hxr S8) (SqL.of (S8 _ _ (s7 _ _ e6))) (oN hzd s58) (SqL.of (s58 _ _ e45)) (lP hyp5 s58) (by rw[tF];exact ro.nd) (by rw[gR];exact dr.nd) hin hpr (aAJ ro) (by unfold c5;rw[List.length_map];omega) (by rw[List.length_map];omega) hlp dr.f0 dr.fl fun h H9 n9 S9 hh=> ?_;exact k _ _ (((s04.t).trans t5.1).snoc (s58.trans S9)) (hPL5.same (s58.trans S9)) hh
theorem I0 (m:M K mg){cL PL:Addr}(hcL:m.gA.code= .ref cL)(hCL:W.CodeHd base cL PL)(hBL:base.BuiltinsAt mg PL):Fc P w K mg base "_law_house" 7 ["_law_rooms_here","_law_specs","_law_turns"] (uQ P w base m PL):=⟨_,_,m.NX,m.nW.kp,m.M9,IX m hcL hCL hBL⟩
def KG (rs:List bE)(f l:Int)(cut:List (Str×Int)):Prop:=∀x∈cut,x.1∈rs.map (·.1)/\f<=x.2/\x.2<=l
inductive AV (vs:List V)(H:Hp)(Q:VK)(E:XK):Prop
 | mk (c:Int) (p1 p3:Addr) (us:List V) (rs:List bE) (f l:Int) (_:vs=[.int c,.ref p1,.ref p3]) (_:H p1=some (.lst us)) (_:Paired (eK H) us rs) (_:nQ rs) (_:H p3=some (.tup [.int f,.int l])) (_:0<=f) (_:f<100000000000) (_:f<=l) (_:l<=f+7) (_:∀p cs cut H',H p=none->Same H H'->H' p=some (.lst cs)->Paired (bZ H') cs cut->cut.length<=32->KG rs f l cut->Q (.ref p) H'):AV vs H Q E
theorem aDx {H:Hp}{Q:VK}{E:XK}{c:Int}{p1 p3:Addr}{us:List V}{rs:List bE}{f l:Int} (e1:H p1=some (.lst us)) (hr:Paired (eK H) us rs) (ro:nQ rs) (e3:H p3=some (.tup [.int f,.int l])) (f0:0<=f) (f1:f<100000000000) (fl:f<=l) (fl7:l<=f+7) (k:∀p cs cut H',H p=none->Same H H'->H' p=some (.lst cs)->Paired (bZ H') cs cut->cut.length<=32->KG rs f l cut->Q (.ref p) H'):AV [.int c,.ref p1,.ref p3] H Q E:=⟨_,_,_,_,_,_,_,rfl,e1,hr,ro,e3,f0,f1,fl,fl7,k⟩
theorem OC (m:M K mg):FnOk P w K mg base CX0 2 m.xZ m.xU ["_law_cell","_law_rooms_here","_law_turns"] (AV):=by
 refine m.sK.ok sc__law_cut (fun vs H Q E h=> ?_) (fun cdv A outer s H vs Q E hr h=> ?_)
 ·walk_at"g1";obtain⟨c,p1,p3,us,rs,f,l,rfl,e1,hr',ro,e3,f0,f1,fl,fl7,k⟩:=h;walk_at"g2";rfl
 ·walk_at"g1";obtain⟨c,p1,p3,us,rs,f,l,rfl,e1,hr',ro,e3,f0,f1,fl,fl7,k⟩:=h;walk_at"g2";have nd:=sc__law_cut.nd;walk_at"hu";have cE:= @jM P w K mg base m;refine⟨_,(aB (aP (i:=3) nd rfl (by walk_at"oi") (dU aE))
   (aB (aP (i:=4) nd rfl (by walk_at"oi") (aI cI (pv 0) aC))
   (aB (cJ PassesOwn.never rfl (kI rfl m.fA (aA (bA cG (pv 2) aC (fun _ _=>rfl)) (aA (aI bO (bA cG (pv 2) aC (fun _ _=>rfl)) aC) aE))) (aH (i:=5) nd rfl (by walk_at"oi")) (aF (cJ PassesOwn.never rfl (i8 rfl m.fA (aA (bP jA rfl m.sO nL (aA (pv 1) aE)) aE)) (aH (i:=6) nd rfl (by walk_at"oi")) (aB (aP (i:=7) nd rfl (by walk_at"oi") (v9 j6 (aI bN (bF cE hr (aA (pv 0) (aA (aI bO (aI i5 aC (pv 5)) (pv 6)) aE))) aC) (aI bO aC (aI bN (aI cI (pv 0) aC) aC)) (aY _)))
   (aB (bR (aW dG (aI bN (pv 0) aC) aC (aY _)) (aB (aP (i:=7) nd rfl (by walk_at"oi") (v9 dG (aI bN (pv 4) aC) aC (aY _)))
   (aF (aP (i:=4) nd rfl (by walk_at"oi") (aI cI (pv 4) aC)))) bC)
   (aF (bR (nO (pv 7)) (aF (bT (sI PySem.F.plainAttrs_list PySem.F.slot_list_append PySem.F.type_list_append iB (pv 3) (aA (bU (aA (bA cG (bA b9 (pv 1) (pv 6) (fun _ _=>rfl)) aC (fun _ _=>rfl)) (aA (pv 5) aE))) aE)))) bC)))))))
   (aF (aV (pv 3)))))),?_⟩
  refine aO (σ:=[some (.int c),some (.ref p1),some (.ref p3),none,none,none,none,none]) rfl ?_;walk_at"cx";have hul:us.length=rs.length:=Paired.length hr';have hu4:us.length<=4:=by have:=ro.l1;omega
  walk_at"go";rename_i p H1 n1 S1 ep;have e31:=S1 _ _ e3;refine⟨p3,_,0,_,rfl,rfl,SqT.of e31,rfl,?_⟩;walk_at"go";refine⟨p3,_,1,_,rfl,rfl,SqT.of e31,rfl,?_⟩;walk_at"go";let Pv1:Nat->St->Hp->Prop:=fun i σ' H'=>SameBut p H1 H'/\(∃cs cut,H' p=some (.lst cs)/\Paired (bZ H') cs cut/\cut.length<=4 * i/\KG rs f l cut)/\∃b x y z,σ'=[some (.int c),some (.ref p1),some (.ref p3),some (.ref p),some (.int b),x,y,z];refine iU Pv1 ⟨SameBut.refl,⟨[],[],ep,.nil,by show 0<=_;omega,fun _ z=>nomatch z⟩,_,_,_,_,rfl⟩ ?_ ?_
  ·rintro i _ H2 hi hq_;walk_at"g1";obtain⟨sb2,hcut2,b2,x2,y2,z2,rfl⟩:=hq_;walk_at"g2";have s02:=SameBut.same n1 S1 sb2;have e12:=s02 _ _ e1;walk_at"go";let Pv2:Nat->St->Hp->Prop:=fun j σ' H'=>SameBut p H1 H'/\(∃cs cut,H' p=some (.lst cs)/\Paired (bZ H') cs cut/\cut.length<=4 * i+j/\KG rs f l cut)/\∃b y z,σ'=[some (.int c),some (.ref p1),some (.ref p3),some (.ref p),some (.int b),some (.int (f+(i:Int))),y,z];refine iU Pv2 ⟨sb2,hcut2,_,_,_,rfl⟩ ?_ ?_
   ·rintro j _ H3 hj hq_;walk_at"g1";obtain⟨sb3,⟨cs,cut,ec,hcp,hcl,hci⟩,b3,y3,z3,rfl⟩:=hq_;walk_at"g2";have s03:=SameBut.same n1 S1 sb3;have e13:=s03 _ _ e1;have hr3:=k3 hr' s03;have hcs:cs.length=cut.length:=Paired.length hcp;walk_at"gs";rename_i nn hn0 hn1;refine kW (fun σ' G=>H3=G/\∃b ch,σ'=[some (.int c),some (.ref p1),some (.ref p3),some (.ref p),some (.int b),some (.int (f+(i:Int))),some (.int (0+(j:Int))),some (.bl ch)]) ?_ ?_
    rotate_left
    ·intro nx' hnx;walk_at"go";refine cA (fun hc=> ?_) (fun hc=> ?_)
     ·walk_at"go";exact hnx _ _ ⟨rfl,_,_,rfl⟩
     ·walk_at"go";exact hnx _ _ ⟨rfl,_,_,rfl⟩
    rintro _ G hq_;walk_at"g1";obtain⟨hG,b4,ch,rfl⟩:=hq_;walk_at"g2";subst hG;walk_at"go";cases ch with
    | false =>
     rw[if_neg Bool.false_ne_true];walk_at"go";exact⟨sb3,⟨cs,cut,ec,hcp,by omega,hci⟩,_,_,_,rfl⟩
    | true =>
     rw[if_pos rfl];walk_at"go";refine qM (SqL.of e13) (by omega) (by omega) fun v hv=> ?_;walk_at"g1";obtain⟨z,u1,u2,q5,rfl,hq5,hz⟩:=sZ hr3 hv;walk_at"g2";walk_at"go";refine⟨q5,_,0,_,rfl,rfl,SqT.of hq5,rfl,?_⟩;walk_at"go";rename_i q6 H6 n6 S6 e6;have hq6:q6≠p:=fun z=>by rw[z,ec]at n6;cases n6
     refine iA (S6 _ _ ec) (by rw[sizeLine_eq];omega) fun H7 B7 e7=> ?_;refine⟨(sb3.trans S6.but).trans B7,⟨cs++[.ref q6],cut++[(z,f+(i:Int))],e7,?_,by rw[List.length_append];show cut.length+1<=_;omega,fun x hx=> ?_⟩,_,_,_,rfl⟩
     ·exact L2.Paired.snoc (Paired.imp' (fun w d ⟨q,e,h⟩=>⟨q,e,B7 _ _ (S6 _ _ h) fun z=>by rw[z,ec]at h;cases h⟩) hcp) ⟨q6,rfl,B7 _ _ e6 hq6⟩
     ·rcases List.mem_append.mp hx with hx|hx
      ·exact hci x hx
      ·cases List.mem_singleton.mp hx;exact⟨List.mem_map.mpr ⟨_,hz,rfl⟩,by show f<=f+(i:Int);omega,by show f+(i:Int)<=l;omega⟩
   ·rintro _ H3 hq_;walk_at"g1";obtain⟨sb3,⟨cs,cut,ec,hcp,hcl,hci⟩,b3,y3,z3,rfl⟩:=hq_;walk_at"g2";exact⟨sb3,⟨cs,cut,ec,hcp,by omega,hci⟩,_,_,_,_,rfl⟩
  ·rintro _ H2 hq_;walk_at"g1";obtain⟨sb2,⟨cs,cut,ec,hcp,hcl,hci⟩,b2,x2,y2,z2,rfl⟩:=hq_;walk_at"g2";walk_at"go";exact k _ _ _ _ n1 (SameBut.same n1 S1 sb2) ec hcp (by omega) hci
theorem OO (m:M K mg):Fc P w K mg base "_law_cut" 2 ["_law_cell","_law_rooms_here","_law_turns"] (AV):=⟨_,_,m.SO,m.sK.kp,m.SL,OC m⟩
theorem cR {α:Type}(f:α->Int):∀l:List α,(∀x∈l,f x=0)->(l.map f).sum=0
 | [],_=>rfl
 | a::l,h=>by rw[List.map_cons,List.sum_cons,h a (.head _),cR f l fun x hx=>h x (List.mem_cons_of_mem _ hx)];rfl
theorem dF {α:Type}{f g:α->Int}{l:List α} (h:∀x∈l,f x=g x):(l.map f).sum=(l.map g).sum:=by rw[List.map_congr_left h]
theorem gG (g:Nat->Int)(n:Nat):((List.range (n+1)).map g).sum=((List.range n).map g).sum+g n:=by
 rw[List.range_succ,List.map_append,List.sum_append];show _+(g n+0)=_;rw[Int.add_zero]
theorem N3 {rz ps:List (Str×Int)}{ds:List aG}{f l:Int}{cut:List (Str×Int)}:qT rz ps ds f l cut f=0:=by unfold qT;rw[if_pos rfl]
theorem vU {α:Type}{f g:α->Int}:∀{l:List α},(∀x∈l,f x<=g x)->(l.map f).sum<=(l.map g).sum
 | [],_=>Int.le_refl _
 | a::l,h=>by
  have h1:=h a (.head _);have h2:=vU fun x hx=>h x (List.mem_cons_of_mem _ hx);rw[List.map_cons,List.map_cons,List.sum_cons,List.sum_cons];omega
theorem EZ {α:Type}{f:α->Int}{l:List α} (h:∀x∈l,0<=f x):0<=(l.map f).sum:=by
 have:=vU (f:=fun _=>(0:Int)) (g:=f) h;rw[cR _ _ fun _ _=>rfl]at this;exact this
theorem rV {α:Type}(c:α->Bool)(g:α->Int):∀l:List α,((l.filter c).map g).sum=(l.map fun x=>if c x=true then g x else 0).sum
 | []=>rfl
 | a::l=>by
  rw[List.map_cons,List.sum_cons,←rV c g l];cases h:c a with
  | true=>rw[List.filter_cons_of_pos h,List.map_cons,List.sum_cons,if_pos rfl]
  | false=>rw[List.filter_cons_of_neg (by rw[h];exact Bool.false_ne_true),if_neg Bool.false_ne_true,Int.zero_add]
theorem jW {α:Type}(f g:α->Int):∀l:List α,(l.map fun x=>f x+g x).sum=(l.map f).sum+(l.map g).sum
 | []=>rfl
 | a::l=>by rw[List.map_cons,List.map_cons,List.map_cons,List.sum_cons,List.sum_cons,List.sum_cons,jW f g l];omega
theorem C8 {α β:Type}(F:α->β->Int)(m:List β):∀l:List α,(l.map fun x=>(m.map fun y=>F x y).sum).sum=(m.map fun y=>(l.map fun x=>F x y).sum).sum
 | []=>(cR _ m fun _ _=>rfl).symm
 | a::l=>by
  rw[List.map_cons,List.sum_cons,C8 F m l,←jW];exact dF fun y _=>by rw[List.map_cons,List.sum_cons]
theorem CM {c:Int}{y:Str}:∀{rz:List (Str×Int)},(rz.map (·.1)).Nodup->y∈rz.map (·.1)->(rz.map fun e=>if y=e.1 then c else 0).sum=c
 | [],_,h=>nomatch h
 | a::l,nd,h=>by
  have nd':=List.nodup_cons.mp nd;rw[List.map_cons,List.sum_cons]
  by_cases hy:y=a.1
  ·rw[if_pos hy,cR _ l fun x hx=>if_neg fun z=>nd'.1 (show a.1∈_ by rw[←hy,z];exact List.mem_map.mpr ⟨x,hx,rfl⟩)];exact Int.add_zero _
  ·rw[if_neg hy,CM nd'.2 ((List.mem_cons.mp h).resolve_left hy)];exact Int.zero_add _
def gs (ds:List aG)(g:aG->Int->Int)(c:aG->Bool)(u:Int):Int:=(ds.map fun d=>if c d=true then g d u else 0).sum
def exB (d:aG):Bool:=decide (d.2.2.1= .non)
def stB (z:Str)(d:aG):Bool:=decide (d.2.1=z)
def toB (z:Str)(d:aG):Bool:=decide (d.2.2.1= .str z)
def cuB (cut:List (Str×Int))(u:Int)(d:aG):Bool:=decide ((d.2.1,u)∈cut)
structure wB (rz ps:List (Str×Int))(ds:List aG)(f l:Int)(g:aG->Int->Int)(th:Str->Int->Int):Prop where
 nn:∀d∈ds,∀u,0<=g d u
 le:∀d∈ds,∀u,g d u<=iY f l d u
 th0:∀e∈rz,th e.1 f=cC ps e.1
 st:∀e∈rz,∀u,f<=u->u<l->th e.1 (u+1)=th e.1 u - gs ds g (stB e.1) u+gs ds g (toB e.1) u
 lv:∀e∈rz,∀u,f<=u->u<l->gs ds g (stB e.1) u<=th e.1 u
 hd:∀e∈rz,∀u,f<=u->u<=l->th e.1 u<=e.2
def wO (ds:List aG)(g:aG->Int->Int)(f:Int)(i:Nat):Int:=((List.range i).map fun j:Nat=>gs ds g exB (f+(j:Int))).sum
def u9 (rz:List (Str×Int))(th:Str->Int->Int)(cut:List (Str×Int))(u:Int):Int:=(rz.map fun e=>if (e.1,u)∈cut then 0 else th e.1 u).sum
section YF
variable {rz ps:List (Str×Int)}{ds:List aG}{f l:Int}{g:aG->Int->Int}{th:Str->Int->Int}{cut:List (Str×Int)}
theorem KI (h:∀d∈ds,∀u,0<=g d u)(c:aG->Bool)(u:Int):0<=gs ds g c u:=EZ fun d hd=>by
 have:=h d hd u
 split<;>omega
theorem CI (c b:aG->Bool)(u:Int):gs ds g c u=gs ds g (fun d=>c d&&b d) u+gs ds g (fun d=>c d&& !b d) u:=by
 unfold gs;rw[←jW];have h:∀(p q:Bool) (x:Int),(if p=true then x else 0)=(if (p&&q)=true then x else 0)+(if (p&& !q)=true then x else 0):=fun p q x=>by cases p<;>cases q<;>simp
 exact dF fun d _=>h _ _ _
theorem V2 (L:wB rz ps ds f l g th)(u:Int):gs ds g (fun d=>exB d&&cuB cut u d) u<=hV ds f l cut u:=by
 unfold gs hV;rw[List.filter_filter,rV];refine vU fun d hd=> ?_;have:=L.le d hd u;unfold exB cuB;rw[Bool.and_comm]
 split<;>omega
theorem aEQ (L:wB rz ps ds f l g th)(z:Str)(u:Int):gs ds g (fun d=>toB z d&&cuB cut u d) u<=vS ds f l cut z u:=by
 unfold gs vS;rw[List.filter_filter,rV];refine vU fun d hd=> ?_;have:=L.le d hd u;unfold toB cuB;rw[Bool.and_comm]
 split<;>omega
theorem IB (nr:(rz.map (·.1)).Nodup)(hin:∀d∈ds,cK (rz.map (·.1)) d)(u:Int):(rz.map fun e=>if (e.1,u)∈cut then 0 else gs ds g (stB e.1) u).sum=gs ds g (fun d=> !cuB cut u d) u:=by
 have h1:(rz.map fun e=>if (e.1,u)∈cut then 0 else gs ds g (stB e.1) u).sum=(rz.map fun e=>(ds.map fun d=>if d.2.1=e.1 then (if (d.2.1,u)∈cut then 0 else g d u) else 0).sum).sum:=dF fun e _=>by
  unfold gs
  by_cases hc:(e.1,u)∈cut
  ·rw[if_pos hc];refine(cR _ _ fun d _=> ?_).symm
   by_cases hd:d.2.1=e.1
   ·rw[if_pos hd,hd,if_pos hc]
   ·rw[if_neg hd]
  ·rw[if_neg hc];refine dF fun d _=> ?_;unfold stB
   by_cases hd:d.2.1=e.1
   ·rw[if_pos hd,hd,if_neg hc,if_pos (by simp)]
   ·rw[if_neg hd,if_neg (by simpa using hd)]
 rw[h1,C8];unfold gs;refine dF fun d hd=> ?_;rw[CM nr (hin d hd).1];unfold cuB
 by_cases hc:(d.2.1,u)∈cut
 ·rw[if_pos hc,if_neg (by simp[hc])]
 ·rw[if_neg hc,if_pos (by simp[hc])]
theorem UB (nr:(rz.map (·.1)).Nodup)(hin:∀d∈ds,cK (rz.map (·.1)) d)(c:aG->Bool)(u:Int):gs ds g c u=gs ds g (fun d=>exB d&&c d) u+(rz.map fun e=>gs ds g (fun d=>toB e.1 d&&c d) u).sum:=by
 have h1:(rz.map fun e=>gs ds g (fun d=>toB e.1 d&&c d) u).sum=(ds.map fun d=>(rz.map fun e=>if (toB e.1 d&&c d)=true then g d u else 0).sum).sum:=by
  unfold gs;rw[C8]
 rw[h1];unfold gs;rw[←jW];refine dF fun d hd=> ?_;show (if c d=true then g d u else 0)=(if (exB d&&c d)=true then g d u else 0)+(rz.map fun e=>if (toB e.1 d&&c d)=true then g d u else 0).sum;generalize c d=b;cases b with
 | false =>
  simp only[Bool.and_false,Bool.false_eq_true,if_false];rw[cR _ _ fun _ _=>rfl];rfl
 | true =>
  simp only[Bool.and_true,if_true];unfold exB toB;rcases (hin d hd).2 with h|⟨z,h,hz⟩
  ·rw[if_pos (by simp[h]),cR _ _ fun e _=>if_neg (by rw[h];simp)];omega
  ·rw[if_neg (by rw[h];simp)];have:=CM (c:=g d u) nr hz;rw[show (rz.map fun e=>if decide (d.2.2.1= .str e.1)=true then g d u else 0)=rz.map fun e=>if z=e.1 then g d u else 0 from List.map_congr_left fun e _=>by
    rw[h]
    by_cases hze:z=e.1
    ·rw[if_pos hze,if_pos (by simp[hze])]
    ·rw[if_neg hze,if_neg (by simpa using fun w:V.str z=V.str e.1=>hze (V.str.inj w))],this]
   omega
theorem U9 (L:wB rz ps ds f l g th)(nr:(rz.map (·.1)).Nodup)(hin:∀d∈ds,cK (rz.map (·.1)) d){u:Int}(h0:f<=u)(h1:u<l) :
  gs ds g exB u+u9 rz th cut (u+1)<=u9 rz th cut u+hV ds f l cut u+(rz.map fun e=>iW rz ds f l cut e.1 e.2 u).sum:=by
 have hroom:∀e∈rz,(if (e.1,u+1)∈cut then 0 else th e.1 (u+1))<=(if (e.1,u)∈cut then 0 else th e.1 u - gs ds g (stB e.1) u)+gs ds g (fun d=>toB e.1 d&& !cuB cut u d) u+iW rz ds f l cut e.1 e.2 u:=fun e he=>by
  have a1:=L.st e he u h0 h1;have a2:=L.lv e he u h0 h1;have a3:=L.hd e he (u+1) (by omega) (by omega);have a4:=KI L.nn (fun d=>toB e.1 d&& !cuB cut u d) u;have a5:=aEQ (cut:=cut) L e.1 u;have a6:=CI (ds:=ds) (g:=g) (toB e.1) (cuB cut u) u;have a7:=KI L.nn (fun d=>toB e.1 d&&cuB cut u d) u;unfold iW
  by_cases c1:(e.1,u+1)∈cut
  ·rw[if_pos c1,if_pos c1]
   by_cases c2:(e.1,u)∈cut
   ·rw[if_pos c2];omega
   ·rw[if_neg c2];omega
  ·rw[if_neg c1,if_neg c1]
   by_cases c2:(e.1,u)∈cut
   ·rw[if_pos c2,if_pos c2];omega
   ·rw[if_neg c2,if_neg c2];omega
 have s1:=vU hroom;rw[jW,jW]at s1;have s2:(rz.map fun e=>if (e.1,u)∈cut then 0 else th e.1 u - gs ds g (stB e.1) u).sum+(rz.map fun e=>if (e.1,u)∈cut then 0 else gs ds g (stB e.1) u).sum=u9 rz th cut u:=by
  unfold u9;rw[←jW];refine dF fun e _=> ?_
  by_cases c2:(e.1,u)∈cut
  ·rw[if_pos c2,if_pos c2,if_pos c2];rfl
  ·rw[if_neg c2,if_neg c2,if_neg c2];omega
 have s3:=IB (g:=g) (cut:=cut) nr hin u;have s4:=UB (g:=g) nr hin (fun d=> !cuB cut u d) u;have s5:=CI (ds:=ds) (g:=g) exB (cuB cut u) u;have s6:=V2 (cut:=cut) L u;unfold u9 at s2 ⊢;omega
theorem V8 (L:wB rz ps ds f l g th)(nr:(rz.map (·.1)).Nodup)(hin:∀d∈ds,cK (rz.map (·.1)) d){u:Int}(h0:f<=u)(h1:u<l):gs ds g exB u<=u9 rz th cut u+hV ds f l cut u:=by
 have s1:(rz.map fun e=>if (e.1,u)∈cut then 0 else gs ds g (stB e.1) u).sum<=u9 rz th cut u:=vU fun e he=>by
  have:=L.lv e he u h0 h1
  split<;>omega
 have s3:=IB (g:=g) (cut:=cut) nr hin u;have s4:=UB (g:=g) nr hin (fun d=> !cuB cut u d) u;have s5:=CI (ds:=ds) (g:=g) exB (cuB cut u) u;have s6:=V2 (cut:=cut) L u;have s7:0<=(rz.map fun e=>gs ds g (fun d=>toB e.1 d&& !cuB cut u d) u).sum:=EZ fun e _=>KI L.nn _ u;omega
theorem YF (L:wB rz ps ds f l g th)(nr:(rz.map (·.1)).Nodup)(hin:∀d∈ds,cK (rz.map (·.1)) d)(i:Nat)(hi:f+(i:Int)<=l):wO ds g f i<=qT rz ps ds f l cut (f+(i:Int)):=by
 have key:∀i:Nat,f+(i:Int)<=l->wO ds g f i+u9 rz th cut (f+(i:Int))<=jU rz ps f cut+((List.range i).map fun j:Nat=>(rz.map fun e=>iW rz ds f l cut e.1 e.2 (f+(j:Int))).sum).sum+((List.range i).map fun j:Nat=>hV ds f l cut (f+(j:Int))).sum:=fun i=>by
  induction i with
  | zero =>
   intro _;have:u9 rz th cut (f+((0:Nat):Int))=jU rz ps f cut:=by
    rw[show f+((0:Nat):Int)=f by omega];unfold u9 jU;rw[rV];refine dF fun e he=> ?_;rw[L.th0 e he]
    by_cases hc:(e.1,f)∈cut
    ·rw[if_pos hc,if_neg (by simp[hc])]
    ·rw[if_neg hc,if_pos (by simp[hc])]
   rw[this];show 0+_<=_+0+0;omega
  | succ i ih =>
   intro hi;have ih:=ih (by omega);have hs:=U9 (cut:=cut) L nr hin (u:=f+(i:Int)) (by omega) (by omega);unfold wO at ih ⊢;rw[gG (fun j:Nat=>gs ds g exB (f+(j:Int))),gG (fun j:Nat=>(rz.map fun e=>iW rz ds f l cut e.1 e.2 (f+(j:Int))).sum),gG (fun j:Nat=>hV ds f l cut (f+(j:Int))),show f+((i+1:Nat):Int)=f+(i:Int)+1 by omega];omega
 cases i with
 | zero=>rw[show f+((0:Nat):Int)=f by omega,N3];exact Int.le_refl _
 | succ i =>
  have h1:=key i (by omega);have h2:=V8 (cut:=cut) L nr hin (u:=f+(i:Int)) (by omega) (by omega);unfold qT;rw[if_neg (by omega),show (f+((i+1:Nat):Int) - f).toNat=i+1 by omega,show (f+((i+1:Nat):Int) - 1 - f).toNat=i by omega];unfold wO at h1 ⊢;rw[gG (fun j:Nat=>gs ds g exB (f+(j:Int))),gG (fun j:Nat=>hV ds f l cut (f+(j:Int)))];omega
end YF
inductive E1 (K:W.Frag)(vs:List V)(H:Hp)(Q:VK)(E:XK):Prop
 | mk (a:Addr) (us:List V) (rows:List aT) (_:vs=[.ref a]) (_:SqL K H a us) (_:bS H us rows) (_:rows.length<=200) (_:∀p H',H p=none->Same H H'->H' p=some (.dT (qW rows))->Q (.ref p) H'):E1 K vs H Q E
theorem aE5 {H:Hp}{Q:VK}{E:XK}{a:Addr}{us:List V}{rows:List aT} (hS:SqL K H a us) (hr:bS H us rows) (hl:rows.length<=200) (h:∀p H',H p=none->Same H H'->H' p=some (.dT (qW rows))->Q (.ref p) H'):E1 K [.ref a] H Q E:=⟨_,_,_,rfl,hS,hr,hl,h⟩
theorem N5 (m:M K mg):FnOk P w K mg base CX0 1 m.xQ m.x0 ["plan"] (E1 K):=by
 refine m.sP.ok sc_added_up (fun vs H Q E h=> ?_) (fun cdv A outer s H vs Q E hr h=> ?_)
 ·walk_at"g1";obtain⟨a,us,rows,rfl,hS,hpl,hlen,k⟩:=h;walk_at"g2";rfl
 ·walk_at"g1";obtain⟨a,us,rows,rfl,hS,hpl,hlen,k⟩:=h;walk_at"g2";have nd:=sc_added_up.nd;walk_at"hu";refine⟨_,(aB (aP (i:=1) nd rfl (by walk_at"oi") tD)
   (aB (cJ PassesOwn.never rfl (bH (pv 0)) (i3 rfl (aN (aH (i:=2) nd rfl (by walk_at"oi")) (aN (aH (i:=3) nd rfl (by walk_at"oi")) (aN (aH (i:=4) nd rfl (by walk_at"oi")) cM)))) (aF (dR hu1 (pv 1) (bU (aA (pv 2) (aA (pv 3) aE))) (aI bO (o0 hu1 (pv 1) (bU (aA (pv 2) (aA (pv 3) aE))) aC ⟨rfl,rfl,rfl,rfl⟩) (pv 4)) rfl)))
   (aF (aV (pv 1))))),?_⟩
  refine aO (σ:=[some (.ref a),none,none,none,none]) rfl ?_;walk_at"cx";have hul:us.length=rows.length:=Paired.length hpl;walk_at"go";rename_i p H1 n1 S1 e1;let Pv1:Nat->St->Hp->Prop:=fun i σ' H'=>SameBut p H1 H'/\H' p=some (.dT (qW (rows.take i)))/\∃x y z,σ'=[some (.ref a),some (.ref p),x,y,z];refine dQ us Pv1 ⟨SameBut.refl,e1,_,_,_,rfl⟩ (fun i σ' H' _ q=>(SameBut.same n1 S1 q.1).seq hS) ?_ ?_
  ·rintro i x _ H' hx hq_;walk_at"g1";obtain⟨sb,ek,x1,x2,x3,rfl⟩:=hq_;walk_at"g2";have hi:i<us.length:=(List.getElem?_eq_some_iff.mp hx).1;obtain⟨⟨t,n,j⟩,hrx⟩:∃r,rows[i]? =some r:=⟨_,List.getElem?_eq_getElem (by omega)⟩
   obtain⟨q,rfl,hq⟩:=Paired.at2 hpl hx hrx;have hq':H' q=some (.tup [.int t,.str n,.int j]):=(SameBut.same n1 S1 sb) _ _ hq;obtain⟨i0,ei⟩:=W6 (rows.take i) t n;have hkl:=LW (rows.take i);rw[List.length_take]at hkl;walk_at"go";refine mX ek ?_;walk_at"go";rename_i b1 H2 n2 S2 e2;refine o7 (kA t n) (by walk_at"hp") (by assumption) ?_;rw[ei];walk_at"go";rename_i b3 H3 n3 S3 e3;refine oY (kA t n) (by walk_at"hp") (by assumption) (by rw[sizeLine_eq];omega) fun H4 B4 e4=> ?_;refine⟨by walk_at"sb",?_,_,_,_,rfl⟩;rw[e4,cU hrx,uR];unfold R3;rw[ei];rfl
  ·rintro _ H' hq_;walk_at"g1";obtain⟨sb,ek,x1,x2,x3,rfl⟩:=hq_;walk_at"g2";rw[hul,List.take_length]at ek;walk_at"go";exact k _ _ n1 (SameBut.same n1 S1 sb) ek
theorem N4 (m:M K mg):Fc P w K mg base "added_up" 1 ["plan"] (E1 K):=⟨_,_,m.SM,m.sP.kp,m.SD,N5 m⟩
theorem aE1 {kvs:List (List Key×V)}:∀(o:Obj) (x:HO),HO.dT kvs≠ .frz o x:=fun _ _ z=>by cases z
theorem YV {C:Addr}{D:bG}{H H':Hp}{p:Addr}{kvs:List (List Key×V)}{h:Addr}{f l:Int}{rz ps:List (Str×Int)}{ds:List aG} (x:bB C D H h f l rz ps ds) (e:H p=some (.dT kvs)) (s:SameBut p H H'):bB C D H' h f l rz ps ds:=by
 walk_at"g1";obtain⟨dx,qs,qp,qd,nk,kv,e1,e2,e3,e4,e5,e6,e7⟩:=x.ex;walk_at"g2";have ne:∀(q:Addr) (o:HO),H q=some o->(∀k,o≠ .dT k)->q≠p:=fun q o h hn z=>by
  rw[z,e]at h;cases h;exact hn _ rfl
 exact⟨dx,qs,qp,qd,nk,kv,s _ _ e1 (ne _ _ e1 fun _ z=>by cases z),s _ _ e2 (ne _ _ e2 fun _ z=>by cases z),s _ _ e3 (ne _ _ e3 fun _ z=>by cases z),e4,e5,s _ _ e6 (ne _ _ e6 fun _ z=>by cases z),Paired.imp' (fun _ d hd=>⟨hd.1,D.but hd.2 e trivial s⟩) e7⟩
theorem IG {rz:List (Str×Int)}{f:Int}{n:Nat} (h:rz.length<=20) (hn:n<=1001):(bQ rz f n).length<=20100:=by
 rw[rW]
 calc _<=_:=Nat.le_refl _
  _<=20100:=by
   first|exact Nat.le_trans (Nat.mul_le_mul hn h) (by decide)|exact Nat.le_trans (Nat.mul_le_mul h hn) (by decide)
theorem T4 {H:Hp}{Q:VK}{p:Addr}{z:Str}{ss:List Str} (e:SqL K H p (ss.map V.str)) (h:Q (.bl (!decide (z∈ss))) H):rIn K true (.str z) (.ref p) H Q:=by
 walk_at"g1";obtain⟨p',xs,e1,e2,e3,e4,e5⟩:=L5 (Q:=fun v H'=>v= .bl (decide (z∈ss))/\H'=H) e ⟨rfl,rfl⟩;walk_at"g2";refine⟨p',xs,e1,e2,e3,e4,?_⟩;have e5:V.bl (inV (.str z) xs)= .bl (decide (z∈ss)):=e5.1;have e6:inV (.str z) xs=decide (z∈ss):=by injection e5
 show Q (.bl (!inV (.str z) xs)) H;rw[e6];exact h
def fY (ds:List aG)(f l t:Int)(n:Str):Int:=match cX ds n with
 | some d=>iY f l d t
 | none=>0
theorem u7 {ds:List aG}{n:Str} (h:n∉ds.map (·.1)):cX ds n=none:=by
 unfold cX;rw[List.find?_eq_none];intro d hd z;exact h (List.mem_map.mpr ⟨d,hd,by simpa using z⟩)
inductive AO (C:Addr)(D:bG)(vs:List V)(H:Hp)(Q:VK)(E:XK):Prop
 | mk (h:Addr) (t:Int) (n:Str) (f l:Int) (rz ps:List (Str×Int)) (ds:List aG) (_:vs=[.ref h,.int t,.str n]) (_:bB C D H h f l rz ps ds) (_:(ds.map (·.1)).Nodup) (_:0<=f) (_:ds.length<=20) (_:∀H',Same H H'->Q (.int (fY ds f l t n)) H'):AO C D vs H Q E
theorem aCV {C:Addr}{D:bG}{H:Hp}{Q:VK}{E:XK}{h:Addr}{t:Int}{n:Str}{f l:Int}{rz ps:List (Str×Int)}{ds:List aG} (hh:bB C D H h f l rz ps ds) (nd:(ds.map (·.1)).Nodup) (hf:0<=f) (ld:ds.length<=20) (k:∀H',Same H H'->Q (.int (fY ds f l t n)) H'):AO C D [.ref h,.int t,.str n] H Q E:=⟨_,_,_,_,_,_,_,_,rfl,hh,nd,hf,ld,k⟩
theorem E8 (m:M K mg):FnOk P w K mg base CX0 8 m.qE m.pV ["house","turn","name"] (AO m.aR (aX P w K mg base (some 4))):=by
 refine m.k7.ok sc_most_through (fun vs H Q E h=> ?_) (fun cdv A outer s H vs Q E hr h=> ?_)
 ·walk_at"g1";obtain⟨h,t,n,f,l,rz,ps,ds,rfl,hh,ndd,hf,ld,k⟩:=h;walk_at"g2";rfl
 ·walk_at"g1";obtain⟨h,t,n,f,l,rz,ps,ds,rfl,hh,ndd,hf,ld,k⟩:=h;walk_at"g2";have nd:=sc_most_through.nd;walk_at"hu";have w_dc_House:=m.bL;have w_mc_House_doors:= @oO P w K mg base m;have w_mc_House_lets:= @qX P w K mg base m;refine⟨_,(aB (bR (aW ML (pv 2) (kC 1 hr (pv 0)) (by with_unfolding_all rfl)) (aF (aV aC)) bC)
   (aF (aV (kU 6 hr (pv 0) (aA (pv 2) (aA (pv 1) aE)))))),?_⟩
  refine aO (σ:=[some (.ref h),some (.int t),some (.str n)]) rfl ?_;walk_at"cx";walk_at"g1";obtain⟨dx,qs,qp,qd,nk,kvs0,e1,_⟩:=hh.ex;walk_at"g2";walk_at"go";refine vT hh fun p1 H1 n1 S1 f1=> ?_;walk_at"go";refine T4 (SqL.of f1) ?_;walk_at"go"
  by_cases hm:n∈ds.map (·.1)
  ·walk_at"g1";obtain⟨d,hd,rfl,hdo⟩:=f9 hm;walk_at"g2";rw[decide_eq_true hm];have e11:=S1 _ _ e1;have hk:fY ds f l t d.1=iY f l d t:=by unfold fY;rw[hdo]
   rw[hk]at k;walk_at"go";refine FR (d:=d) (bK hh S1) ndd hd hf fun H2 S2=> ?_;exact k _ (S1.trans S2)
  ·rw[decide_eq_false hm];have hk:fY ds f l t n=0:=by unfold fY;rw[u7 hm]
   rw[hk]at k;walk_at"go";exact k _ S1
theorem D8 (m:M K mg):Fc P w K mg base "most_through" 8 ["house","turn","name"] (AO m.aR (aX P w K mg base (some 4))):=⟨_,_,m.G1,m.k7.kp,m.GT,E8 m⟩
inductive AK (K:W.Frag)(C:Addr)(D:bG)(vs:List V)(H:Hp)(Q:VK)(E:XK):Prop
 | mk (h a:Addr) (f l:Int) (rz ps:List (Str×Int)) (ds:List aG) (us:List V) (rows:List aT) (_:vs=[.ref h,.ref a]) (_:bB C D H h f l rz ps ds) (_:(ds.map (·.1)).Nodup) (_:0<=f) (_:ds.length<=20) (_:SqL K H a us) (_:bS H us rows) (_:rows.length<=200) (_:(∀t n,cO rows t n<=fY ds f l t n)) (_:∀p H',H p=none->Same H H'->H' p=some (.lst [])->Q (.ref p) H'):AK K C D vs H Q E
theorem aCN {C:Addr}{D:bG}{H:Hp}{Q:VK}{E:XK}{h a:Addr}{f l:Int}{rz ps:List (Str×Int)}{ds:List aG}{us:List V}{rows:List aT} (hh:bB C D H h f l rz ps ds) (nd:(ds.map (·.1)).Nodup) (hf:0<=f) (ld:ds.length<=20) (hS:SqL K H a us) (hp:bS H us rows) (hl:rows.length<=200) (hc:∀t n,cO rows t n<=fY ds f l t n) (k:∀p H',H p=none->Same H H'->H' p=some (.lst [])->Q (.ref p) H'):AK K C D [.ref h,.ref a] H Q E:=⟨_,_,_,_,_,_,_,_,_,rfl,hh,nd,hf,ld,hS,hp,hl,hc,k⟩
theorem GL (m:M K mg):FnOk P w K mg base CX0 9 m.rJ m.rO ["house","plan"] (AK K m.aR (aX P w K mg base (some 4))):=by
 refine m.lY.ok sc_door_faults (fun vs H Q E h=> ?_) (fun cdv A outer s H vs Q E hr h=> ?_)
 ·walk_at"g1";obtain⟨h,a,f,l,rz,ps,ds,us,rows,rfl,hh,ndd,hf,ld,hS,hpl,hlen,hc,k⟩:=h;walk_at"g2";rfl
 ·walk_at"g1";obtain⟨h,a,f,l,rz,ps,ds,us,rows,rfl,hh,ndd,hf,ld,hS,hpl,hlen,hc,k⟩:=h;walk_at"g2";have nd:=sc_door_faults.nd;walk_at"hu";have sP:= @N4 P w K mg base m;have k7:= @D8 P w K mg base m;have w_dc_House:=m.bL;refine⟨_,(aB (aP (i:=2) nd rfl (by walk_at"oi") (bF sP hr (aA (pv 1) aE)))
   (aF (aV (AN (cV (N:=["turn","name","going","house"]) (nl:=2) (ci:=[2,0]) rfl (blk (s.heap.objs.size+1) rfl rfl rfl (by kernel_rfl)) (X9 (pv 2)) (fun _ _ _ _=>(jV (K:=K) (n:=2) rfl (aN (aH (i:=0) (show (["turn","name","going","house"]:List Str).Nodup by decide +kernel) rfl (by walk_at"oi")) (aN (aH (i:=1) (show (["turn","name","going","house"]:List Str).Nodup by decide +kernel) rfl (by walk_at"oi")) cM)))) (fun _ _ _ _=>(gY (aW lX (c6 hu1 (pv 2) (bU (aA (pv 0) (aA (pv 1) aE))) (fun _ _=>rfl)) (bF k7 hr (aA (pv 3) (aA (pv 0) (aA (pv 1) aE)))) (aY _)))) (fun _ _ _ _=>(bU (aA (pv 0) (aA fE (aA (pv 1) aE)))))))))),?_⟩
  refine aO (σ:=[some (.ref h),some (.ref a),none]) rfl ?_;walk_at"cx";walk_at"go";refine aE5 hS hpl hlen fun p1 H1 n1 S1 e1=> ?_;walk_at"go";refine wY e1 aE1 ?_;walk_at"go";refine Y3 ?_;walk_at"go";refine YW e1 fun o H2 B2 e2=> ?_;have hg:=IJ rows;have hln:=LW rows;have hh2:bB m.aR (aX P w K mg base (some 4)) H2 h f l rz ps ds:=YV (bK hh S1) e1 B2;refine aCZ (fun _=>false) (fun _ _ _=>False) (fun _ _ _ _ h _=>h) (fun e he=>by
   walk_at"g1";obtain⟨t,n,i,rfl⟩:=hg.2 e he;walk_at"g2";rfl) (by rw[sizeLine_eq];omega) (rest:=[some (.ref p1),some (.ref h)]) (by rfl) e2 ?_ (fun _ _ _ _ _ hc=>nomatch hc) ?_
  ·intro k1 k2 v H3 hm s3 R hR;walk_at"g1";obtain⟨t,n,i,hte⟩:=hg.2 _ hm;walk_at"g2";have h1:k1= .inl t/\k2= .inr n/\v= .int i:=by
    have e1':=congrArg Prod.fst hte;have e2':=congrArg Prod.snd hte;have e1'':[k1,k2]=kA t n:=e1';unfold kA at e1'';injection e1'' with a1 a2;injection a2 with a2;exact⟨a1,a2,e2'⟩
   obtain⟨rfl,rfl,rfl⟩:=h1;have hv:bD (qW rows) (kA t n)=some (.int i):=sU hg.1 hm;have hi:i=cO rows t n:=by
    have:=XC t n rows;rw[hv]at this;exact this
   have hle:=hc t n;show (_:TT) (some (V.int t)::some (V.str n)::[some (.ref p1),some (.ref h)]) H3 R;walk_at"go";rename_i b4 H4 n4 S4 e4;refine xK (kA t n) (.inr ⟨o,S4 _ _ (s3 _ _ e2)⟩) e4 hv ?_;walk_at"go";refine aCV (bK hh2 (s3.trans S4)) ndd hf ld fun H5 S5=> ?_;walk_at"go";rw[decide_eq_false (by omega)];exact hR _ (S4.trans S5)
  intro ys H3 s3 hys;rw[List.filter_eq_nil_iff.mpr (fun _ _=>Bool.false_ne_true)]at hys;cases hys;walk_at"go";rename_i p4 H4 n4 S4 e4;refine qP (S4 _ _ (s3 _ _ e2)) fun H5 B5 e5=> ?_;have hpq:p4≠p1:=fun z=>by rw[z,s3 _ _ e2]at n4;cases n4
  have hn:H p4=none:=by
   cases hq:H p4 with
   | none=>rfl
   | some u =>
    have:=s3 _ _ (B2 _ _ (S1 _ _ hq) hpq);rw[n4]at this;cases this
  have fr:∀b u,H b=some u->b≠p1:=fun b u hb z=>by rw[z,n1]at hb;cases hb
  exact k p4 H5 hn (fun b u hb=>B5 _ _ (S4 _ _ (s3 _ _ (B2 _ _ (S1 _ _ hb) (fr b u hb)))) (fr b u hb)) (B5 _ _ e4 hpq)
theorem GK (m:M K mg):Fc P w K mg base "door_faults" 9 ["house","plan"] (AK K m.aR (aX P w K mg base (some 4))):=⟨_,_,m.J6,m.lY.kp,m.JZ,GL m⟩
inductive A4 (K:W.Frag)(C:Addr)(D:bG)(vs:List V)(H:Hp)(Q:VK)(E:XK):Prop
 | mk (h a b:Addr) (f l:Int) (rz ps:List (Str×Int)) (ds:List aG) (us:List V) (rows:List aT) (L C':List Key->Int) (_:vs=[.ref h,.ref a,.ref b]) (_:bB C D H h f l rz ps ds) (_:(rz.map (·.1)).Nodup) (_:(ds.map (·.1)).Nodup) (_:(∀d∈ds,cK (rz.map (·.1)) d)) (_:0<=f) (_:f<=l) (_:l<1000000000000) (_:l - f<=1000) (_:rz.length<=20) (_:SqL K H a us) (_:bS H us rows) (_:rows.length<=200) (_:H b=some (.dT (kB ps L C' f (bQ rz f (l+1 - f).toNat)))) (_:(∀e∈rz,∀i:Nat,f+(i:Int)<l->dX (eG ds) (rows.filter (cnt (ds.map (·.1)) f l)) (bW (e.1,f+(i:Int)))<=g0 ps L C' e.1 f i)) (_:∀p H',H p=none->Same H H'->H' p=some (.lst [])->Q (.ref p) H'):A4 K C D vs H Q E
theorem EY (m:M K mg):FnOk P w K mg base CX0 5 m.pZ m.pW ["house","plan","inside"] (A4 K m.aR (aX P w K mg base (some 4))):=by
 refine m.k5.ok sc_leave_faults (fun vs H Q E h=> ?_) (fun cdv A outer s H vs Q E hr h=> ?_)
 ·walk_at"g1";obtain⟨h,a,b,f,l,rz,ps,ds,us,rows,L,C',rfl,hh,nr,ndd,hin,h0,h1,h2,h3,lr,hS,hpl,hlen,eb,hc,k⟩:=h;walk_at"g2";rfl
 ·walk_at"g1";obtain⟨h,a,b,f,l,rz,ps,ds,us,rows,L,C',rfl,hh,nr,ndd,hin,h0,h1,h2,h3,lr,hS,hpl,hlen,eb,hc,k⟩:=h;walk_at"g2";have nd:=sc_leave_faults.nd;walk_at"hu";have m3:= @EE P w K mg base m;have w_dc_House:=m.bL;have w_mc_House_pairs:= @oR P w K mg base m;refine⟨_,(aB (aP (i:=3) nd rfl (by walk_at"oi") (bF m3 hr (aA (pv 0) (aA (pv 1) aE))))
   (aB (d4 (i:=4) nd rfl (by walk_at"oi") (N:=["pair","house"]) (nl:=1) (ci:=[0]) rfl (blk (s.heap.objs.size+1) rfl rfl rfl (by kernel_rfl)) (bH (kC 1 hr (pv 0))) (fun _ _ _ _=>(aH (i:=0) (show (["pair","house"]:List Str).Nodup by decide +kernel) rfl (by walk_at"oi"))) (fun _ _ _ _=>(gY (aW j6 (bA (gE (K:=K)) (pv 0) aC (fun _ _=>rfl)) (kZ (K:=K) (pv 1) rfl) (aY _)))) (fun _ _ _ _=>(pv 0)))
   (aF (aV (cV (N:=["room","turn","inside","leave"]) (nl:=2) (ci:=[2,3]) rfl (blk (s.heap.objs.size+1) rfl rfl rfl (by kernel_rfl)) (bH (pv 4)) (fun _ _ _ _=>(jV (K:=K) (n:=2) rfl (aN (aH (i:=0) (show (["room","turn","inside","leave"]:List Str).Nodup by decide +kernel) rfl (by walk_at"oi")) (aN (aH (i:=1) (show (["room","turn","inside","leave"]:List Str).Nodup by decide +kernel) rfl (by walk_at"oi")) cM)))) (fun _ _ _ _=>(gY (aW lX (o0 hu1 (pv 3) (bU (aA (pv 0) (aA (pv 1) aE))) aC ⟨rfl,rfl,rfl,rfl⟩) (c6 hu1 (pv 2) (bU (aA (pv 0) (aA (pv 1) aE))) (fun _ _=>rfl)) (aY _)))) (fun _ _ _ _=>(bU (aA (pv 1) (aA fE (aA (pv 0) aE)))))))))),?_⟩
  refine aO (σ:=[some (.ref h),some (.ref a),some (.ref b),none,none]) rfl ?_;walk_at"cx";walk_at"g1";obtain⟨dx,qs,qp,qd,nk,kvs0,e1,_⟩:=hh.ex;walk_at"g2";walk_at"go";refine F7 hh ndd hin hS hpl hlen fun p1 H1 n1 S1 f1=> ?_;have e11:=S1 _ _ e1;walk_at"go";refine FX (bK hh S1) h0 h1 h2 h3 lr fun p2 ys H2 n2 S2 f2 hys=> ?_;have e12:=S2 _ _ e11;walk_at"go";have hpn:(bQ rz f (l+1 - f).toNat).length<=20100:=IG lr (by omega);have hyl:ys.length=(bQ rz f (l+1 - f).toNat).length:=Paired.length hys;refine fI (α:=Str×Int) (xs:=bQ rz f (l+1 - f).toNat) (vs:=ys) (bZ H2) (fun x=>decide (x.2<l)) (fun x y H=>bZ H y x) (fun _ _ _ _ ⟨q,h1,h2⟩ s=>⟨q,h1,s _ _ h2⟩) (by rw[sizeLine_eq];omega) (rest:=[some (.ref h)]) (by rfl) (SqL.of f2) hys ?_ ?_ ?_
  ·rintro v ⟨z,u⟩ H3 ⟨q3,rfl,hq3⟩ hm s3 R hR;have hq3:H3 q3=some (.tup [.str z,.int u]):=s3 _ _ hq3;have e13:=s3 _ _ e12;walk_at"go";refine⟨q3,_,1,_,rfl,rfl,SqT.of hq3,rfl,?_⟩;walk_at"go";exact hR _ (Same.refl _)
  ·rintro v x H3 ⟨q3,rfl,hq3⟩ hm - s3 R hR;walk_at"go";exact hR _ _ ⟨q3,rfl,s3 _ _ hq3⟩ (Same.refl _)
  intro zs H3 s3 hzs;have hzp:Paired (bZ H3) zs ((bQ rz f (l+1 - f).toNat).filter fun x=>decide (x.2<l)):=iJ hzs;have hfl:((bQ rz f (l+1 - f).toNat).filter fun x=>decide (x.2<l)).length<=20100:=Nat.le_trans (List.length_filter_le _ _) hpn;walk_at"go";rename_i p4 H4 n4 S4 e4;have s14:=S2.trans (s3.trans S4);have f14:=s14 _ _ f1;have eb4:=s14 _ _ (S1 _ _ eb);refine oT (α:=Str×Int) (xs:=(bQ rz f (l+1 - f).toNat).filter fun x=>decide (x.2<l)) (vs:=zs) (fun x=> .str x.1) (fun x=> .int x.2) (fun _=>false) (fun _ _ _=>False) (fun _ _ _ _ h _=>h) (by rw[sizeLine_eq];omega) (rest:=[some (.ref b),some (.ref p1)]) (by rfl) (SqL.of e4) (lP hzp S4) ?_ (fun _ _ _ hc=>nomatch hc) ?_
  ·rintro ⟨z,u⟩ H5 hx s5 R hR;obtain⟨hx1,hx2⟩:=List.mem_filter.mp hx;have hx2:u<l:=by simpa using hx2
   walk_at"g1";obtain⟨hz,i,hi,hu⟩:=pairsN_mem.mp hx1;walk_at"g2";obtain⟨e,he,hez⟩:=List.mem_map.mp hz;have hez:e.1=z:=hez;have hle:=hc e he i (by omega);rw[hez,←hu]at hle;have f15:=s5 _ _ f14;have eb5:=s5 _ _ eb4;have hui:(u - f).toNat=i:=by omega
   have hpi:bD (kB ps L C' f (bQ rz f (l+1 - f).toNat)) (bW (z,u))=some (.int (g0 ps L C' z f i)):=by
    have h:=CN (ps:=ps) (L:=L) (C:=C') (f:=f) (nE nr f (l+1 - f).toNat) hx1;rw[show (((z,u):Str×Int).2 - f).toNat=i from hui]at h;exact h
   show (_:TT) (some (V.str z)::some (V.int u)::[some (.ref b),some (.ref p1)]) H5 R;walk_at"go";refine mX f15 ?_;walk_at"go";rename_i b6 H6 n6 S6 e6;refine o7 (bW (z,u)) (S6 _ _ f15) e6 ?_;rw[CP];walk_at"go";rename_i b7 H7 n7 S7 e7;refine xK (bW (z,u)) (.inl (S7 _ _ (S6 _ _ eb5))) e7 hpi ?_;walk_at"go";rw[decide_eq_false (by omega)];exact hR _ (S6.trans S7)
  intro ws H5 s5 hws;rw[List.filter_eq_nil_iff.mpr (fun _ _=>Bool.false_ne_true)]at hws;cases hws;walk_at"go";rename_i p6 H6 n6 S6 e6;have s06:Same H H6:=S1.trans (s14.trans (s5.trans S6));refine k p6 H6 ?_ s06 e6;cases hq:H p6 with
  | none=>rfl
  | some u =>
   have:=(S1.trans (s14.trans s5)) _ _ hq;rw[n6]at this;cases this
theorem EW (m:M K mg):Fc P w K mg base "leave_faults" 5 ["house","plan","inside"] (A4 K m.aR (aX P w K mg base (some 4))):=⟨_,_,m.GS,m.k5.kp,m.GW,EY m⟩
theorem aCz {C:Addr}{D:bG}{H:Hp}{Q:VK}{E:XK}{h a b:Addr}{f l:Int}{rz ps:List (Str×Int)}{ds:List aG}{us:List V}{rows:List aT}{L C':List Key->Int} (hh:bB C D H h f l rz ps ds) (nr:(rz.map (·.1)).Nodup) (nd:(ds.map (·.1)).Nodup) (hin:∀d∈ds,cK (rz.map (·.1)) d) (h0:0<=f) (h1:f<=l) (h2:l<1000000000000) (h3:l - f<=1000) (lr:rz.length<=20) (hS:SqL K H a us) (hp:bS H us rows) (hl:rows.length<=200) (eb:H b=some (.dT (kB ps L C' f (bQ rz f (l+1 - f).toNat)))) (hc:∀e∈rz,∀i:Nat,f+(i:Int)<l->dX (eG ds) (rows.filter (cnt (ds.map (·.1)) f l)) (bW (e.1,f+(i:Int)))<=g0 ps L C' e.1 f i) (k:∀p H',H p=none->Same H H'->H' p=some (.lst [])->Q (.ref p) H'):A4 K C D [.ref h,.ref a,.ref b] H Q E:=⟨_,_,_,_,_,_,_,_,_,_,_,_,rfl,hh,nr,nd,hin,h0,h1,h2,h3,lr,hS,hp,hl,eb,hc,k⟩
inductive AI (C:Addr)(D:bG)(vs:List V)(H:Hp)(Q:VK)(E:XK):Prop
 | mk (h b:Addr) (f l:Int) (rz ps:List (Str×Int)) (ds:List aG) (L C':List Key->Int) (_:vs=[.ref h,.ref b]) (_:bB C D H h f l rz ps ds) (_:(rz.map (·.1)).Nodup) (_:0<=f) (_:f<=l) (_:l<1000000000000) (_:l - f<=1000) (_:rz.length<=20) (_:H b=some (.dT (kB ps L C' f (bQ rz f (l+1 - f).toNat)))) (_:(∀e∈rz,∀i:Nat,f+(i:Int)<=l->g0 ps L C' e.1 f i<=e.2)) (_:∀p H',H p=none->Same H H'->H' p=some (.lst [])->Q (.ref p) H'):AI C D vs H Q E
theorem aC1 {C:Addr}{D:bG}{H:Hp}{Q:VK}{E:XK}{h b:Addr}{f l:Int}{rz ps:List (Str×Int)}{ds:List aG}{L C':List Key->Int} (hh:bB C D H h f l rz ps ds) (nr:(rz.map (·.1)).Nodup) (h0:0<=f) (h1:f<=l) (h2:l<1000000000000) (h3:l - f<=1000) (lr:rz.length<=20) (eb:H b=some (.dT (kB ps L C' f (bQ rz f (l+1 - f).toNat)))) (hc:∀e∈rz,∀i:Nat,f+(i:Int)<=l->g0 ps L C' e.1 f i<=e.2) (k:∀p H',H p=none->Same H H'->H' p=some (.lst [])->Q (.ref p) H'):AI C D [.ref h,.ref b] H Q E:=⟨_,_,_,_,_,_,_,_,_,rfl,hh,nr,h0,h1,h2,h3,lr,eb,hc,k⟩
theorem GO (m:M K mg):FnOk P w K mg base CX0 5 m.q0 m.rB ["house","inside"] (AI m.aR (aX P w K mg base (some 4))):=by
 refine m.lZ.ok sc_full_faults (fun vs H Q E h=> ?_) (fun cdv A outer s H vs Q E hr h=> ?_)
 ·walk_at"g1";obtain⟨h,b,f,l,rz,ps,ds,L,C',rfl,hh,nr,h0,h1,h2,h3,lr,eb,hc,k⟩:=h;walk_at"g2";rfl
 ·walk_at"g1";obtain⟨h,b,f,l,rz,ps,ds,L,C',rfl,hh,nr,h0,h1,h2,h3,lr,eb,hc,k⟩:=h;walk_at"g2";have nd:=sc_full_faults.nd;walk_at"hu";have w_dc_House:=m.bL;have w_mc_House_pairs:= @oR P w K mg base m;have w_mc_House_holds:= @vW P w K mg base m;refine⟨_,(aF (aV (cV (N:=["room","turn","inside","house"]) (nl:=2) (ci:=[1,0]) rfl (blk (s.heap.objs.size+1) rfl rfl rfl (by kernel_rfl)) (bH (kC 1 hr (pv 0))) (fun _ _ _ _=>(jV (K:=K) (n:=2) rfl (aN (aH (i:=0) (show (["room","turn","inside","house"]:List Str).Nodup by decide +kernel) rfl (by walk_at"oi")) (aN (aH (i:=1) (show (["room","turn","inside","house"]:List Str).Nodup by decide +kernel) rfl (by walk_at"oi")) cM)))) (fun _ _ _ _=>(gY (aW lX (c6 hu1 (pv 2) (bU (aA (pv 0) (aA (pv 1) aE))) (fun _ _=>rfl)) (vZ (P:=P) (w:=w) (K:=K) (mg:=mg) (base:=base) 3 hr (pv 3) (aA (pv 0) aE)) (aY _)))) (fun _ _ _ _=>(bU (aA (pv 1) (aA fE (aA (pv 0) aE)))))))),?_⟩;refine aO (σ:=[some (.ref h),some (.ref b)]) rfl ?_;walk_at"cx";walk_at"g1";obtain⟨dx,qs,qp,qd,nk,kvs0,e1,_⟩:=hh.ex;walk_at"g2";walk_at"go";refine FX hh h0 h1 h2 h3 lr fun p2 ys H2 n2 S2 f2 hys=> ?_;have hpn:(bQ rz f (l+1 - f).toNat).length<=20100:=IG lr (by omega);have eb2:=S2 _ _ eb;have hh2:=bK hh S2;have e12:=S2 _ _ e1;walk_at"go";refine oT (α:=Str×Int) (xs:=bQ rz f (l+1 - f).toNat) (vs:=ys) (fun x=> .str x.1) (fun x=> .int x.2) (fun _=>false) (fun _ _ _=>False) (fun _ _ _ _ h _=>h) (by rw[sizeLine_eq];omega) (rest:=[some (.ref b),some (.ref h)]) (by rfl) (SqL.of f2) hys ?_ (fun _ _ _ hc=>nomatch hc) ?_
  ·rintro ⟨z,u⟩ H5 hx1 s5 R hR;walk_at"g1";obtain⟨hz,i,hi,hu⟩:=pairsN_mem.mp hx1;walk_at"g2";walk_at"g1";obtain⟨⟨ez,ej⟩,he,hez⟩:=List.mem_map.mp hz;walk_at"g2";have hez:ez=z:=hez;subst hez;have hle:g0 ps L C' ez f i<=ej:=hc _ he i (by omega);have eb5:=s5 _ _ eb2;have e15:=s5 _ _ e12;have hui:(u - f).toNat=i:=by omega
   have hpi:bD (kB ps L C' f (bQ rz f (l+1 - f).toNat)) (bW (ez,u))=some (.int (g0 ps L C' ez f i)):=by
    have h:=CN (ps:=ps) (L:=L) (C:=C') (f:=f) (nE nr f (l+1 - f).toNat) hx1;rw[show (((ez,u):Str×Int).2 - f).toNat=i from hui]at h;exact h
   show (_:TT) (some (V.str ez)::some (V.int u)::[some (.ref b),some (.ref h)]) H5 R;walk_at"go";rename_i b7 H7 n7 S7 e7;refine xK (bW (ez,u)) (.inl (S7 _ _ eb5)) e7 hpi ?_;have e17:=S7 _ _ e15;walk_at"go";refine GD (bK hh2 (s5.trans S7)) nr he fun H8 S8=> ?_;walk_at"go";rw[decide_eq_false (by omega)];exact hR _ (S7.trans S8)
  intro ws H5 s5 hws;rw[List.filter_eq_nil_iff.mpr (fun _ _=>Bool.false_ne_true)]at hws;cases hws;walk_at"go";rename_i p6 H6 n6 S6 e6;refine k p6 H6 ?_ (S2.trans (s5.trans S6)) e6;cases hq:H p6 with
  | none=>rfl
  | some u =>
   have:=(S2.trans s5) _ _ hq;rw[n6]at this;cases this
theorem GB (m:M K mg):Fc P w K mg base "full_faults" 5 ["house","inside"] (AI m.aR (aX P w K mg base (some 4))):=⟨_,_,m.J4,m.lZ.kp,m.KD,GO m⟩
structure NoFlt (rz ps:List (Str×Int))(ds:List aG)(f l:Int)(rows:List aT):Prop where
 door:∀t n,cO rows t n<=fY ds f l t n
 lv:∀e∈rz,∀i:Nat,f+(i:Int)<l->dX (eG ds) (rows.filter (cnt (ds.map (·.1)) f l)) (bW (e.1,f+(i:Int)))<=g0 ps (dX (eG ds) (rows.filter (cnt (ds.map (·.1)) f l))) (dX (fZ ds) (rows.filter (cnt (ds.map (·.1)) f l))) e.1 f i
 full:∀e∈rz,∀i:Nat,f+(i:Int)<=l->g0 ps (dX (eG ds) (rows.filter (cnt (ds.map (·.1)) f l))) (dX (fZ ds) (rows.filter (cnt (ds.map (·.1)) f l))) e.1 f i<=e.2
inductive EO (K:W.Frag)(C:Addr)(D:bG)(vs:List V)(H:Hp)(Q:VK)(E:XK):Prop
 | mk (h a:Addr) (f l:Int) (rz ps:List (Str×Int)) (ds:List aG) (us:List V) (rows:List aT) (_:vs=[.ref h,.ref a]) (_:bB C D H h f l rz ps ds) (_:(rz.map (·.1)).Nodup) (_:(ds.map (·.1)).Nodup) (_:(∀d∈ds,cK (rz.map (·.1)) d)) (_:0<=f) (_:f<=l) (_:l<1000000000000) (_:l - f<=1000) (_:rz.length<=20) (_:ds.length<=20) (_:SqL K H a us) (_:bS H us rows) (_:rows.length<=200) (_:NoFlt rz ps ds f l rows) (_:∀p H',H p=none->Same H H'->H' p=some (.lst [])->Q (.ref p) H'):EO K C D vs H Q E
theorem aE3 {C:Addr}{D:bG}{H:Hp}{Q:VK}{E:XK}{h a:Addr}{f l:Int}{rz ps:List (Str×Int)}{ds:List aG}{us:List V}{rows:List aT} (hh:bB C D H h f l rz ps ds) (nr:(rz.map (·.1)).Nodup) (nd:(ds.map (·.1)).Nodup) (hin:∀d∈ds,cK (rz.map (·.1)) d) (h0:0<=f) (h1:f<=l) (h2:l<1000000000000) (h3:l - f<=1000) (lr:rz.length<=20) (ld:ds.length<=20) (hS:SqL K H a us) (hp:bS H us rows) (hl:rows.length<=200) (nf:NoFlt rz ps ds f l rows) (k:∀p H',H p=none->Same H H'->H' p=some (.lst [])->Q (.ref p) H'):EO K C D [.ref h,.ref a] H Q E:=⟨_,_,_,_,_,_,_,_,_,rfl,hh,nr,nd,hin,h0,h1,h2,h3,lr,ld,hS,hp,hl,nf,k⟩
theorem T9 (m:M K mg):FnOk P w K mg base CX0 10 m.DW m.DO ["house","plan"] (EO K m.aR (aX P w K mg base (some 4))):=by
 refine m.xR.ok sc_faults (fun vs H Q E h=> ?_) (fun cdv A outer s H vs Q E hr h=> ?_)
 ·walk_at"g1";obtain⟨h,a,f,l,rz,ps,ds,us,rows,rfl,hh,nr,ndd,hin,h0,h1,h2,h3,lr,ld,hS,hpl,hlen,nf,k⟩:=h;walk_at"g2";rfl
 ·walk_at"g1";obtain⟨h,a,f,l,rz,ps,ds,us,rows,rfl,hh,nr,ndd,hin,h0,h1,h2,h3,lr,ld,hS,hpl,hlen,nf,k⟩:=h;walk_at"g2";have nd:=sc_faults.nd;walk_at"hu";have lY:= @GK P w K mg base m;have lZ:= @GB P w K mg base m;have k5:= @EW P w K mg base m;have A6:= @XO P w K mg base m;have w_dc_House:=m.bL;refine⟨_,(aB (aP (i:=2) nd rfl (by walk_at"oi") (bF A6 hr (aA (pv 0) (aA (pv 1) aE))))
   (aF (aV (bP tL rfl m.DU zL (aA (aI E3 (aI E3 (bF lY hr (aA (pv 0) (aA (pv 1) aE))) (bF k5 hr (aA (pv 0) (aA (pv 1) (aA (pv 2) aE))))) (bF lZ hr (aA (pv 0) (aA (pv 2) aE)))) aE))))),?_⟩
  refine aO (σ:=[some (.ref h),some (.ref a),none]) rfl ?_;walk_at"cx";walk_at"go";refine⟨_,_,_,_,_,_,_,_,_,rfl,hh,nr,ndd,hin,h0,h1,h2,h3,lr,hS,hpl,hlen,fun p1 H1 n1 S1 e1=> ?_⟩;walk_at"go";refine aCN (bK hh S1) ndd h0 ld (S1.seq hS) (d7 hpl S1) hlen nf.door fun p2 H2 n2 S2 e2=> ?_;have s02:=S1.trans S2;walk_at"go";refine aCz (bK hh s02) nr ndd hin h0 h1 h2 h3 lr (s02.seq hS) (d7 hpl s02) hlen (S2 _ _ e1) nf.lv fun p3 H3 n3 S3 e3=> ?_;have s03:=s02.trans S3;walk_at"go";refine FV (S3 _ _ e2) e3 (by decide) fun p4 H4 n4 S4 e4=> ?_;have s04:=s03.trans S4;walk_at"go";refine aC1 (bK hh s04) nr h0 h1 h2 h3 lr ((S2.trans (S3.trans S4)) _ _ e1) nf.full fun p5 H5 n5 S5 e5=> ?_;walk_at"go";rename_i p6 H6 n6 S6 e6;have e6:H6 p6=some (.lst []):=e6;have s06:=s04.trans (S5.trans S6);refine LK (rs:=[]) (sh:=[true]) (SqL.of e6) .nil (by decide) (fun _ z=>nomatch z) (by decide) fun p7 ws H7 n7 S7 e7 hws=> ?_;rw[show EL []=[] from rfl]at hws;cases hws;refine k p7 H7 ?_ (s06.trans S7) e7;cases hq:H p7 with
  | none=>rfl
  | some u =>
   have:=s06 _ _ hq;rw[n7]at this;cases this
theorem SW (m:M K mg):Fc P w K mg base "faults" 10 ["house","plan"] (EO K m.aR (aX P w K mg base (some 4))):=⟨_,_,m.Y9,m.xR.kp,m.ZH,T9 m⟩
def qG (ds:List aG)(f:Int)(z:Str)(t:Int)(r:aT):Int:=if r.2.1∈ds.map (·.1)/\f<=r.1/\r.1<t then (match cX ds r.2.1 with|some d=>(if d.2.1=z then - r.2.2 else 0)+(if d.2.2.1= .str z then r.2.2 else 0)|none=>0) else 0
def bY (ds:List aG)(f:Int)(z:Str)(t:Int)(rows:List aT):Int:=(rows.map (qG ds f z t)).sum
theorem T1 (ds:List aG)(f:Int)(z:Str):∀rows:List aT,bY ds f z f rows=0
 | []=>rfl
 | r::rows=>by
  have h:=T1 ds f z rows;unfold bY at h ⊢;rw[List.map_cons,List.sum_cons,h];unfold qG;rw[if_neg (by omega)];rfl
theorem zS (key:aT->Option (List Key))(rt:Int)(rn:Str)(rj:Int)(rows:List aT)(k:List Key):dX key ((rt,rn,rj)::rows) k=(if key (rt,rn,rj)=some k then rj else 0)+dX key rows k:=by
 unfold dX
 by_cases h:key (rt,rn,rj)=some k
 ·rw[List.filter_cons_of_pos (by simp[h]),List.map_cons,List.sum_cons,if_pos h]
 ·rw[List.filter_cons_of_neg (by simp[h]),if_neg h,Int.zero_add]
theorem key_pair {z y:Str}{t u:Int}:(some [Sum.inr z,Sum.inl t]:Option (List Key))=some (bW (y,u))↔z=y/\t=u:=by
 constructor
 ·intro h;have:=w9 (a:=(z,t)) (b:=(y,u)) (Option.some.inj h);cases this;exact⟨rfl,rfl⟩
 ·rintro ⟨rfl,rfl⟩;rfl
theorem yQ (ds:List aG)(f l:Int)(z:Str)(t:Int)(hf:f<=t)(hl:t<l):∀rows:List aT,bY ds f z (t+1) rows=bY ds f z t rows - dX (eG ds) (rows.filter (cnt (ds.map (·.1)) f l)) (bW (z,t))+dX (fZ ds) (rows.filter (cnt (ds.map (·.1)) f l)) (bW (z,t))
 | []=>by simp[bY,dX]
 | r::rows=>by
  have ih:=yQ ds f l z t hf hl rows;obtain⟨rt,rn,rj⟩:=r;have e1:bY ds f z (t+1) ((rt,rn,rj)::rows)=qG ds f z (t+1) (rt,rn,rj)+bY ds f z (t+1) rows:=by unfold bY;rw[List.map_cons,List.sum_cons]
  have e2:bY ds f z t ((rt,rn,rj)::rows)=qG ds f z t (rt,rn,rj)+bY ds f z t rows:=by unfold bY;rw[List.map_cons,List.sum_cons]
  rw[e1,e2,ih]
  by_cases hm:rn∈ds.map (·.1)
  ·walk_at"g1";obtain⟨⟨dn,dst,de,dw⟩,hd,rfl,hdo⟩:=f9 hm;walk_at"g2";have kL:eG ds (rt,dn,rj)=some [.inr dst,.inl rt]:=by
    unfold eG;rw[show cX ds ((rt,dn,rj):aT).2.1=some (dn,dst,de,dw) from hdo];rfl
   have g:∀u,qG ds f z u (rt,dn,rj)=if f<=rt/\rt<u then (if dst=z then - rj else 0)+(if de= .str z then rj else 0) else 0:=fun u=>by
    unfold qG;rw[show cX ds ((rt,dn,rj):aT).2.1=some (dn,dst,de,dw) from hdo]
    by_cases hu:f<=rt/\rt<u
    ·rw[if_pos ⟨hm,hu⟩,if_pos hu]
    ·rw[if_neg (fun z=>hu z.2),if_neg hu]
   have kc2:(fZ ds (rt,dn,rj)=some (bW (z,t)))↔(de= .str z/\rt=t):=by
    unfold fZ;rw[show cX ds ((rt,dn,rj):aT).2.1=some (dn,dst,de,dw) from hdo,Option.bind_some];clear e1 e2 hm hdo g kL hd;cases de with
    | str y =>
     show some [Sum.inr y,Sum.inl rt]=_↔_;rw[key_pair]
     constructor
     ·rintro ⟨rfl,rfl⟩;exact⟨rfl,rfl⟩
     ·rintro ⟨h,rfl⟩;cases h;exact⟨rfl,rfl⟩
    | _=>exact⟨(fun h=>nomatch h),(fun h=>nomatch h.1)⟩
   have kl2:(eG ds (rt,dn,rj)=some (bW (z,t)))↔(dst=z/\rt=t):=by rw[kL,key_pair]
   rw[g,g]
   by_cases hc:f<=rt/\rt<l
   ·have hcn:cnt (ds.map (·.1)) f l (rt,dn,rj)=true:=by
     unfold cnt;simp only[Bool.and_eq_true,decide_eq_true_eq];exact⟨hm,hc⟩
    rw[List.filter_cons_of_pos hcn,zS,zS]
    by_cases ht:rt=t
    ·subst ht;have a1:(if eG ds (rt,dn,rj)=some (bW (z,rt)) then rj else 0)=if dst=z then rj else 0:=by
      by_cases h:dst=z
      ·rw[if_pos h,if_pos (kl2.mpr ⟨h,rfl⟩)]
      ·rw[if_neg h,if_neg (fun y=>h (kl2.mp y).1)]
     have a2:(if fZ ds (rt,dn,rj)=some (bW (z,rt)) then rj else 0)=if de= .str z then rj else 0:=by
      by_cases h:de= .str z
      ·rw[if_pos h,if_pos (kc2.mpr ⟨h,rfl⟩)]
      ·rw[if_neg h,if_neg (fun y=>h (kc2.mp y).1)]
     have p1:f<=rt/\rt<rt+1:=by omega
     have p2:¬(f<=rt/\rt<rt):=by omega
     rw[a1,a2,if_pos p1,if_neg p2]
     by_cases h1:dst=z
     ·rw[if_pos h1,if_pos h1];omega
     ·rw[if_neg h1,if_neg h1];omega
    ·rw[if_neg (fun z=>ht (kl2.mp z).2),if_neg (fun z=>ht (kc2.mp z).2)]
     by_cases hu:f<=rt/\rt<t
     ·have p1:f<=rt/\rt<t+1:=by omega
      rw[if_pos p1,if_pos hu];omega
     ·have p1:¬(f<=rt/\rt<t+1):=by omega
      rw[if_neg p1,if_neg hu];omega
   ·have hcn:¬cnt (ds.map (·.1)) f l (rt,dn,rj)=true:=by
     unfold cnt;simp only[Bool.and_eq_true,decide_eq_true_eq];exact fun z=>hc z.2
    have p1:¬(f<=rt/\rt<t+1):=by omega
    have p2:¬(f<=rt/\rt<t):=by omega
    rw[List.filter_cons_of_neg hcn,if_neg p1,if_neg p2];omega
  ·have hcn:¬cnt (ds.map (·.1)) f l (rt,rn,rj)=true:=by
    unfold cnt;simp only[Bool.and_eq_true,decide_eq_true_eq];exact fun z=>hm z.1
   have g:∀u,qG ds f z u (rt,rn,rj)=0:=fun u=>by unfold qG;rw[if_neg (fun z=>hm z.1)]
   rw[List.filter_cons_of_neg hcn,g,g];omega
theorem CO (ps:List (Str×Int))(ds:List aG)(f l:Int)(z:Str)(rows:List aT):∀n:Nat,f+(n:Int)<=l->g0 ps (dX (eG ds) (rows.filter (cnt (ds.map (·.1)) f l))) (dX (fZ ds) (rows.filter (cnt (ds.map (·.1)) f l))) z f n=cC ps z+bY ds f z (f+(n:Int)) rows
 | 0,_=>by
  show cC ps z=_;rw[show f+((0:Nat):Int)=f by omega,T1];omega
 | n+1,h=>by
  have ih:=CO ps ds f l z rows n (by omega);have st:=yQ ds f l z (f+(n:Int)) (by omega) (by omega) rows;unfold g0;rw[ih,show f+((n+1:Nat):Int)=f+(n:Int)+1 by omega,st];omega
theorem xH {ds:List aG}(nd:(ds.map (·.1)).Nodup){a b:aG}(ha:a∈ds)(hb:b∈ds)(h:a.1=b.1):a=b:=by
 induction ds with
 | nil=>exact nomatch ha
 | cons x l ih =>
  have nd':=List.nodup_cons.mp nd;rcases List.mem_cons.mp ha with h1|h1
  ·rcases List.mem_cons.mp hb with h2|h2
   ·rw[h1,h2]
   ·exact absurd (show x.1∈l.map (·.1) by rw[←h1,h];exact List.mem_map.mpr ⟨b,h2,rfl⟩) nd'.1
  ·rcases List.mem_cons.mp hb with h2|h2
   ·exact absurd (show x.1∈l.map (·.1) by rw[←h2,←h];exact List.mem_map.mpr ⟨a,h1,rfl⟩) nd'.1
   ·exact ih nd'.2 h1 h2
theorem nT (rt:Int)(rn:Str)(rj:Int)(rows:List aT)(t:Int)(n:Str):cO ((rt,rn,rj)::rows) t n=(if rt=t/\rn=n then rj else 0)+cO rows t n:=by
 unfold cO
 by_cases h:rt=t/\rn=n
 ·rw[if_pos h,List.filter_cons_of_pos (by simp[h]),List.map_cons,List.sum_cons]
 ·rw[if_neg h,List.filter_cons_of_neg (by simpa using h),Int.zero_add]
def lW (ds:List aG)(c:aG->Bool)(n:Str)(j:Int):Int:=match cX ds n with
 | some d=>if c d=true then j else 0
 | none=>0
theorem XL {ds:List aG}(nd:(ds.map (·.1)).Nodup)(c:aG->Bool)(n:Str)(j:Int):(ds.map fun d=>if c d=true then (if n=d.1 then j else 0) else 0).sum=lW ds c n j:=by
 induction ds with
 | nil=>rfl
 | cons a l ih =>
  have nd':=List.nodup_cons.mp nd;rw[List.map_cons,List.sum_cons];unfold lW cX at ih ⊢
  by_cases h:a.1=n
  ·rw[List.find?_cons_of_pos (by simpa using h),if_pos h.symm];rw[cR _ l fun d hd=>by
    have:¬n=d.1:=fun z=>nd'.1 (show a.1∈_ by rw[h,z];exact List.mem_map.mpr ⟨d,hd,rfl⟩);rw[if_neg this]
    split<;>rfl]
   exact Int.add_zero _
  ·rw[List.find?_cons_of_neg (by simpa using h),ih nd'.2,show (if c a=true then (if n=a.1 then j else 0) else 0)=0 from by
    rw[if_neg (show ¬n=a.1 from fun z=>h z.symm)]
    split<;>rfl,Int.zero_add]
def goR (rows:List aT)(d:aG)(u:Int):Int:=cO rows u d.1
theorem GC {ds:List aG}(nd:(ds.map (·.1)).Nodup)(c:aG->Bool)(rt:Int)(rn:Str)(rj:Int)(rows:List aT)(u:Int):gs ds (goR ((rt,rn,rj)::rows)) c u=(if rt=u then lW ds c rn rj else 0)+gs ds (goR rows) c u:=by
 unfold gs goR;rw[show (fun d:aG=>if c d=true then cO ((rt,rn,rj)::rows) u d.1 else 0)=fun d=>(if c d=true then (if rn=d.1 then (if rt=u then rj else 0) else 0) else 0)+(if c d=true then cO rows u d.1 else 0) from funext fun d=>by
  rw[nT]
  by_cases h1:c d=true
  ·rw[if_pos h1,if_pos h1,if_pos h1]
   by_cases h2:rn=d.1
   ·rw[if_pos h2]
    by_cases h3:rt=u
    ·rw[if_pos ⟨h3,h2⟩,if_pos h3]
    ·rw[if_neg (fun z=>h3 z.1),if_neg h3]
   ·rw[if_neg (fun z=>h2 z.2),if_neg h2]
  ·rw[if_neg h1,if_neg h1,if_neg h1];rfl,jW,XL nd]
 by_cases h3:rt=u
 ·rw[if_pos h3,if_pos h3]
 ·rw[if_neg h3,if_neg h3];have:lW ds c rn 0=0:=by
   unfold lW
   split
   ·split<;>rfl
   ·rfl
  rw[this]
theorem tJ {ds:List aG}{f l u:Int} (nd:(ds.map (·.1)).Nodup) (h0:f<=u) (h1:u<l) (key:aT->Option (List Key)) (c:aG->Bool) (k:List Key) (hk:∀(t:Int) (n:Str) (j:Int),key (t,n,j)=some k↔t=u/\∃d,cX ds n=some d/\c d=true) :
  ∀rows:List aT,dX key (rows.filter (cnt (ds.map (·.1)) f l)) k=gs ds (goR rows) c u
 | []=>by
  unfold gs goR;exact(cR _ ds fun d _=>by
   show (if c d=true then (0:Int) else 0)=0
   split<;>rfl).symm
 | (rt,rn,rj)::rows=>by
  have ih:=tJ nd h0 h1 key c k hk rows;rw[GC nd,←ih]
  by_cases hc:cnt (ds.map (·.1)) f l (rt,rn,rj)=true
  ·rw[List.filter_cons_of_pos hc,zS]
   congr 1
   have hm:rn∈ds.map (·.1):=by
    unfold cnt at hc;simp only[Bool.and_eq_true,decide_eq_true_eq]at hc;exact hc.1
   walk_at"g1";obtain⟨d,hd,hdn,hdo⟩:=f9 hm;walk_at"g2";rw[show lW ds c rn rj=if c d=true then rj else 0 from by unfold lW;rw[hdo]]
   by_cases h:key (rt,rn,rj)=some k
   ·walk_at"g1";obtain⟨h2,d2,h3,h4⟩:=(hk rt rn rj).mp h;walk_at"g2";rw[hdo]at h3;cases h3;rw[if_pos h,if_pos h2];show rj=if c d=true then rj else 0;rw[if_pos h4]
   ·rw[if_neg h]
    by_cases h2:rt=u
    ·rw[if_pos h2];show 0=if c d=true then rj else 0;rw[if_neg fun h4=>h ((hk rt rn rj).mpr ⟨h2,d,hdo,h4⟩)]
    ·rw[if_neg h2]
  ·rw[List.filter_cons_of_neg hc];have:(if rt=u then lW ds c rn rj else 0)=0:=by
    by_cases h2:rt=u
    ·rw[if_pos h2];have hm:rn∉ds.map (·.1):=fun hm=>hc (by
      unfold cnt;simp only[Bool.and_eq_true,decide_eq_true_eq];exact⟨hm,by rw[h2];exact h0,by rw[h2];exact h1⟩)
     unfold lW;rw[u7 hm]
    ·rw[if_neg h2]
   rw[this,Int.zero_add]
theorem wT {ds:List aG}{z:Str}{u:Int} (t:Int) (n:Str) (j:Int):eG ds (t,n,j)=some (bW (z,u))↔t=u/\∃d,cX ds n=some d/\stB z d=true:=by
 unfold eG stB;show (cX ds n).map (fun d=>([.inr d.2.1,.inl t]:List Key))=_↔_;cases h:cX ds n with
 | none=>exact⟨fun e=>(by cases e),fun⟨_,_,e,_⟩=>(by cases e)⟩
 | some d =>
  show some [Sum.inr d.2.1,Sum.inl t]=some (bW (z,u))↔_;rw[key_pair]
  constructor
  ·rintro ⟨h1,h2⟩;exact⟨h2,d,rfl,decide_eq_true h1⟩
  ·rintro hq_;walk_at"g1";obtain⟨h1,d2,h2,h3⟩:=hq_;walk_at"g2";cases h2;exact⟨of_decide_eq_true h3,h1⟩
theorem L4 {ds:List aG}{z:Str}{u:Int} (t:Int) (n:Str) (j:Int):fZ ds (t,n,j)=some (bW (z,u))↔t=u/\∃d,cX ds n=some d/\toB z d=true:=by
 unfold fZ toB;show (cX ds n).bind (fun d=>match d.2.2.1 with| .str z=>some ([.inr z,.inl t]:List Key)|_=>none)=_↔_;cases h:cX ds n with
 | none=>exact⟨fun e=>(by cases e),fun⟨_,_,e,_⟩=>(by cases e)⟩
 | some d =>
  show (match d.2.2.1 with| .str z=>some ([.inr z,.inl t]:List Key)|_=>none)=_↔_
  constructor
  ·intro e;cases hd:d.2.2.1<;>rw[hd]at e<;>first|(cases e;done)|skip
   obtain⟨h1,h2⟩:=key_pair.mp e;exact⟨h2,d,rfl,decide_eq_true (by rw[hd,h1])⟩
  ·rintro hq_;walk_at"g1";obtain⟨h1,d2,h2,h3⟩:=hq_;walk_at"g2";cases h2;rw[of_decide_eq_true h3];exact key_pair.mpr ⟨rfl,h1⟩
theorem VZ {rz ps:List (Str×Int)}{ds:List aG}{f l:Int}{rows:List aT} (nd:(ds.map (·.1)).Nodup) (h0:∀r∈rows,0<=r.2.2) (nf:NoFlt rz ps ds f l rows):wB rz ps ds f l (goR rows) (fun z u=>g0 ps (dX (eG ds) (rows.filter (cnt (ds.map (·.1)) f l))) (dX (fZ ds) (rows.filter (cnt (ds.map (·.1)) f l))) z f (u - f).toNat):=by
 refine⟨fun d _ u=> ?_,fun d hd u=> ?_,fun e _=> ?_,fun e he u h1 h2=> ?_,fun e he u h1 h2=> ?_,fun e he u h1 h2=> ?_⟩
 ·unfold goR cO;exact EZ fun r hr=>h0 r (List.mem_filter.mp hr).1
 ·have:=nf.door u d.1;unfold fY at this;walk_at"g1";obtain⟨d2,hd2,hdn,hdo⟩:=f9 (List.mem_map.mpr ⟨d,hd,rfl⟩);walk_at"g2";rw[hdo]at this;have e:d2=d:=xH nd hd2 hd hdn;rw[e]at this;exact this
 ·show g0 _ _ _ _ _ (f - f).toNat=_;rw[show (f - f).toNat=0 by omega];rfl
 ·show g0 _ _ _ _ _ (u+1 - f).toNat=_;rw[show (u+1 - f).toNat=(u - f).toNat+1 by omega];show g0 _ _ _ _ _ _ - _+_=_;rw[show f+(((u - f).toNat:Nat):Int)=u by omega,tJ nd h1 h2 (eG ds) (stB e.1) _ (fun t n j=>wT t n j),tJ nd h1 h2 (fZ ds) (toB e.1) _ (fun t n j=>L4 t n j)]
 ·have:=nf.lv e he (u - f).toNat (by omega);rw[show f+(((u - f).toNat:Nat):Int)=u by omega,tJ nd h1 h2 (eG ds) (stB e.1) _ (fun t n j=>wT t n j)]at this;exact this
 ·exact nf.full e he (u - f).toNat (by omega)
def jT (ss:List SpecD):List Str:=(ss.filter fun s=>decide (s.e= .non)).map (·.n)
def sR (ss:List SpecD)(rows:List aT)(t:Int):Int:=((rows.filter fun r=>decide (r.2.1∈jT ss)&&decide (r.1<t)).map (·.2.2)).sum
theorem YU {ss:List SpecD}(nd:(ss.map (·.n)).Nodup)(n:Str)(j:Int):lW (ss.map aZ) exB n j=if n∈jT ss then j else 0:=by
 unfold lW;have ndd:((ss.map aZ).map (·.1)).Nodup:=by rw[gR];exact nd
 by_cases hm:n∈(ss.map aZ).map (·.1)
 ·walk_at"g1";obtain⟨d,hd,rfl,hdo⟩:=f9 hm;walk_at"g2";obtain⟨s,hs,rfl⟩:=List.mem_map.mp hd;rw[hdo];show (if exB (aZ s)=true then j else 0)=if s.n∈jT ss then j else 0
  by_cases he:s.e= .non
  ·rw[if_pos (show exB (aZ s)=true from decide_eq_true he),if_pos];exact List.mem_map.mpr ⟨s,List.mem_filter.mpr ⟨hs,decide_eq_true he⟩,rfl⟩
  ·rw[if_neg (show ¬exB (aZ s)=true from fun z=>he (of_decide_eq_true z)),if_neg];intro z;obtain⟨s2,hs2,e2⟩:=List.mem_map.mp z;obtain⟨h1,h2⟩:=List.mem_filter.mp hs2;have:=xH ndd (List.mem_map.mpr ⟨s2,h1,rfl⟩) (List.mem_map.mpr ⟨s,hs,rfl⟩) (show s2.n=s.n from e2);have e3:s2.e=s.e:=congrArg (fun d:aG=>d.2.2.1) this;exact he (by rw[←e3];exact of_decide_eq_true h2)
 ·rw[u7 hm,if_neg];intro z;obtain⟨s2,hs2,e2⟩:=List.mem_map.mp z;exact hm (by rw[gR];exact List.mem_map.mpr ⟨s2,(List.mem_filter.mp hs2).1,e2⟩)
theorem MN (f rt x:Int):∀i:Nat,((List.range i).map fun j:Nat=>if rt=f+(j:Int) then x else 0).sum=if f<=rt/\rt<f+(i:Int) then x else 0
 | 0=>by rw[if_neg (by omega)];rfl
 | i+1=>by
  rw[gG (fun j:Nat=>if rt=f+(j:Int) then x else 0),MN f rt x i]
  by_cases h:rt=f+(i:Int)
  ·rw[if_neg (by omega),if_pos h,if_pos (by omega)];omega
  ·rw[if_neg h,Int.add_zero]
   by_cases h2:f<=rt/\rt<f+(i:Int)
   ·rw[if_pos h2,if_pos (by omega)]
   ·rw[if_neg h2,if_neg (by omega)]
theorem EI {ss:List SpecD}(nd:(ss.map (·.n)).Nodup){f:Int}(i:Nat):∀rows:List aT,(∀r∈rows,f<=r.1)->sR ss rows (f+(i:Int))=wO (ss.map aZ) (goR rows) f i
 | [],_=>by
  unfold wO gs goR;exact(cR _ _ fun j _=>cR _ _ fun d _=>by
   show (if exB d=true then (0:Int) else 0)=0
   split<;>rfl).symm
 | (rt,rn,rj)::rows,h=>by
  have ndd:((ss.map aZ).map (·.1)).Nodup:=by rw[gR];exact nd
  have ih:=EI nd i rows fun r hr=>h r (List.mem_cons_of_mem _ hr);have hr:f<=rt:=h _ (.head _);have e:wO (ss.map aZ) (goR ((rt,rn,rj)::rows)) f i=(if f<=rt/\rt<f+(i:Int) then (if rn∈jT ss then rj else 0) else 0)+wO (ss.map aZ) (goR rows) f i:=by
   unfold wO;rw[←MN f rt (if rn∈jT ss then rj else 0) i,←jW];refine dF fun j _=> ?_;rw[GC ndd,YU nd]
  rw[e,←ih];unfold sR
  by_cases h1:rn∈jT ss
  ·by_cases h2:rt<f+(i:Int)
   ·rw[List.filter_cons_of_pos (by simp[h1,h2]),List.map_cons,List.sum_cons,if_pos ⟨hr,h2⟩,if_pos h1]
   ·rw[List.filter_cons_of_neg (by simp[h2]),if_neg (fun z=>h2 z.2),Int.zero_add]
  ·rw[List.filter_cons_of_neg (by simp[h1]),if_neg h1]
   split<;>rw[Int.zero_add]
inductive A1 (K:W.Frag)(vs:List V)(H:Hp)(Q:VK)(E:XK):Prop
 | mk (a p2:Addr) (t f:Int) (us ws:List V) (rows:List aT) (rs:List bE) (ss:List SpecD) (_:vs=[.ref a,.ref p2,.int t]) (_:SqL K H a us) (_:bS H us rows) (_:rows.length<=200) (_:SqL K H p2 ws) (_:Paired (dE H) ws ss) (_:(∀s∈ss,kN rs f s)) (_:ss.length<=7) (_:∀H',Same H H'->Q (.int (sR ss rows t)) H'):A1 K vs H Q E
theorem aCK {H:Hp}{Q:VK}{E:XK}{a p2:Addr}{t f:Int}{us ws:List V}{rows:List aT}{rs:List bE}{ss:List SpecD} (hS:SqL K H a us) (hp:bS H us rows) (hl:rows.length<=200) (h2:SqL K H p2 ws) (hs:Paired (dE H) ws ss) (so:∀s∈ss,kN rs f s) (l7:ss.length<=7) (k:∀H',Same H H'->Q (.int (sR ss rows t)) H'):A1 K [.ref a,.ref p2,.int t] H Q E:=⟨_,_,_,_,_,_,_,_,_,rfl,hS,hp,hl,h2,hs,so,l7,k⟩
theorem OG (m:M K mg):FnOk P w K mg base CX0 2 m.xT m.xY ["_law_plan","_law_specs","_law_turn"] (A1 K):=by
 refine m.sM.ok sc__law_out (fun vs H Q E h=> ?_) (fun cdv A outer s H vs Q E hr h=> ?_)
 ·walk_at"g1";obtain⟨a,p2,t,f,us,ws,rows,rs,ss,rfl,hS,hpl,hlen,h2,hs,so,l7,k⟩:=h;walk_at"g2";rfl
 ·walk_at"g1";obtain⟨a,p2,t,f,us,ws,rows,rs,ss,rfl,hS,hpl,hlen,h2,hs,so,l7,k⟩:=h;walk_at"g2";have nd:=sc__law_out.nd;walk_at"hu";refine⟨_,(aB (aP (i:=3) nd rfl (by walk_at"oi") (cV (N:=["_law_spec_here"]) (nl:=1) (ci:=[]) rfl (blk (s.heap.objs.size+1) rfl rfl rfl (by kernel_rfl)) (bH (pv 1)) (fun _ _ _ _=>(aH (i:=0) (show (["_law_spec_here"]:List Str).Nodup by decide +kernel) rfl (by walk_at"oi"))) (fun _ _ _ _=>(gY (aW UO (bA (gE (K:=K)) (pv 0) aC (fun _ _=>rfl)) qO (aY _)))) (fun _ _ _ _=>(bA (gE (K:=K)) (pv 0) aC (fun _ _=>rfl)))))
   (aF (aV (bP (qQ rfl) rfl m.FH yO (aA (cV (N:=["_law_at","_law_name_here","_law_number","_law_exits","_law_turn"]) (nl:=3) (ci:=[3,2]) rfl (blk (s.heap.objs.size+1) rfl rfl rfl (by kernel_rfl)) (bH (pv 0)) (fun _ _ _ _=>(jV (K:=K) (n:=3) rfl (aN (aH (i:=0) (show (["_law_at","_law_name_here","_law_number","_law_exits","_law_turn"]:List Str).Nodup by decide +kernel) rfl (by walk_at"oi")) (aN (aH (i:=1) (show (["_law_at","_law_name_here","_law_number","_law_exits","_law_turn"]:List Str).Nodup by decide +kernel) rfl (by walk_at"oi")) (aN (aH (i:=2) (show (["_law_at","_law_name_here","_law_number","_law_exits","_law_turn"]:List Str).Nodup by decide +kernel) rfl (by walk_at"oi")) cM))))) (fun _ _ _ _=>(gY (PW.pt (tG (aW (EC (K:=K)) (pv 1) (pv 3) (by with_unfolding_all rfl)) (o9 (aW j6 (pv 0) (pv 4) (aY _))))))) (fun _ _ _ _=>(pv 2))) aE))))),?_⟩
  refine aO (σ:=[some (.ref a),some (.ref p2),some (.int t),none]) rfl ?_;walk_at"cx";have hul:us.length=rows.length:=Paired.length hpl;walk_at"go";refine fI (α:=SpecD) (xs:=ss) (vs:=ws) (dE H) (fun s=>decide (s.e= .non)) (fun s y _=>y= .str s.n) (fun _ _ _ _ h _=>h) (by rw[sizeLine_eq];omega) (rest:=[]) (by rfl) h2 hs ?_ ?_ ?_
  ·rintro v s H1 ⟨q1,rfl,hq1⟩ hm s1 R hR;have hq1:=s1 _ _ hq1;have heo:=(so s hm).eo;walk_at"g1";obtain⟨n,st,e,kd,wd,fi,mo⟩:=s;walk_at"g2";have hq1:H1 q1=some (.tup [.str n,.str st,e,.int kd,.int wd,.int fi,.int mo]):=hq1;have hR':=hR _ (Same.refl _);walk_at"go";refine⟨q1,_,2,_,rfl,rfl,SqT.of hq1,rfl,?_⟩;have hE:e= .non∨∃y,e= .str y:=by
    rcases heo with he|⟨y,he,_⟩
    ·exact .inl he
    ·exact .inr ⟨y,he⟩
   rcases hE with rfl|⟨y,rfl⟩
   ·rw[show decide ((SpecD.mk n st .non kd wd fi mo).e= .non)=true from decide_eq_true rfl]at hR';walk_at"go";exact hR'
   ·rw[show decide ((SpecD.mk n st (.str y) kd wd fi mo).e= .non)=false from decide_eq_false fun z=>nomatch z]at hR';walk_at"go";exact hR'
  ·rintro v s H1 ⟨q1,rfl,hq1⟩ hm - s1 R hR;have hq1:=s1 _ _ hq1;walk_at"g1";obtain⟨n,st,e,kd,wd,fi,mo⟩:=s;walk_at"g2";have hq1:H1 q1=some (.tup [.str n,.str st,e,.int kd,.int wd,.int fi,.int mo]):=hq1;walk_at"go";refine⟨q1,_,0,_,rfl,rfl,SqT.of hq1,rfl,?_⟩;walk_at"go";exact hR _ _ rfl (Same.refl _)
  intro ys H1 s1 hys;have ey:ys=(jT ss).map V.str:=by rw[fD hys];unfold jT;rw[List.map_map];rfl
  subst ey;walk_at"go";rename_i p3 H3 n3 S3 e3;have s03:=s1.trans S3;refine aBQ (α:=aT) (xs:=rows) (vs:=us) (fun r=> .int r.1) (fun r=> .str r.2.1) (fun r=> .int r.2.2) (fun r=>decide (r.2.1∈jT ss)&&decide (r.1<t)) (fun r y _=>y= .int r.2.2) (fun _ _ _ _ h _=>h) (by rw[sizeLine_eq];omega) (rest:=[some (.ref p3),some (.int t)]) (by rfl) (s03.seq hS) (d7 hpl s03) ?_ ?_ ?_
  ·rintro ⟨rt,rn,rj⟩ H4 hm s4 R hR;show (_:TT) (some (V.int rt)::some (V.str rn)::some (V.int rj)::[some (.ref p3),some (.int t)]) H4 R;have hR':R (decide (rn∈jT ss)&&decide (rt<t)) H4:=hR _ (Same.refl _);walk_at"go";refine L5 (SqL.of (s4 _ _ e3)) ?_;walk_at"go"
   by_cases hx:rn∈jT ss
   ·rw[decide_eq_true hx]at hR' ⊢;rw[if_pos rfl];walk_at"go";exact hR'
   ·rw[decide_eq_false hx]at hR' ⊢;rw[if_neg Bool.false_ne_true];exact hR'
  ·rintro ⟨rt,rn,rj⟩ H4 hm - s4 R hR;show (_:TE) (some (V.int rt)::some (V.str rn)::some (V.int rj)::[some (.ref p3),some (.int t)]) H4 R;walk_at"go";exact hR _ _ rfl (Same.refl _)
  intro zs H4 s4 hzs;have ez:zs=((rows.filter fun r=>decide (r.2.1∈jT ss)&&decide (r.1<t)).map (·.2.2)).map V.int:=by rw[fD hzs,List.map_map];rfl
  subst ez;walk_at"go";rename_i p5 H5 n5 S5 e5;refine zP (SqL.of e5) ?_;exact k _ (s03.trans (s4.trans S5))
theorem OB (m:M K mg):Fc P w K mg base "_law_out" 2 ["_law_plan","_law_specs","_law_turn"] (A1 K):=⟨_,_,m.SI,m.sM.kp,m.SK,OG m⟩
theorem LB {a b:List Int}(h:a.Perm b):a.sum=b.sum:=by
 induction h with
 | nil=>rfl
 | cons x _ ih=>rw[List.sum_cons,List.sum_cons,ih]
 | swap x y l=>rw[List.sum_cons,List.sum_cons,List.sum_cons,List.sum_cons];omega
 | trans _ _ i1 i2=>rw[i1,i2]
theorem uS (a b:List aT)(t:Int)(n:Str):cO (a++b) t n=cO a t n+cO b t n:=by
 unfold cO;rw[List.filter_append,List.map_append,List.sum_append]
theorem Q6 {a b:List aT}(h:a.Perm b)(t:Int)(n:Str):cO a t n=cO b t n:=by
 unfold cO;exact LB ((h.filter _).map _)
theorem xJ {rows:List aT}{t:Int}{n:Str} (h:∀r∈rows,r.1≠t):cO rows t n=0:=by
 unfold cO;rw[List.filter_eq_nil_iff.mpr fun r hr=>by simp[h r hr]];rfl
theorem SS {ds:List aG}(a b:List aT)(c:aG->Bool)(u:Int):gs ds (goR (a++b)) c u=gs ds (goR a) c u+gs ds (goR b) c u:=by
 unfold gs goR;rw[←jW];refine dF fun d _=> ?_;rw[uS]
 split<;>rfl
theorem sS {ds:List aG}{rows:List aT}{c:aG->Bool}{u:Int} (h:∀r∈rows,r.1≠u):gs ds (goR rows) c u=0:=by
 unfold gs goR;refine cR _ _ fun d _=> ?_;rw[xJ h]
 split<;>rfl
theorem xB (ds:List aG)(f:Int)(z:Str)(t:Int)(a b:List aT):bY ds f z t (a++b)=bY ds f z t a+bY ds f z t b:=by
 unfold bY;rw[List.map_append,List.sum_append]
theorem HR {ds:List aG}{f:Int}{z:Str}{t:Int}{rows:List aT} (h:∀r∈rows,t<=r.1):bY ds f z t rows=0:=by
 unfold bY;refine cR _ _ fun r hr=> ?_;unfold qG;rw[if_neg fun x=>by have:=h r hr;omega]
theorem K8 {ds:List aG}(nd:(ds.map (·.1)).Nodup){f l u:Int}{z:Str}{rows:List aT} (h0:f<=u) (h1:u<l) (h:∀r∈rows,r.1=u):bY ds f z (u+1) rows=gs ds (goR rows) (toB z) u - gs ds (goR rows) (stB z) u:=by
 rw[yQ ds f l z u h0 h1 rows,tJ nd h0 h1 (eG ds) (stB z) _ (fun t n j=>wT t n j),tJ nd h0 h1 (fZ ds) (toB z) _ (fun t n j=>L4 t n j),HR fun r hr=>by rw[h r hr];exact Int.le_refl _];omega
theorem uW {ds:List aG}{f:Int}{z:Str}{t t':Int}{rows:List aT} (h:∀r∈rows,r.1<t) (ht:t<=t'):bY ds f z t' rows=bY ds f z t rows:=by
 unfold bY;refine dF fun r hr=> ?_;have:=h r hr;unfold qG
 by_cases hc:r.2.1∈ds.map (·.1)/\f<=r.1
 ·rw[if_pos ⟨hc.1,hc.2,by omega⟩,if_pos ⟨hc.1,hc.2,by omega⟩]
 ·rw[if_neg fun z=>hc ⟨z.1,z.2.1⟩,if_neg fun z=>hc ⟨z.1,z.2.1⟩]
structure Stp (rz ps:List (Str×Int))(ds:List aG)(f l:Int)(i:Nat)(rows:List aT):Prop where
 tm:∀r∈rows,f<=r.1/\r.1<f+(i:Int)
 ge:∀r∈rows,0<=r.2.2
 door:∀t n,cO rows t n<=fY ds f l t n
 lv:∀e∈rz,∀j:Nat,j<i->gs ds (goR rows) (stB e.1) (f+(j:Int))<=cC ps e.1+bY ds f e.1 (f+(j:Int)) rows
 full:∀e∈rz,∀j:Nat,j<=i->cC ps e.1+bY ds f e.1 (f+(j:Int)) rows<=e.2
 nn:∀e∈rz,0<=cC ps e.1+bY ds f e.1 (f+(i:Int)) rows
section
variable {rz ps:List (Str×Int)}{ds:List aG}{f l:Int}{i:Nat}{rows:List aT}
theorem Stp.nil (h:∀t n,0<=fY ds f l t n)(hf:∀e∈rz,cC ps e.1<=e.2)(h0:∀e∈rz,0<=cC ps e.1):Stp rz ps ds f l 0 [] :=
 ⟨(fun _ z=>nomatch z),(fun _ z=>nomatch z),h,(fun _ _ j hj=>absurd hj (Nat.not_lt_zero _)),(fun e he j _=>by
  show cC ps e.1+0<=e.2;rw[Int.add_zero];exact hf e he),fun e he=>by
  show 0<=cC ps e.1+0;rw[Int.add_zero];exact h0 e he⟩
theorem Stp.turn (x:Stp rz ps ds f l i rows)(nd:(ds.map (·.1)).Nodup)(hi:f+(i:Int)<l){S:List aT}(tS:∀r∈S,r.1=f+(i:Int))(gS:∀r∈S,0<=r.2.2)(dS:∀n,cO S (f+(i:Int)) n<=fY ds f l (f+(i:Int)) n)
  (lS:∀e∈rz,gs ds (goR S) (stB e.1) (f+(i:Int))<=cC ps e.1+bY ds f e.1 (f+(i:Int)) rows)(fS:∀e∈rz,cC ps e.1+bY ds f e.1 (f+(i:Int)) rows - gs ds (goR S) (stB e.1) (f+(i:Int))+gs ds (goR S) (toB e.1) (f+(i:Int))<=e.2) :
  Stp rz ps ds f l (i+1) (rows++S):=by
 have hne:∀r∈rows,r.1≠f+(i:Int):=fun r hr z=>by have:=(x.tm r hr).2;omega
 have hSz:∀(j:Nat),j<=i->∀z,bY ds f z (f+(j:Int)) S=0:=fun j hj z=>HR fun r hr=>by rw[tS r hr];omega
 have hnew:∀e∈rz,cC ps e.1+bY ds f e.1 (f+((i+1:Nat):Int)) (rows++S)=cC ps e.1+bY ds f e.1 (f+(i:Int)) rows - gs ds (goR S) (stB e.1) (f+(i:Int))+gs ds (goR S) (toB e.1) (f+(i:Int)):=fun e he=>by
  have h1:=uW (ds:=ds) (f:=f) (z:=e.1) (t:=f+(i:Int)) (t':=f+((i+1:Nat):Int)) (rows:=rows) (fun r hr=>(x.tm r hr).2) (by omega);have h2:=K8 (z:=e.1) nd (show f<=f+(i:Int) by omega) hi tS;rw[show f+(i:Int)+1=f+((i+1:Nat):Int) by omega]at h2;rw[xB,h1,h2];omega
 have hcn:∀z,0<=gs ds (goR S) (toB z) (f+(i:Int)):=fun z=>KI (fun d _ u=>by
  unfold goR cO;exact EZ fun r hr=>gS r (List.mem_filter.mp hr).1) _ _
 refine⟨fun r hr=> ?_,fun r hr=> ?_,fun t n=> ?_,fun e he j hj=> ?_,fun e he j hj=> ?_,fun e he=> ?_⟩
 ·rcases List.mem_append.mp hr with hr|hr
  ·have:=x.tm r hr;omega
  ·have:=tS r hr;omega
 ·rcases List.mem_append.mp hr with hr|hr
  ·exact x.ge r hr
  ·exact gS r hr
 ·rw[uS]
  by_cases ht:t=f+(i:Int)
  ·subst ht;rw[xJ hne,Int.zero_add];exact dS n
  ·rw[xJ (rows:=S) fun r hr z=>ht (by rw[←z,tS r hr]),Int.add_zero];exact x.door t n
 ·rw[SS,xB,hSz j (by omega),Int.add_zero]
  by_cases hji:j=i
  ·subst hji;rw[sS hne,Int.zero_add];exact lS e he
  ·rw[sS (rows:=S) fun r hr z=>by rw[tS r hr]at z;omega,Int.add_zero];exact x.lv e he j (by omega)
 ·by_cases hji:j=i+1
  ·subst hji;rw[hnew e he];exact fS e he
  ·rw[xB,hSz j (by omega),Int.add_zero];exact x.full e he j (by omega)
 ·rw[hnew e he];have:=lS e he;have:=hcn e.1;omega
theorem Stp.rest (x:Stp rz ps ds f l i rows):Stp rz ps ds f l (i+1) rows:=by
 have hne:∀r∈rows,r.1≠f+(i:Int):=fun r hr z=>by have:=(x.tm r hr).2;omega
 have hp:∀z,bY ds f z (f+((i+1:Nat):Int)) rows=bY ds f z (f+(i:Int)) rows:=fun z=>uW (fun r hr=>(x.tm r hr).2) (by omega);refine⟨fun r hr=>by have:=x.tm r hr;omega,x.ge,x.door,fun e he j hj=> ?_,fun e he j hj=> ?_,fun e he=>by rw[hp];exact x.nn e he⟩
 ·by_cases hji:j=i
  ·subst hji;rw[sS hne];exact x.nn e he
  ·exact x.lv e he j (by omega)
 ·by_cases hji:j=i+1
  ·subst hji;rw[hp];exact x.full e he i (Nat.le_refl _)
  ·exact x.full e he j (by omega)
theorem Stp.noflt (x:Stp rz ps ds f l i rows)(nd:(ds.map (·.1)).Nodup)(hi:f+(i:Int)=l):NoFlt rz ps ds f l rows:=by
 refine⟨x.door,fun e he j hj=> ?_,fun e he j hj=> ?_⟩
 ·rw[CO ps ds f l e.1 rows j (by omega),tJ nd (by omega) hj (eG ds) (stB e.1) _ (fun t n k=>wT t n k)];exact x.lv e he j (by omega)
 ·rw[CO ps ds f l e.1 rows j hj];exact x.full e he j (by omega)
theorem NoFlt.perm {rows':List aT}(x:NoFlt rz ps ds f l rows)(h:rows.Perm rows'):NoFlt rz ps ds f l rows':=by
 have ht:∀key:aT->Option (List Key),dX key (rows'.filter (cnt (ds.map (·.1)) f l))=dX key (rows.filter (cnt (ds.map (·.1)) f l)):=fun key=>funext fun k=>by
  unfold dX;exact(LB (((h.filter _).filter _).map _)).symm
 refine⟨fun t n=>by rw[←Q6 h];exact x.door t n,fun e he j hj=> ?_,fun e he j hj=> ?_⟩
 ·rw[ht,ht];exact x.lv e he j hj
 ·rw[ht,ht];exact x.full e he j hj
end
def RoomD (H:Hp)(p:Addr)(rs:List bE)(fn:Str->Int):Prop:=∃kvs:List (Key×V),H p=some (.dK kvs)/\kvs.map (·.1)=rs.map (fun r=>Sum.inr r.1)/\∀r∈rs,bD kvs (.inr r.1)=some (.int (fn r.1))
theorem RoomD.same {H H':Hp}{p:Addr}{rs:List bE}{fn:Str->Int} (x:RoomD H p rs fn) (s:Same H H'):RoomD H' p rs fn:=let ⟨kvs,h1,h2,h3⟩:=x;⟨kvs,s _ _ h1,h2,h3⟩
theorem RoomD.but {H H':Hp}{p q:Addr}{rs:List bE}{fn:Str->Int} (x:RoomD H p rs fn) (s:SameBut q H H') (h:p≠q):RoomD H' p rs fn:=let ⟨kvs,h1,h2,h3⟩:=x;⟨kvs,s _ _ h1 h,h2,h3⟩
theorem RoomD.fn {H:Hp}{p:Addr}{rs:List bE}{fn fn':Str->Int} (x:RoomD H p rs fn) (h:∀r∈rs,fn r.1=fn' r.1):RoomD H p rs fn':=let ⟨kvs,h1,h2,h3⟩:=x;⟨kvs,h1,h2,fun r hr=>by rw[h3 r hr,h r hr]⟩
theorem VO {kvs:List (Key×V)}{k:Key}{v:V} (h:k∈kvs.map (·.1)):(cP kvs k v).map (·.1)=kvs.map (·.1):=by
 unfold cP
 split
 ·rw[List.map_map]
  apply List.map_congr_left
  intro x _;show (if x.1=k then (x.1,v) else x).1=x.1
  split<;>rfl
 ·rename_i hn;obtain⟨x,hx,e⟩:=List.mem_map.mp h;exact absurd (List.any_eq_true.mpr ⟨x,hx,decide_eq_true e⟩) hn
theorem RoomD.put {H H':Hp}{p:Addr}{rs:List bE}{fn:Str->Int}{kvs:List (Key×V)}{z:Str}{x:Int} (h2:kvs.map (·.1)=rs.map (fun r=>Sum.inr r.1)) (h3:∀r∈rs,bD kvs (.inr r.1)=some (.int (fn r.1))) (hz:z∈rs.map (·.1)) (e:H' p=some (.dK (cP kvs (.inr z) (.int x)))):RoomD H' p rs (fun y=>if y=z then x else fn y):=by
 refine⟨_,e,?_,fun r hr=> ?_⟩
 ·rw[VO,h2];rw[h2];obtain⟨r,hr,rfl⟩:=List.mem_map.mp hz;exact List.mem_map.mpr ⟨r,hr,rfl⟩
 ·rw[mE];show _=some (V.int (if r.1=z then x else fn r.1))
  by_cases h:r.1=z
  ·rw[if_pos (by rw[h]),if_pos h]
  ·rw[if_neg (fun w=>h (Sum.inr.inj w)),if_neg h];exact h3 r hr
structure InT (rz ps:List (Str×Int))(rs:List bE)(ss:List SpecD)(f l u:Int)(th:Str->Int)(k:Nat)(S:List aT)(f1 f2:Str->Int):Prop where
 tm:∀r∈S,r.1=u
 ge:∀r∈S,0<=r.2.2
 door:∀n,cO S u n<=fY (ss.map aZ) f l u n
 zero:∀s∈ss.drop k,cO S u s.n=0
 ln:S.length<=k
 h1:∀z,f1 z=th z - gs (ss.map aZ) (goR S) (stB z) u
 h2:∀z,f2 z=f1 z+gs (ss.map aZ) (goR S) (toB z) u
 n1:∀r∈rs,0<=f1 r.1
 n2:∀r∈rs,f2 r.1<=r.2.1
theorem P5 {ds:List aG}(nd:(ds.map (·.1)).Nodup)(c:aG->Bool)(S:List aT)(u x:Int){d:aG}(hd:d∈ds):gs ds (goR (S++[(u,d.1,x)])) c u=gs ds (goR S) c u+if c d=true then x else 0:=by
 rw[SS,GC nd,if_pos rfl];have h0:gs ds (goR []) c u=0:=sS fun _ z=>nomatch z;walk_at"g1";obtain⟨d2,hd2,hdn,hdo⟩:=f9 (List.mem_map.mpr ⟨d,hd,rfl⟩);walk_at"g2";have e:d2=d:=xH nd hd2 hd hdn;rw[h0,Int.add_zero];unfold lW;rw[hdo,e]
theorem aBT {ss:List SpecD}(nd:(ss.map (·.n)).Nodup){f l u:Int}(h0:f<=u)(h1:u<l){s:SpecD}(hs:s∈ss):fY (ss.map aZ) f l u s.n=gN s u:=by
 have ndd:((ss.map aZ).map (·.1)).Nodup:=by rw[gR];exact nd
 walk_at"g1";obtain⟨d2,hd2,hdn,hdo⟩:=f9 (ds:=ss.map aZ) (n:=s.n) (List.mem_map.mpr ⟨aZ s,List.mem_map.mpr ⟨s,hs,rfl⟩,rfl⟩);walk_at"g2";have e:d2=aZ s:=xH ndd hd2 (List.mem_map.mpr ⟨s,hs,rfl⟩) hdn;unfold fY;rw[hdo,e];show iY f l (aZ s) u=_;unfold iY;rw[if_pos ⟨h0,h1⟩];rfl
theorem InT.skip {rz ps:List (Str×Int)}{rs:List bE}{ss:List SpecD}{f l u:Int}{th:Str->Int}{k:Nat}{S:List aT}{f1 f2:Str->Int} (x:InT rz ps rs ss f l u th k S f1 f2):InT rz ps rs ss f l u th (k+1) S f1 f2 :=
 ⟨x.tm,x.ge,x.door,fun s hs=>x.zero s (by rw[←List.drop_drop]at hs;exact List.mem_of_mem_drop hs),by have:=x.ln;omega,x.h1,x.h2,x.n1,x.n2⟩
theorem InT.row {rz ps:List (Str×Int)}{rs:List bE}{ss:List SpecD}{f l u:Int}{th:Str->Int}{k:Nat}{S:List aT}{f1 f2:Str->Int} (x:InT rz ps rs ss f l u th k S f1 f2) (nd:(ss.map (·.n)).Nodup) (h0:f<=u) (hl:u<l) {s:SpecD} (hs:ss[k]? =some s) {j:Int} (j0:0<=j) (j1:j<=f1 s.st) (j2:j<=gN s u) (j3:∀r∈rs,s.e= .str r.1->j<=r.2.1 - f2 r.1) :
  InT rz ps rs ss f l u th (k+1) (S++[(u,s.n,j)]) (fun z=>f1 z - if s.st=z then j else 0) (fun z=>f2 z - (if s.st=z then j else 0)+if s.e= .str z then j else 0):=by
 have hm:s∈ss:=List.mem_of_getElem? hs;have ndd:((ss.map aZ).map (·.1)).Nodup:=by rw[gR];exact nd
 have hd:aZ s∈ss.map aZ:=List.mem_map.mpr ⟨s,hm,rfl⟩;have hk:k<ss.length:=(List.getElem?_eq_some_iff.mp hs).1;have hdrop:ss.drop k=s::ss.drop (k+1):=by
  rw[List.drop_eq_getElem_cons hk]
  congr 1
  exact(List.getElem?_eq_some_iff.mp hs).2
 have hz:=x.zero s (by rw[hdrop];exact .head _);have hsn:∀c,gs (ss.map aZ) (goR (S++[(u,s.n,j)])) c u=gs (ss.map aZ) (goR S) c u+if c (aZ s)=true then j else 0:=fun c=>P5 ndd c S u j hd;have hst:∀z,(if stB z (aZ s)=true then j else 0)=if s.st=z then j else 0:=fun z=>by
  show (if decide (s.st=z)=true then j else 0)=_
  by_cases h:s.st=z
  ·rw[if_pos h,if_pos (decide_eq_true h)]
  ·rw[if_neg h,if_neg (fun w=>h (of_decide_eq_true w))]
 have hto:∀z,(if toB z (aZ s)=true then j else 0)=if s.e= .str z then j else 0:=fun z=>by
  show (if decide (s.e= .str z)=true then j else 0)=_
  by_cases h:s.e= .str z
  ·rw[if_pos h,if_pos (decide_eq_true h)]
  ·rw[if_neg h,if_neg (fun w=>h (of_decide_eq_true w))]
 refine⟨fun r hr=> ?_,fun r hr=> ?_,fun n=> ?_,fun s2 hs2=> ?_,by rw[List.length_append];show S.length+1<=_;have:=x.ln;omega,fun z=> ?_,fun z=> ?_,fun r hr=> ?_,fun r hr=> ?_⟩
 ·rcases List.mem_append.mp hr with hr|hr
  ·exact x.tm r hr
  ·rw[List.mem_singleton.mp hr]
 ·rcases List.mem_append.mp hr with hr|hr
  ·exact x.ge r hr
  ·rw[List.mem_singleton.mp hr];exact j0
 ·rw[uS,nT];have e0:cO [] u n=0:=rfl;rw[e0]
  by_cases h:s.n=n
  ·subst h;rw[if_pos ⟨rfl,rfl⟩,hz,aBT nd h0 hl hm];omega
  ·rw[if_neg fun w=>h w.2];have:=x.door n;omega
 ·rw[uS,nT];have e0:cO [] u s2.n=0:=rfl;have h1:=x.zero s2 (by rw[hdrop];exact List.mem_cons_of_mem _ hs2);have hne:¬s.n=s2.n:=fun w=>by
   have hnd:=nd;rw[←List.take_append_drop k ss,hdrop,List.map_append,List.map_cons]at hnd;exact(List.nodup_cons.mp (List.nodup_append.mp hnd).2.1).1 (by rw[w];exact List.mem_map.mpr ⟨s2,hs2,rfl⟩)
  rw[e0,h1,if_neg fun w=>hne w.2];rfl
 ·rw[hsn,hst,x.h1 z];omega
 ·show f2 z - _+_=f1 z - _+_;rw[hsn,hto,x.h2 z];omega
 ·show 0<=f1 r.1 - _;have:=x.n1 r hr
  by_cases h:s.st=r.1
  ·rw[if_pos h,←h];rw[←h]at this;omega
  ·rw[if_neg h];omega
 ·show f2 r.1 - _+_<=r.2.1;have h3:=x.n2 r hr
  by_cases h:s.e= .str r.1
  ·have:=j3 r hr h;rw[if_pos h]
   split<;>omega
  ·rw[if_neg h]
   split<;>omega
theorem F8 {s:SpecD}(h:0<=s.wd)(t:Int):0<=gN s t:=by
 unfold gN
 split
 ·exact Int.le_refl _
 ·split
  ·exact Int.le_refl _
  ·split
   ·exact Int.le_refl _
   ·exact h
theorem aAo {s:SpecD}(h:0<=s.wd)(t:Int):gN s t<=s.wd:=by
 unfold gN
 split
 ·exact h
 ·split
  ·exact h
  ·split
   ·exact h
   ·exact Int.le_refl _
inductive oU (vs:List V)(H:Hp)(Q:VK)(E:XK):Prop
 | mk (c:Int) (q p1 p2 p3:Addr) (us ws:List V) (rs:List bE) (ss:List SpecD) (f l:Int) (_:vs=[.int c,.ref p1,.ref p2,.ref p3]) (_:fH H q p1 p2 p3 us ws rs ss f l) (_:∀p vs' rows H',H p=none->Same H H'->H' p=some (.lst vs')->bS H' vs' rows->rows.length<=60->NoFlt (c5 rs) (cD rs) (ss.map aZ) f l rows->(∀r∈rows,f<=r.1/\0<=r.2.2)->Q (.ref p) H'):oU vs H Q E
theorem PK {H:Hp}{Q:VK}{E:XK}{c:Int}{q p1 p2 p3:Addr}{us ws:List V}{rs:List bE}{ss:List SpecD}{f l:Int} (dr:fH H q p1 p2 p3 us ws rs ss f l) (k:∀p vs' rows H',H p=none->Same H H'->H' p=some (.lst vs')->bS H' vs' rows->rows.length<=60->NoFlt (c5 rs) (cD rs) (ss.map aZ) f l rows->(∀r∈rows,f<=r.1/\0<=r.2.2)->Q (.ref p) H'):oU [.int c,.ref p1,.ref p2,.ref p3] H Q E:=⟨_,_,_,_,_,_,_,_,_,_,_,rfl,dr,k⟩
theorem RoomD.take {rs:List bE}{j:Nat}{r:bE}{kvs:List (Key×V)}{fn:Str->Int} (nd:(rs.map (·.1)).Nodup) (hr:rs[j]? =some r) (h2:kvs.map (·.1)=(rs.take j).map (fun r=>Sum.inr r.1)) (h3:∀r∈rs.take j,bD kvs (.inr r.1)=some (.int (fn r.1))):(cP kvs (.inr r.1) (.int (fn r.1))).map (·.1)=(rs.take (j+1)).map (fun r=>Sum.inr r.1)/\∀x∈rs.take (j+1),bD (cP kvs (.inr r.1) (.int (fn r.1))) (.inr x.1)=some (.int (fn x.1)):=by
 have hnew:bD kvs (.inr r.1)=none:=by
  cases hv:bD kvs (.inr r.1) with
  | none=>rfl
  | some v =>
   have hm:(Sum.inr r.1:Key)∈kvs.map (·.1):=List.mem_map.mpr ⟨_,zA hv,rfl⟩;rw[h2]at hm;obtain⟨x,hx,e⟩:=List.mem_map.mp hm;have hnd:=nd;rw[←List.take_append_drop j rs,List.map_append]at hnd;have hj:j<rs.length:=(List.getElem?_eq_some_iff.mp hr).1;have hd:r∈rs.drop j:=by
    rw[List.drop_eq_getElem_cons hj,(List.getElem?_eq_some_iff.mp hr).2];exact .head _
   exact absurd (Sum.inr.inj e) ((List.nodup_append.mp hnd).2.2 _ (List.mem_map.mpr ⟨x,hx,rfl⟩) _ (List.mem_map.mpr ⟨r,hd,rfl⟩))
 rw[l9 _ hnew,cU hr,List.map_append,List.map_append,h2];refine⟨rfl,fun x hx=> ?_⟩;rw[←l9 _ hnew,mE];rcases List.mem_append.mp hx with hx|hx
 ·by_cases h:x.1=r.1
  ·rw[if_pos (by rw[h]),h]
  ·rw[if_neg (fun w=>h (Sum.inr.inj w))];exact h3 x hx
 ·rw[List.mem_singleton.mp hx,if_pos rfl]
theorem iN {H H' H'':Hp}{p:Addr} (s:Same H H') (n:H p=none) (B:SameBut p H' H''):Same H H'':=fun b u e=>B _ _ (s _ _ e) fun z=>by rw[z,n]at e;cases e
theorem none_of {H H':Hp}{p:Addr} (s:Same H H') (n:H' p=none):H p=none:=by
 cases h:H p with
 | none=>rfl
 | some u=>rw[s _ _ h]at n;cases n
def hzF (rs:List bE)(z:Str):Int:=((rs.find? fun r=>decide (r.1=z)).map fun r=>r.2.1).getD 0
def fzF (rs:List bE)(z:Str):Int:=((rs.find? fun r=>decide (r.1=z)).map fun r=>r.2.2).getD 0
theorem HY {rs:List bE}(nd:(rs.map (·.1)).Nodup){r:bE}(hr:r∈rs):rs.find? (fun x=>decide (x.1=r.1))=some r:=by
 induction rs with
 | nil=>exact nomatch hr
 | cons a l ih =>
  have nd':=List.nodup_cons.mp nd;rcases List.mem_cons.mp hr with h|h
  ·rw[←h,List.find?_cons_of_pos (by simp)]
  ·have hne:¬a.1=r.1:=fun z=>nd'.1 (show a.1∈_ by rw[z];exact List.mem_map.mpr ⟨r,h,rfl⟩);rw[List.find?_cons_of_neg (by simpa using hne)];exact ih nd'.2 h
theorem MM {rs:List bE}(nd:(rs.map (·.1)).Nodup){r:bE}(hr:r∈rs):hzF rs r.1=r.2.1:=by unfold hzF;rw[HY nd hr];rfl
theorem vX {rs:List bE}(nd:(rs.map (·.1)).Nodup){r:bE}(hr:r∈rs):fzF rs r.1=r.2.2:=by unfold fzF;rw[HY nd hr];rfl
theorem aBa {H:Hp}{Q:VK}{p:Addr}{a b c d e f g:V} (h0:H p=some (.tup [a,b,c,d,e,f,g])) (h:∀q H',H q=none->Same H H'->H' q=some (.tup [a,b,c])->Q (.ref q) H'):YI K (.ref p) none (some 3) H Q :=
 ⟨p,_,rfl,SqT.of h0,(by rintro ⟨_,z⟩;revert z;exact(show ¬(3=7) by decide)),fJ h⟩
theorem EG {H:Hp}:∀{vs:List V}{rows:List aT},bS H vs rows->KRows H vs (rows.map tI)
 | _,_,.nil=> .nil
 | _,_,.cons h t=> .cons h (EG t)
theorem VQ {rows:List aT}{L:List (List Key)} (h:L.Perm (rows.map tI)):∃rows',L=rows'.map tI/\rows.Perm rows':=by
 let g:List Key->aT:=fun k=>match k with|[.inl a,.inr b,.inl c]=>(a,b,c)|_=>(0,⟨#[]⟩,0)
 have hg:∀r,g (tI r)=r:=fun r=>rfl;refine⟨L.map g,?_,?_⟩
 ·rw[List.map_map];have:∀k∈L,(tI∘g) k=k:=fun k hk=>by
   obtain⟨r,_,rfl⟩:=List.mem_map.mp (h.mem_iff.mp hk);show tI (g (tI r))=tI r;rw[hg]
  rw[List.map_congr_left this,List.map_id''];exact fun _=>rfl
 ·have h2:=(h.map g).symm;rw[List.map_map]at h2;rw[List.map_congr_left (f:=g∘tI) (g:=id) (fun r _=>hg r),List.map_id]at h2;exact h2
theorem L8 {H:Hp}{Q:VK}{p:Addr}{vs:List V}{rows:List aT} (e:H p=some (.lst vs)) (hp:bS H vs rows) (hl:rows.length<64) (k:∀l ws rows' H',H l=none->Same H H'->H' l=some (.lst ws)->bS H' ws rows'->rows.Perm rows'->Q (.ref l) H'):FT K [.ref p] H Q:=by
 refine LK (SqL.of e) (EG hp) (by rw[Paired.length hp];exact hl) (sh:=[iC (.inl 0),iC (.inr ⟨#[]⟩),iC (.inl 0)]) (fun r hr=> ?_) (fun z=>nomatch z) fun l ws H' n S e' kr=> ?_
 ·obtain⟨x,_,rfl⟩:=List.mem_map.mp hr;rfl
 ·obtain⟨rows',e2,pm⟩:=VQ (QO (rows.map tI));rw[e2]at kr;refine k l ws rows' H' n S e' ?_ pm;clear e2 pm;revert ws;have:∀(rows':List aT) (ws:List V),KRows H' ws (rows'.map tI)->bS H' ws rows':=by
   intro rows'
   induction rows' with
   | nil=>intro ws h;cases h;exact .nil
   | cons r rs ih=>intro ws h;cases h with|cons h t=>exact .cons h (ih _ t)
  intro ws _ kr;exact this _ _ kr
theorem GN {H:Hp}{q p1 p2 p3:Addr}{us ws:List V}{rs:List bE}{ss:List SpecD}{f l:Int} (dr:fH H q p1 p2 p3 us ws rs ss f l) (t:Int) (n:Str):0<=fY (ss.map aZ) f l t n:=by
 unfold fY
 split
 ·rename_i d hd;obtain⟨s,hs,e⟩:=List.mem_map.mp (List.mem_of_find?_eq_some hd);rw[←e];unfold iY
  split
  ·exact F8 (dr.so s hs).w0 t
  ·exact Int.le_refl _
 ·exact Int.le_refl _
theorem EM {rs:List bE}{e:Str×Int} (he:e∈c5 rs):∃r∈rs,e=(r.1,r.2.1):=by
 unfold c5 at he;obtain⟨r,hr,rfl⟩:=List.mem_map.mp he;exact⟨r,hr,rfl⟩
theorem QZ {rs:List bE}(ro:nQ rs):∀r∈rs,cC (cD rs) r.1=fzF rs r.1:=fun r hr=>by rw[vX ro.nd hr,AX ro.nd (fun x hx=>(ro.ok x hx).1) hr]
theorem aDV {H:Hp}{q p1 p2 p3:Addr}{us ws:List V}{rs:List bE}{ss:List SpecD}{f l:Int} (dr:fH H q p1 p2 p3 us ws rs ss f l):Stp (c5 rs) (cD rs) (ss.map aZ) f l 0 []:=by
 have ro:=dr.ro;refine Stp.nil (GN dr) (fun e he=> ?_) fun e he=> ?_
 ·obtain⟨r,hr,rfl⟩:=EM he;show cC (cD rs) r.1<=r.2.1;rw[QZ ro r hr,vX ro.nd hr];exact(ro.ok r hr).2
 ·obtain⟨r,hr,rfl⟩:=EM he;show 0<=cC (cD rs) r.1;rw[QZ ro r hr,vX ro.nd hr];exact(ro.ok r hr).1
theorem InT.nil {rz ps:List (Str×Int)}{rs:List bE}{ss:List SpecD}{f l u:Int}{th:Str->Int} (hm:∀n,0<=fY (ss.map aZ) f l u n) (n1:∀r∈rs,0<=th r.1) (n2:∀r∈rs,th r.1<=r.2.1):InT rz ps rs ss f l u th 0 [] th th:=by
 have hg:∀c,gs (ss.map aZ) (goR []) c u=0:=fun c=>sS fun _ z=>nomatch z;exact⟨(fun _ z=>nomatch z),(fun _ z=>nomatch z),hm,fun _ _=>rfl,Nat.le_refl _,fun z=>by rw[hg];omega,fun z=>by rw[hg];omega,n1,n2⟩
theorem LC {rs rs':List bE}{ss:List SpecD}{f l:Int}{i k:Nat}{rows S:List aT}{th g1 g2:Str->Int} (nd:(ss.map (·.n)).Nodup) (st:Stp (c5 rs) (cD rs) (ss.map aZ) f l i rows) (hi:f+(i:Int)<l) (hth:∀z,th z=cC (cD rs) z+bY (ss.map aZ) f z (f+(i:Int)) rows) (x:InT (c5 rs) (cD rs) rs' ss f l (f+(i:Int)) th k S g1 g2) (n1:∀r∈rs,0<=g1 r.1) (n2:∀r∈rs,g2 r.1<=r.2.1) :
  Stp (c5 rs) (cD rs) (ss.map aZ) f l (i+1) (rows++S)/\∀z,g2 z=cC (cD rs) z+bY (ss.map aZ) f z (f+((i+1:Nat):Int)) (rows++S):=by
 have ndd:((ss.map aZ).map (·.1)).Nodup:=by rw[gR];exact nd
 refine⟨st.turn ndd hi x.tm x.ge x.door (fun e he=> ?_) (fun e he=> ?_),fun z=> ?_⟩
 ·obtain⟨r,hr,rfl⟩:=EM he;have h:=n1 r hr;rw[x.h1,hth]at h;show gs _ _ (stB r.1) _<=cC _ r.1+bY _ _ r.1 _ _;omega
 ·obtain⟨r,hr,rfl⟩:=EM he;have h:=n2 r hr;rw[x.h2,x.h1,hth]at h;exact h
 ·have h1:=uW (ds:=ss.map aZ) (f:=f) (z:=z) (t:=f+(i:Int)) (t':=f+((i+1:Nat):Int)) (rows:=rows) (fun r hr=>(st.tm r hr).2) (by omega);have h2:=K8 (z:=z) ndd (show f<=f+(i:Int) by omega) hi x.tm;rw[show f+(i:Int)+1=f+((i+1:Nat):Int) by omega]at h2;rw[xB,h1,h2,x.h2,x.h1,hth];omega
theorem zM {S:List aT}(h:∀r∈S,0<=r.2.2)(t:Int)(n:Str):cO (S.filter fun r=>decide (0<r.2.2)) t n=cO S t n:=by
 induction S with
 | nil=>rfl
 | cons r S ih =>
  have ih:=ih fun x hx=>h x (List.mem_cons_of_mem _ hx);have h0:=h r (.head _);obtain⟨rt,rn,rj⟩:=r;have h0:0<=rj:=h0;rw[nT]
  by_cases hc:0<rj
  ·rw[List.filter_cons_of_pos (by simpa using hc),nT,ih]
  ·rw[List.filter_cons_of_neg (by simpa using hc),ih]
   split<;>omega
theorem InT.pos {rz ps:List (Str×Int)}{rs:List bE}{ss:List SpecD}{f l u:Int}{th:Str->Int}{k:Nat}{S:List aT}{f1 f2:Str->Int} (x:InT rz ps rs ss f l u th k S f1 f2):InT rz ps rs ss f l u th k (S.filter fun r=>decide (0<r.2.2)) f1 f2:=by
 have hg:∀c,gs (ss.map aZ) (goR (S.filter fun r=>decide (0<r.2.2))) c u=gs (ss.map aZ) (goR S) c u:=fun c=>by
  unfold gs goR;refine dF fun d _=> ?_;rw[zM x.ge]
 refine⟨fun r hr=>x.tm r (List.mem_filter.mp hr).1,fun r hr=>x.ge r (List.mem_filter.mp hr).1,fun n=>by rw[zM x.ge];exact x.door n,fun s hs=>by rw[zM x.ge];exact x.zero s hs,Nat.le_trans (List.length_filter_le _ _) x.ln,fun z=>by rw[hg];exact x.h1 z,fun z=>by rw[hg];exact x.h2 z,x.n1,x.n2⟩
theorem PN {H H':Hp}{p:Addr}{o:HO}{vs:List V}{rows:List aT} (h:bS H vs rows) (e:H p=some o) (ho:∀xs,o≠ .tup xs) (B:SameBut p H H'):bS H' vs rows:=Paired.imp' (fun v r ⟨q,e1,h⟩=>⟨q,e1,B _ _ h fun z=>by rw[z,e]at h;exact ho _ (Option.some.inj h)⟩) h
def kE (H:Hp)(u:Int)(ss:List SpecD)(v:V)(r:aT):Prop:=∃a qs s,v= .ref a/\H a=some (.tup [.ref qs,.int r.2.2])/\dE H (.ref qs) s/\s∈ss/\r=(u,s.n,r.2.2)
theorem xN {H H':Hp}{u:Int}{ss:List SpecD}{vs:List V}{S:List aT} (h:Paired (kE H u ss) vs S) (B:Same H H'):Paired (kE H' u ss) vs S:=Paired.imp' (fun v r ⟨a,qs,s,e1,h,⟨q,e2,h2⟩,m⟩=>⟨a,qs,s,e1,B _ _ h,⟨q,e2,B _ _ h2⟩,m⟩) h
theorem L7 {H H':Hp}{p:Addr}{o:HO}{u:Int}{ss:List SpecD}{vs:List V}{S:List aT} (h:Paired (kE H u ss) vs S) (e:H p=some o) (ho:∀xs,o≠ .tup xs) (B:SameBut p H H'):Paired (kE H' u ss) vs S :=
 have hk:∀{q:Addr}{xs:List V},H q=some (.tup xs)->H' q=some (.tup xs):=fun h=>B _ _ h fun z=>by rw[z,e]at h;exact ho _ (Option.some.inj h)
 Paired.imp' (fun v r ⟨a,qs,s,e1,h,⟨q,e2,h2⟩,m⟩=>⟨a,qs,s,e1,hk h,⟨q,e2,hk h2⟩,m⟩) h
theorem RoomD.get {H:Hp}{Q:VK}{p:Addr}{rs:List bE}{fn:Str->Int} (x:RoomD H p rs fn) {z:Str} (hz:z∈rs.map (·.1)) (h:Q (.int (fn z)) H):KH Q (.ref p) (.str z) H:=by
 walk_at"g1";obtain⟨kvs,e,_,hv⟩:=x;walk_at"g2";obtain⟨r,hr,rfl⟩:=List.mem_map.mp hz;exact oV (.inl e) (hv r hr) h
theorem RoomD.pt {H:Hp}{p:Addr}{rs:List bE}{fn:Str->Int}{nx:St->Hp->Prop}{σ:St} (x:RoomD H p rs fn) (h4:rs.length<=4) {z:Str} (hz:z∈rs.map (·.1)) {v:Int} (h:∀H',SameBut p H H'->RoomD H' p rs (fun y=>if y=z then v else fn y)->nx σ H'):KN nx σ (.ref p) (.int v) (.str z) H:=by
 walk_at"g1";obtain⟨kvs,e,hk,hv⟩:=x;walk_at"g2";have hl:kvs.length=rs.length:=by rw[←List.length_map (f:=fun e:Key×V=>e.1),hk,List.length_map]
 exact mH e (by rw[sizeLine_eq];omega) fun H' B e'=>h H' B (RoomD.put (H:=H) hk hv hz e')
theorem RoomD.pl {H H':Hp}{p:Addr}{rs:List bE}{fn:Str->Int} (x:RoomD H p rs fn) (B:SameBut p H H') {vs:List V}{rows:List aT} (h:bS H vs rows):bS H' vs rows:=by
 obtain⟨kvs,e,_⟩:=x;exact PN h e (fun _ z=>nomatch z) B
theorem RoomD.mv {H H':Hp}{p:Addr}{rs:List bE}{fn:Str->Int} (x:RoomD H p rs fn) (B:SameBut p H H') {u:Int}{ss:List SpecD}{vs:List V}{S:List aT} (h:Paired (kE H u ss) vs S):Paired (kE H' u ss) vs S:=by
 obtain⟨kvs,e,_⟩:=x;exact L7 h e (fun _ z=>nomatch z) B
theorem Z3 {ss:List SpecD}(nd:(ss.map (·.n)).Nodup){s:SpecD}(hs:s∈ss)(S:List aT)(u x:Int)(z:Str):gs (ss.map aZ) (goR (S++[(u,s.n,x)])) (toB z) u=gs (ss.map aZ) (goR S) (toB z) u+if s.e= .str z then x else 0:=by
 have ndd:((ss.map aZ).map (·.1)).Nodup:=by rw[gR];exact nd
 have h:=P5 ndd (toB z) S u x (List.mem_map.mpr ⟨s,hs,rfl⟩:aZ s∈ss.map aZ);have e:(if toB z (aZ s)=true then x else 0)=if s.e= .str z then x else 0:=by
  show (if decide (s.e= .str z)=true then x else 0)=_
  by_cases h:s.e= .str z
  ·rw[if_pos h,if_pos (decide_eq_true h)]
  ·rw[if_neg h,if_neg (fun w=>h (of_decide_eq_true w))]
 rw[e]at h;exact h
theorem P9 {H:Hp}{u:Int}{ss:List SpecD}:∀{ms:List V}{S:List aT},Paired (kE H u ss) ms S->∃X:List (Addr×aT),X.map (·.2)=S/\Paired (fun v x=>∃q,v= .ref q/\H q=some (.tup [.ref x.1,.int x.2.2.2])) ms X/\∀x∈X,∃s,dE H (.ref x.1) s/\x.2=(u,s.n,x.2.2.2)
 | _,_,.nil=>⟨[],rfl,.nil,fun _ z=>nomatch z⟩
 | _,r::_,.cons ⟨a,qs,s,e,h,hs,_,hr⟩ t=>by
  walk_at"g1";obtain⟨X,h1,h2,h3⟩:=P9 t;walk_at"g2";refine⟨(qs,r)::X,by rw[List.map_cons,h1],.cons ⟨a,e,h⟩ h2,fun x hx=> ?_⟩;rcases List.mem_cons.mp hx with rfl|hx
  ·exact⟨s,hs,hr⟩
  ·exact h3 x hx
theorem D6 {H:Hp}:∀{X:List (Addr×aT)}{ys:List V},Paired (fun x y=>zX H y x.2) X ys->bS H ys (X.map (·.2))
 | _,_,.nil=> .nil
 | _,_,.cons h t=> .cons h (D6 t)
theorem LR {H:Hp}{b:List V}{rb:List aT} (hb:bS H b rb):∀{a:List V}{ra:List aT},bS H a ra->bS H (a++b) (ra++rb)
 | _,_,.nil=>hb
 | _,_,.cons h t=> .cons h (LR hb t)
inductive xF (vs:List V)(H:Hp)(Q:VK)(E:XK):Prop
 | mk (c:Int) (pS q p1 p2 p3:Addr) (us ws:List V) (rs:List bE) (ss:List SpecD) (f l u:Int) (th:Str->Int) (_:vs=[.int c,.ref pS,.ref p2,.int u]) (_:RoomD H pS rs th) (_:fH H q p1 p2 p3 us ws rs ss f l) (_:f<=u) (_:u<l) (_:(∀r∈rs,0<=th r.1)) (_:∀t c' pY pM ms S g1 g2 H',Same H H'->H' t=some (.tup [.int c',.ref pY,.ref pM])->RoomD H' pY rs g2->H' pM=some (.lst ms)->Paired (kE H' u ss) ms S->InT (c5 rs) (cD rs) [] ss f l u th ss.length S g1 g2->(∀r∈rs,0<=g1 r.1)->Q (.ref t) H'):xF vs H Q E
theorem aAG {H:Hp}{Q:VK}{E:XK}{c:Int}{pS q p1 p2 p3:Addr}{us ws:List V}{rs:List bE}{ss:List SpecD}{f l u:Int}{th:Str->Int} (rS:RoomD H pS rs th) (dr:fH H q p1 p2 p3 us ws rs ss f l) (hu0:f<=u) (hu1:u<l) (h0:∀r∈rs,0<=th r.1) (k:∀t c' pY pM ms S g1 g2 H',Same H H'->H' t=some (.tup [.int c',.ref pY,.ref pM])->RoomD H' pY rs g2->H' pM=some (.lst ms)->Paired (kE H' u ss) ms S->InT (c5 rs) (cD rs) [] ss f l u th ss.length S g1 g2->(∀r∈rs,0<=g1 r.1)->Q (.ref t) H'):xF [.int c,.ref pS,.ref p2,.int u] H Q E:=⟨_,_,_,_,_,_,_,_,_,_,_,_,_,_,rfl,rS,dr,hu0,hu1,h0,k⟩
theorem BI (m:M K mg):FnOk P w K mg base CX0 5 m.mN m.mK ["_law_cell","_law_standing","_law_specs","_law_turn"] (xF):=by
 refine m.jL.ok sc__law_told_turn (fun vs H Q E h=> ?_) (fun cdv A outer s H vs Q E hr h=> ?_)
 ·walk_at"g1";obtain⟨c,pS,q,p1,p2,p3,us,ws,rs,ss,f,l,u,th,rfl,rS,dr,hf0,hf1,hth0,k⟩:=h;walk_at"g2";rfl
 ·walk_at"g1";obtain⟨c,pS,q,p1,p2,p3,us,ws,rs,ss,f,l,u,th,rfl,rS,dr,hf0,hf1,hth0,k⟩:=h;walk_at"g2";have nd:=sc__law_told_turn.nd;walk_at"hu";have jZ:= @yN P w K mg base m;refine⟨_,(aB (aP (i:=4) nd rfl (by walk_at"oi") (mV E4 rfl m.NI GE (aA (pv 1) aE)))
   (aB (aP (i:=5) nd rfl (by walk_at"oi") (dU aE))
   (aB (cJ PassesOwn.never rfl (bH (pv 2)) (aH (i:=6) nd rfl (by walk_at"oi")) (aB (aP (i:=7) nd rfl (by walk_at"oi") (bP (kJ rfl) rfl m.xX sW (aA (c6 hu1 (pv 4) (bA cG (pv 6) aC (fun _ _=>rfl)) (fun _ _=>rfl)) (aA (bF jZ hr (aA (pv 6) (aA (pv 3) aE))) aE))))
   (aB (aP (i:=8) nd rfl (by walk_at"oi") (aI bN (pv 0) (aI bO (pv 7) aC)))
   (aB (aP (i:=0) nd rfl (by walk_at"oi") (aI K4 (pv 0) (aI bO (pv 7) aC)))
   (aB (dR hu1 (pv 4) (bA cG (pv 6) aC (fun _ _=>rfl)) (aI kR (c6 hu1 (pv 4) (bA cG (pv 6) aC (fun _ _=>rfl)) (fun _ _=>rfl)) (pv 8)) rfl)
   (aF (bT (sI PySem.F.plainAttrs_list PySem.F.slot_list_append PySem.F.type_list_append iB (pv 5) (aA (bU (aA (pv 6) (aA (pv 8) aE))) aE)))))))))
   (aB (cJ PassesOwn.never rfl (bH (pv 5)) (i3 rfl (aN (aH (i:=6) nd rfl (by walk_at"oi")) (aN (aH (i:=8) nd rfl (by walk_at"oi")) cM))) (aF (bR (aW A3 (bA cG (pv 6) aC (fun _ _=>rfl)) qO (aY _)) (aF (dR hu1 (pv 4) (bA cG (pv 6) aC (fun _ _=>rfl)) (aI bO (c6 hu1 (pv 4) (bA cG (pv 6) aC (fun _ _=>rfl)) (fun _ _=>rfl)) (pv 8)) rfl)) bC)))
   (aF (aV (bU (aA (pv 0) (aA (pv 4) (aA (pv 5) aE)))))))))),?_⟩
  refine aO (σ:=[some (.int c),some (.ref pS),some (.ref p2),some (.int u),none,none,none,none,none]) rfl ?_;walk_at"cx";have hwl:ws.length=ss.length:=Paired.length dr.sw;have hl7:=dr.l7;have ro:=dr.ro;walk_at"g1";obtain⟨kS,eS,hkS,hvS⟩:=id rS;walk_at"g2";have e2:=dr.e2;walk_at"go";refine L9 (.inl eS) fun pY H1 n1 S1 eY=> ?_;walk_at"go";rename_i pM H2 n2 S2 eM;have s2:=S1.trans S2;have nM:H pM=none:=none_of S1 n2;have hYM:pY≠pM:=fun z=>by rw[←z,eY]at n2;cases n2
  have rY:RoomD H2 pY rs th:=⟨kS,S2 _ _ eY,hkS,hvS⟩
  have in0:InT (c5 rs) (cD rs) [] ss f l u th 0 [] th th:=InT.nil (GN dr u) (fun _ z=>nomatch z) (fun _ z=>nomatch z);let Pv1:Nat->St->Hp->Prop:=fun j σ' H'=>Same H H'/\(∃ms S g1 g2,H' pM=some (.lst ms)/\Paired (kE H' u ss) ms S/\S.length=j/\InT (c5 rs) (cD rs) [] ss f l u th j S g1 g2/\(∀r∈rs,0<=g1 r.1)/\RoomD H' pY rs g1)/\∃c' x y z,σ'=[some (.int c'),some (.ref pS),some (.ref p2),some (.int u),some (.ref pY),some (.ref pM),x,y,z];refine dQ ws Pv1 ⟨s2,⟨[],[],th,th,eM,.nil,rfl,in0,hth0,rY⟩,_,_,_,_,rfl⟩ (fun j σ' H' _ g=>g.1.seq (SqL.of e2)) ?_ ?_
  ·rintro j x _ H3 hx hq_;walk_at"g1";obtain⟨s3,⟨ms,S,g1,g2,eM3,hms,hSl,in3,hn3,rY3⟩,c',x1,x2,x3,rfl⟩:=hq_;walk_at"g2";have dr3:=dM dr s3;obtain⟨s',hs'⟩:∃s,ss[j]? =some s:=⟨_,List.getElem?_eq_getElem (by have:=(List.getElem?_eq_some_iff.mp hx).1;omega)⟩
   obtain⟨qs,rfl,hqs⟩:=Paired.at2 dr3.sw hx hs';have hsm:=List.mem_of_getElem? hs';have so:=dr.so _ hsm;walk_at"go";refine⟨qs,_,1,_,rfl,rfl,SqT.of hqs,rfl,?_⟩;refine rY3.get so.sin ?_;walk_at"go";refine⟨qs,s',u,rfl,⟨qs,rfl,hqs⟩,by have:=dr.f0;omega,so.m1,so.m0,fun H4 S4=> ?_⟩;have hqs4:=S4 _ _ hqs;have rY4:=rY3.same S4;have hg0:0<=g1 s'.st:=by
    obtain⟨r,hr,e⟩:=List.mem_map.mp so.sin;rw[←e];exact hn3 r hr
   have hle:=F8 so.w0 u;walk_at"go";rename_i hq0 hq1;generalize hmo:min (g1 s'.st) (gN s' u)=mo at *;have hm0:0<=mo:=by omega
   have hm1:mo<=g1 s'.st:=by omega
   have hm2:mo<=gN s' u:=by omega
   have hm3:mo+1<2^100:=by
    have h1:=aAo so.w0 u;have h2:=so.w1;omega
   refine PR (by omega) hm3 ?_;generalize hnu:c'%(mo+1)=nu at *;walk_at"go";refine⟨qs,_,1,_,rfl,rfl,SqT.of hqs4,rfl,?_⟩;refine rY4.get so.sin ?_;walk_at"go";refine⟨qs,_,1,_,rfl,rfl,SqT.of hqs4,rfl,?_⟩;refine rY4.pt ro.l1 so.sin fun H5 B5 rY5=> ?_;have s5:=iN (s3.trans S4) n1 B5;have hms5:=rY4.mv B5 (xN hms S4);have hqs5:H5 qs=some (HO.tup [V.str s'.n,V.str s'.st,s'.e,V.int s'.kd,V.int s'.wd,V.int s'.fi,V.int s'.mo]):=(dM dr s5).sw |> fun z=>by
    obtain⟨q',e',h'⟩:=Paired.at2 z hx hs';cases e';exact h'
   have eM5:=B5 _ _ (S4 _ _ eM3) (Ne.symm hYM);walk_at"go";rename_i q6 H6 n6 S6 e6;have hq6:q6≠pM:=fun z=>by rw[z,eM5]at n6;cases n6
   have hml:ms.length=j:=by rw[Paired.length hms,hSl]
   have hj7:j<ws.length:=(List.getElem?_eq_some_iff.mp hx).1;refine iA (S6 _ _ eM5) (by rw[sizeLine_eq];omega) fun H7 B7 e7=> ?_;have s7:=iN (s5.trans S6) nM B7;have hms7:=L7 (xN hms5 S6) (S6 _ _ eM5) (fun _ z=>nomatch z) B7;have hqs7:H7 qs=some (HO.tup [V.str s'.n,V.str s'.st,s'.e,V.int s'.kd,V.int s'.wd,V.int s'.fi,V.int s'.mo]):=B7 _ _ (S6 _ _ hqs5) fun z=>by rw[z,eM5]at hqs5;cases hqs5
   have in7:=in3.row dr.nd hf0 hf1 hs' (j:=nu) (by omega) (by omega) (by omega) (fun _ z=>nomatch z);refine⟨s7,⟨_,S++[(u,s'.n,nu)],_,_,e7,L2.Paired.snoc hms7 ⟨q6,qs,s',rfl,B7 _ _ e6 hq6,⟨qs,rfl,hqs7⟩,hsm,rfl⟩,by rw[List.length_append,hSl];rfl,in7,fun r hr=> ?_,((rY5.same S6).but B7 hYM).fn fun r hr=> ?_⟩,_,_,_,_,rfl⟩
   ·have:=hn3 r hr;show 0<=g1 r.1 - _
    by_cases h:s'.st=r.1
    ·rw[if_pos h,←h];omega
    ·rw[if_neg h];omega
   ·show (if r.1=s'.st then g1 s'.st - nu else g1 r.1)=g1 r.1 - if s'.st=r.1 then nu else 0
    by_cases h:s'.st=r.1
    ·rw[if_pos h,if_pos h.symm,h]
    ·rw[if_neg h,if_neg (Ne.symm h),Int.sub_zero]
  ·rintro _ H3 hq_;walk_at"g1";obtain⟨s3,⟨ms,S,g1,g2,eM3,hms,hSl,in3,hn3,rY3⟩,c',x1,x2,x3,rfl⟩:=hq_;walk_at"g2";have hml:ms.length=S.length:=Paired.length hms;walk_at"go";let Pv2:Nat->St->Hp->Prop:=fun j σ' H'=>Same H H'/\H' pM=some (.lst ms)/\Paired (kE H' u ss) ms S/\RoomD H' pY rs (fun z=>g1 z+gs (ss.map aZ) (goR (S.take j)) (toB z) u)/\∃x y z,σ'=[some (.int c'),some (.ref pS),some (.ref p2),some (.int u),some (.ref pY),some (.ref pM),x,y,z];refine dQ ms Pv2 ⟨s3,eM3,hms,rY3.fn fun r _=> ?_,_,_,_,rfl⟩ (fun j σ' H' _ g=>SqL.of g.2.1) ?_ ?_
   ·show g1 r.1=g1 r.1+gs (ss.map aZ) (goR []) (toB r.1) u;rw[sS (rows:=[]) (fun _ z=>nomatch z),Int.add_zero]
   ·rintro j x _ H4 hx hq_;walk_at"g1";obtain⟨s4,eM4,hms4,rY4,y1,y2,y3,rfl⟩:=hq_;walk_at"g2";have hjl:j<S.length:=by have:=(List.getElem?_eq_some_iff.mp hx).1;omega
    obtain⟨⟨rt,rn,rj⟩,hrx⟩:∃r,S[j]? =some r:=⟨_,List.getElem?_eq_getElem hjl⟩
    walk_at"g1";obtain⟨a5,qs,s',rfl,ha5,⟨q',e',hqs⟩,hsm,hre⟩:=Paired.at2 hms4 hx hrx;walk_at"g2";cases e';have hre:(rt,rn,rj)=(u,s'.n,rj):=hre;injection hre with hre1 hre2;injection hre2 with hre2 _;subst hre1 hre2;have ha5:H4 a5=some (.tup [.ref qs,.int rj]):=ha5;have so:=dr.so _ hsm;walk_at"go";rcases so.ein with he|⟨z,he,hz⟩
    ·rw[he]at hqs;refine⟨qs,_,2,_,rfl,rfl,SqT.of hqs,rfl,?_⟩;walk_at"go";refine⟨s4,eM4,hms4,rY4.fn fun r _=> ?_,_,_,_,rfl⟩;rw[cU hrx,Z3 dr.nd hsm,he,if_neg (fun z=>nomatch z),Int.add_zero]
    ·rw[he]at hqs;refine⟨qs,_,2,_,rfl,rfl,SqT.of hqs,rfl,?_⟩;walk_at"go";refine⟨qs,_,2,_,rfl,rfl,SqT.of hqs,rfl,?_⟩;refine rY4.get hz ?_;walk_at"go";refine⟨qs,_,2,_,rfl,rfl,SqT.of hqs,rfl,?_⟩;refine rY4.pt ro.l1 hz fun H5 B5 rY5=> ?_;refine⟨iN s4 n1 B5,B5 _ _ eM4 (Ne.symm hYM),rY4.mv B5 hms4,rY5.fn fun r _=> ?_,_,_,_,rfl⟩;rw[cU hrx,Z3 dr.nd hsm,he]
     by_cases h:z=r.1
     ·rw[if_pos h.symm,if_pos (by rw[h]),h];omega
     ·rw[if_neg (Ne.symm h),if_neg (fun w=>h (V.str.inj w)),Int.add_zero]
   ·rintro _ H4 hq_;walk_at"g1";obtain⟨s4,eM4,hms4,rY4,y1,y2,y3,rfl⟩:=hq_;walk_at"g2";rw[hml,List.take_length]at rY4;walk_at"go";rename_i q6 H6 n6 S6 e6;rw[hwl]at in3;exact k q6 c' pY pM ms S g1 g2 H6 (s4.trans S6) e6 ((rY4.fn fun r _=>(in3.h2 r.1).symm).same S6) (S6 _ _ eM4) (xN hms4 S6) in3 hn3
theorem A7 (m:M K mg):Fc P w K mg base "_law_told_turn" 5 ["_law_cell","_law_standing","_law_specs","_law_turn"] (xF):=⟨_,_,m.D2,m.jL.kp,m.DM,BI m⟩
theorem BM (m:M K mg):FnOk P w K mg base CX0 6 m.mP m.mL ["_law_cell","_law_rooms_here","_law_specs","_law_turns"] (oU):=by
 refine m.jK.ok sc__law_told_plan (fun vs H Q E h=> ?_) (fun cdv A outer s H vs Q E hr h=> ?_)
 ·walk_at"g1";obtain⟨c,q,p1,p2,p3,us,ws,rs,ss,f,l,rfl,dr,k⟩:=h;walk_at"g2";rfl
 ·walk_at"g1";obtain⟨c,q,p1,p2,p3,us,ws,rs,ss,f,l,rfl,dr,k⟩:=h;walk_at"g2";have nd:=sc__law_told_plan.nd;walk_at"hu";have jL:= @A7 P w K mg base m;refine⟨_,(aB (aP (i:=4) nd rfl (by walk_at"oi") oQ)
   (aB (cJ PassesOwn.never rfl (bH (pv 1)) (aH (i:=5) nd rfl (by walk_at"oi")) (aF (dR hu1 (pv 4) (bA cG (pv 5) aC (fun _ _=>rfl)) (bA cG (pv 5) aC (fun _ _=>rfl)) rfl)))
   (aB (aP (i:=6) nd rfl (by walk_at"oi") (dU aE))
   (aB (cJ PassesOwn.never rfl (kI rfl m.fA (aA (bA cG (pv 3) aC (fun _ _=>rfl)) (aA (bA cG (pv 3) aC (fun _ _=>rfl)) aE))) (aH (i:=7) nd rfl (by walk_at"oi")) (aB (tM (bF jL hr (aA (pv 0) (aA (pv 4) (aA (pv 2) (aA (pv 7) aE))))) (i3 rfl (aN (aH (i:=0) nd rfl (by walk_at"oi")) (aN (aH (i:=8) nd rfl (by walk_at"oi")) (aN (aH (i:=9) nd rfl (by walk_at"oi")) cM)))))
   (aF (bR (aW (aEa hu0) (cV (N:=["_law_room","_law_behind"]) (nl:=1) (ci:=[8]) rfl (blk (s.heap.objs.size+1) rfl rfl rfl (by kernel_rfl)) (bH (pv 1)) (fun _ _ _ _=>(aH (i:=0) (show (["_law_room","_law_behind"]:List Str).Nodup by decide +kernel) rfl (by walk_at"oi"))) (fun _ _ _ _=>(gY (aW lX (c6 hu1 (pv 1) (bA (gE (K:=K)) (pv 0) aC (fun _ _=>rfl)) (fun _ _=>rfl)) (bA (gE (K:=K)) (pv 0) aC (fun _ _=>rfl)) (aY _)))) (fun _ _ _ _=>(pv 0))) (dU aE) (aY _)) (aB (aP (i:=4) nd rfl (by walk_at"oi") (pv 8))
   (aF (aP (i:=6) nd rfl (by walk_at"oi") (aI E3 (pv 6) (cV (N:=["_law_spec_here","_law_number","_law_turn"]) (nl:=2) (ci:=[7]) rfl (blk (s.heap.objs.size+1) rfl rfl rfl (by kernel_rfl)) (bH (pv 9)) (fun _ _ _ _=>(jV (K:=K) (n:=2) rfl (aN (aH (i:=0) (show (["_law_spec_here","_law_number","_law_turn"]:List Str).Nodup by decide +kernel) rfl (by walk_at"oi")) (aN (aH (i:=1) (show (["_law_spec_here","_law_number","_law_turn"]:List Str).Nodup by decide +kernel) rfl (by walk_at"oi")) cM)))) (fun _ _ _ _=>(gY (aW lX (pv 1) aC (aY _)))) (fun _ _ _ _=>(bU (aA (pv 2) (aA (bA (gE (K:=K)) (pv 0) aC (fun _ _=>rfl)) (aA (pv 1) aE)))))))))) bC))))
   (aF (aV (bP tL rfl m.DU zL (aA (pv 6) aE)))))))),?_⟩
  refine aO (σ:=[some (.int c),some (.ref p1),some (.ref p2),some (.ref p3),none,none,none,none,none,none]) rfl ?_;walk_at"cx";have ro:=dr.ro;have hr4:=ro.l1;have hl7:=dr.l7;have e1:=dr.e1;have hul:us.length=rs.length:=Paired.length dr.ru;have f0:=dr.f0;have f1:=dr.f1;have fl:=dr.fl;have fl7:=dr.fl7;have ndd:((ss.map aZ).map (·.1)).Nodup:=by rw[gR];exact dr.nd
  walk_at"go";rename_i pS H1 n1 S1 eS;let Pv3:Nat->St->Hp->Prop:=fun j σ' H'=>Same H H'/\(∃k1:List (Key×V),H' pS=some (.dK k1)/\k1.map (·.1)=(rs.take j).map (fun r=>Sum.inr r.1)/\∀r∈rs.take j,bD k1 (.inr r.1)=some (.int (fzF rs r.1)))/\∃x,σ'=[some (.int c),some (.ref p1),some (.ref p2),some (.ref p3),some (.ref pS),x,none,none,none,none];refine dQ us Pv3 ⟨S1,⟨[],eS,rfl,(fun _ z=>nomatch z)⟩,_,rfl⟩ (fun j σ' H' _ g=>g.1.seq (SqL.of e1)) ?_ ?_
  ·rintro j x _ H3 hx hq_;walk_at"g1";obtain⟨s3,⟨k1,ek1,hk1,hv1⟩,x1,rfl⟩:=hq_;walk_at"g2";have hj:j<us.length:=(List.getElem?_eq_some_iff.mp hx).1;obtain⟨⟨z,u,v⟩,hrx⟩:∃r,rs[j]? =some r:=⟨_,List.getElem?_eq_getElem (by omega)⟩
   obtain⟨q5,rfl,hq5⟩:=Paired.at2 dr.ru hx hrx;have hq5:H3 q5=some (.tup [.str z,.int u,.int v]):=s3 _ _ hq5;have hm:(z,u,v)∈rs:=List.mem_of_getElem? hrx;have hfz:fzF rs z=v:=vX ro.nd hm;have hkl1:k1.length=j:=by rw[←List.length_map (f:=fun e:Key×V=>e.1),hk1,List.length_map,List.length_take];omega
   walk_at"go";refine⟨q5,_,2,_,rfl,rfl,SqT.of hq5,rfl,?_⟩;walk_at"go";refine⟨q5,_,0,_,rfl,rfl,SqT.of hq5,rfl,?_⟩;refine mH ek1 (by rw[sizeLine_eq];omega) fun H4 B4 e4=> ?_;have t1:=RoomD.take (fn:=fzF rs) ro.nd hrx hk1 hv1;rw[show ((z,u,v):bE).1=z from rfl,hfz]at t1;exact⟨iN s3 n1 B4,⟨_,e4,t1⟩,_,rfl⟩
  ·rintro _ H3 hq_;walk_at"g1";obtain⟨s3,⟨k1,ek1,hk1,hv1⟩,x1,rfl⟩:=hq_;walk_at"g2";rw[hul,List.take_length]at hk1 hv1;have rS:RoomD H3 pS rs (fzF rs):=⟨k1,ek1,hk1,hv1⟩
   walk_at"go";rename_i pP H4 n4 S4 eP;have s4:=s3.trans S4;have dr4:=dM dr s4;refine⟨p3,_,0,_,rfl,rfl,SqT.of dr4.e3,rfl,?_⟩;walk_at"go";refine⟨p3,_,1,_,rfl,rfl,SqT.of dr4.e3,rfl,?_⟩;walk_at"go";let Pv4:Nat->St->Hp->Prop:=fun i σ' H'=>Same H H'/\(∃c' pX pL vs' rows x5 x7 x8 x9,H' pL=some (.lst vs')/\bS H' vs' rows/\rows.length<=7 * i/\Stp (c5 rs) (cD rs) (ss.map aZ) f l i rows/\RoomD H' pX rs (fun z=>cC (cD rs) z+bY (ss.map aZ) f z (f+(i:Int)) rows)/\σ'=[some (.int c'),some (.ref p1),some (.ref p2),some (.ref p3),some (.ref pX),x5,some (.ref pL),x7,x8,x9]);refine iU Pv4 ⟨s4,c,pS,pP,[],[],_,_,_,_,eP,.nil,by show 0<=_;omega,aDV dr,(rS.same S4).fn fun r hr=>by
    show fzF rs r.1=cC (cD rs) r.1+0;rw[QZ ro r hr,Int.add_zero],rfl⟩ ?_ ?_
   ·rintro i _ H5 hi hq_;walk_at"g1";obtain⟨s5,c',pX,pL,vs5,rows,x5,x7,x8,x9,eL5,hp5,hl5,st5,rX5,rfl⟩:=hq_;walk_at"g2";have dr5:=dM dr s5;have hul':f+(i:Int)<l:=by omega
    walk_at"go";refine aAG rX5 dr5 (by omega) hul' (fun r hr=>st5.nn (r.1,r.2.1) (List.mem_map.mpr ⟨r,hr,rfl⟩)) fun t c2 pY pM ms S g1 g2 H6 S6 e6 rY6 eM6 hms6 in6 hn6=> ?_;have s6:=s5.trans S6;have dr6:=dM dr s6;walk_at"go";refine fI (α:=bE) (xs:=rs) (vs:=us) (eK H6) (fun r=>decide (r.2.1<g2 r.1)) (fun r y H=>eK H y r) (fun _ _ _ _ ⟨q,h1,h2⟩ s=>⟨q,h1,s _ _ h2⟩) (by rw[sizeLine_eq];omega) (rest:=[some (.ref pY)]) (by rfl) (SqL.of dr6.e1) dr6.ru ?_ ?_ ?_
    ·rintro v ⟨z,u,x⟩ H7 ⟨q7,rfl,hq7⟩ hm s7 R hR;have hq7:H7 q7=some (.tup [.str z,.int u,.int x]):=s7 _ _ hq7;walk_at"go";refine⟨q7,_,0,_,rfl,rfl,SqT.of hq7,rfl,?_⟩;refine(rY6.same s7).get (List.mem_map.mpr ⟨_,hm,rfl⟩) ?_;walk_at"go";refine⟨q7,_,1,_,rfl,rfl,SqT.of hq7,rfl,?_⟩;walk_at"go";exact hR _ (Same.refl _)
    ·rintro v x H7 ⟨q7,rfl,hq7⟩ hm - s7 R hR;walk_at"go";exact hR _ _ ⟨q7,rfl,s7 _ _ hq7⟩ (Same.refl _)
    intro bs H7 s7 hbs;have hbl:bs.length=(rs.filter fun r=>decide (r.2.1<g2 r.1)).length:=(Paired.length hbs).symm;walk_at"go";rename_i q8 H8 n8 S8 e8 q9 H9 n9 S9 e9;refine aDs (SqL.of (S9 _ _ e8)) (SqL.of e9) ?_;have s69:Same H6 H9:=s7.trans (S8.trans S9);have s9:=s6.trans s69;have hsl:ms.length=S.length:=Paired.length hms6;have hs7:=in6.ln;walk_at"go";cases hb:bs with
    | cons b0 bt =>
     rw[if_neg (fun z=>nomatch z)];walk_at"go";refine⟨s9,c2,pX,pL,vs5,rows,_,_,_,_,(S6.trans s69) _ _ eL5,d7 hp5 (S6.trans s69),by omega,st5.rest,(rX5.same (S6.trans s69)).fn fun r _=> ?_,rfl⟩;rw[uW (t':=f+((i+1:Nat):Int)) (fun r hr=>(st5.tm r hr).2) (by omega)]
    | nil =>
     rw[if_pos (show ([]:List V).isEmpty=true from rfl)];have hn2:∀r∈rs,g2 r.1<=r.2.1:=fun r hr=>by
      rw[hb]at hbl;have h0:=List.length_eq_zero_iff.mp hbl.symm;have:=List.filter_eq_nil_iff.mp h0 r hr
      simpa using this
     walk_at"g1";obtain⟨X,hX1,hX2,hX3⟩:=P9 (xN hms6 s69);walk_at"g2";have hXl:X.length=S.length:=by rw[←hX1,List.length_map]
     have eM9:=s69 _ _ eM6;walk_at"go";refine oT (α:=Addr×aT) (xs:=X) (vs:=ms) (fun x=> .ref x.1) (fun x=> .int x.2.2.2) (fun x=>decide (0<x.2.2.2)) (fun x y H=>zX H y x.2) (fun _ _ _ _ ⟨q,h1,h2⟩ s=>⟨q,h1,s _ _ h2⟩) (by rw[sizeLine_eq];omega) (rest:=[some (.int (f+(i:Int)))]) (by rfl) (SqL.of eM9) hX2 ?_ ?_ ?_
     ·rintro x HA hm sA R hR;walk_at"go";exact hR _ (Same.refl _)
     ·rintro ⟨qx,x⟩ HA hm - sA R hR;walk_at"g1";obtain⟨s,⟨q',e',hs'⟩,hx⟩:=hX3 _ hm;walk_at"g2";cases e';have hs2:HA qx=some (HO.tup [V.str s.n,V.str s.st,s.e,V.int s.kd,V.int s.wd,V.int s.fi,V.int s.mo]):=sA _ _ hs';walk_at"go";refine⟨qx,_,0,_,rfl,rfl,SqT.of hs2,rfl,?_⟩;walk_at"go";rename_i qB HB nB SB eB;refine hR _ _ ⟨qB,rfl,?_⟩ SB;have hx:x=(f+(i:Int),s.n,x.2.2):=hx;rw[hx];exact eB
     intro cs HA sA hcs;have hcp:=D6 hcs;have hfl:(X.filter fun x=>decide (0<x.2.2.2)).map (·.2)=S.filter fun r=>decide (0<r.2.2):=by rw[←hX1,List.filter_map];rfl
     rw[hfl]at hcp;have hcl:cs.length<=7:=by rw[Paired.length hcp];exact Nat.le_trans (List.length_filter_le _ _) (by omega)
     walk_at"go";rename_i qC HC nC SC eC;have sL:Same H5 HC:=S6.trans (s69.trans (sA.trans SC));have hvl:vs5.length=rows.length:=Paired.length hp5;refine FV (sL _ _ eL5) eC (by rw[sizeLine_eq];omega) fun pN HN nN SN eN=> ?_;have te:=LC dr.nd st5 hul' (fun z=>rfl) in6.pos hn6 hn2;walk_at"go";refine⟨s5.trans (sL.trans SN),c2,pY,pN,_,_,_,_,_,_,eN,LR (d7 hcp (SC.trans SN)) (d7 hp5 (sL.trans SN)),?_,te.1,(rY6.same (s69.trans (sA.trans (SC.trans SN)))).fn fun r _=>te.2 r.1,rfl⟩;rw[List.length_append,←Paired.length hcp];omega
   ·rintro _ H5 hq_;walk_at"g1";obtain⟨s5,c',pX,pL,vs5,rows,x5,x7,x8,x9,eL5,hp5,hl5,st5,rX5,rfl⟩:=hq_;walk_at"g2";have nf:=st5.noflt ndd (by omega);walk_at"go";refine L8 eL5 hp5 (by omega) fun pR ws' rows' H6 n6 S6 e6 hp6 pm=> ?_;walk_at"go";exact k _ _ _ _ (none_of s5 n6) (s5.trans S6) e6 hp6 (by rw[←pm.length_eq];omega) (nf.perm pm) fun r hr=>⟨(st5.tm r (pm.mem_iff.mpr hr)).1,st5.ge r (pm.mem_iff.mpr hr)⟩
theorem BJ (m:M K mg):Fc P w K mg base "_law_told_plan" 6 ["_law_cell","_law_rooms_here","_law_specs","_law_turns"] (oU):=⟨_,_,m.DQ,m.jK.kp,m.DH,BM m⟩
theorem DC (m:M K mg):FnOk P w K mg base CX0 7 m.oA m.oH ["_law_cell","_law_rooms_here","_law_specs","_law_turns"] (oU):=by
 refine m.j7.ok sc__law_any_plan (fun vs H Q E h=> ?_) (fun cdv A outer s H vs Q E hr h=> ?_)
 ·walk_at"g1";obtain⟨c,q,p1,p2,p3,us,ws,rs,ss,f,l,rfl,dr,k⟩:=h;walk_at"g2";rfl
 ·walk_at"g1";obtain⟨c,q,p1,p2,p3,us,ws,rs,ss,f,l,rfl,dr,k⟩:=h;walk_at"g2";have nd:=sc__law_any_plan.nd;walk_at"hu";have jZ:= @yN P w K mg base m;have cE:= @jM P w K mg base m;have jK:= @BJ P w K mg base m;refine⟨_,(aB (bR (aW dG (aI bN (pv 0) aC) aC (aY _)) (aF (aV (bF jK hr (aA (aI cI (pv 0) aC) (aA (pv 1) (aA (pv 2) (aA (pv 3) aE))))))) bC)
   (aB (aP (i:=4) nd rfl (by walk_at"oi") oQ)
   (aB (aP (i:=5) nd rfl (by walk_at"oi") oQ)
   (aB (cJ PassesOwn.never rfl (bH (pv 1)) (aH (i:=6) nd rfl (by walk_at"oi")) (aB (dR hu1 (pv 4) (bA cG (pv 6) aC (fun _ _=>rfl)) (bA cG (pv 6) aC (fun _ _=>rfl)) rfl)
   (aF (dR hu1 (pv 5) (bA cG (pv 6) aC (fun _ _=>rfl)) (bA cG (pv 6) aC (fun _ _=>rfl)) rfl))))
   (aB (aP (i:=7) nd rfl (by walk_at"oi") (dU aE))
   (aB (cJ PassesOwn.never rfl (kI rfl m.fA (aA (bA cG (pv 3) aC (fun _ _=>rfl)) (aA (bA cG (pv 3) aC (fun _ _=>rfl)) aE))) (aH (i:=8) nd rfl (by walk_at"oi")) (aB (aP (i:=9) nd rfl (by walk_at"oi") (mV E4 rfl m.NI GE (aA (pv 4) aE)))
   (aF (cJ PassesOwn.never rfl (i8 rfl m.fA (aA (bP jA rfl m.sO nL (aA (pv 2) aE)) aE)) (aH (i:=10) nd rfl (by walk_at"oi")) (aB (tM (DE UQ (bA b9 (pv 2) (pv 10) (fun _ _=>rfl)) GA (GQ aC)) (i3 rfl (aN (aH (i:=11) nd rfl (by walk_at"oi")) (aN (aH (i:=12) nd rfl (by walk_at"oi")) (aN (aH (i:=13) nd rfl (by walk_at"oi")) cM)))))
   (aB (aP (i:=14) nd rfl (by walk_at"oi") (bP (kJ rfl) rfl m.xX sW (aA (c6 hu1 (pv 9) (pv 12) (fun _ _=>rfl)) (aA (bF jZ hr (aA (bA b9 (pv 2) (pv 10) (fun _ _=>rfl)) (aA (pv 8) aE))) aE))))
   (aB (bR (aW A3 (pv 13) qO (aY _)) (aF (aP (i:=14) nd rfl (by walk_at"oi") (bP (kJ rfl) rfl m.xX sW (aA (pv 14) (aA (aI kR (c6 hu1 (pv 5) (pv 13) (fun _ _=>rfl)) (c6 hu1 (pv 4) (pv 13) (fun _ _=>rfl))) aE))))) bC)
   (aB (aP (i:=15) nd rfl (by walk_at"oi") (bA b9 (dU (aA (pv 14) (aA (aI bN (bF cE hr (aA (pv 0) (aA (aI bO (aI i5 aC (pv 8)) (pv 10)) aE))) (aI bO (pv 14) aC)) aE))) (aI bN (aI cI (bF cE hr (aA (pv 0) (aA (aI bO (aI i5 aC (pv 8)) (pv 10)) aE))) aC) aC) (fun _ _=>rfl)))
   (aF (bR (aW lX (pv 15) aC (aY _)) (aB (bT (sI PySem.F.plainAttrs_list PySem.F.slot_list_append PySem.F.type_list_append iB (pv 7) (aA (bU (aA (pv 8) (aA (pv 11) (aA (pv 15) aE)))) aE)))
   (aB (dR hu1 (pv 9) (pv 12) (aI kR (c6 hu1 (pv 9) (pv 12) (fun _ _=>rfl)) (pv 15)) rfl)
   (aB (dR hu1 (pv 4) (pv 12) (aI kR (c6 hu1 (pv 4) (pv 12) (fun _ _=>rfl)) (pv 15)) rfl)
   (aF (bR (aW A3 (pv 13) qO (aY _)) (aF (dR hu1 (pv 4) (pv 13) (aI bO (c6 hu1 (pv 4) (pv 13) (fun _ _=>rfl)) (pv 15)) rfl)) bC))))) bC))))))))))
   (aF (aV (bP tL rfl m.DU zL (aA (pv 7) aE)))))))))),?_⟩
  refine aO (σ:=[some (.int c),some (.ref p1),some (.ref p2),some (.ref p3),none,none,none,none,none,none,none,none,none,none,none,none]) rfl ?_;walk_at"cx";have ro:=dr.ro;have hr4:=ro.l1;have hl7:=dr.l7;have e1:=dr.e1;have hul:us.length=rs.length:=Paired.length dr.ru;have hwl:ws.length=ss.length:=Paired.length dr.sw;walk_at"go";refine cA (fun hc=> ?_) (fun hc=> ?_)
  ·walk_at"go";exact PK dr k
  walk_at"go";rename_i pS H1 n1 S1 eS pH H2 n2 S2 eH;have nH:H pH=none:=none_of S1 n2;have hSH:pS≠pH:=fun z=>by rw[←z,eS]at n2;cases n2
  let Pv1:Nat->St->Hp->Prop:=fun j σ' H'=>Same H H'/\(∃k1:List (Key×V),H' pS=some (.dK k1)/\k1.map (·.1)=(rs.take j).map (fun r=>Sum.inr r.1)/\∀r∈rs.take j,bD k1 (.inr r.1)=some (.int (fzF rs r.1)))/\(∃k2:List (Key×V),H' pH=some (.dK k2)/\k2.map (·.1)=(rs.take j).map (fun r=>Sum.inr r.1)/\∀r∈rs.take j,bD k2 (.inr r.1)=some (.int (hzF rs r.1)))/\∃x,σ'=[some (.int c),some (.ref p1),some (.ref p2),some (.ref p3),some (.ref pS),some (.ref pH),x,none,none,none,none,none,none,none,none,none];refine dQ us Pv1 ⟨S1.trans S2,⟨[],S2 _ _ eS,rfl,(fun _ z=>nomatch z)⟩,⟨[],eH,rfl,(fun _ z=>nomatch z)⟩,_,rfl⟩ (fun j σ' H' _ g=>g.1.seq (SqL.of e1)) ?_ ?_
  ·rintro j x _ H3 hx hq_;walk_at"g1";obtain⟨s3,⟨k1,ek1,hk1,hv1⟩,⟨k2,ek2,hk2,hv2⟩,x1,rfl⟩:=hq_;walk_at"g2";have hj:j<us.length:=(List.getElem?_eq_some_iff.mp hx).1;obtain⟨⟨z,u,v⟩,hrx⟩:∃r,rs[j]? =some r:=⟨_,List.getElem?_eq_getElem (by omega)⟩
   obtain⟨q5,rfl,hq5⟩:=Paired.at2 dr.ru hx hrx;have hq5:H3 q5=some (.tup [.str z,.int u,.int v]):=s3 _ _ hq5;have hm:(z,u,v)∈rs:=List.mem_of_getElem? hrx;have hfz:fzF rs z=v:=vX ro.nd hm;have hhz:hzF rs z=u:=MM ro.nd hm;have hkl1:k1.length=j:=by rw[←List.length_map (f:=fun e:Key×V=>e.1),hk1,List.length_map,List.length_take];omega
   have hkl2:k2.length=j:=by rw[←List.length_map (f:=fun e:Key×V=>e.1),hk2,List.length_map,List.length_take];omega
   walk_at"go";refine⟨q5,_,2,_,rfl,rfl,SqT.of hq5,rfl,?_⟩;walk_at"go";refine⟨q5,_,0,_,rfl,rfl,SqT.of hq5,rfl,?_⟩;refine mH ek1 (by rw[sizeLine_eq];omega) fun H4 B4 e4=> ?_;have s4:=iN s3 n1 B4;have hq54:H4 q5=some (.tup [.str z,.int u,.int v]):=B4 _ _ hq5 fun w=>by rw[w,ek1]at hq5;cases hq5
   have ek24:=B4 _ _ ek2 (Ne.symm hSH);walk_at"go";refine⟨q5,_,1,_,rfl,rfl,SqT.of hq54,rfl,?_⟩;walk_at"go";refine⟨q5,_,0,_,rfl,rfl,SqT.of hq54,rfl,?_⟩;refine mH ek24 (by rw[sizeLine_eq];omega) fun H5 B5 e5=> ?_;have t1:=RoomD.take (fn:=fzF rs) ro.nd hrx hk1 hv1;have t2:=RoomD.take (fn:=hzF rs) ro.nd hrx hk2 hv2;rw[show ((z,u,v):bE).1=z from rfl,hfz]at t1;rw[show ((z,u,v):bE).1=z from rfl,hhz]at t2;exact⟨iN s4 nH B5,⟨_,B5 _ _ e4 hSH,t1⟩,⟨_,e5,t2⟩,_,rfl⟩
  ·rintro _ H3 hq_;walk_at"g1";obtain⟨s3,⟨k1,ek1,hk1,hv1⟩,⟨k2,ek2,hk2,hv2⟩,x1,rfl⟩:=hq_;walk_at"g2";rw[hul,List.take_length]at hk1 hv1 hk2 hv2;have rS:RoomD H3 pS rs (fzF rs):=⟨k1,ek1,hk1,hv1⟩
   have rH:RoomD H3 pH rs (hzF rs):=⟨k2,ek2,hk2,hv2⟩
   walk_at"go";rename_i pP H4 n4 S4 eP;have s4:=s3.trans S4;have dr4:=dM dr s4;have nP:H pP=none:=none_of s3 n4;have f0:=dr.f0;have f1:=dr.f1;have fl:=dr.fl;have fl7:=dr.fl7;have ndd:((ss.map aZ).map (·.1)).Nodup:=by rw[gR];exact dr.nd
   have hps:∀r∈rs,cC (cD rs) r.1=fzF rs r.1:=fun r hr=>by rw[vX ro.nd hr,AX ro.nd (fun x hx=>(ro.ok x hx).1) hr]
   have hrz:∀e∈c5 rs,∃r∈rs,e=(r.1,r.2.1):=fun e he=>by
    unfold c5 at he;obtain⟨r,hr,rfl⟩:=List.mem_map.mp he;exact⟨r,hr,rfl⟩
   have hst0:=aDV dr;refine⟨p3,_,0,_,rfl,rfl,SqT.of dr4.e3,rfl,?_⟩;walk_at"go";refine⟨p3,_,1,_,rfl,rfl,SqT.of dr4.e3,rfl,?_⟩;walk_at"go";have hSP:pS≠pP:=fun z=>by rw[←z,ek1]at n4;cases n4
   have hHP:pH≠pP:=fun z=>by rw[←z,ek2]at n4;cases n4
   let Pv2:Nat->St->Hp->Prop:=fun i σ' H'=>Same H H'/\(∃vs' rows,H' pP=some (.lst vs')/\bS H' vs' rows/\rows.length<=7 * i/\Stp (c5 rs) (cD rs) (ss.map aZ) f l i rows/\RoomD H' pS rs (fun z=>cC (cD rs) z+bY (ss.map aZ) f z (f+(i:Int)) rows))/\RoomD H' pH rs (hzF rs)/\∃x1 x2 x3 x4 x5 x6 x7 x8 x9,σ'=[some (.int c),some (.ref p1),some (.ref p2),some (.ref p3),some (.ref pS),some (.ref pH),x1,some (.ref pP),x2,x3,x4,x5,x6,x7,x8,x9];refine iU Pv2 ⟨s4,⟨[],[],eP,.nil,by show 0<=_;omega,hst0,(rS.same S4).fn fun r hr=>by
    show fzF rs r.1=cC (cD rs) r.1+0;rw[hps r hr,Int.add_zero]⟩,rH.same S4,_,_,_,_,_,_,_,_,_,rfl⟩ ?_ ?_
   ·rintro i _ H5 hi hq_;walk_at"g1";obtain⟨s5,⟨vs5,rows,eP5,hp5,hl5,st5,rS5⟩,rH5,x1,x2,x3,x4,x5,x6,x7,x8,x9,rfl⟩:=hq_;walk_at"g2";walk_at"g1";obtain⟨kS,eS5,hkS,hvS⟩:=id rS5;walk_at"g2";have dr5:=dM dr s5;walk_at"go";refine L9 (.inl eS5) fun pY H6 n6 S6 eY=> ?_;have s6:=s5.trans S6;have dr6:=dM dr s6;have e26:=dr6.e2;have nY:H pY=none:=none_of s5 n6;have hSY:pS≠pY:=fun z=>by rw[←z,eS5]at n6;cases n6
    have hPY:pP≠pY:=fun z=>by rw[←z,eP5]at n6;cases n6
    have hHY:pH≠pY:=fun z=>by
     obtain⟨kh,eh,_⟩:=rH5;rw[←z,eh]at n6;cases n6
    have rY:RoomD H6 pY rs (fun z=>cC (cD rs) z+bY (ss.map aZ) f z (f+(i:Int)) rows):=⟨kS,eY,hkS,hvS⟩
    have hu0':f<=f+(i:Int):=by omega
    have hul':f+(i:Int)<l:=by omega
    have in0:InT (c5 rs) (cD rs) rs ss f l (f+(i:Int)) (fun z=>cC (cD rs) z+bY (ss.map aZ) f z (f+(i:Int)) rows) 0 [] (fun z=>cC (cD rs) z+bY (ss.map aZ) f z (f+(i:Int)) rows) (fun z=>cC (cD rs) z+bY (ss.map aZ) f z (f+(i:Int)) rows) :=
     InT.nil (GN dr _) (fun r hr=>st5.nn (r.1,r.2.1) (List.mem_map.mpr ⟨r,hr,rfl⟩)) (fun r hr=>st5.full (r.1,r.2.1) (List.mem_map.mpr ⟨r,hr,rfl⟩) i (Nat.le_refl _))
    generalize hth:(fun z=>cC (cD rs) z+bY (ss.map aZ) f z (f+(i:Int)) rows)=th at in0 rY rS5;have rS6:=rS5.same S6;walk_at"go";let Pv3:Nat->St->Hp->Prop:=fun kk σ' H'=>Same H H'/\RoomD H' pH rs (hzF rs)/\(∃vs' S g1 g2,H' pP=some (.lst vs')/\bS H' vs' (rows++S)/\InT (c5 rs) (cD rs) rs ss f l (f+(i:Int)) th kk S g1 g2/\RoomD H' pS rs g2/\RoomD H' pY rs g1)/\∃x4 x5 x6 x7 x8 x9,σ'=[some (.int c),some (.ref p1),some (.ref p2),some (.ref p3),some (.ref pS),some (.ref pH),x1,some (.ref pP),some (.int (f+(i:Int))),some (.ref pY),x4,x5,x6,x7,x8,x9];refine iU Pv3 ⟨s6,rH5.same S6,⟨vs5,[],th,th,S6 _ _ eP5,by rw[List.append_nil];exact d7 hp5 S6,in0,rS6,rY⟩,_,_,_,_,_,_,rfl⟩ ?_ ?_
    ·rintro kk _ H7 hkk hq_;walk_at"g1";obtain⟨s7,rH7,⟨vs7,S,g1,g2,eP7,hp7,in7,rS7,rY7⟩,y4,y5,y6,y7,y8,y9,rfl⟩:=hq_;walk_at"g2";have dr7:=dM dr s7;have e27:=dr7.e2;obtain⟨s',hs'⟩:∃s,ss[kk]? =some s:=⟨_,List.getElem?_eq_getElem (by omega)⟩
     obtain⟨v',hv'⟩:∃v,ws[kk]? =some v:=⟨_,List.getElem?_eq_getElem (by omega)⟩
     obtain⟨qs,rfl,hqs⟩:=Paired.at2 dr7.sw hv' hs';have hsm:=List.mem_of_getElem? hs';have so:=dr.so _ hsm;walk_at"g1";obtain⟨dn,dst,de,dkd,dwd,dfi,dmo⟩:=s';walk_at"g2";have hqs:H7 qs=some (.tup [.str dn,.str dst,de,.int dkd,.int dwd,.int dfi,.int dmo]):=hqs;have hst:dst∈rs.map (·.1):=so.sin;have hei:de= .non∨∃z,de= .str z/\z∈rs.map (·.1):=so.ein;walk_at"go";rw[Int.zero_add];refine yR (SqL.of e27) hv' ?_;walk_at"go";refine aBa hqs fun q8 H8 n8 S8 e8=> ?_;walk_at"go";refine(rY7.same S8).get hst ?_;walk_at"go";refine yR (SqL.of (S8 _ _ e27)) hv' ?_;walk_at"go";refine⟨qs,_,f+(i:Int),rfl,⟨qs,rfl,S8 _ _ hqs⟩,by omega,so.m1,so.m0,fun H9 S9=> ?_⟩;have s79:Same H7 H9:=S8.trans S9;have s9:=s7.trans s79;have hg0:0<=g1 dst:=by
      obtain⟨r,hr,e⟩:=List.mem_map.mp hst;rw[←e];exact in7.n1 r hr
     have hle:=F8 so.w0 (f+(i:Int));have rS9:=rS7.same s79;have rY9:=rY7.same s79;have rH9:=rH7.same s79;walk_at"gs";refine kW (fun σ' G=>H9=G/\∃m2,0<=m2/\m2<=g1 dst/\m2<=gN ⟨dn,dst,de,dkd,dwd,dfi,dmo⟩ (f+(i:Int))/\(∀r∈rs,de= .str r.1->m2<=r.2.1 - g2 r.1)/\σ'=[some (.int c),some (.ref p1),some (.ref p2),some (.ref p3),some (.ref pS),some (.ref pH),x1,some (.ref pP),some (.int (f+(i:Int))),some (.ref pY),some (.int (kk:Int)),some (.str dn),some (.str dst),some de,some (.int m2),y9]) ?_ ?_
     rotate_left
     ·intro nx' hnx;rcases hei with rfl|⟨z,rfl,hz⟩
      ·walk_at"go";exact hnx _ _ ⟨rfl,_,by omega,by omega,by omega,(fun _ _ z=>nomatch z),rfl⟩
      ·walk_at"go";refine rH9.get hz ?_;walk_at"go";refine rS9.get hz ?_;walk_at"go";obtain⟨r,hr,e⟩:=List.mem_map.mp hz;have hn2:=in7.n2 r hr;have hh:=MM ro.nd hr;rw[e]at hn2 hh;refine hnx _ _ ⟨rfl,_,by omega,by omega,by omega,fun r2 hr2 w=> ?_,rfl⟩;have hw:z=r2.1:=V.str.inj w;have hh2:=MM ro.nd hr2;rw[←hw]at hh2;rw[←hw,←hh2];omega
     rintro _ G hq_;walk_at"g1";obtain⟨hG,m2,hm0,hm1,hm2,hm3,rfl⟩:=hq_;walk_at"g2";subst hG;walk_at"go";rename_i na ha0 ha1 hb0 hb1 qA HA nA SA eA nb hc0 hc1 nu hnu;have hj0:0<=nu:=by omega
     have hj1:nu<=m2:=by omega
     have hj3:∀r∈rs,de= .str r.1->nu<=r.2.1 - g2 r.1:=fun r hr w=>by have:=hm3 r hr w;omega
     have s7A:=s79.trans SA;have sA:=s9.trans SA;have eP9:=s7A _ _ eP7;refine cA (fun hc=> ?_) (fun hc=> ?_)
     ·have in8:=in7.row dr.nd hu0' hul' hs' (j:=nu) hj0 (by show nu<=g1 dst;omega) (by omega) hj3;have hvl:vs7.length=(rows++S).length:=Paired.length hp7;have hSl:=in7.ln;rw[List.length_append]at hvl;walk_at"go";rename_i qB HB nB SB eB;have hqB:qB≠pP:=fun z=>by rw[z,eP9]at nB;cases nB
      refine iA (SB _ _ eP9) (by rw[sizeLine_eq];omega) fun HC BC eC=> ?_;have sC:=iN (sA.trans SB) nP BC;have hpB:bS HB vs7 (rows++S):=d7 hp7 (s7A.trans SB);have hpC:bS HC (vs7++[.ref qB]) (rows++(S++[(f+(i:Int),dn,nu)])):=by
       rw[←List.append_assoc];exact L2.Paired.snoc (PN hpB (SB _ _ eP9) (fun _ z=>nomatch z) BC) ⟨qB,rfl,BC _ _ eB hqB⟩
      have rSC:=(rS7.same (s7A.trans SB)).but BC hSP;have rHC:=(rH7.same (s7A.trans SB)).but BC hHP;have rYC:=(rY7.same (s7A.trans SB)).but BC (Ne.symm hPY);walk_at"go";refine rYC.get hst ?_;walk_at"go";refine rYC.pt ro.l1 hst fun HD BD rYD=> ?_;have sD:=iN sC nY BD;have hpD:=rYC.pl BD hpC;have eD:=BD _ _ eC hPY;have rSD:=rSC.but BD hSY;have rHD:=rHC.but BD hHY;walk_at"go";refine rSD.get hst ?_;walk_at"go";refine rSD.pt ro.l1 hst fun HE BE rSE=> ?_;have sE:=iN sD n1 BE;have hpE:=rSD.pl BE hpD;have eE:=BE _ _ eD (Ne.symm hSP);have rHE:=rHD.but BE (Ne.symm hSH);have rYE:=rYD.but BE (Ne.symm hSY);have hf1:∀r∈rs,(if r.1=dst then g1 dst - nu else g1 r.1)=g1 r.1 - if dst=r.1 then nu else 0:=fun r _=>by
       by_cases h:dst=r.1
       ·rw[if_pos h,if_pos h.symm,h]
       ·rw[if_neg h,if_neg (Ne.symm h),Int.sub_zero]
      rcases hei with rfl|⟨z,rfl,hz⟩
      ·walk_at"go";refine⟨sE,rHE,⟨_,S++[(f+(i:Int),dn,nu)],_,_,eE,hpE,in8,rSE.fn fun r hr=> ?_,rYE.fn hf1⟩,_,_,_,_,_,_,rfl⟩;show (if r.1=dst then g2 dst - nu else g2 r.1)=g2 r.1 - (if dst=r.1 then nu else 0)+if V.non=V.str r.1 then nu else 0;rw[if_neg (c:=V.non=V.str r.1) (fun z=>nomatch z),Int.add_zero]
       by_cases h:dst=r.1
       ·rw[if_pos h,if_pos h.symm,h]
       ·rw[if_neg h,if_neg (Ne.symm h),Int.sub_zero]
      ·walk_at"go";refine rSE.get hz ?_;walk_at"go";refine rSE.pt ro.l1 hz fun HF BF rSF=> ?_;refine⟨iN sE n1 BF,rHE.but BF (Ne.symm hSH),⟨_,S++[(f+(i:Int),dn,nu)],_,_,BF _ _ eE (Ne.symm hSP),rSE.pl BF hpE,in8,rSF.fn fun r hr=> ?_,(rYE.but BF (Ne.symm hSY)).fn hf1⟩,_,_,_,_,_,_,rfl⟩;show (if r.1=z then (if z=dst then g2 dst - nu else g2 z)+nu else if r.1=dst then g2 dst - nu else g2 r.1)=g2 r.1 - (if dst=r.1 then nu else 0)+if V.str z=V.str r.1 then nu else 0
       by_cases h:dst=r.1
       ·by_cases h2:z=r.1
        ·rw[if_pos h2.symm,if_pos (h2.trans h.symm),if_pos h,if_pos (by rw[h2]),h]
        ·rw[if_neg (Ne.symm h2),if_pos h.symm,if_pos h,if_neg (fun w=>h2 (V.str.inj w)),h,Int.add_zero]
       ·by_cases h2:z=r.1
        ·rw[if_pos h2.symm,if_neg (fun w=>h (w.symm.trans h2)),if_neg h,if_pos (by rw[h2]),h2,Int.sub_zero]
        ·rw[if_neg (Ne.symm h2),if_neg (Ne.symm h),if_neg h,if_neg (fun w=>h2 (V.str.inj w)),Int.add_zero,Int.sub_zero]
     ·walk_at"go";exact⟨sA,rH7.same s7A,⟨vs7,S,g1,g2,eP9,d7 hp7 s7A,in7.skip,rS7.same s7A,rY7.same s7A⟩,_,_,_,_,_,_,rfl⟩
    ·rintro _ H7 hq_;walk_at"g1";obtain⟨s7,rH7,⟨vs7,S,g1,g2,eP7,hp7,in7,rS7,rY7⟩,y4,y5,y6,y7,y8,y9,rfl⟩:=hq_;walk_at"g2";have te:=LC dr.nd st5 hul' (fun z=>(congrFun hth z).symm) in7 in7.n1 in7.n2;refine⟨s7,⟨vs7,rows++S,eP7,hp7,?_,te.1,rS7.fn fun r _=>te.2 r.1⟩,rH7,_,_,_,_,_,_,_,_,_,rfl⟩;have:=in7.ln;rw[List.length_append];omega
   ·rintro _ H5 hq_;walk_at"g1";obtain⟨s5,⟨vs5,rows,eP5,hp5,hl5,st5,rS5⟩,rH5,x1,x2,x3,x4,x5,x6,x7,x8,x9,rfl⟩:=hq_;walk_at"g2";have nf:=st5.noflt ndd (by omega);walk_at"go";refine L8 eP5 hp5 (by omega) fun pR ws' rows' H6 n6 S6 e6 hp6 pm=> ?_;walk_at"go";exact k _ _ _ _ (none_of s5 n6) (s5.trans S6) e6 hp6 (by rw[←pm.length_eq];omega) (nf.perm pm) fun r hr=>⟨(st5.tm r (pm.mem_iff.mpr hr)).1,st5.ge r (pm.mem_iff.mpr hr)⟩
theorem C1 (m:M K mg):Fc P w K mg base "_law_any_plan" 7 ["_law_cell","_law_rooms_here","_law_specs","_law_turns"] (oU):=⟨_,_,m.FE,m.j7.kp,m.FN,DC m⟩
def KJ (H:Hp)(v:V):Prop:=∃p cs cut,v= .ref p/\H p=some (.lst cs)/\Paired (bZ H) cs cut/\cut.length<=32
theorem MK {H H':Hp}{v:V} (h:KJ H v) (s:Same H H'):KJ H' v:=let ⟨p,cs,cut,e,h1,h2,h3⟩:=h;⟨p,cs,cut,e,s _ _ h1,lP h2 s,h3⟩
inductive zU (K:W.Frag)(PL:Addr)(vs:List V)(H:Hp)(Q:VK)(E:XK):Prop
 | mk (a:Addr) (ns:List Int) (_:vs=[.ref a]) (_:SqL K H a (ns.map V.int)) (_:ns.length<=63) (_:H PL=some (.tbl #[])) (_:∀H',Q (.bl true) H'):zU K PL vs H Q E
theorem aCW (m:M K mg){cL PL:Addr}(hcL:m.gA.code= .ref cL)(hCL:W.CodeHd base cL PL)(hBL:base.BuiltinsAt mg PL):FnOk P w K mg base CX0 20 m.SJ m.SH ["_law_script"] (zU K PL):=by
 refine m.aFg.ok sc_law (fun vs H Q E h=> ?_) (fun cdv A outer s H vs Q E hr h=> ?_)
 ·walk_at"g1";obtain⟨a,ns,rfl,hS,hlen,hPL,k⟩:=h;walk_at"g2";rfl
 ·walk_at"g1";obtain⟨a,ns,rfl,hS,hlen,hPL,k⟩:=h;walk_at"g2";have nd:=sc_law.nd;walk_at"hu";have j7:= @C1 P w K mg base m;have cS:= @nF P w K mg base m;have sK:= @OO P w K mg base m;have nU:= @JC P w K mg base m;have nW:=I0 (P:=P) (w:=w) (base:=base) m hcL hCL hBL;have sM:= @OB P w K mg base m;have A5:= @YK P w K mg base m;have xR:= @SW P w K mg base m;have w_dc_House:=m.bL;refine⟨_,(aB (tM (bF nU hr (aA (pv 0) aE)) (i3 rfl (aN (aH (i:=1) nd rfl (by walk_at"oi")) (aN (aH (i:=2) nd rfl (by walk_at"oi")) (aN (aH (i:=3) nd rfl (by walk_at"oi")) cM)))))
   (aB (aP (i:=4) nd rfl (by walk_at"oi") (bF nW hr (aA (pv 1) (aA (pv 2) (aA (pv 3) aE)))))
   (aB (aP (i:=5) nd rfl (by walk_at"oi") (dU (aA (bF cS hr (aA (pv 0) (aA aC aE))) (aA (aI cI (bF cS hr (aA (pv 0) (aA aC aE))) aC) (aA (aI bO (bF cS hr (aA (pv 0) (aA aC aE))) aC) aE)))))
   (aB (d4 (i:=6) nd rfl (by walk_at"oi") (N:=["_law_cell","_law_rooms_here","_law_turns"]) (nl:=1) (ci:=[1,3]) rfl (blk (s.heap.objs.size+1) rfl rfl rfl (by kernel_rfl)) (bH (pv 5)) (fun _ _ _ _=>(aH (i:=0) (show (["_law_cell","_law_rooms_here","_law_turns"]:List Str).Nodup by decide +kernel) rfl (by walk_at"oi"))) (fun _ _ _ _=>fC) (fun _ _ _ _=>(bF sK hr (aA (pv 0) (aA (pv 1) (aA (pv 2) aE))))))
   (aB (cJ PassesOwn.never rfl (bH (DE aA7 (pv 5) GA (GQ aC))) (aH (i:=7) nd rfl (by walk_at"oi")) (aB (aP (i:=8) nd rfl (by walk_at"oi") (bF j7 hr (aA (pv 7) (aA (pv 1) (aA (pv 2) (aA (pv 3) aE))))))
   (aB (bR (aW (aC0 hu0) (bF xR hr (aA (pv 4) (aA (mV QF rfl m.NF F1 (aA (pv 8) aE)) aE))) (dU aE) (aY _)) (aF (aV AW)) bC)
   (aF (cJ PassesOwn.never rfl (kI rfl m.fA (aA (bA cG (pv 3) aC (fun _ _=>rfl)) (aA (aI bO (bA cG (pv 3) aC (fun _ _=>rfl)) aC) aE))) (aH (i:=9) nd rfl (by walk_at"oi")) (aB (aP (i:=10) nd rfl (by walk_at"oi") (bF sM hr (aA (pv 8) (aA (pv 2) (aA (pv 9) aE)))))
   (aF (cJ PassesOwn.never rfl (bH (pv 6)) (aH (i:=11) nd rfl (by walk_at"oi")) (aF (bR (aW lX (pv 10) (bF A5 hr (aA (pv 4) (aA (pv 11) (aA (pv 9) aE)))) (aY _)) (aF (aV AW)) bC))))))))))
   (aF (aV AW))))))),?_⟩
  refine aO (σ:=[some (.ref a),none,none,none,none,none,none,none,none,none,none,none]) rfl ?_;walk_at"cx";walk_at"go";refine K6 hS hlen fun q p1 p2 p3 us ws rs ss f l H1 S1 dr=> ?_;have eq:=dr.eq;walk_at"go";refine YG dr (.inl (S1 _ _ hPL)) fun h H2 T2 hT2 hh=> ?_;have dr2:=FP dr T2;have hS2:=T2.seq (S1.seq hS);have f0:=dr.f0;have f1:=dr.f1;have fl:=dr.fl;have fl7:=dr.fl7;have ro:=dr.ro;have hr4:=ro.l1;have hl7:=dr.l7;have nr:((c5 rs).map (·.1)).Nodup:=by rw[tF];exact ro.nd
  have lr:(c5 rs).length<=20:=by unfold c5;rw[List.length_map];omega
  have ndd:((ss.map aZ).map (·.1)).Nodup:=by rw[gR];exact dr.nd
  have ld:(ss.map aZ).length<=20:=by rw[List.length_map];omega
  have hin:∀d∈ss.map aZ,cK ((c5 rs).map (·.1)) d:=fun d hd=>by
   obtain⟨s,hs,rfl⟩:=List.mem_map.mp hd;rw[tF];exact⟨(dr.so s hs).sin,(dr.so s hs).ein⟩
  walk_at"go";rename_i pl H3 n3 S3 e3;have dr3:=dM dr2 S3;generalize iP ns 0=c0 at *;generalize iP ns 1/3=c1 at *;generalize iP ns 2+5=c2 at *;refine fI (α:=Int) (xs:=[c0,c1,c2]) (vs:=[.int c0,.int c1,.int c2]) (fun v x=>v= .int x) (fun _=>true) (fun _ y H=>KJ H y) (fun _ _ _ _ h s=>MK h s) (by rw[sizeLine_eq];show 3<=_;omega) (rest:=[some (.ref p1),some (.ref p3)]) (by rfl) (SqL.of e3) (.cons rfl (.cons rfl (.cons rfl .nil))) ?_ ?_ ?_
  ·rintro v x H4 rfl hm s4 R hR;exact hR _ (Same.refl _)
  ·rintro v x H4 rfl hm - s4 R hR;have dr4:=dM dr3 s4;walk_at"go";refine aDx dr4.e1 dr4.ru ro dr4.e3 f0 f1 fl fl7 fun pc cs cut H5 n5 S5 ec hcp hcl hci=> ?_;exact hR _ _ ⟨pc,cs,cut,rfl,ec,hcp,hcl⟩ S5
  intro ys H4 s4 hys;have hy4:∀y∈ys,KJ H4 y:=fun y hy=>by
   obtain⟨_,_,h⟩:=rZ (iJ hys) hy;exact h
  walk_at"go";rename_i pC H5 n5 S5 eC pI H6 n6 S6 eI;have hcu:zF [V.int c0,.int c1,.int c2] none (some 2)=[.int c0,.int c1]:=by rfl
  rw[hcu]at eI;have s46:Same H4 H6:=S5.trans S6;have s26:Same H2 H6:=S3.trans (s4.trans s46);let Pv1:Nat->St->Hp->Prop:=fun j σ' H'=>Same H6 H'/\∃x1 x2 x3 x4 x5,σ'=[some (.ref a),some (.ref p1),some (.ref p2),some (.ref p3),some (.ref h),some (.ref pl),some (.ref pC),x1,x2,x3,x4,x5];refine dQ [.int c0,.int c1] Pv1 ⟨Same.refl _,_,_,_,_,_,rfl⟩ (fun j σ' H' _ g=>g.1.seq (SqL.of eI)) ?_ ?_
  ·rintro j x _ H7 hx hq_;walk_at"g1";obtain⟨s7,x1,x2,x3,x4,x5,rfl⟩:=hq_;walk_at"g2";obtain⟨ce,rfl⟩:∃ce,x= .int ce:=by
    have:=List.mem_of_getElem? hx;simp only[List.mem_cons,List.not_mem_nil,or_false]at this;rcases this with rfl|rfl
    ·exact⟨_,rfl⟩
    ·exact⟨_,rfl⟩
   have s27:=s26.trans s7;have dr7:=dM dr2 s27;walk_at"go";refine PK dr7 fun pp vs rows H8 n8 S8 e8 hp8 hl8 nf hge=> ?_;walk_at"go";rename_i pq H9 n9 S9 e9;have s29:=s27.trans (S8.trans S9);refine aE3 (bK hh s29) nr ndd hin f0 fl (by omega) (by omega) lr ld (SqL.of e9) (d7 hp8 S9) (by omega) nf fun pF HA nA SA eA=> ?_;walk_at"go";rename_i pG HB nB SB eB;refine aCs (SqL.of (SB _ _ eA)) (SqL.of eB) ?_;have s2B:=s29.trans (SA.trans SB);have s7B:Same H7 HB:=S8.trans (S9.trans (SA.trans SB));have s8B:Same H8 HB:=S9.trans (SA.trans SB);have drB:=dM dr2 s2B;have hlw:=VZ ndd (fun r hr=>(hge r hr).2) nf;walk_at"go";rw[if_neg (fun z=>nomatch z)];walk_at"go";refine⟨p3,_,0,_,rfl,rfl,SqT.of drB.e3,rfl,?_⟩;walk_at"go";refine⟨p3,_,1,_,rfl,rfl,SqT.of drB.e3,rfl,?_⟩;walk_at"go";let Pv2:Nat->St->Hp->Prop:=fun i σ' H'=>Same HB H'/\∃x3 x4 x5,σ'=[some (.ref a),some (.ref p1),some (.ref p2),some (.ref p3),some (.ref h),some (.ref pl),some (.ref pC),some (.int ce),some (.ref pp),x3,x4,x5];refine iU Pv2 ⟨Same.refl _,_,_,_,rfl⟩ ?_ ?_
   ·rintro i _ HD hi hq_;walk_at"g1";obtain⟨sD,y3,y4,y5,rfl⟩:=hq_;walk_at"g2";have s8D:=s8B.trans sD;have s2D:=s2B.trans sD;have drD:=dM dr2 s2D;walk_at"go";refine aCK (SqL.of (s8D _ _ e8)) (d7 hp8 s8D) (by omega) (SqL.of drD.e2) drD.sw drD.so hl7 fun HE SE=> ?_;have hBE:=sD.trans SE;have s6E:Same H6 HE:=s7.trans (s7B.trans hBE);have s4E:Same H4 HE:=s46.trans s6E;have eCE:HE pC=some (.lst ys):=(S6.trans s6E) _ _ eC;walk_at"go";let Pv3:Nat->St->Hp->Prop:=fun j σ' H'=>Same HE H'/\∃x5,σ'=[some (.ref a),some (.ref p1),some (.ref p2),some (.ref p3),some (.ref h),some (.ref pl),some (.ref pC),some (.int ce),some (.ref pp),some (.int (f+(i:Int))),some (.int (sR ss rows (f+(i:Int)))),x5];refine dQ ys Pv3 ⟨Same.refl _,_,rfl⟩ (fun j σ' H' _ g=>g.1.seq (SqL.of eCE)) ?_ ?_
    ·rintro j2 y _ HF hy ⟨sF,z5,rfl⟩;walk_at"g1";obtain⟨pc,cs,cut,rfl,ec,hcp,hcl⟩:=MK (hy4 y (List.mem_of_getElem? hy)) (s4E.trans sF);walk_at"g2";have hle:sR ss rows (f+(i:Int))<=qT (c5 rs) (cD rs) (ss.map aZ) f l cut (f+(i:Int)):=by
      rw[EI dr.nd i rows fun r hr=>(hge r hr).1];exact YF hlw nr hin i (by omega)
     walk_at"go";refine aAz (cs:=cs) (cut:=cut) (bK hh (s2D.trans (SE.trans sF))) nr ndd lr ld hin f0 (by omega) (by omega) (SqL.of ec) hcp (by omega) fun HG SG=> ?_;walk_at"go";exact⟨sF.trans SG,_,rfl⟩
    ·rintro _ HF ⟨sF,z5,rfl⟩;exact⟨hBE.trans sF,_,_,_,rfl⟩
   ·rintro _ HD hq_;walk_at"g1";obtain⟨sD,y3,y4,y5,rfl⟩:=hq_;walk_at"g2";exact⟨s7.trans (s7B.trans sD),_,_,_,_,_,rfl⟩
  ·rintro _ H7 hq_;walk_at"g1";obtain⟨s7,x1,x2,x3,x4,x5,rfl⟩:=hq_;walk_at"g2";walk_at"go";exact k _
end
theorem all_mk {l:W.OpenLaw}{w:World}{K:W.Frag}{h:Heap}{mg:Str->Option Value}{fa:Addr} (X:K.In h) (G:h.Ns mainGlobals mg) (hfa:mg "law" =some (.ref fa))
  {zaa zab zac zad zae zaf zag zah zai zaj zak zal zam zan zao zap zaq zar zas zat zau zav zaw zax zay zaz zba zbb zbc zbd zbe zbf zbg zbh zbi zbj zbk zbl zbm zbn zbo zbp zbq zbr zbs zbt zbu zbv zbw zbx zby zbz zca zcb zcc zcd zce zcf zcg zch zci zcj zck zcl zcm zcn zco zcp zcq zcr zcs zct zcu zcv zcw zcx zcy zcz zda zdb zdc zdd zde zdf zdg zdh zdi zdj zdk zdl:Addr}
  {zdm zdn:Option Addr}{zdo:Array (Option Value)}{zdp zdq zdr zds zdt zdu:Value}
  {zdv zdw:Option Addr}{zdx:Array (Option Value)}{zdy zdz zea zeb zec zed:Value}
  {zee zef:Option Addr}{zeg:Array (Option Value)}{zeh zei zej zek zel zem:Value}
  {zen zeo:Option Addr}{zep:Array (Option Value)}{zeq zer zes zet zeu zev:Value}
  {zew zex:Option Addr}{zey:Array (Option Value)}{zez zfa zfb zfc zfd zfe:Value}
  {zff zfg:Option Addr}{zfh:Array (Option Value)}{zfi zfj zfk zfl zfm zfn:Value}
  {zfo zfp:Option Addr}{zfq:Array (Option Value)}{zfr zfs zft zfu zfv zfw:Value}
  {zfx zfy:Option Addr}{zfz:Array (Option Value)}{zga zgb zgc zgd zge zgf:Value}
  {zgg zgh:Option Addr}{zgi:Array (Option Value)}{zgj zgk zgl zgm zgn zgo:Value}
  {zgp zgq:Option Addr}{zgr:Array (Option Value)}{zgs zgt zgu zgv zgw zgx:Value}
  {zgy zgz:Option Addr}{zha:Array (Option Value)}{zhb zhc zhd zhe zhf zhg:Value}
  {zhh zhi:Option Addr}{zhj:Array (Option Value)}{zhk zhl zhm zhn zho zhp:Value}
  {zhq zhr:Option Addr}{zhs:Array (Option Value)}{zht zhu zhv zhw zhx zhy:Value}
  {zhz zia:Option Addr}{zib:Array (Option Value)}{zic zid zie zif zig zih:Value}
  {zii zij:Option Addr}{zik:Array (Option Value)}{zil zim zin zio ziq zir:Value}
  {zis zit:Option Addr}{ziu:Array (Option Value)}{ziv ziw zix ziy ziz zja:Value}
  {zjb zjc:Option Addr}{zjd:Array (Option Value)}{zje zjf zjg zjh zji zjj:Value}
  {zjk zjl:Option Addr}{zjm:Array (Option Value)}{zjn zjo zjp zjq zjr zjs:Value}
  {zjt zju:Option Addr}{zjv:Array (Option Value)}{zjw zjx zjy zjz zka zkb:Value}
  {zkc zkd:Option Addr}{zke:Array (Option Value)}{zkf zkg zkh zki zkj zkk:Value}
  {zkl zkm:Option Addr}{zkn:Array (Option Value)}{zko zkp zkq zkr zks zkt:Value}
  {zku zkv:Option Addr}{zkw:Array (Option Value)}{zkx zky zkz zla zlb zlc:Value}
  {zld zle:Option Addr}{zlf:Array (Option Value)}{zlg zlh zli zlj zlk zll:Value}
  {zlm zln:Option Addr}{zlo:Array (Option Value)}{zlp zlq zlr zls zlt zlu:Value}
  {zlv zlw:Option Addr}{zlx:Array (Option Value)}{zly zlz zma zmb zmc zmd:Value}
  {zme zmf:Option Addr}{zmg:Array (Option Value)}{zmh zmi zmj zmk zml zmm:Value}
  {zmn zmo:Option Addr}{zmp:Array (Option Value)}{zmq zmr zms zmt zmu zmv:Value}
  {zmw zmx:Option Addr}{zmy:Array (Option Value)}{zmz zna znb znc znd zne:Value}
  {znf zng:Option Addr}{znh:Array (Option Value)}{zni znj znk znl znm znn:Value}
  {zno znp:Option Addr}{znq:Array (Option Value)}{znr zns znt znu znv znw:Value}
  {znx zny:Option Addr}{znz:Array (Option Value)}{zoa zob zoc zod zoe zof:Value}
  {zog zoh:Option Addr}{zoi:Array (Option Value)}{zoj zok zol zom zon zoo:Value}
  {zop zoq:Option Addr}{zor:Array (Option Value)}{zos zot zou zov zow zox:Value}
  {zoy zoz:Option Addr}{zpa:Array (Option Value)}{zpb zpc zpd zpe zpf zpg:Value}
  {zph zpi:Option Addr}{zpj:Array (Option Value)}{zpk zpl zpm zpn zpo zpp:Value}
  {zpq zpr:Option Addr}{zps:Array (Option Value)}{zpt zpu zpv zpw zpx zpy:Value}
  {zpz zqa:Option Addr}{zqb:Array (Option Value)}{zqc zqd zqe zqf zqg zqh:Value}
  {zqi zqj:Option Addr}{zqk:Array (Option Value)}{zql zqm zqn zqo zqp zqq:Value}
  {zqr zqs:Option Addr}{zqt:Array (Option Value)}{zqu zqv zqw zqx zqy zqz:Value}
  {zra zrb:Option Addr}{zrc:Array (Option Value)}{zrd zre zrf zrg zrh zri:Value}
  {zrj zrk:Option Addr}{zrl:Array (Option Value)}{zrm zrn zro zrp zrq zrr:Value}
  {zrs zrt:Option Addr}{zru:Array (Option Value)}{zrv zrw zrx zry zrz zsa:Value}
  {zsb zsc:Option Addr}{zsd:Array (Option Value)}{zse zsf zsg zsh zsi zsj:Value}
  {zsk zsl:Option Addr}{zsm:Array (Option Value)}{zsn zso zsp zsq zsr zss:Value}
  {zst zsu:Option Addr}{zsv:Array (Option Value)}{zsw zsx zsy zsz zta ztb:Value}
  {ztc ztd:Option Addr}{zte:Array (Option Value)}{ztf ztg zth zti ztj ztk:Value}
  {ztl:Addr}
  {ztm:Tok}
  {ztn:Value}{zto:Option Addr}{ztp:Nat}{ztq:Array (Option Value)}
  {ztr zts:Option Addr}{ztt:Array (Option Value)}{ztu ztv ztw ztx zty ztz:Value}
  {zua zub:Option Addr}{zuc:Array (Option Value)}{zud zue zuf zug zuh zui:Value}
  {zuj zuk:Option Addr}{zul:Array (Option Value)}{zum zun zuo zup zuq zur:Value}
  {zus zut:Option Addr}{zuu:Array (Option Value)}{zuv zuw zux zuy zuz zva:Value}
  {zvb zvc:Option Addr}{zvd:Array (Option Value)}{zve zvf zvg zvh zvi zvj:Value}
  {zvk zvl:Option Addr}{zvm:Array (Option Value)}{zvn zvo zvp zvq zvr zvs:Value}
  {zvt zvu:Option Addr}{zvv:Array (Option Value)}{zvw zvx zvy zvz zwa zwb:Value}
  {zwc zwd:Option Addr}{zwe:Array (Option Value)}{zwf zwg zwh zwi zwj zwk:Value}
  {zwl zwm:Option Addr}{zwn:Array (Option Value)}{zwo zwp zwq zwr zws zwt:Value}
  {zwu zwv:Option Addr}{zww:Array (Option Value)}{zwx zwy zwz zxa zxb zxc:Value}
  {zxd:Addr}
  {zxe:Tok}
  {zxf:Value}{zxg:Option Addr}{zxh:Nat}{zxi:Array (Option Value)}
  {zxj zxk:Option Addr}{zxl:Array (Option Value)}{zxm zxn zxo zxp zxq zxr:Value}
  {zxs zxt:Option Addr}{zxu:Array (Option Value)}{zxv zxw zxx zxy zxz zya:Value}
  {zyb zyc:Option Addr}{zyd:Array (Option Value)}{zye zyf zyg zyh zyi zyj:Value}
  {zyk zyl:Option Addr}{zym:Array (Option Value)}{zyn zyo zyp zyq zyr zys:Value}
  {zyt zyu:Option Addr}{zyv:Array (Option Value)}{zyw zyx zyy zyz zza zzb:Value}
  {zzc zzd:Option Addr}{zze:Array (Option Value)}{zzf zzg zzh zzi zzj zzk:Value}
  {zzl zzm:Option Addr}{zzn:Array (Option Value)}{zzo zzp zzq zzr zzs zzt:Value}
  {zzu zzv:Option Addr}{zzw:Array (Option Value)}{zzx zzy zzz zbaa zbab zbac:Value}
  {zbad zbae:Option Addr}{zbaf:Array (Option Value)}{zbag zbah zbai zbaj zbak zbal:Value}
  {zbam:Addr}
  {zban:Tok}
  {zbao:Value}{zbap:Option Addr}{zbaq:Nat}{zbar:Array (Option Value)}
  {zbas zbat:Option Addr}{zbau:Array (Option Value)}{zbav zbaw zbax zbay zbaz zbba:Value}
  {zbbb zbbc:Option Addr}{zbbd:Array (Option Value)}{zbbe zbbf zbbg zbbh zbbi zbbj:Value}
  {zbbk zbbl:Option Addr}{zbbm:Array (Option Value)}{zbbn zbbo zbbp zbbq zbbr zbbs:Value}
  {zbbt zbbu:Option Addr}{zbbv:Array (Option Value)}{zbbw zbbx zbby zbbz zbca zbcb:Value}
  {zbcc zbcd:Option Addr}{zbce:Array (Option Value)}{zbcf zbcg zbch zbci zbcj zbck:Value}
  {zbcl zbcm:Option Addr}{zbcn:Array (Option Value)}{zbco zbcp zbcq zbcr zbcs zbct:Value}
  {zbcu zbcv:Option Addr}{zbcw:Array (Option Value)}{zbcx zbcy zbcz zbda zbdb zbdc:Value}
  {zbdd zbde:Option Addr}{zbdf:Array (Option Value)}{zbdg zbdh zbdi zbdj zbdk zbdl:Value}
  {zbdm zbdn:Option Addr}{zbdo:Array (Option Value)}{zbdp zbdq zbdr zbds zbdt zbdu:Value}
  {zbdv zbdw:Option Addr}{zbdx:Array (Option Value)}{zbdy zbdz zbea zbeb zbec zbed:Value}
  {zbee zbef:Option Addr}{zbeg:Array (Option Value)}{zbeh zbei zbej zbek zbel zbem:Value}
  {zben:Tok}
  (zbeo:W.nsIn K mainGlobals "_wall" =some (some (.ref zaa)))
  (zbep:W.nsIn K mainGlobals "found_beyond" =some (some (.ref zab)))
  (zbeq:W.nsIn K mainGlobals "let_in" =some (some (.ref zac)))
  (zber:W.nsIn K mainGlobals "going_beyond" =some (some (.ref zad)))
  (zbes:W.nsIn K mainGlobals "let_out" =some (some (.ref zae)))
  (zbet:W.nsIn K mainGlobals "bound" =some (some (.ref zaf)))
  (zbeu:W.nsIn K mainGlobals "is_whole" =some (some (.ref zag)))
  (zbev:W.nsIn K mainGlobals "is_name" =some (some (.ref zah)))
  (zbew:W.nsIn K mainGlobals "need_name" =some (some (.ref zai)))
  (zbex:W.nsIn K mainGlobals "need_whole" =some (some (.ref zaj)))
  (zbey:W.nsIn K mainGlobals "need_turns" =some (some (.ref zak)))
  (zbez:W.nsIn K mainGlobals "need_each_once" =some (some (.ref zal)))
  (zbfa:W.nsIn K mainGlobals "rooms_spoken_of" =some (some (.ref zam)))
  (zbfb:W.nsIn K mainGlobals "need_rooms" =some (some (.ref zan)))
  (zbfc:W.nsIn K mainGlobals "added_people" =some (some (.ref zao)))
  (zbfd:W.nsIn K mainGlobals "need_space" =some (some (.ref zap)))
  (zbfe:W.nsIn K mainGlobals "added_up" =some (some (.ref zaq)))
  (zbff:W.nsIn K mainGlobals "rows_that_count" =some (some (.ref zar)))
  (zbfg:W.nsIn K mainGlobals "leaving" =some (some (.ref zas)))
  (zbfh:W.nsIn K mainGlobals "coming" =some (some (.ref zat)))
  (zbfi:W.nsIn K mainGlobals "there" =some (some (.ref zau)))
  (zbfj:W.nsIn K mainGlobals "most_through" =some (some (.ref zav)))
  (zbfk:W.nsIn K mainGlobals "door_faults" =some (some (.ref zaw)))
  (zbfl:W.nsIn K mainGlobals "leave_faults" =some (some (.ref zax)))
  (zbfm:W.nsIn K mainGlobals "full_faults" =some (some (.ref zay)))
  (zbfn:W.nsIn K mainGlobals "faults" =some (some (.ref zaz)))
  (zbfo:W.nsIn K mainGlobals "_law_cell_at" =some (some (.ref zba)))
  (zbfp:W.nsIn K mainGlobals "_law_mixed" =some (some (.ref zbb)))
  (zbfq:W.nsIn K mainGlobals "_law_name" =some (some (.ref zbc)))
  (zbfr:W.nsIn K mainGlobals "_law_rooms" =some (some (.ref zbd)))
  (zbfs:W.nsIn K mainGlobals "_law_spec" =some (some (.ref zbe)))
  (zbft:W.nsIn K mainGlobals "_law_lets" =some (some (.ref zbf)))
  (zbfu:W.nsIn K mainGlobals "_law_door" =some (some (.ref zbg)))
  (zbfv:W.nsIn K mainGlobals "_law_digits" =some (some (.ref zbh)))
  (zbfw:W.nsIn K mainGlobals "_law_rooms_told" =some (some (.ref zbi)))
  (zbfx:W.nsIn K mainGlobals "_law_spec_told" =some (some (.ref zbj)))
  (zbfy:W.nsIn K mainGlobals "_law_drawn_told" =some (some (.ref zbk)))
  (zbfz:W.nsIn K mainGlobals "_law_drawn" =some (some (.ref zbl)))
  (zbga:W.nsIn K mainGlobals "_law_house" =some (some (.ref zbm)))
  (zbgb:W.nsIn K mainGlobals "_law_told_turn" =some (some (.ref zbn)))
  (zbgc:W.nsIn K mainGlobals "_law_told_plan" =some (some (.ref zbo)))
  (zbgd:W.nsIn K mainGlobals "_law_any_plan" =some (some (.ref zbp)))
  (zbge:W.nsIn K mainGlobals "_law_out" =some (some (.ref zbq)))
  (zbgf:W.nsIn K mainGlobals "_law_cut" =some (some (.ref zbr)))
  (zbgg:W.nsIn K mainGlobals "law" =some (some (.ref zbs)))
  (zbgh:W.nsIn K mainGlobals "Door" =some (some (.ref zbt)))
  (zbgi:W.nsIn K mainGlobals "Since" =some (some (.ref zbu)))
  (zbgj:W.nsIn K mainGlobals "Until" =some (some (.ref zbv)))
  (zbgk:W.nsIn K mainGlobals "Beat" =some (some (.ref zbw)))
  (zbgl:W.nsIn K mainGlobals "Marked" =some (some (.ref zbx)))
  (zbgm:W.nsIn K mainGlobals "Told" =some (some (.ref zby)))
  (zbgn:W.nsIn K mainGlobals "House" =some (some (.ref zbz)))
  (zbgo:W.nsIn K mainGlobals "OutError" =some (some (.ref zca)))
  (zbgp:W.nsIn K mainGlobals "NoDoor" =some (some (.ref zcb)))
  (zbgq:W.nsIn K mainGlobals "NoHouse" =some (some (.ref zcc)))
  (zbgr:W.nsIn K mainGlobals "NoTurn" =some (some (.ref zcd)))
  (zbgs:W.nsIn K mainGlobals "Twice" =some (some (.ref zce)))
  (zbgt:W.nsIn K mainGlobals "NoRoom" =some (some (.ref zcf)))
  (zbgu:W.nsIn K mainGlobals "Unknown" =some (some (.ref zcg)))
  (zbgv:W.findIn K (.ref zbt) "__init__" =some (some (.ref zch)))
  (zbgw:W.findIn K (.ref zbt) "lets" =some (some (.ref zci)))
  (zbgx:W.findIn K (.ref zbt) "is_exit" =some (some (.ref zcj)))
  (zbgy:W.findIn K (.ref zbt) "words" =some (some (.ref zck)))
  (zbgz:W.findIn K (.ref zbu) "__init__" =some (some (.ref zcl)))
  (zbha:W.findIn K (.ref zbu) "lets" =some (some (.ref zcm)))
  (zbhb:W.findIn K (.ref zbu) "words" =some (some (.ref zcn)))
  (zbhc:W.findIn K (.ref zbv) "__init__" =some (some (.ref zco)))
  (zbhd:W.findIn K (.ref zbv) "lets" =some (some (.ref zcp)))
  (zbhe:W.findIn K (.ref zbv) "words" =some (some (.ref zcq)))
  (zbhf:W.findIn K (.ref zbw) "__init__" =some (some (.ref zcr)))
  (zbhg:W.findIn K (.ref zbw) "lets" =some (some (.ref zcs)))
  (zbhh:W.findIn K (.ref zbw) "words" =some (some (.ref zct)))
  (zbhi:W.findIn K (.ref zbx) "__init__" =some (some (.ref zcu)))
  (zbhj:W.findIn K (.ref zbx) "lets" =some (some (.ref zcv)))
  (zbhk:W.findIn K (.ref zbx) "words" =some (some (.ref zcw)))
  (zbhl:W.findIn K (.ref zby) "__init__" =some (some (.ref zcx)))
  (zbhm:W.findIn K (.ref zby) "lets" =some (some (.ref zcy)))
  (zbhn:W.findIn K (.ref zby) "words" =some (some (.ref zcz)))
  (zbho:W.findIn K (.ref zbz) "__init__" =some (some (.ref zda)))
  (zbhp:W.findIn K (.ref zbz) "rooms" =some (some (.ref zdb)))
  (zbhq:W.findIn K (.ref zbz) "doors" =some (some (.ref zdc)))
  (zbhr:W.findIn K (.ref zbz) "need_room" =some (some (.ref zdd)))
  (zbhs:W.findIn K (.ref zbz) "holds" =some (some (.ref zde)))
  (zbht:W.findIn K (.ref zbz) "found" =some (some (.ref zdf)))
  (zbhu:W.findIn K (.ref zbz) "into" =some (some (.ref zdg)))
  (zbhv:W.findIn K (.ref zbz) "from_room" =some (some (.ref zdh)))
  (zbhw:W.findIn K (.ref zbz) "door" =some (some (.ref zdi)))
  (zbhx:W.findIn K (.ref zbz) "lets" =some (some (.ref zdj)))
  (zbhy:W.findIn K (.ref zbz) "total" =some (some (.ref zdk)))
  (zbhz:W.findIn K (.ref zbz) "pairs" =some (some (.ref zdl)))
  (zbia:K.lookup zaa=some ⟨zdp,zdm,.func (W.fnOf "_wall" "_wall" (aK sQ) (aJ sQ) (aD sQ) .none zdq zdr zds zdn zdt zdu),zdo⟩)
  (zbib:W.codeIn K zdt "_wall" =true)
  (zbic:W.keepIn K (.ref zaa)=true)
  (zbid:K.lookup zab=some ⟨zdy,zdv,.func (W.fnOf "found_beyond" "found_beyond" (aK eW) (aJ eW) (aD eW) .none zdz zea zeb zdw zec zed),zdx⟩)
  (zbie:W.codeIn K zec "found_beyond" =true)
  (zbif:W.keepIn K (.ref zab)=true)
  (zbig:K.lookup zac=some ⟨zeh,zee,.func (W.fnOf "let_in" "let_in" (aK mF) (aJ mF) (aD mF) .none zei zej zek zef zel zem),zeg⟩)
  (zbih:W.codeIn K zel "let_in" =true)
  (zbii:W.keepIn K (.ref zac)=true)
  (zbij:K.lookup zad=some ⟨zeq,zen,.func (W.fnOf "going_beyond" "going_beyond" (aK eR) (aJ eR) (aD eR) .none zer zes zet zeo zeu zev),zep⟩)
  (zbik:W.codeIn K zeu "going_beyond" =true)
  (zbil:W.keepIn K (.ref zad)=true)
  (zbim:K.lookup zae=some ⟨zez,zew,.func (W.fnOf "let_out" "let_out" (aK kP) (aJ kP) (aD kP) .none zfa zfb zfc zex zfd zfe),zey⟩)
  (zbin:W.codeIn K zfd "let_out" =true)
  (zbio:W.keepIn K (.ref zae)=true)
  (zbip:K.lookup zaf=some ⟨zfi,zff,.func (W.fnOf "bound" "bound" (aK oM) (aJ oM) (aD oM) .none zfj zfk zfl zfg zfm zfn),zfh⟩)
  (zbiq:W.codeIn K zfm "bound" =true)
  (zbir:W.keepIn K (.ref zaf)=true)
  (zbis:K.lookup zag=some ⟨zfr,zfo,.func (W.fnOf "is_whole" "is_whole" (aK jD) (aJ jD) (aD jD) .none zfs zft zfu zfp zfv zfw),zfq⟩)
  (zbit:W.codeIn K zfv "is_whole" =true)
  (zbiu:W.keepIn K (.ref zag)=true)
  (zbiv:K.lookup zah=some ⟨zga,zfx,.func (W.fnOf "is_name" "is_name" (aK kT) (aJ kT) (aD kT) .none zgb zgc zgd zfy zge zgf),zfz⟩)
  (zbiw:W.codeIn K zge "is_name" =true)
  (zbix:W.keepIn K (.ref zah)=true)
  (zbiy:K.lookup zai=some ⟨zgj,zgg,.func (W.fnOf "need_name" "need_name" (aK iL) (aJ iL) (aD iL) .none zgk zgl zgm zgh zgn zgo),zgi⟩)
  (zbiz:W.codeIn K zgn "need_name" =true)
  (zbja:W.keepIn K (.ref zai)=true)
  (zbjb:K.lookup zaj=some ⟨zgs,zgp,.func (W.fnOf "need_whole" "need_whole" (aK gJ) (aJ gJ) (aD gJ) .none zgt zgu zgv zgq zgw zgx),zgr⟩)
  (zbjc:W.codeIn K zgw "need_whole" =true)
  (zbjd:W.keepIn K (.ref zaj)=true)
  (zbje:K.lookup zak=some ⟨zhb,zgy,.func (W.fnOf "need_turns" "need_turns" (aK g9) (aJ g9) (aD g9) .none zhc zhd zhe zgz zhf zhg),zha⟩)
  (zbjf:W.codeIn K zhf "need_turns" =true)
  (zbjg:W.keepIn K (.ref zak)=true)
  (zbjh:K.lookup zal=some ⟨zhk,zhh,.func (W.fnOf "need_each_once" "need_each_once" (aK dO) (aJ dO) (aD dO) .none zhl zhm zhn zhi zho zhp),zhj⟩)
  (zbji:W.codeIn K zho "need_each_once" =true)
  (zbjj:W.keepIn K (.ref zal)=true)
  (zbjk:K.lookup zam=some ⟨zht,zhq,.func (W.fnOf "rooms_spoken_of" "rooms_spoken_of" (aK dC) (aJ dC) (aD dC) .none zhu zhv zhw zhr zhx zhy),zhs⟩)
  (zbjl:W.codeIn K zhx "rooms_spoken_of" =true)
  (zbjm:W.keepIn K (.ref zam)=true)
  (zbjn:K.lookup zan=some ⟨zic,zhz,.func (W.fnOf "need_rooms" "need_rooms" (aK gU) (aJ gU) (aD gU) .none zid zie zif zia zig zih),zib⟩)
  (zbjo:W.codeIn K zig "need_rooms" =true)
  (zbjp:W.keepIn K (.ref zan)=true)
  (zbjq:K.lookup zao=some ⟨zil,zii,.func (W.fnOf "added_people" "added_people" (aK eT) (aJ eT) (aD eT) .none zim zin zio zij ziq zir),zik⟩)
  (zbjr:W.codeIn K ziq "added_people" =true)
  (zbjs:W.keepIn K (.ref zao)=true)
  (zbjt:K.lookup zap=some ⟨ziv,zis,.func (W.fnOf "need_space" "need_space" (aK gO) (aJ gO) (aD gO) .none ziw zix ziy zit ziz zja),ziu⟩)
  (zbju:W.codeIn K ziz "need_space" =true)
  (zbjv:W.keepIn K (.ref zap)=true)
  (zbjw:K.lookup zaq=some ⟨zje,zjb,.func (W.fnOf "added_up" "added_up" (aK jE) (aJ jE) (aD jE) .none zjf zjg zjh zjc zji zjj),zjd⟩)
  (zbjx:W.codeIn K zji "added_up" =true)
  (zbjy:W.keepIn K (.ref zaq)=true)
  (zbjz:K.lookup zar=some ⟨zjn,zjk,.func (W.fnOf "rows_that_count" "rows_that_count" (aK c8) (aJ c8) (aD c8) .none zjo zjp zjq zjl zjr zjs),zjm⟩)
  (zbka:W.codeIn K zjr "rows_that_count" =true)
  (zbkb:W.keepIn K (.ref zar)=true)
  (zbkc:K.lookup zas=some ⟨zjw,zjt,.func (W.fnOf "leaving" "leaving" (aK kF) (aJ kF) (aD kF) .none zjx zjy zjz zju zka zkb),zjv⟩)
  (zbkd:W.codeIn K zka "leaving" =true)
  (zbke:W.keepIn K (.ref zas)=true)
  (zbkf:K.lookup zat=some ⟨zkf,zkc,.func (W.fnOf "coming" "coming" (aK mD) (aJ mD) (aD mD) .none zkg zkh zki zkd zkj zkk),zke⟩)
  (zbkg:W.codeIn K zkj "coming" =true)
  (zbkh:W.keepIn K (.ref zat)=true)
  (zbki:K.lookup zau=some ⟨zko,zkl,.func (W.fnOf "there" "there" (aK oX) (aJ oX) (aD oX) .none zkp zkq zkr zkm zks zkt),zkn⟩)
  (zbkj:W.codeIn K zks "there" =true)
  (zbkk:W.keepIn K (.ref zau)=true)
  (zbkl:K.lookup zav=some ⟨zkx,zku,.func (W.fnOf "most_through" "most_through" (aK eQ) (aJ eQ) (aD eQ) .none zky zkz zla zkv zlb zlc),zkw⟩)
  (zbkm:W.codeIn K zlb "most_through" =true)
  (zbkn:W.keepIn K (.ref zav)=true)
  (zbko:K.lookup zaw=some ⟨zlg,zld,.func (W.fnOf "door_faults" "door_faults" (aK fT) (aJ fT) (aD fT) .none zlh zli zlj zle zlk zll),zlf⟩)
  (zbkp:W.codeIn K zlk "door_faults" =true)
  (zbkq:W.keepIn K (.ref zaw)=true)
  (zbkr:K.lookup zax=some ⟨zlp,zlm,.func (W.fnOf "leave_faults" "leave_faults" (aK eO) (aJ eO) (aD eO) .none zlq zlr zls zln zlt zlu),zlo⟩)
  (zbks:W.codeIn K zlt "leave_faults" =true)
  (zbkt:W.keepIn K (.ref zax)=true)
  (zbku:K.lookup zay=some ⟨zly,zlv,.func (W.fnOf "full_faults" "full_faults" (aK fW) (aJ fW) (aD fW) .none zlz zma zmb zlw zmc zmd),zlx⟩)
  (zbkv:W.codeIn K zmc "full_faults" =true)
  (zbkw:W.keepIn K (.ref zay)=true)
  (zbkx:K.lookup zaz=some ⟨zmh,zme,.func (W.fnOf "faults" "faults" (aK l8) (aJ l8) (aD l8) .none zmi zmj zmk zmf zml zmm),zmg⟩)
  (zbky:W.codeIn K zml "faults" =true)
  (zbkz:W.keepIn K (.ref zaz)=true)
  (zbla:K.lookup zba=some ⟨zmq,zmn,.func (W.fnOf "_law_cell_at" "_law_cell_at" (aK eX) (aJ eX) (aD eX) .none zmr zms zmt zmo zmu zmv),zmp⟩)
  (zblb:W.codeIn K zmu "_law_cell_at" =true)
  (zblc:W.keepIn K (.ref zba)=true)
  (zbld:K.lookup zbb=some ⟨zmz,zmw,.func (W.fnOf "_law_mixed" "_law_mixed" (aK gK) (aJ gK) (aD gK) .none zna znb znc zmx znd zne),zmy⟩)
  (zble:W.codeIn K znd "_law_mixed" =true)
  (zblf:W.keepIn K (.ref zbb)=true)
  (zblg:K.lookup zbc=some ⟨zni,znf,.func (W.fnOf "_law_name" "_law_name" (aK iK) (aJ iK) (aD iK) .none znj znk znl zng znm znn),znh⟩)
  (zblh:W.codeIn K znm "_law_name" =true)
  (zbli:W.keepIn K (.ref zbc)=true)
  (zblj:K.lookup zbd=some ⟨znr,zno,.func (W.fnOf "_law_rooms" "_law_rooms" (aK gW) (aJ gW) (aD gW) .none zns znt znu znp znv znw),znq⟩)
  (zblk:W.codeIn K znv "_law_rooms" =true)
  (zbll:W.keepIn K (.ref zbd)=true)
  (zblm:K.lookup zbe=some ⟨zoa,znx,.func (W.fnOf "_law_spec" "_law_spec" (aK iE) (aJ iE) (aD iE) .none zob zoc zod zny zoe zof),znz⟩)
  (zbln:W.codeIn K zoe "_law_spec" =true)
  (zblo:W.keepIn K (.ref zbe)=true)
  (zblp:K.lookup zbf=some ⟨zoj,zog,.func (W.fnOf "_law_lets" "_law_lets" (aK iM) (aJ iM) (aD iM) .none zok zol zom zoh zon zoo),zoi⟩)
  (zblq:W.codeIn K zon "_law_lets" =true)
  (zblr:W.keepIn K (.ref zbf)=true)
  (zbls:K.lookup zbg=some ⟨zos,zop,.func (W.fnOf "_law_door" "_law_door" (aK dZ) (aJ dZ) (aD dZ) .none zot zou zov zoq zow zox),zor⟩)
  (zblt:W.codeIn K zow "_law_door" =true)
  (zblu:W.keepIn K (.ref zbg)=true)
  (zblv:K.lookup zbh=some ⟨zpb,zoy,.func (W.fnOf "_law_digits" "_law_digits" (aK fN) (aJ fN) (aD fN) .none zpc zpd zpe zoz zpf zpg),zpa⟩)
  (zblw:W.codeIn K zpf "_law_digits" =true)
  (zblx:W.keepIn K (.ref zbh)=true)
  (zbly:K.lookup zbi=some ⟨zpk,zph,.func (W.fnOf "_law_rooms_told" "_law_rooms_told" (aK dB) (aJ dB) (aD dB) .none zpl zpm zpn zpi zpo zpp),zpj⟩)
  (zblz:W.codeIn K zpo "_law_rooms_told" =true)
  (zbma:W.keepIn K (.ref zbi)=true)
  (zbmb:K.lookup zbj=some ⟨zpt,zpq,.func (W.fnOf "_law_spec_told" "_law_spec_told" (aK dH) (aJ dH) (aD dH) .none zpu zpv zpw zpr zpx zpy),zps⟩)
  (zbmc:W.codeIn K zpx "_law_spec_told" =true)
  (zbmd:W.keepIn K (.ref zbj)=true)
  (zbme:K.lookup zbk=some ⟨zqc,zpz,.func (W.fnOf "_law_drawn_told" "_law_drawn_told" (aK dA) (aJ dA) (aD dA) .none zqd zqe zqf zqa zqg zqh),zqb⟩)
  (zbmf:W.codeIn K zqg "_law_drawn_told" =true)
  (zbmg:W.keepIn K (.ref zbk)=true)
  (zbmh:K.lookup zbl=some ⟨zql,zqi,.func (W.fnOf "_law_drawn" "_law_drawn" (aK gX) (aJ gX) (aD gX) .none zqm zqn zqo zqj zqp zqq),zqk⟩)
  (zbmi:W.codeIn K zqp "_law_drawn" =true)
  (zbmj:W.keepIn K (.ref zbl)=true)
  (zbmk:K.lookup zbm=some ⟨zqu,zqr,.func (W.fnOf "_law_house" "_law_house" (aK g6) (aJ g6) (aD g6) .none zqv zqw zqx zqs zqy zqz),zqt⟩)
  (zbml:W.codeIn K zqy "_law_house" =true)
  (zbmm:W.keepIn K (.ref zbm)=true)
  (zbmn:K.lookup zbn=some ⟨zrd,zra,.func (W.fnOf "_law_told_turn" "_law_told_turn" (aK dL) (aJ dL) (aD dL) .none zre zrf zrg zrb zrh zri),zrc⟩)
  (zbmo:W.codeIn K zrh "_law_told_turn" =true)
  (zbmp:W.keepIn K (.ref zbn)=true)
  (zbmq:K.lookup zbo=some ⟨zrm,zrj,.func (W.fnOf "_law_told_plan" "_law_told_plan" (aK dI) (aJ dI) (aD dI) .none zrn zro zrp zrk zrq zrr),zrl⟩)
  (zbmr:W.codeIn K zrq "_law_told_plan" =true)
  (zbms:W.keepIn K (.ref zbo)=true)
  (zbmt:K.lookup zbp=some ⟨zrv,zrs,.func (W.fnOf "_law_any_plan" "_law_any_plan" (aK d6) (aJ d6) (aD d6) .none zrw zrx zry zrt zrz zsa),zru⟩)
  (zbmu:W.codeIn K zrz "_law_any_plan" =true)
  (zbmv:W.keepIn K (.ref zbp)=true)
  (zbmw:K.lookup zbq=some ⟨zse,zsb,.func (W.fnOf "_law_out" "_law_out" (aK jG) (aJ jG) (aD jG) .none zsf zsg zsh zsc zsi zsj),zsd⟩)
  (zbmx:W.codeIn K zsi "_law_out" =true)
  (zbmy:W.keepIn K (.ref zbq)=true)
  (zbmz:K.lookup zbr=some ⟨zsn,zsk,.func (W.fnOf "_law_cut" "_law_cut" (aK jC) (aJ jC) (aD jC) .none zso zsp zsq zsl zsr zss),zsm⟩)
  (zbna:W.codeIn K zsr "_law_cut" =true)
  (zbnb:W.keepIn K (.ref zbr)=true)
  (zbnc:K.lookup zbs=some ⟨zsw,zst,.func (W.fnOf "law" "law" (aK qF) (aJ qF) (aD qF) .none zsx zsy zsz zsu zta ztb),zsv⟩)
  (zbnd:W.codeIn K zta "law" =true)
  (zbne:W.keepIn K (.ref zbs)=true)
  (zbnf:K.lookup zch=some ⟨ztf,ztc,.func (W.fnOf "__init__" "Door.__init__" (aK cW) (aJ cW) (aD cW) (.ref ztl) ztg zth zti ztd ztj ztk),zte⟩)
  (zbng:W.codeIn K ztj "Door.__init__" =true)
  (zbnh:W.keepIn K (.ref zch)=true)
  (zbni:K.lookup ztl=some ⟨ztn,zto,.seq #[.none,.int 1 ztm] ztp,ztq⟩)
  (zbnj:K.lookup zci=some ⟨ztu,ztr,.func (W.fnOf "lets" "Door.lets" (aK iH) (aJ iH) (aD iH) .none ztv ztw ztx zts zty ztz),ztt⟩)
  (zbnk:W.codeIn K zty "Door.lets" =true)
  (zbnl:W.keepIn K (.ref zci)=true)
  (zbnm:K.lookup zcj=some ⟨zud,zua,.func (W.fnOf "is_exit" "Door.is_exit" (aK eU) (aJ eU) (aD eU) .none zue zuf zug zub zuh zui),zuc⟩)
  (zbnn:W.codeIn K zuh "Door.is_exit" =true)
  (zbno:W.keepIn K (.ref zcj)=true)
  (zbnp:K.lookup zck=some ⟨zum,zuj,.func (W.fnOf "words" "Door.words" (aK iZ) (aJ iZ) (aD iZ) .none zun zuo zup zuk zuq zur),zul⟩)
  (zbnq:W.codeIn K zuq "Door.words" =true)
  (zbnr:W.keepIn K (.ref zck)=true)
  (zbns:K.lookup zcl=some ⟨zuv,zus,.func (W.fnOf "__init__" "Since.__init__" (aK dJ) (aJ dJ) (aD dJ) .none zuw zux zuy zut zuz zva),zuu⟩)
  (zbnt:W.codeIn K zuz "Since.__init__" =true)
  (zbnu:W.keepIn K (.ref zcl)=true)
  (zbnv:K.lookup zcm=some ⟨zve,zvb,.func (W.fnOf "lets" "Since.lets" (aK g7) (aJ g7) (aD g7) .none zvf zvg zvh zvc zvi zvj),zvd⟩)
  (zbnw:W.codeIn K zvi "Since.lets" =true)
  (zbnx:W.keepIn K (.ref zcm)=true)
  (zbny:K.lookup zcn=some ⟨zvn,zvk,.func (W.fnOf "words" "Since.words" (aK hZ) (aJ hZ) (aD hZ) .none zvo zvp zvq zvl zvr zvs),zvm⟩)
  (zbnz:W.codeIn K zvr "Since.words" =true)
  (zboa:W.keepIn K (.ref zcn)=true)
  (zbob:K.lookup zco=some ⟨zvw,zvt,.func (W.fnOf "__init__" "Until.__init__" (aK dN) (aJ dN) (aD dN) .none zvx zvy zvz zvu zwa zwb),zvv⟩)
  (zboc:W.codeIn K zwa "Until.__init__" =true)
  (zbod:W.keepIn K (.ref zco)=true)
  (zboe:K.lookup zcp=some ⟨zwf,zwc,.func (W.fnOf "lets" "Until.lets" (aK gM) (aJ gM) (aD gM) .none zwg zwh zwi zwd zwj zwk),zwe⟩)
  (zbof:W.codeIn K zwj "Until.lets" =true)
  (zbog:W.keepIn K (.ref zcp)=true)
  (zboh:K.lookup zcq=some ⟨zwo,zwl,.func (W.fnOf "words" "Until.words" (aK hU) (aJ hU) (aD hU) .none zwp zwq zwr zwm zws zwt),zwn⟩)
  (zboi:W.codeIn K zws "Until.words" =true)
  (zboj:W.keepIn K (.ref zcq)=true)
  (zbok:K.lookup zcr=some ⟨zwx,zwu,.func (W.fnOf "__init__" "Beat.__init__" (aK dD) (aJ dD) (aD dD) (.ref zxd) zwy zwz zxa zwv zxb zxc),zww⟩)
  (zbol:W.codeIn K zxb "Beat.__init__" =true)
  (zbom:W.keepIn K (.ref zcr)=true)
  (zbon:K.lookup zxd=some ⟨zxf,zxg,.seq #[.int 0 zxe] zxh,zxi⟩)
  (zboo:K.lookup zcs=some ⟨zxm,zxj,.func (W.fnOf "lets" "Beat.lets" (aK iF) (aJ iF) (aD iF) .none zxn zxo zxp zxk zxq zxr),zxl⟩)
  (zbop:W.codeIn K zxq "Beat.lets" =true)
  (zboq:W.keepIn K (.ref zcs)=true)
  (zbor:K.lookup zct=some ⟨zxv,zxs,.func (W.fnOf "words" "Beat.words" (aK iV) (aJ iV) (aD iV) .none zxw zxx zxy zxt zxz zya),zxu⟩)
  (zbos:W.codeIn K zxz "Beat.words" =true)
  (zbot:W.keepIn K (.ref zct)=true)
  (zbou:K.lookup zcu=some ⟨zye,zyb,.func (W.fnOf "__init__" "Marked.__init__" (aK c7) (aJ c7) (aD c7) .none zyf zyg zyh zyc zyi zyj),zyd⟩)
  (zbov:W.codeIn K zyi "Marked.__init__" =true)
  (zbow:W.keepIn K (.ref zcu)=true)
  (zbox:K.lookup zcv=some ⟨zyn,zyk,.func (W.fnOf "lets" "Marked.lets" (aK fO) (aJ fO) (aD fO) .none zyo zyp zyq zyl zyr zys),zym⟩)
  (zboy:W.codeIn K zyr "Marked.lets" =true)
  (zboz:W.keepIn K (.ref zcv)=true)
  (zbpa:K.lookup zcw=some ⟨zyw,zyt,.func (W.fnOf "words" "Marked.words" (aK gB) (aJ gB) (aD gB) .none zyx zyy zyz zyu zza zzb),zyv⟩)
  (zbpb:W.codeIn K zza "Marked.words" =true)
  (zbpc:W.keepIn K (.ref zcw)=true)
  (zbpd:K.lookup zcx=some ⟨zzf,zzc,.func (W.fnOf "__init__" "Told.__init__" (aK d3) (aJ d3) (aD d3) .none zzg zzh zzi zzd zzj zzk),zze⟩)
  (zbpe:W.codeIn K zzj "Told.__init__" =true)
  (zbpf:W.keepIn K (.ref zcx)=true)
  (zbpg:K.lookup zcy=some ⟨zzo,zzl,.func (W.fnOf "lets" "Told.lets" (aK iG) (aJ iG) (aD iG) .none zzp zzq zzr zzm zzs zzt),zzn⟩)
  (zbph:W.codeIn K zzs "Told.lets" =true)
  (zbpi:W.keepIn K (.ref zcy)=true)
  (zbpj:K.lookup zcz=some ⟨zzx,zzu,.func (W.fnOf "words" "Told.words" (aK iT) (aJ iT) (aD iT) .none zzy zzz zbaa zzv zbab zbac),zzw⟩)
  (zbpk:W.codeIn K zbab "Told.words" =true)
  (zbpl:W.keepIn K (.ref zcz)=true)
  (zbpm:K.lookup zda=some ⟨zbag,zbad,.func (W.fnOf "__init__" "House.__init__" (aK cY) (aJ cY) (aD cY) (.ref zbam) zbah zbai zbaj zbae zbak zbal),zbaf⟩)
  (zbpn:W.codeIn K zbak "House.__init__" =true)
  (zbpo:W.keepIn K (.ref zda)=true)
  (zbpp:K.lookup zbam=some ⟨zbao,zbap,.seq #[.int 0 zban] zbaq,zbar⟩)
  (zbpq:K.lookup zdb=some ⟨zbav,zbas,.func (W.fnOf "rooms" "House.rooms" (aK fV) (aJ fV) (aD fV) .none zbaw zbax zbay zbat zbaz zbba),zbau⟩)
  (zbpr:W.codeIn K zbaz "House.rooms" =true)
  (zbps:W.keepIn K (.ref zdb)=true)
  (zbpt:K.lookup zdc=some ⟨zbbe,zbbb,.func (W.fnOf "doors" "House.doors" (aK fX) (aJ fX) (aD fX) .none zbbf zbbg zbbh zbbc zbbi zbbj),zbbd⟩)
  (zbpu:W.codeIn K zbbi "House.doors" =true)
  (zbpv:W.keepIn K (.ref zdc)=true)
  (zbpw:K.lookup zdd=some ⟨zbbn,zbbk,.func (W.fnOf "need_room" "House.need_room" (aK c9) (aJ c9) (aD c9) .none zbbo zbbp zbbq zbbl zbbr zbbs),zbbm⟩)
  (zbpx:W.codeIn K zbbr "House.need_room" =true)
  (zbpy:W.keepIn K (.ref zdd)=true)
  (zbpz:K.lookup zde=some ⟨zbbw,zbbt,.func (W.fnOf "holds" "House.holds" (aK fR) (aJ fR) (aD fR) .none zbbx zbby zbbz zbbu zbca zbcb),zbbv⟩)
  (zbqa:W.codeIn K zbca "House.holds" =true)
  (zbqb:W.keepIn K (.ref zde)=true)
  (zbqc:K.lookup zdf=some ⟨zbcf,zbcc,.func (W.fnOf "found" "House.found" (aK fQ) (aJ fQ) (aD fQ) .none zbcg zbch zbci zbcd zbcj zbck),zbce⟩)
  (zbqd:W.codeIn K zbcj "House.found" =true)
  (zbqe:W.keepIn K (.ref zdf)=true)
  (zbqf:K.lookup zdg=some ⟨zbco,zbcl,.func (W.fnOf "into" "House.into" (aK gT) (aJ gT) (aD gT) .none zbcp zbcq zbcr zbcm zbcs zbct),zbcn⟩)
  (zbqg:W.codeIn K zbcs "House.into" =true)
  (zbqh:W.keepIn K (.ref zdg)=true)
  (zbqi:K.lookup zdh=some ⟨zbcx,zbcu,.func (W.fnOf "from_room" "House.from_room" (aK d8) (aJ d8) (aD d8) .none zbcy zbcz zbda zbcv zbdb zbdc),zbcw⟩)
  (zbqj:W.codeIn K zbdb "House.from_room" =true)
  (zbqk:W.keepIn K (.ref zdh)=true)
  (zbql:K.lookup zdi=some ⟨zbdg,zbdd,.func (W.fnOf "door" "House.door" (aK gZ) (aJ gZ) (aD gZ) .none zbdh zbdi zbdj zbde zbdk zbdl),zbdf⟩)
  (zbqm:W.codeIn K zbdk "House.door" =true)
  (zbqn:W.keepIn K (.ref zdi)=true)
  (zbqo:K.lookup zdj=some ⟨zbdp,zbdm,.func (W.fnOf "lets" "House.lets" (aK g8) (aJ g8) (aD g8) .none zbdq zbdr zbds zbdn zbdt zbdu),zbdo⟩)
  (zbqp:W.codeIn K zbdt "House.lets" =true)
  (zbqq:W.keepIn K (.ref zdj)=true)
  (zbqr:K.lookup zdk=some ⟨zbdy,zbdv,.func (W.fnOf "total" "House.total" (aK h9) (aJ h9) (aD h9) .none zbdz zbea zbeb zbdw zbec zbed),zbdx⟩)
  (zbqs:W.codeIn K zbec "House.total" =true)
  (zbqt:W.keepIn K (.ref zdk)=true)
  (zbqu:K.lookup zdl=some ⟨zbeh,zbee,.func (W.fnOf "pairs" "House.pairs" (aK fU) (aJ fU) (aD fU) .none zbei zbej zbek zbef zbel zbem),zbeg⟩)
  (zbqv:W.codeIn K zbel "House.pairs" =true)
  (zbqw:W.keepIn K (.ref zdl)=true)
  (zbqx:W.plainGet K zbt Str.empty=true)
  (zbqy:W.hasDictIn K zbt=true)
  (zbqz:W.plainOver K zbt=true)
  (zbra:W.findIn K (.ref zbt) "__setattr__" =some (some (.builtin "object.__setattr__")))
  (zbrb:W.makesIn K zbt=true)
  (zbrc:W.keepIn K (.ref zbt)=true)
  (zbrd:W.findIn K (.ref zbt) "__class__" =some (some (.builtin "object.__class__")))
  (zbre:W.mroIn K zbt (.type "object")=some true)
  (zbrf:W.findIn K (.ref zbt) "name" =some none)
  (zbrg:W.findIn K (.ref zbt) "start" =some none)
  (zbrh:W.findIn K (.ref zbt) "end" =some none)
  (zbri:W.findIn K (.ref zbt) "wide" =some none)
  (zbrj:W.findIn K (.ref zbt) "since" =some none)
  (zbrk:W.findIn K (.ref zbt) "until" =some none)
  (zbrl:W.findIn K (.ref zbt) "every" =some none)
  (zbrm:W.findIn K (.ref zbt) "bits" =some none)
  (zbrn:W.findIn K (.ref zbt) "letting" =some none)
  (zbro:W.findIn K (.ref zbt) "first" =some none)
  (zbrp:W.findIn K (.ref zbt) "last" =some none)
  (zbrq:W.findIn K (.ref zbt) "sizes" =some none)
  (zbrr:W.findIn K (.ref zbt) "people" =some none)
  (zbrs:W.findIn K (.ref zbt) "named_doors" =some none)
  (zbrt:W.findIn K (.ref zbt) "__init__" =some (some (.ref zch)))
  (zbru:W.isFn K (.ref zch)=true)
  (zbrv:W.findIn K (.ref zbt) "lets" =some (some (.ref zci)))
  (zbrw:W.isFn K (.ref zci)=true)
  (zbrx:W.findIn K (.ref zbt) "is_exit" =some (some (.ref zcj)))
  (zbry:W.isFn K (.ref zcj)=true)
  (zbrz:W.findIn K (.ref zbt) "words" =some (some (.ref zck)))
  (zbsa:W.isFn K (.ref zck)=true)
  (zbsb:W.plainGet K zbu Str.empty=true)
  (zbsc:W.hasDictIn K zbu=true)
  (zbsd:W.plainOver K zbu=true)
  (zbse:W.findIn K (.ref zbu) "__setattr__" =some (some (.builtin "object.__setattr__")))
  (zbsf:W.makesIn K zbu=true)
  (zbsg:W.keepIn K (.ref zbu)=true)
  (zbsh:W.findIn K (.ref zbu) "__class__" =some (some (.builtin "object.__class__")))
  (zbsi:W.mroIn K zbu (.type "object")=some true)
  (zbsj:W.findIn K (.ref zbu) "name" =some none)
  (zbsk:W.findIn K (.ref zbu) "start" =some none)
  (zbsl:W.findIn K (.ref zbu) "end" =some none)
  (zbsm:W.findIn K (.ref zbu) "wide" =some none)
  (zbsn:W.findIn K (.ref zbu) "since" =some none)
  (zbso:W.findIn K (.ref zbu) "until" =some none)
  (zbsp:W.findIn K (.ref zbu) "every" =some none)
  (zbsq:W.findIn K (.ref zbu) "bits" =some none)
  (zbsr:W.findIn K (.ref zbu) "letting" =some none)
  (zbss:W.findIn K (.ref zbu) "first" =some none)
  (zbst:W.findIn K (.ref zbu) "last" =some none)
  (zbsu:W.findIn K (.ref zbu) "sizes" =some none)
  (zbsv:W.findIn K (.ref zbu) "people" =some none)
  (zbsw:W.findIn K (.ref zbu) "named_doors" =some none)
  (zbsx:W.findIn K (.ref zbu) "__init__" =some (some (.ref zcl)))
  (zbsy:W.isFn K (.ref zcl)=true)
  (zbsz:W.findIn K (.ref zbu) "lets" =some (some (.ref zcm)))
  (zbta:W.isFn K (.ref zcm)=true)
  (zbtb:W.findIn K (.ref zbu) "words" =some (some (.ref zcn)))
  (zbtc:W.isFn K (.ref zcn)=true)
  (zbtd:W.findIn K (.ref zbu) "is_exit" =some (some (.ref zcj)))
  (zbte:W.isFn K (.ref zcj)=true)
  (zbtf:W.plainGet K zbv Str.empty=true)
  (zbtg:W.hasDictIn K zbv=true)
  (zbth:W.plainOver K zbv=true)
  (zbti:W.findIn K (.ref zbv) "__setattr__" =some (some (.builtin "object.__setattr__")))
  (zbtj:W.makesIn K zbv=true)
  (zbtk:W.keepIn K (.ref zbv)=true)
  (zbtl:W.findIn K (.ref zbv) "__class__" =some (some (.builtin "object.__class__")))
  (zbtm:W.mroIn K zbv (.type "object")=some true)
  (zbtn:W.findIn K (.ref zbv) "name" =some none)
  (zbto:W.findIn K (.ref zbv) "start" =some none)
  (zbtp:W.findIn K (.ref zbv) "end" =some none)
  (zbtq:W.findIn K (.ref zbv) "wide" =some none)
  (zbtr:W.findIn K (.ref zbv) "since" =some none)
  (zbts:W.findIn K (.ref zbv) "until" =some none)
  (zbtt:W.findIn K (.ref zbv) "every" =some none)
  (zbtu:W.findIn K (.ref zbv) "bits" =some none)
  (zbtv:W.findIn K (.ref zbv) "letting" =some none)
  (zbtw:W.findIn K (.ref zbv) "first" =some none)
  (zbtx:W.findIn K (.ref zbv) "last" =some none)
  (zbty:W.findIn K (.ref zbv) "sizes" =some none)
  (zbtz:W.findIn K (.ref zbv) "people" =some none)
  (zbua:W.findIn K (.ref zbv) "named_doors" =some none)
  (zbub:W.findIn K (.ref zbv) "__init__" =some (some (.ref zco)))
  (zbuc:W.isFn K (.ref zco)=true)
  (zbud:W.findIn K (.ref zbv) "lets" =some (some (.ref zcp)))
  (zbue:W.isFn K (.ref zcp)=true)
  (zbuf:W.findIn K (.ref zbv) "words" =some (some (.ref zcq)))
  (zbug:W.isFn K (.ref zcq)=true)
  (zbuh:W.findIn K (.ref zbv) "is_exit" =some (some (.ref zcj)))
  (zbui:W.isFn K (.ref zcj)=true)
  (zbuj:W.plainGet K zbw Str.empty=true)
  (zbuk:W.hasDictIn K zbw=true)
  (zbul:W.plainOver K zbw=true)
  (zbum:W.findIn K (.ref zbw) "__setattr__" =some (some (.builtin "object.__setattr__")))
  (zbun:W.makesIn K zbw=true)
  (zbuo:W.keepIn K (.ref zbw)=true)
  (zbup:W.findIn K (.ref zbw) "__class__" =some (some (.builtin "object.__class__")))
  (zbuq:W.mroIn K zbw (.type "object")=some true)
  (zbur:W.findIn K (.ref zbw) "name" =some none)
  (zbus:W.findIn K (.ref zbw) "start" =some none)
  (zbut:W.findIn K (.ref zbw) "end" =some none)
  (zbuu:W.findIn K (.ref zbw) "wide" =some none)
  (zbuv:W.findIn K (.ref zbw) "since" =some none)
  (zbuw:W.findIn K (.ref zbw) "until" =some none)
  (zbux:W.findIn K (.ref zbw) "every" =some none)
  (zbuy:W.findIn K (.ref zbw) "bits" =some none)
  (zbuz:W.findIn K (.ref zbw) "letting" =some none)
  (zbva:W.findIn K (.ref zbw) "first" =some none)
  (zbvb:W.findIn K (.ref zbw) "last" =some none)
  (zbvc:W.findIn K (.ref zbw) "sizes" =some none)
  (zbvd:W.findIn K (.ref zbw) "people" =some none)
  (zbve:W.findIn K (.ref zbw) "named_doors" =some none)
  (zbvf:W.findIn K (.ref zbw) "__init__" =some (some (.ref zcr)))
  (zbvg:W.isFn K (.ref zcr)=true)
  (zbvh:W.findIn K (.ref zbw) "lets" =some (some (.ref zcs)))
  (zbvi:W.isFn K (.ref zcs)=true)
  (zbvj:W.findIn K (.ref zbw) "words" =some (some (.ref zct)))
  (zbvk:W.isFn K (.ref zct)=true)
  (zbvl:W.findIn K (.ref zbw) "is_exit" =some (some (.ref zcj)))
  (zbvm:W.isFn K (.ref zcj)=true)
  (zbvn:W.plainGet K zbx Str.empty=true)
  (zbvo:W.hasDictIn K zbx=true)
  (zbvp:W.plainOver K zbx=true)
  (zbvq:W.findIn K (.ref zbx) "__setattr__" =some (some (.builtin "object.__setattr__")))
  (zbvr:W.makesIn K zbx=true)
  (zbvs:W.keepIn K (.ref zbx)=true)
  (zbvt:W.findIn K (.ref zbx) "__class__" =some (some (.builtin "object.__class__")))
  (zbvu:W.mroIn K zbx (.type "object")=some true)
  (zbvv:W.findIn K (.ref zbx) "name" =some none)
  (zbvw:W.findIn K (.ref zbx) "start" =some none)
  (zbvx:W.findIn K (.ref zbx) "end" =some none)
  (zbvy:W.findIn K (.ref zbx) "wide" =some none)
  (zbvz:W.findIn K (.ref zbx) "since" =some none)
  (zbwa:W.findIn K (.ref zbx) "until" =some none)
  (zbwb:W.findIn K (.ref zbx) "every" =some none)
  (zbwc:W.findIn K (.ref zbx) "bits" =some none)
  (zbwd:W.findIn K (.ref zbx) "letting" =some none)
  (zbwe:W.findIn K (.ref zbx) "first" =some none)
  (zbwf:W.findIn K (.ref zbx) "last" =some none)
  (zbwg:W.findIn K (.ref zbx) "sizes" =some none)
  (zbwh:W.findIn K (.ref zbx) "people" =some none)
  (zbwi:W.findIn K (.ref zbx) "named_doors" =some none)
  (zbwj:W.findIn K (.ref zbx) "__init__" =some (some (.ref zcu)))
  (zbwk:W.isFn K (.ref zcu)=true)
  (zbwl:W.findIn K (.ref zbx) "lets" =some (some (.ref zcv)))
  (zbwm:W.isFn K (.ref zcv)=true)
  (zbwn:W.findIn K (.ref zbx) "words" =some (some (.ref zcw)))
  (zbwo:W.isFn K (.ref zcw)=true)
  (zbwp:W.findIn K (.ref zbx) "is_exit" =some (some (.ref zcj)))
  (zbwq:W.isFn K (.ref zcj)=true)
  (zbwr:W.plainGet K zby Str.empty=true)
  (zbws:W.hasDictIn K zby=true)
  (zbwt:W.plainOver K zby=true)
  (zbwu:W.findIn K (.ref zby) "__setattr__" =some (some (.builtin "object.__setattr__")))
  (zbwv:W.makesIn K zby=true)
  (zbww:W.keepIn K (.ref zby)=true)
  (zbwx:W.findIn K (.ref zby) "__class__" =some (some (.builtin "object.__class__")))
  (zbwy:W.mroIn K zby (.type "object")=some true)
  (zbwz:W.findIn K (.ref zby) "name" =some none)
  (zbxa:W.findIn K (.ref zby) "start" =some none)
  (zbxb:W.findIn K (.ref zby) "end" =some none)
  (zbxc:W.findIn K (.ref zby) "wide" =some none)
  (zbxd:W.findIn K (.ref zby) "since" =some none)
  (zbxe:W.findIn K (.ref zby) "until" =some none)
  (zbxf:W.findIn K (.ref zby) "every" =some none)
  (zbxg:W.findIn K (.ref zby) "bits" =some none)
  (zbxh:W.findIn K (.ref zby) "letting" =some none)
  (zbxi:W.findIn K (.ref zby) "first" =some none)
  (zbxj:W.findIn K (.ref zby) "last" =some none)
  (zbxk:W.findIn K (.ref zby) "sizes" =some none)
  (zbxl:W.findIn K (.ref zby) "people" =some none)
  (zbxm:W.findIn K (.ref zby) "named_doors" =some none)
  (zbxn:W.findIn K (.ref zby) "__init__" =some (some (.ref zcx)))
  (zbxo:W.isFn K (.ref zcx)=true)
  (zbxp:W.findIn K (.ref zby) "lets" =some (some (.ref zcy)))
  (zbxq:W.isFn K (.ref zcy)=true)
  (zbxr:W.findIn K (.ref zby) "words" =some (some (.ref zcz)))
  (zbxs:W.isFn K (.ref zcz)=true)
  (zbxt:W.findIn K (.ref zby) "is_exit" =some (some (.ref zcj)))
  (zbxu:W.isFn K (.ref zcj)=true)
  (zbxv:W.plainGet K zbz Str.empty=true)
  (zbxw:W.hasDictIn K zbz=true)
  (zbxx:W.plainOver K zbz=true)
  (zbxy:W.findIn K (.ref zbz) "__setattr__" =some (some (.builtin "object.__setattr__")))
  (zbxz:W.makesIn K zbz=true)
  (zbya:W.keepIn K (.ref zbz)=true)
  (zbyb:W.findIn K (.ref zbz) "__class__" =some (some (.builtin "object.__class__")))
  (zbyc:W.mroIn K zbz (.type "object")=some true)
  (zbyd:W.findIn K (.ref zbz) "name" =some none)
  (zbye:W.findIn K (.ref zbz) "start" =some none)
  (zbyf:W.findIn K (.ref zbz) "end" =some none)
  (zbyg:W.findIn K (.ref zbz) "wide" =some none)
  (zbyh:W.findIn K (.ref zbz) "since" =some none)
  (zbyi:W.findIn K (.ref zbz) "until" =some none)
  (zbyj:W.findIn K (.ref zbz) "every" =some none)
  (zbyk:W.findIn K (.ref zbz) "bits" =some none)
  (zbyl:W.findIn K (.ref zbz) "letting" =some none)
  (zbym:W.findIn K (.ref zbz) "first" =some none)
  (zbyn:W.findIn K (.ref zbz) "last" =some none)
  (zbyo:W.findIn K (.ref zbz) "sizes" =some none)
  (zbyp:W.findIn K (.ref zbz) "people" =some none)
  (zbyq:W.findIn K (.ref zbz) "named_doors" =some none)
  (zbyr:W.findIn K (.ref zbz) "__init__" =some (some (.ref zda)))
  (zbys:W.isFn K (.ref zda)=true)
  (zbyt:W.findIn K (.ref zbz) "rooms" =some (some (.ref zdb)))
  (zbyu:W.isFn K (.ref zdb)=true)
  (zbyv:W.findIn K (.ref zbz) "doors" =some (some (.ref zdc)))
  (zbyw:W.isFn K (.ref zdc)=true)
  (zbyx:W.findIn K (.ref zbz) "need_room" =some (some (.ref zdd)))
  (zbyy:W.isFn K (.ref zdd)=true)
  (zbyz:W.findIn K (.ref zbz) "holds" =some (some (.ref zde)))
  (zbza:W.isFn K (.ref zde)=true)
  (zbzb:W.findIn K (.ref zbz) "found" =some (some (.ref zdf)))
  (zbzc:W.isFn K (.ref zdf)=true)
  (zbzd:W.findIn K (.ref zbz) "into" =some (some (.ref zdg)))
  (zbze:W.isFn K (.ref zdg)=true)
  (zbzf:W.findIn K (.ref zbz) "from_room" =some (some (.ref zdh)))
  (zbzg:W.isFn K (.ref zdh)=true)
  (zbzh:W.findIn K (.ref zbz) "door" =some (some (.ref zdi)))
  (zbzi:W.isFn K (.ref zdi)=true)
  (zbzj:W.findIn K (.ref zbz) "lets" =some (some (.ref zdj)))
  (zbzk:W.isFn K (.ref zdj)=true)
  (zbzl:W.findIn K (.ref zbz) "total" =some (some (.ref zdk)))
  (zbzm:W.isFn K (.ref zdk)=true)
  (zbzn:W.findIn K (.ref zbz) "pairs" =some (some (.ref zdl)))
  (zbzo:W.isFn K (.ref zdl)=true)
  (zbzp:W.specialIn K (.builtin "object.__class__") "__get__" =some (some (.builtin "getset_descriptor.__get__")))
  (zbzq:W.takesIn K (.builtin "object.__class__")=some true)
  (zbzr:W.specialIn K (.ref zbt) "__getattribute__" =some (some (.builtin "type.__getattribute__")))
  (zbzs:W.readsIn K zbt (.type "type")=true)
  (zbzt:W.findCls K (.ref zbt) (.type "type") "__init__" =some (.val (.ref zch)))
  (zbzu:W.nsIn K mainGlobals "ValueError" =some none)
  (zbzv:W.nsIn K mainGlobals "sum" =some none)
  (zbzw:W.nsIn K mainGlobals "min" =some none)
  (zbzx:W.nsIn K mainGlobals "range" =some none)
  (zbzy:W.nsIn K mainGlobals "any" =some none)
  (zbzz:W.nsIn K mainGlobals "sorted" =some none)
  (zcaa:W.nsIn K mainGlobals "len" =some none)
  (zcab:W.nsIn K mainGlobals "dict" =some none)
  (zcac:W.nsIn K mainGlobals "isinstance" =some none)
  (zcad:W.nsIn K mainGlobals "int" =some none)
  (zcae:W.nsIn K mainGlobals "str" =some none)
  (zcaf:W.nsIn K mainGlobals "all" =some none)
  (zcag:W.nsIn K mainGlobals "list" =some none)
  (zcah:W.nsIn K mainGlobals "bool" =some none)
  (zcai:W.nsIn K mainGlobals "LONGEST_NAME" =some (some (.int 8 zben))) :
  ∃(fd:FuncData) (f2:Addr) (fd2:FuncData),mg "_law_door" =some (.ref f2)/\(∃oc od osl,K.lookup f2=some ⟨oc,od,.func fd2,osl⟩)/\(∀(s:Shared) (v:Value),BindsTo s fd ⟨[v],[]⟩ [("_law_script",v)])/\∀(zcaj:Heap) (cL PL:Addr),fd2.code= .ref cL->W.CodeHd zcaj cL PL->zcaj.BuiltinsAt mg PL->FnOk l.prog w K mg zcaj CX0 20 fa fd ["_law_script"] (zU K PL):=by
 have e:=hfa.symm.trans (W.mg_of X G zbgg);cases e;have zcak:=aM (st:=sQ) zbia zbib zbic;have zcal:=aQ (K:=K) (x:= "_wall") (qual:= "_wall") (st:=sQ) (kV:=zdq) (doc:=zdr) (pm:=zds) (an:=zdn) (cdv:=zdt) (ct:=zdu) (ps:=["k"])<|aL 1 _ fun _=>rfl
 have zcam:=aM (st:=eW) zbid zbie zbif;have zcan:=aQ (K:=K) (x:= "found_beyond") (qual:= "found_beyond") (st:=eW) (kV:=zdz) (doc:=zea) (pm:=zeb) (an:=zdw) (cdv:=zec) (ct:=zed) (ps:=["house","kept"])<|aL 2 _ fun _ _=>rfl
 have zcao:=aM (st:=mF) zbig zbih zbii;have zcap:=aQ (K:=K) (x:= "let_in") (qual:= "let_in") (st:=mF) (kV:=zei) (doc:=zej) (pm:=zek) (an:=zef) (cdv:=zel) (ct:=zem) (ps:=["house","kept","room","turn"])<|aL 4 _ fun _ _ _ _=>rfl
 have zcaq:=aM (st:=eR) zbij zbik zbil;have zcar:=aQ (K:=K) (x:= "going_beyond") (qual:= "going_beyond") (st:=eR) (kV:=zer) (doc:=zes) (pm:=zet) (an:=zeo) (cdv:=zeu) (ct:=zev) (ps:=["house","kept","room","turn"])<|aL 4 _ fun _ _ _ _=>rfl
 have zcas:=aM (st:=kP) zbim zbin zbio;have zcat:=aQ (K:=K) (x:= "let_out") (qual:= "let_out") (st:=kP) (kV:=zfa) (doc:=zfb) (pm:=zfc) (an:=zex) (cdv:=zfd) (ct:=zfe) (ps:=["house","kept","turn"])<|aL 3 _ fun _ _ _=>rfl
 have zcau:=aM (st:=oM) zbip zbiq zbir;have zcav:=aQ (K:=K) (x:= "bound") (qual:= "bound") (st:=oM) (kV:=zfj) (doc:=zfk) (pm:=zfl) (an:=zfg) (cdv:=zfm) (ct:=zfn) (ps:=["house","cut","turn"])<|aL 3 _ fun _ _ _=>rfl
 have zcaw:=aM (st:=jD) zbis zbit zbiu;have zcax:=aQ (K:=K) (x:= "is_whole") (qual:= "is_whole") (st:=jD) (kV:=zfs) (doc:=zft) (pm:=zfu) (an:=zfp) (cdv:=zfv) (ct:=zfw) (ps:=["thing"])<|aL 1 _ fun _=>rfl
 have zcay:=aM (st:=kT) zbiv zbiw zbix;have zcaz:=aQ (K:=K) (x:= "is_name") (qual:= "is_name") (st:=kT) (kV:=zgb) (doc:=zgc) (pm:=zgd) (an:=zfy) (cdv:=zge) (ct:=zgf) (ps:=["thing"])<|aL 1 _ fun _=>rfl
 have zcba:=aM (st:=iL) zbiy zbiz zbja;have zcbb:=aQ (K:=K) (x:= "need_name") (qual:= "need_name") (st:=iL) (kV:=zgk) (doc:=zgl) (pm:=zgm) (an:=zgh) (cdv:=zgn) (ct:=zgo) (ps:=["part","thing"])<|aL 2 _ fun _ _=>rfl
 have zcbc:=aM (st:=gJ) zbjb zbjc zbjd;have zcbd:=aQ (K:=K) (x:= "need_whole") (qual:= "need_whole") (st:=gJ) (kV:=zgt) (doc:=zgu) (pm:=zgv) (an:=zgq) (cdv:=zgw) (ct:=zgx) (ps:=["part","thing","least"])<|aL 3 _ fun _ _ _=>rfl
 have zcbe:=aM (st:=g9) zbje zbjf zbjg;have zcbf:=aQ (K:=K) (x:= "need_turns") (qual:= "need_turns") (st:=g9) (kV:=zhc) (doc:=zhd) (pm:=zhe) (an:=zgz) (cdv:=zhf) (ct:=zhg) (ps:=["first","last"])<|aL 2 _ fun _ _=>rfl
 have zcbg:=aM (st:=dO) zbjh zbji zbjj;have zcbh:=aQ (K:=K) (x:= "need_each_once") (qual:= "need_each_once") (st:=dO) (kV:=zhl) (doc:=zhm) (pm:=zhn) (an:=zhi) (cdv:=zho) (ct:=zhp) (ps:=["names"])<|aL 1 _ fun _=>rfl
 have zcbi:=aM (st:=dC) zbjk zbjl zbjm;have zcbj:=aQ (K:=K) (x:= "rooms_spoken_of") (qual:= "rooms_spoken_of") (st:=dC) (kV:=zhu) (doc:=zhv) (pm:=zhw) (an:=zhr) (cdv:=zhx) (ct:=zhy) (ps:=["doors","people"])<|aL 2 _ fun _ _=>rfl
 have zcbk:=aM (st:=gU) zbjn zbjo zbjp;have zcbl:=aQ (K:=K) (x:= "need_rooms") (qual:= "need_rooms") (st:=gU) (kV:=zid) (doc:=zie) (pm:=zif) (an:=zia) (cdv:=zig) (ct:=zih) (ps:=["names","sizes"])<|aL 2 _ fun _ _=>rfl
 have zcbm:=aM (st:=eT) zbjq zbjr zbjs;have zcbn:=aQ (K:=K) (x:= "added_people") (qual:= "added_people") (st:=eT) (kV:=zim) (doc:=zin) (pm:=zio) (an:=zij) (cdv:=ziq) (ct:=zir) (ps:=["sizes","people"])<|aL 2 _ fun _ _=>rfl
 have zcbo:=aM (st:=gO) zbjt zbju zbjv;have zcbp:=aQ (K:=K) (x:= "need_space") (qual:= "need_space") (st:=gO) (kV:=ziw) (doc:=zix) (pm:=ziy) (an:=zit) (cdv:=ziz) (ct:=zja) (ps:=["sizes","people"])<|aL 2 _ fun _ _=>rfl
 have zcbq:=aM (st:=jE) zbjw zbjx zbjy;have zcbr:=aQ (K:=K) (x:= "added_up") (qual:= "added_up") (st:=jE) (kV:=zjf) (doc:=zjg) (pm:=zjh) (an:=zjc) (cdv:=zji) (ct:=zjj) (ps:=["plan"])<|aL 1 _ fun _=>rfl
 have zcbs:=aM (st:=c8) zbjz zbka zbkb;have zcbt:=aQ (K:=K) (x:= "rows_that_count") (qual:= "rows_that_count") (st:=c8) (kV:=zjo) (doc:=zjp) (pm:=zjq) (an:=zjl) (cdv:=zjr) (ct:=zjs) (ps:=["house","plan"])<|aL 2 _ fun _ _=>rfl
 have zcbu:=aM (st:=kF) zbkc zbkd zbke;have zcbv:=aQ (K:=K) (x:= "leaving") (qual:= "leaving") (st:=kF) (kV:=zjx) (doc:=zjy) (pm:=zjz) (an:=zju) (cdv:=zka) (ct:=zkb) (ps:=["house","plan"])<|aL 2 _ fun _ _=>rfl
 have zcbw:=aM (st:=mD) zbkf zbkg zbkh;have zcbx:=aQ (K:=K) (x:= "coming") (qual:= "coming") (st:=mD) (kV:=zkg) (doc:=zkh) (pm:=zki) (an:=zkd) (cdv:=zkj) (ct:=zkk) (ps:=["house","plan"])<|aL 2 _ fun _ _=>rfl
 have zcby:=aM (st:=oX) zbki zbkj zbkk;have zcbz:=aQ (K:=K) (x:= "there") (qual:= "there") (st:=oX) (kV:=zkp) (doc:=zkq) (pm:=zkr) (an:=zkm) (cdv:=zks) (ct:=zkt) (ps:=["house","plan"])<|aL 2 _ fun _ _=>rfl
 have zcca:=aM (st:=eQ) zbkl zbkm zbkn;have zccb:=aQ (K:=K) (x:= "most_through") (qual:= "most_through") (st:=eQ) (kV:=zky) (doc:=zkz) (pm:=zla) (an:=zkv) (cdv:=zlb) (ct:=zlc) (ps:=["house","turn","name"])<|aL 3 _ fun _ _ _=>rfl
 have zccc:=aM (st:=fT) zbko zbkp zbkq;have zccd:=aQ (K:=K) (x:= "door_faults") (qual:= "door_faults") (st:=fT) (kV:=zlh) (doc:=zli) (pm:=zlj) (an:=zle) (cdv:=zlk) (ct:=zll) (ps:=["house","plan"])<|aL 2 _ fun _ _=>rfl
 have zcce:=aM (st:=eO) zbkr zbks zbkt;have zccf:=aQ (K:=K) (x:= "leave_faults") (qual:= "leave_faults") (st:=eO) (kV:=zlq) (doc:=zlr) (pm:=zls) (an:=zln) (cdv:=zlt) (ct:=zlu) (ps:=["house","plan","inside"])<|aL 3 _ fun _ _ _=>rfl
 have zccg:=aM (st:=fW) zbku zbkv zbkw;have zcch:=aQ (K:=K) (x:= "full_faults") (qual:= "full_faults") (st:=fW) (kV:=zlz) (doc:=zma) (pm:=zmb) (an:=zlw) (cdv:=zmc) (ct:=zmd) (ps:=["house","inside"])<|aL 2 _ fun _ _=>rfl
 have zcci:=aM (st:=l8) zbkx zbky zbkz;have zccj:=aQ (K:=K) (x:= "faults") (qual:= "faults") (st:=l8) (kV:=zmi) (doc:=zmj) (pm:=zmk) (an:=zmf) (cdv:=zml) (ct:=zmm) (ps:=["house","plan"])<|aL 2 _ fun _ _=>rfl
 have zcck:=aM (st:=eX) zbla zblb zblc;have zccl:=aQ (K:=K) (x:= "_law_cell_at") (qual:= "_law_cell_at") (st:=eX) (kV:=zmr) (doc:=zms) (pm:=zmt) (an:=zmo) (cdv:=zmu) (ct:=zmv) (ps:=["_law_script","_law_k"])<|aL 2 _ fun _ _=>rfl
 have zccm:=aM (st:=gK) zbld zble zblf;have zccn:=aQ (K:=K) (x:= "_law_mixed") (qual:= "_law_mixed") (st:=gK) (kV:=zna) (doc:=znb) (pm:=znc) (an:=zmx) (cdv:=znd) (ct:=zne) (ps:=["_law_cell","_law_k"])<|aL 2 _ fun _ _=>rfl
 have zcco:=aM (st:=iK) zblg zblh zbli;have zccp:=aQ (K:=K) (x:= "_law_name") (qual:= "_law_name") (st:=iK) (kV:=znj) (doc:=znk) (pm:=znl) (an:=zng) (cdv:=znm) (ct:=znn) (ps:=["_law_cell","_law_k"])<|aL 2 _ fun _ _=>rfl
 have zccq:=aM (st:=gW) zblj zblk zbll;have zccr:=aQ (K:=K) (x:= "_law_rooms") (qual:= "_law_rooms") (st:=gW) (kV:=zns) (doc:=znt) (pm:=znu) (an:=znp) (cdv:=znv) (ct:=znw) (ps:=["_law_cells"])<|aL 1 _ fun _=>rfl
 have zccs:=aM (st:=iE) zblm zbln zblo;have zcct:=aQ (K:=K) (x:= "_law_spec") (qual:= "_law_spec") (st:=iE) (kV:=zob) (doc:=zoc) (pm:=zod) (an:=zny) (cdv:=zoe) (ct:=zof) (ps:=["_law_cell","_law_k","_law_rooms_here","_law_turns"])<|aL 4 _ fun _ _ _ _=>rfl
 have zccu:=aM (st:=iM) zblp zblq zblr;have zccv:=aQ (K:=K) (x:= "_law_lets") (qual:= "_law_lets") (st:=iM) (kV:=zok) (doc:=zol) (pm:=zom) (an:=zoh) (cdv:=zon) (ct:=zoo) (ps:=["_law_spec_here","_law_turn"])<|aL 2 _ fun _ _=>rfl
 have zccw:=aM (st:=dZ) zbls zblt zblu;have zccx:=aQ (K:=K) (x:= "_law_door") (qual:= "_law_door") (st:=dZ) (kV:=zot) (doc:=zou) (pm:=zov) (an:=zoq) (cdv:=zow) (ct:=zox) (ps:=["_law_spec_here"])<|aL 1 _ fun _=>rfl
 have zccy:=aM (st:=fN) zblv zblw zblx;have zccz:=aQ (K:=K) (x:= "_law_digits") (qual:= "_law_digits") (st:=fN) (kV:=zpc) (doc:=zpd) (pm:=zpe) (an:=zoz) (cdv:=zpf) (ct:=zpg) (ps:=["_law_cell","_law_bases"])<|aL 2 _ fun _ _=>rfl
 have zcda:=aM (st:=dB) zbly zblz zbma;have zcdb:=aQ (K:=K) (x:= "_law_rooms_told") (qual:= "_law_rooms_told") (st:=dB) (kV:=zpl) (doc:=zpm) (pm:=zpn) (an:=zpi) (cdv:=zpo) (ct:=zpp) (ps:=["_law_cells"])<|aL 1 _ fun _=>rfl
 have zcdc:=aM (st:=dH) zbmb zbmc zbmd;have zcdd:=aQ (K:=K) (x:= "_law_spec_told") (qual:= "_law_spec_told") (st:=dH) (kV:=zpu) (doc:=zpv) (pm:=zpw) (an:=zpr) (cdv:=zpx) (ct:=zpy) (ps:=["_law_cell","_law_k","_law_rooms_here","_law_turns"])<|aL 4 _ fun _ _ _ _=>rfl
 have zcde:=aM (st:=dA) zbme zbmf zbmg;have zcdf:=aQ (K:=K) (x:= "_law_drawn_told") (qual:= "_law_drawn_told") (st:=dA) (kV:=zqd) (doc:=zqe) (pm:=zqf) (an:=zqa) (cdv:=zqg) (ct:=zqh) (ps:=["_law_script"])<|aL 1 _ fun _=>rfl
 have zcdg:=aM (st:=gX) zbmh zbmi zbmj;have zcdh:=aQ (K:=K) (x:= "_law_drawn") (qual:= "_law_drawn") (st:=gX) (kV:=zqm) (doc:=zqn) (pm:=zqo) (an:=zqj) (cdv:=zqp) (ct:=zqq) (ps:=["_law_script"])<|aL 1 _ fun _=>rfl
 have zcdi:=aM (st:=g6) zbmk zbml zbmm;have zcdj:=aQ (K:=K) (x:= "_law_house") (qual:= "_law_house") (st:=g6) (kV:=zqv) (doc:=zqw) (pm:=zqx) (an:=zqs) (cdv:=zqy) (ct:=zqz) (ps:=["_law_rooms_here","_law_specs","_law_turns"])<|aL 3 _ fun _ _ _=>rfl
 have zcdk:=aM (st:=dL) zbmn zbmo zbmp;have zcdl:=aQ (K:=K) (x:= "_law_told_turn") (qual:= "_law_told_turn") (st:=dL) (kV:=zre) (doc:=zrf) (pm:=zrg) (an:=zrb) (cdv:=zrh) (ct:=zri) (ps:=["_law_cell","_law_standing","_law_specs","_law_turn"])<|aL 4 _ fun _ _ _ _=>rfl
 have zcdm:=aM (st:=dI) zbmq zbmr zbms;have zcdn:=aQ (K:=K) (x:= "_law_told_plan") (qual:= "_law_told_plan") (st:=dI) (kV:=zrn) (doc:=zro) (pm:=zrp) (an:=zrk) (cdv:=zrq) (ct:=zrr) (ps:=["_law_cell","_law_rooms_here","_law_specs","_law_turns"])<|aL 4 _ fun _ _ _ _=>rfl
 have zcdo:=aM (st:=d6) zbmt zbmu zbmv;have zcdp:=aQ (K:=K) (x:= "_law_any_plan") (qual:= "_law_any_plan") (st:=d6) (kV:=zrw) (doc:=zrx) (pm:=zry) (an:=zrt) (cdv:=zrz) (ct:=zsa) (ps:=["_law_cell","_law_rooms_here","_law_specs","_law_turns"])<|aL 4 _ fun _ _ _ _=>rfl
 have zcdq:=aM (st:=jG) zbmw zbmx zbmy;have zcdr:=aQ (K:=K) (x:= "_law_out") (qual:= "_law_out") (st:=jG) (kV:=zsf) (doc:=zsg) (pm:=zsh) (an:=zsc) (cdv:=zsi) (ct:=zsj) (ps:=["_law_plan","_law_specs","_law_turn"])<|aL 3 _ fun _ _ _=>rfl
 have zcds:=aM (st:=jC) zbmz zbna zbnb;have zcdt:=aQ (K:=K) (x:= "_law_cut") (qual:= "_law_cut") (st:=jC) (kV:=zso) (doc:=zsp) (pm:=zsq) (an:=zsl) (cdv:=zsr) (ct:=zss) (ps:=["_law_cell","_law_rooms_here","_law_turns"])<|aL 3 _ fun _ _ _=>rfl
 have zcdu:=aM (st:=qF) zbnc zbnd zbne;have zcdv:=aQ (K:=K) (x:= "law") (qual:= "law") (st:=qF) (kV:=zsx) (doc:=zsy) (pm:=zsz) (an:=zsu) (cdv:=zta) (ct:=ztb) (ps:=["_law_script"])<|aL 1 _ fun _=>rfl
 have zcdw:=aM (st:=cW) zbnf zbng zbnh;have zcdx:=o8 5 (K:=K) (x:= "__init__") (qual:= "Door.__init__") (st:=cW) (kV:=ztg) (doc:=zth) (pm:=zti) (an:=ztd) (cdv:=ztj) (ct:=ztk) (ps:=["self","name","start","end","wide"]) (ds:=[]) zbni<|aL 5 _ fun _ _ _ _ _=>⟨_,rfl,rfl⟩
 have zcdy:=o8 4 (K:=K) (x:= "__init__") (qual:= "Door.__init__") (st:=cW) (kV:=ztg) (doc:=zth) (pm:=zti) (an:=ztd) (cdv:=ztj) (ct:=ztk) (ps:=["self","name","start","end","wide"]) (ds:=[.int 1 ztm]) zbni<|aL 4 _ fun _ _ _ _=>⟨_,rfl,rfl⟩
 have zcdz:=o8 3 (K:=K) (x:= "__init__") (qual:= "Door.__init__") (st:=cW) (kV:=ztg) (doc:=zth) (pm:=zti) (an:=ztd) (cdv:=ztj) (ct:=ztk) (ps:=["self","name","start","end","wide"]) (ds:=[.none,.int 1 ztm]) zbni<|aL 3 _ fun _ _ _=>⟨_,rfl,rfl⟩
 have zcea:=aM (st:=iH) zbnj zbnk zbnl;have zceb:=aQ (K:=K) (x:= "lets") (qual:= "Door.lets") (st:=iH) (kV:=ztv) (doc:=ztw) (pm:=ztx) (an:=zts) (cdv:=zty) (ct:=ztz) (ps:=["self","turn"])<|aL 2 _ fun _ _=>rfl
 have zcec:=aM (st:=eU) zbnm zbnn zbno;have zced:=aQ (K:=K) (x:= "is_exit") (qual:= "Door.is_exit") (st:=eU) (kV:=zue) (doc:=zuf) (pm:=zug) (an:=zub) (cdv:=zuh) (ct:=zui) (ps:=["self"])<|aL 1 _ fun _=>rfl
 have zcee:=aM (st:=iZ) zbnp zbnq zbnr;have zcef:=aQ (K:=K) (x:= "words") (qual:= "Door.words") (st:=iZ) (kV:=zun) (doc:=zuo) (pm:=zup) (an:=zuk) (cdv:=zuq) (ct:=zur) (ps:=["self"])<|aL 1 _ fun _=>rfl
 have zceg:=aM (st:=dJ) zbns zbnt zbnu;have zceh:=aQ (K:=K) (x:= "__init__") (qual:= "Since.__init__") (st:=dJ) (kV:=zuw) (doc:=zux) (pm:=zuy) (an:=zut) (cdv:=zuz) (ct:=zva) (ps:=["self","name","start","end","wide","since"])<|aL 6 _ fun _ _ _ _ _ _=>rfl
 have zcei:=aM (st:=g7) zbnv zbnw zbnx;have zcej:=aQ (K:=K) (x:= "lets") (qual:= "Since.lets") (st:=g7) (kV:=zvf) (doc:=zvg) (pm:=zvh) (an:=zvc) (cdv:=zvi) (ct:=zvj) (ps:=["self","turn"])<|aL 2 _ fun _ _=>rfl
 have zcek:=aM (st:=hZ) zbny zbnz zboa;have zcel:=aQ (K:=K) (x:= "words") (qual:= "Since.words") (st:=hZ) (kV:=zvo) (doc:=zvp) (pm:=zvq) (an:=zvl) (cdv:=zvr) (ct:=zvs) (ps:=["self"])<|aL 1 _ fun _=>rfl
 have zcem:=aM (st:=dN) zbob zboc zbod;have zcen:=aQ (K:=K) (x:= "__init__") (qual:= "Until.__init__") (st:=dN) (kV:=zvx) (doc:=zvy) (pm:=zvz) (an:=zvu) (cdv:=zwa) (ct:=zwb) (ps:=["self","name","start","end","wide","until"])<|aL 6 _ fun _ _ _ _ _ _=>rfl
 have zceo:=aM (st:=gM) zboe zbof zbog;have zcep:=aQ (K:=K) (x:= "lets") (qual:= "Until.lets") (st:=gM) (kV:=zwg) (doc:=zwh) (pm:=zwi) (an:=zwd) (cdv:=zwj) (ct:=zwk) (ps:=["self","turn"])<|aL 2 _ fun _ _=>rfl
 have zceq:=aM (st:=hU) zboh zboi zboj;have zcer:=aQ (K:=K) (x:= "words") (qual:= "Until.words") (st:=hU) (kV:=zwp) (doc:=zwq) (pm:=zwr) (an:=zwm) (cdv:=zws) (ct:=zwt) (ps:=["self"])<|aL 1 _ fun _=>rfl
 have zces:=aM (st:=dD) zbok zbol zbom;have zcet:=o8 7 (K:=K) (x:= "__init__") (qual:= "Beat.__init__") (st:=dD) (kV:=zwy) (doc:=zwz) (pm:=zxa) (an:=zwv) (cdv:=zxb) (ct:=zxc) (ps:=["self","name","start","end","wide","every","since"]) (ds:=[]) zbon<|aL 7 _ fun _ _ _ _ _ _ _=>⟨_,rfl,rfl⟩
 have zceu:=o8 6 (K:=K) (x:= "__init__") (qual:= "Beat.__init__") (st:=dD) (kV:=zwy) (doc:=zwz) (pm:=zxa) (an:=zwv) (cdv:=zxb) (ct:=zxc) (ps:=["self","name","start","end","wide","every","since"]) (ds:=[.int 0 zxe]) zbon<|aL 6 _ fun _ _ _ _ _ _=>⟨_,rfl,rfl⟩
 have zcev:=aM (st:=iF) zboo zbop zboq;have zcew:=aQ (K:=K) (x:= "lets") (qual:= "Beat.lets") (st:=iF) (kV:=zxn) (doc:=zxo) (pm:=zxp) (an:=zxk) (cdv:=zxq) (ct:=zxr) (ps:=["self","turn"])<|aL 2 _ fun _ _=>rfl
 have zcex:=aM (st:=iV) zbor zbos zbot;have zcey:=aQ (K:=K) (x:= "words") (qual:= "Beat.words") (st:=iV) (kV:=zxw) (doc:=zxx) (pm:=zxy) (an:=zxt) (cdv:=zxz) (ct:=zya) (ps:=["self"])<|aL 1 _ fun _=>rfl
 have zcez:=aM (st:=c7) zbou zbov zbow;have zcfa:=aQ (K:=K) (x:= "__init__") (qual:= "Marked.__init__") (st:=c7) (kV:=zyf) (doc:=zyg) (pm:=zyh) (an:=zyc) (cdv:=zyi) (ct:=zyj) (ps:=["self","name","start","end","wide","bits"])<|aL 6 _ fun _ _ _ _ _ _=>rfl
 have zcfb:=aM (st:=fO) zbox zboy zboz;have zcfc:=aQ (K:=K) (x:= "lets") (qual:= "Marked.lets") (st:=fO) (kV:=zyo) (doc:=zyp) (pm:=zyq) (an:=zyl) (cdv:=zyr) (ct:=zys) (ps:=["self","turn"])<|aL 2 _ fun _ _=>rfl
 have zcfd:=aM (st:=gB) zbpa zbpb zbpc;have zcfe:=aQ (K:=K) (x:= "words") (qual:= "Marked.words") (st:=gB) (kV:=zyx) (doc:=zyy) (pm:=zyz) (an:=zyu) (cdv:=zza) (ct:=zzb) (ps:=["self"])<|aL 1 _ fun _=>rfl
 have zcff:=aM (st:=d3) zbpd zbpe zbpf;have zcfg:=aQ (K:=K) (x:= "__init__") (qual:= "Told.__init__") (st:=d3) (kV:=zzg) (doc:=zzh) (pm:=zzi) (an:=zzd) (cdv:=zzj) (ct:=zzk) (ps:=["self","name","start","end","letting"])<|aL 5 _ fun _ _ _ _ _=>rfl
 have zcfh:=aM (st:=iG) zbpg zbph zbpi;have zcfi:=aQ (K:=K) (x:= "lets") (qual:= "Told.lets") (st:=iG) (kV:=zzp) (doc:=zzq) (pm:=zzr) (an:=zzm) (cdv:=zzs) (ct:=zzt) (ps:=["self","turn"])<|aL 2 _ fun _ _=>rfl
 have zcfj:=aM (st:=iT) zbpj zbpk zbpl;have zcfk:=aQ (K:=K) (x:= "words") (qual:= "Told.words") (st:=iT) (kV:=zzy) (doc:=zzz) (pm:=zbaa) (an:=zzv) (cdv:=zbab) (ct:=zbac) (ps:=["self"])<|aL 1 _ fun _=>rfl
 have zcfl:=aM (st:=cY) zbpm zbpn zbpo;have zcfm:=o8 6 (K:=K) (x:= "__init__") (qual:= "House.__init__") (st:=cY) (kV:=zbah) (doc:=zbai) (pm:=zbaj) (an:=zbae) (cdv:=zbak) (ct:=zbal) (ps:=["self","rooms","doors","people","last","first"]) (ds:=[]) zbpp<|aL 6 _ fun _ _ _ _ _ _=>⟨_,rfl,rfl⟩
 have zcfn:=o8 5 (K:=K) (x:= "__init__") (qual:= "House.__init__") (st:=cY) (kV:=zbah) (doc:=zbai) (pm:=zbaj) (an:=zbae) (cdv:=zbak) (ct:=zbal) (ps:=["self","rooms","doors","people","last","first"]) (ds:=[.int 0 zban]) zbpp<|aL 5 _ fun _ _ _ _ _=>⟨_,rfl,rfl⟩
 have zcfo:=aM (st:=fV) zbpq zbpr zbps;have zcfp:=aQ (K:=K) (x:= "rooms") (qual:= "House.rooms") (st:=fV) (kV:=zbaw) (doc:=zbax) (pm:=zbay) (an:=zbat) (cdv:=zbaz) (ct:=zbba) (ps:=["self"])<|aL 1 _ fun _=>rfl
 have zcfq:=aM (st:=fX) zbpt zbpu zbpv;have zcfr:=aQ (K:=K) (x:= "doors") (qual:= "House.doors") (st:=fX) (kV:=zbbf) (doc:=zbbg) (pm:=zbbh) (an:=zbbc) (cdv:=zbbi) (ct:=zbbj) (ps:=["self"])<|aL 1 _ fun _=>rfl
 have zcfs:=aM (st:=c9) zbpw zbpx zbpy;have zcft:=aQ (K:=K) (x:= "need_room") (qual:= "House.need_room") (st:=c9) (kV:=zbbo) (doc:=zbbp) (pm:=zbbq) (an:=zbbl) (cdv:=zbbr) (ct:=zbbs) (ps:=["self","room"])<|aL 2 _ fun _ _=>rfl
 have zcfu:=aM (st:=fR) zbpz zbqa zbqb;have zcfv:=aQ (K:=K) (x:= "holds") (qual:= "House.holds") (st:=fR) (kV:=zbbx) (doc:=zbby) (pm:=zbbz) (an:=zbbu) (cdv:=zbca) (ct:=zbcb) (ps:=["self","room"])<|aL 2 _ fun _ _=>rfl
 have zcfw:=aM (st:=fQ) zbqc zbqd zbqe;have zcfx:=aQ (K:=K) (x:= "found") (qual:= "House.found") (st:=fQ) (kV:=zbcg) (doc:=zbch) (pm:=zbci) (an:=zbcd) (cdv:=zbcj) (ct:=zbck) (ps:=["self","room"])<|aL 2 _ fun _ _=>rfl
 have zcfy:=aM (st:=gT) zbqf zbqg zbqh;have zcfz:=aQ (K:=K) (x:= "into") (qual:= "House.into") (st:=gT) (kV:=zbcp) (doc:=zbcq) (pm:=zbcr) (an:=zbcm) (cdv:=zbcs) (ct:=zbct) (ps:=["self","room"])<|aL 2 _ fun _ _=>rfl
 have zcga:=aM (st:=d8) zbqi zbqj zbqk;have zcgb:=aQ (K:=K) (x:= "from_room") (qual:= "House.from_room") (st:=d8) (kV:=zbcy) (doc:=zbcz) (pm:=zbda) (an:=zbcv) (cdv:=zbdb) (ct:=zbdc) (ps:=["self","room"])<|aL 2 _ fun _ _=>rfl
 have zcgc:=aM (st:=gZ) zbql zbqm zbqn;have zcgd:=aQ (K:=K) (x:= "door") (qual:= "House.door") (st:=gZ) (kV:=zbdh) (doc:=zbdi) (pm:=zbdj) (an:=zbde) (cdv:=zbdk) (ct:=zbdl) (ps:=["self","name"])<|aL 2 _ fun _ _=>rfl
 have zcge:=aM (st:=g8) zbqo zbqp zbqq;have zcgf:=aQ (K:=K) (x:= "lets") (qual:= "House.lets") (st:=g8) (kV:=zbdq) (doc:=zbdr) (pm:=zbds) (an:=zbdn) (cdv:=zbdt) (ct:=zbdu) (ps:=["self","name","turn"])<|aL 3 _ fun _ _ _=>rfl
 have zcgg:=aM (st:=h9) zbqr zbqs zbqt;have zcgh:=aQ (K:=K) (x:= "total") (qual:= "House.total") (st:=h9) (kV:=zbdz) (doc:=zbea) (pm:=zbeb) (an:=zbdw) (cdv:=zbec) (ct:=zbed) (ps:=["self"])<|aL 1 _ fun _=>rfl
 have zcgi:=aM (st:=fU) zbqu zbqv zbqw;have zcgj:=aQ (K:=K) (x:= "pairs") (qual:= "House.pairs") (st:=fU) (kV:=zbei) (doc:=zbej) (pm:=zbek) (an:=zbef) (cdv:=zbel) (ct:=zbem) (ps:=["self"])<|aL 1 _ fun _=>rfl
 have zcgk:ICls K zbt:=⟨⟨zbqx,zbqy,zbqz,zbra⟩,zbrd,zbzp,zbzq,zbre⟩
 have zcgl:ICls K zbu:=⟨⟨zbsb,zbsc,zbsd,zbse⟩,zbsh,zbzp,zbzq,zbsi⟩
 have zcgm:ICls K zbv:=⟨⟨zbtf,zbtg,zbth,zbti⟩,zbtl,zbzp,zbzq,zbtm⟩
 have zcgn:ICls K zbw:=⟨⟨zbuj,zbuk,zbul,zbum⟩,zbup,zbzp,zbzq,zbuq⟩
 have zcgo:ICls K zbx:=⟨⟨zbvn,zbvo,zbvp,zbvq⟩,zbvt,zbzp,zbzq,zbvu⟩
 have zcgp:ICls K zby:=⟨⟨zbwr,zbws,zbwt,zbwu⟩,zbwx,zbzp,zbzq,zbwy⟩
 have zcgq:ICls K zbz:=⟨⟨zbxv,zbxw,zbxx,zbxy⟩,zbyb,zbzp,zbzq,zbyc⟩
 exact⟨W.fnOf "law" "law" (aK qF) (aJ qF) (aD qF) .none zsx zsy zsz zsu zta ztb,zbg,W.fnOf "_law_door" "_law_door" (aK dZ) (aJ dZ) (aD dZ) .none zot zou zov zoq zow zox,W.mg_of X G zbfu,⟨_,_,_,zbls⟩,fun s v=> .of_eq rfl,fun zcaj cL PL h1 h2 h3=>aCW ⟨zaa,_,zcak,zcal,
  zab,_,zcam,zcan,
  zac,_,zcao,zcap,
  zad,_,zcaq,zcar,
  zae,_,zcas,zcat,
  zaf,_,zcau,zcav,
  zag,_,zcaw,zcax,
  zah,_,zcay,zcaz,
  zai,_,zcba,zcbb,
  zaj,_,zcbc,zcbd,
  zak,_,zcbe,zcbf,
  zal,_,zcbg,zcbh,
  zam,_,zcbi,zcbj,
  zan,_,zcbk,zcbl,
  zao,_,zcbm,zcbn,
  zap,_,zcbo,zcbp,
  zaq,_,zcbq,zcbr,
  zar,_,zcbs,zcbt,
  zas,_,zcbu,zcbv,
  zat,_,zcbw,zcbx,
  zau,_,zcby,zcbz,
  zav,_,zcca,zccb,
  zaw,_,zccc,zccd,
  zax,_,zcce,zccf,
  zay,_,zccg,zcch,
  zaz,_,zcci,zccj,
  zba,_,zcck,zccl,
  zbb,_,zccm,zccn,
  zbc,_,zcco,zccp,
  zbd,_,zccq,zccr,
  zbe,_,zccs,zcct,
  zbf,_,zccu,zccv,
  zbg,_,zccw,zccx,
  zbh,_,zccy,zccz,
  zbi,_,zcda,zcdb,
  zbj,_,zcdc,zcdd,
  zbk,_,zcde,zcdf,
  zbl,_,zcdg,zcdh,
  zbm,_,zcdi,zcdj,
  zbn,_,zcdk,zcdl,
  zbo,_,zcdm,zcdn,
  zbp,_,zcdo,zcdp,
  zbq,_,zcdq,zcdr,
  zbr,_,zcds,zcdt,
  fa,_,zcdu,zcdv,
  zch,_,zcdw,zcdx,
  zci,_,zcea,zceb,
  zcj,_,zcec,zced,
  zck,_,zcee,zcef,
  zcl,_,zceg,zceh,
  zcm,_,zcei,zcej,
  zcn,_,zcek,zcel,
  zco,_,zcem,zcen,
  zcp,_,zceo,zcep,
  zcq,_,zceq,zcer,
  zcr,_,zces,zcet,
  zcs,_,zcev,zcew,
  zct,_,zcex,zcey,
  zcu,_,zcez,zcfa,
  zcv,_,zcfb,zcfc,
  zcw,_,zcfd,zcfe,
  zcx,_,zcff,zcfg,
  zcy,_,zcfh,zcfi,
  zcz,_,zcfj,zcfk,
  zda,_,zcfl,zcfm,
  zdb,_,zcfo,zcfp,
  zdc,_,zcfq,zcfr,
  zdd,_,zcfs,zcft,
  zde,_,zcfu,zcfv,
  zdf,_,zcfw,zcfx,
  zdg,_,zcfy,zcfz,
  zdh,_,zcga,zcgb,
  zdi,_,zcgc,zcgd,
  zdj,_,zcge,zcgf,
  zdk,_,zcgg,zcgh,
  zdl,_,zcgi,zcgj,
  W.mg_of X G zbeo,
  W.mg_of X G zbep,
  W.mg_of X G zbeq,
  W.mg_of X G zber,
  W.mg_of X G zbes,
  W.mg_of X G zbet,
  W.mg_of X G zbeu,
  W.mg_of X G zbev,
  W.mg_of X G zbew,
  W.mg_of X G zbex,
  W.mg_of X G zbey,
  W.mg_of X G zbez,
  W.mg_of X G zbfa,
  W.mg_of X G zbfb,
  W.mg_of X G zbfc,
  W.mg_of X G zbfd,
  W.mg_of X G zbfe,
  W.mg_of X G zbff,
  W.mg_of X G zbfg,
  W.mg_of X G zbfh,
  W.mg_of X G zbfi,
  W.mg_of X G zbfj,
  W.mg_of X G zbfk,
  W.mg_of X G zbfl,
  W.mg_of X G zbfm,
  W.mg_of X G zbfn,
  W.mg_of X G zbfo,
  W.mg_of X G zbfp,
  W.mg_of X G zbfq,
  W.mg_of X G zbfr,
  W.mg_of X G zbfs,
  W.mg_of X G zbft,
  W.mg_of X G zbfu,
  W.mg_of X G zbfv,
  W.mg_of X G zbfw,
  W.mg_of X G zbfx,
  W.mg_of X G zbfy,
  W.mg_of X G zbfz,
  W.mg_of X G zbga,
  W.mg_of X G zbgb,
  W.mg_of X G zbgc,
  W.mg_of X G zbgd,
  W.mg_of X G zbge,
  W.mg_of X G zbgf,
  W.mg_of X G zbgg,
  ⟨_,.cons ⟨_,rfl⟩ (.nil),zcdy⟩,
  ⟨_,.cons rfl (.cons ⟨_,rfl⟩ (.nil)),zcdz⟩,
  ⟨_,.cons ⟨_,rfl⟩ (.nil),zceu⟩,
  ⟨_,.cons ⟨_,rfl⟩ (.nil),zcfn⟩,
  zbt,W.mg_of X G zbgh,
  zbu,W.mg_of X G zbgi,
  zbv,W.mg_of X G zbgj,
  zbw,W.mg_of X G zbgk,
  zbx,W.mg_of X G zbgl,
  zby,W.mg_of X G zbgm,
  zbz,W.mg_of X G zbgn,
  zca,W.mg_of X G zbgo,
  zcb,W.mg_of X G zbgp,
  zcc,W.mg_of X G zbgq,
  zcd,W.mg_of X G zbgr,
  zce,W.mg_of X G zbgs,
  zcf,W.mg_of X G zbgt,
  zcg,W.mg_of X G zbgu,
  ⟨zcgk,zbrf,zbrg,zbrh,zbri,zbrj,zbrk,zbrl,zbrm,zbrn,zbro,zbrp,zbrq,zbrr,zbrs⟩,
  ⟨zbrb,zbrt,zbru,zbrc⟩,
  ⟨zbrv,zbrw,zbnl⟩,
  ⟨zbrx,zbry,zbno⟩,
  ⟨zbrz,zbsa,zbnr⟩,
  ⟨zcgl,zbsj,zbsk,zbsl,zbsm,zbsn,zbso,zbsp,zbsq,zbsr,zbss,zbst,zbsu,zbsv,zbsw⟩,
  ⟨zbsf,zbsx,zbsy,zbsg⟩,
  ⟨zbsz,zbta,zbnx⟩,
  ⟨zbtb,zbtc,zboa⟩,
  ⟨zbtd,zbte,zbno⟩,
  ⟨zcgm,zbtn,zbto,zbtp,zbtq,zbtr,zbts,zbtt,zbtu,zbtv,zbtw,zbtx,zbty,zbtz,zbua⟩,
  ⟨zbtj,zbub,zbuc,zbtk⟩,
  ⟨zbud,zbue,zbog⟩,
  ⟨zbuf,zbug,zboj⟩,
  ⟨zbuh,zbui,zbno⟩,
  ⟨zcgn,zbur,zbus,zbut,zbuu,zbuv,zbuw,zbux,zbuy,zbuz,zbva,zbvb,zbvc,zbvd,zbve⟩,
  ⟨zbun,zbvf,zbvg,zbuo⟩,
  ⟨zbvh,zbvi,zboq⟩,
  ⟨zbvj,zbvk,zbot⟩,
  ⟨zbvl,zbvm,zbno⟩,
  ⟨zcgo,zbvv,zbvw,zbvx,zbvy,zbvz,zbwa,zbwb,zbwc,zbwd,zbwe,zbwf,zbwg,zbwh,zbwi⟩,
  ⟨zbvr,zbwj,zbwk,zbvs⟩,
  ⟨zbwl,zbwm,zboz⟩,
  ⟨zbwn,zbwo,zbpc⟩,
  ⟨zbwp,zbwq,zbno⟩,
  ⟨zcgp,zbwz,zbxa,zbxb,zbxc,zbxd,zbxe,zbxf,zbxg,zbxh,zbxi,zbxj,zbxk,zbxl,zbxm⟩,
  ⟨zbwv,zbxn,zbxo,zbww⟩,
  ⟨zbxp,zbxq,zbpi⟩,
  ⟨zbxr,zbxs,zbpl⟩,
  ⟨zbxt,zbxu,zbno⟩,
  ⟨zcgq,zbyd,zbye,zbyf,zbyg,zbyh,zbyi,zbyj,zbyk,zbyl,zbym,zbyn,zbyo,zbyp,zbyq⟩,
  ⟨zbxz,zbyr,zbys,zbya⟩,
  ⟨zbyt,zbyu,zbps⟩,
  ⟨zbyv,zbyw,zbpv⟩,
  ⟨zbyx,zbyy,zbpy⟩,
  ⟨zbyz,zbza,zbqb⟩,
  ⟨zbzb,zbzc,zbqe⟩,
  ⟨zbzd,zbze,zbqh⟩,
  ⟨zbzf,zbzg,zbqk⟩,
  ⟨zbzh,zbzi,zbqn⟩,
  ⟨zbzj,zbzk,zbqq⟩,
  ⟨zbzl,zbzm,zbqt⟩,
  ⟨zbzn,zbzo,zbqw⟩,
  ⟨zbzr,zbzs,zbzt⟩,
  W.mg_none_of X G zbzu,
  W.mg_none_of X G zbzv,
  W.mg_none_of X G zbzw,
  W.mg_none_of X G zbzx,
  W.mg_none_of X G zbzy,
  W.mg_none_of X G zbzz,
  W.mg_none_of X G zcaa,
  W.mg_none_of X G zcab,
  W.mg_none_of X G zcac,
  W.mg_none_of X G zcad,
  W.mg_none_of X G zcae,
  W.mg_none_of X G zcaf,
  W.mg_none_of X G zcag,
  W.mg_none_of X G zcah,
  ⟨zben,W.mg_of X G zcai⟩⟩ h1 h2 h3⟩
theorem walk {l:W.OpenLaw}{q:Program}{loose:List Str}{XP:(Str->Option Value)->Heap->Prop}{YP:World->Heap->Prop}{d d2:DefRec}{K:Params->W.Frag} (hn:l.most=some 63) (hdf:d.params.defaults=[]) (hrec:d2∈PyProof.Rows.recsOf q) (hd2:d2.name= "_law_door") (hnt:∀w:World,W.noTabs (K w.params)=true)
  (hY:∀(w:World) (h:Heap),YP w h->(K w.params).In h)
  (F:∀(w:World) (mg:Str->Option Value) (fa:Addr) (h:Heap),(K w.params).In h->h.Ns mainGlobals mg->mg d.name=some (.ref fa) →
   ∃(fd:FuncData) (f2:Addr) (fd2:FuncData),mg "_law_door" =some (.ref f2)/\(∃oc od osl,(K w.params).lookup f2=some ⟨oc,od,.func fd2,osl⟩)/\(∀(s:Shared) (u:Value),BindsTo s fd ⟨[u],[]⟩ [("_law_script",u)])/\∀(zcaj:Heap) (cL PL:Addr),fd2.code= .ref cL->W.CodeHd zcaj cL PL->zcaj.BuiltinsAt mg PL->FnOk l.prog w (K w.params) mg zcaj CX0 20 fa fd ["_law_script"] (zU (K w.params) PL)) :
  W.WalkO q loose XP YP l.row.toRowW d [] (fun f vs=>PySem.call f vs) :=
 L2.walk_ofT2 (d2:=d2) (n:=63) (k:=20) (x:= "_law_script") (CX:=fun _=>CX0) (sp:=fun w PL=>zU (K w.params) PL) hn (by decide) hdf ⟨rfl,by decide,by decide⟩ hrec hnt hY (fun w mg fa h a b c=>by rw[hd2];exact F w mg fa h a b c) (fun _ _ _ a ns hl hS hP=>⟨a,ns,rfl,hS,hl,hP,fun _=>rfl⟩) fun _ _ _ _ _ z=>z
end Prf
open PySem PySem.W PyProof.Rows
set_option maxRecDepth 100000 in
set_option maxHeartbeats 0 in
theorem PySem.Challenge.cw_firstout_k34_whole_no_plan_passes_a_cut_holds : PySem.Challenge.rw_firstout_k34_whole_no_plan_passes_a_cut.Holds := by
 w_on;o_law;k_head;(case hw=>w_witness2)
 k_fill
 refine Prf.walk (l:=PySem.Challenge.rw_firstout_k34_whole_no_plan_passes_a_cut) rfl rfl (List.mem_of_find?_eq_some (p:=fun e=>e.name==("_law_door" :Str)) rfl) rfl (fun w=>by kernel_rfl) (fun w h Y=>PySem.W.km_in_of Y) ?F
 case F =>
  intro w mg fa h KX G hmg;refine' Prf.all_mk KX G hmg ?zbeo ?zbep ?zbeq ?zber ?zbes ?zbet ?zbeu ?zbev ?zbew ?zbex ?zbey ?zbez ?zbfa ?zbfb ?zbfc ?zbfd ?zbfe ?zbff ?zbfg ?zbfh ?zbfi ?zbfj ?zbfk ?zbfl ?zbfm ?zbfn ?zbfo ?zbfp ?zbfq ?zbfr ?zbfs ?zbft ?zbfu ?zbfv ?zbfw ?zbfx ?zbfy ?zbfz ?zbga ?zbgb ?zbgc ?zbgd ?zbge ?zbgf ?zbgg ?zbgh ?zbgi ?zbgj ?zbgk ?zbgl ?zbgm ?zbgn ?zbgo ?zbgp ?zbgq ?zbgr ?zbgs ?zbgt ?zbgu ?zbgv ?zbgw ?zbgx ?zbgy ?zbgz ?zbha ?zbhb ?zbhc ?zbhd ?zbhe ?zbhf ?zbhg ?zbhh ?zbhi ?zbhj ?zbhk ?zbhl ?zbhm ?zbhn ?zbho ?zbhp ?zbhq ?zbhr ?zbhs ?zbht ?zbhu ?zbhv ?zbhw ?zbhx ?zbhy ?zbhz ?zbia ?zbib ?zbic ?zbid ?zbie ?zbif ?zbig ?zbih ?zbii ?zbij ?zbik ?zbil ?zbim ?zbin ?zbio ?zbip ?zbiq ?zbir ?zbis ?zbit ?zbiu ?zbiv ?zbiw ?zbix ?zbiy ?zbiz ?zbja ?zbjb ?zbjc ?zbjd ?zbje ?zbjf ?zbjg ?zbjh ?zbji ?zbjj ?zbjk ?zbjl ?zbjm ?zbjn ?zbjo ?zbjp ?zbjq ?zbjr ?zbjs ?zbjt ?zbju ?zbjv ?zbjw ?zbjx ?zbjy ?zbjz ?zbka ?zbkb ?zbkc ?zbkd ?zbke ?zbkf ?zbkg ?zbkh ?zbki ?zbkj ?zbkk ?zbkl ?zbkm ?zbkn ?zbko ?zbkp ?zbkq ?zbkr ?zbks ?zbkt ?zbku ?zbkv ?zbkw ?zbkx ?zbky ?zbkz ?zbla ?zblb ?zblc ?zbld ?zble ?zblf ?zblg ?zblh ?zbli ?zblj ?zblk ?zbll ?zblm ?zbln ?zblo ?zblp ?zblq ?zblr ?zbls ?zblt ?zblu ?zblv ?zblw ?zblx ?zbly ?zblz ?zbma ?zbmb ?zbmc ?zbmd ?zbme ?zbmf ?zbmg ?zbmh ?zbmi ?zbmj ?zbmk ?zbml ?zbmm ?zbmn ?zbmo ?zbmp ?zbmq ?zbmr ?zbms ?zbmt ?zbmu ?zbmv ?zbmw ?zbmx ?zbmy ?zbmz ?zbna ?zbnb ?zbnc ?zbnd ?zbne ?zbnf ?zbng ?zbnh ?zbni ?zbnj ?zbnk ?zbnl ?zbnm ?zbnn ?zbno ?zbnp ?zbnq ?zbnr ?zbns ?zbnt ?zbnu ?zbnv ?zbnw ?zbnx ?zbny ?zbnz ?zboa ?zbob ?zboc ?zbod ?zboe ?zbof ?zbog ?zboh ?zboi ?zboj ?zbok ?zbol ?zbom ?zbon ?zboo ?zbop ?zboq ?zbor ?zbos ?zbot ?zbou ?zbov ?zbow ?zbox ?zboy ?zboz ?zbpa ?zbpb ?zbpc ?zbpd ?zbpe ?zbpf ?zbpg ?zbph ?zbpi ?zbpj ?zbpk ?zbpl ?zbpm ?zbpn ?zbpo ?zbpp ?zbpq ?zbpr ?zbps ?zbpt ?zbpu ?zbpv ?zbpw ?zbpx ?zbpy ?zbpz ?zbqa ?zbqb ?zbqc ?zbqd ?zbqe ?zbqf ?zbqg ?zbqh ?zbqi ?zbqj ?zbqk ?zbql ?zbqm ?zbqn ?zbqo ?zbqp ?zbqq ?zbqr ?zbqs ?zbqt ?zbqu ?zbqv ?zbqw ?zbqx ?zbqy ?zbqz ?zbra ?zbrb ?zbrc ?zbrd ?zbre ?zbrf ?zbrg ?zbrh ?zbri ?zbrj ?zbrk ?zbrl ?zbrm ?zbrn ?zbro ?zbrp ?zbrq ?zbrr ?zbrs ?zbrt ?zbru ?zbrv ?zbrw ?zbrx ?zbry ?zbrz ?zbsa ?zbsb ?zbsc ?zbsd ?zbse ?zbsf ?zbsg ?zbsh ?zbsi ?zbsj ?zbsk ?zbsl ?zbsm ?zbsn ?zbso ?zbsp ?zbsq ?zbsr ?zbss ?zbst ?zbsu ?zbsv ?zbsw ?zbsx ?zbsy ?zbsz ?zbta ?zbtb ?zbtc ?zbtd ?zbte ?zbtf ?zbtg ?zbth ?zbti ?zbtj ?zbtk ?zbtl ?zbtm ?zbtn ?zbto ?zbtp ?zbtq ?zbtr ?zbts ?zbtt ?zbtu ?zbtv ?zbtw ?zbtx ?zbty ?zbtz ?zbua ?zbub ?zbuc ?zbud ?zbue ?zbuf ?zbug ?zbuh ?zbui ?zbuj ?zbuk ?zbul ?zbum ?zbun ?zbuo ?zbup ?zbuq ?zbur ?zbus ?zbut ?zbuu ?zbuv ?zbuw ?zbux ?zbuy ?zbuz ?zbva ?zbvb ?zbvc ?zbvd ?zbve ?zbvf ?zbvg ?zbvh ?zbvi ?zbvj ?zbvk ?zbvl ?zbvm ?zbvn ?zbvo ?zbvp ?zbvq ?zbvr ?zbvs ?zbvt ?zbvu ?zbvv ?zbvw ?zbvx ?zbvy ?zbvz ?zbwa ?zbwb ?zbwc ?zbwd ?zbwe ?zbwf ?zbwg ?zbwh ?zbwi ?zbwj ?zbwk ?zbwl ?zbwm ?zbwn ?zbwo ?zbwp ?zbwq ?zbwr ?zbws ?zbwt ?zbwu ?zbwv ?zbww ?zbwx ?zbwy ?zbwz ?zbxa ?zbxb ?zbxc ?zbxd ?zbxe ?zbxf ?zbxg ?zbxh ?zbxi ?zbxj ?zbxk ?zbxl ?zbxm ?zbxn ?zbxo ?zbxp ?zbxq ?zbxr ?zbxs ?zbxt ?zbxu ?zbxv ?zbxw ?zbxx ?zbxy ?zbxz ?zbya ?zbyb ?zbyc ?zbyd ?zbye ?zbyf ?zbyg ?zbyh ?zbyi ?zbyj ?zbyk ?zbyl ?zbym ?zbyn ?zbyo ?zbyp ?zbyq ?zbyr ?zbys ?zbyt ?zbyu ?zbyv ?zbyw ?zbyx ?zbyy ?zbyz ?zbza ?zbzb ?zbzc ?zbzd ?zbze ?zbzf ?zbzg ?zbzh ?zbzi ?zbzj ?zbzk ?zbzl ?zbzm ?zbzn ?zbzo ?zbzp ?zbzq ?zbzr ?zbzs ?zbzt ?zbzu ?zbzv ?zbzw ?zbzx ?zbzy ?zbzz ?zcaa ?zcab ?zcac ?zcad ?zcae ?zcaf ?zcag ?zcah ?zcai
  (case zbeo|zbep|zbeq|zber|zbes|zbet|zbeu|zbev|zbew|zbex|zbey|zbez|zbfa|zbfb|zbfc|zbfd|zbfe|zbff|zbfg|zbfh|zbfi|zbfj|zbfk|zbfl|zbfm|zbfn|zbfo|zbfp|zbfq|zbfr|zbfs|zbft|zbfu|zbfv|zbfw|zbfx|zbfy|zbfz|zbga|zbgb|zbgc|zbgd|zbge|zbgf|zbgg|zbgh|zbgi|zbgj|zbgk|zbgl|zbgm|zbgn|zbgo|zbgp|zbgq|zbgr|zbgs|zbgt|zbgu|zbgv|zbgw|zbgx|zbgy|zbgz|zbha|zbhb|zbhc|zbhd|zbhe|zbhf|zbhg|zbhh|zbhi|zbhj|zbhk|zbhl|zbhm|zbhn|zbho|zbhp|zbhq|zbhr|zbhs|zbht|zbhu|zbhv|zbhw|zbhx|zbhy|zbhz|zbia|zbib|zbic|zbid|zbie|zbif|zbig|zbih|zbii|zbij|zbik|zbil|zbim|zbin|zbio|zbip|zbiq|zbir|zbis|zbit|zbiu|zbiv|zbiw|zbix|zbiy|zbiz|zbja|zbjb|zbjc|zbjd|zbje|zbjf|zbjg|zbjh|zbji|zbjj|zbjk|zbjl|zbjm|zbjn|zbjo|zbjp|zbjq|zbjr|zbjs|zbjt|zbju|zbjv|zbjw|zbjx|zbjy|zbjz|zbka|zbkb|zbkc|zbkd|zbke|zbkf|zbkg|zbkh|zbki|zbkj|zbkk|zbkl|zbkm|zbkn|zbko|zbkp|zbkq|zbkr|zbks|zbkt|zbku|zbkv|zbkw|zbkx|zbky|zbkz|zbla|zblb|zblc|zbld|zble|zblf|zblg|zblh|zbli|zblj|zblk|zbll|zblm|zbln|zblo|zblp|zblq|zblr|zbls|zblt|zblu|zblv|zblw|zblx|zbly|zblz|zbma|zbmb|zbmc|zbmd|zbme|zbmf|zbmg|zbmh|zbmi|zbmj|zbmk|zbml|zbmm|zbmn|zbmo|zbmp|zbmq|zbmr|zbms|zbmt|zbmu|zbmv|zbmw|zbmx|zbmy|zbmz|zbna|zbnb|zbnc|zbnd|zbne|zbnf|zbng|zbnh|zbni|zbnj|zbnk|zbnl|zbnm|zbnn|zbno|zbnp|zbnq|zbnr|zbns|zbnt|zbnu|zbnv|zbnw|zbnx|zbny|zbnz|zboa|zbob|zboc|zbod|zboe|zbof|zbog|zboh|zboi|zboj|zbok|zbol|zbom|zbon|zboo|zbop|zboq|zbor|zbos|zbot|zbou|zbov|zbow|zbox|zboy|zboz|zbpa|zbpb|zbpc|zbpd|zbpe|zbpf|zbpg|zbph|zbpi|zbpj|zbpk|zbpl|zbpm|zbpn|zbpo|zbpp|zbpq|zbpr|zbps|zbpt|zbpu|zbpv|zbpw|zbpx|zbpy|zbpz|zbqa|zbqb|zbqc|zbqd|zbqe|zbqf|zbqg|zbqh|zbqi|zbqj|zbqk|zbql|zbqm|zbqn|zbqo|zbqp|zbqq|zbqr|zbqs|zbqt|zbqu|zbqv|zbqw|zbqx|zbqy|zbqz|zbra|zbrb|zbrc|zbrd|zbre|zbrf|zbrg|zbrh|zbri|zbrj|zbrk|zbrl|zbrm|zbrn|zbro|zbrp|zbrq|zbrr|zbrs|zbrt|zbru|zbrv|zbrw|zbrx|zbry|zbrz|zbsa|zbsb|zbsc|zbsd|zbse|zbsf|zbsg|zbsh|zbsi|zbsj|zbsk|zbsl|zbsm|zbsn|zbso|zbsp|zbsq|zbsr|zbss|zbst|zbsu|zbsv|zbsw|zbsx|zbsy|zbsz|zbta|zbtb|zbtc|zbtd|zbte|zbtf|zbtg|zbth|zbti|zbtj|zbtk|zbtl|zbtm|zbtn|zbto|zbtp|zbtq|zbtr|zbts|zbtt|zbtu|zbtv|zbtw|zbtx|zbty|zbtz|zbua|zbub|zbuc|zbud|zbue|zbuf|zbug|zbuh|zbui|zbuj|zbuk|zbul|zbum|zbun|zbuo|zbup|zbuq|zbur|zbus|zbut|zbuu|zbuv|zbuw|zbux|zbuy|zbuz|zbva|zbvb|zbvc|zbvd|zbve|zbvf|zbvg|zbvh|zbvi|zbvj|zbvk|zbvl|zbvm|zbvn|zbvo|zbvp|zbvq|zbvr|zbvs|zbvt|zbvu|zbvv|zbvw|zbvx|zbvy|zbvz|zbwa|zbwb|zbwc|zbwd|zbwe|zbwf|zbwg|zbwh|zbwi|zbwj|zbwk|zbwl|zbwm|zbwn|zbwo|zbwp|zbwq|zbwr|zbws|zbwt|zbwu|zbwv|zbww|zbwx|zbwy|zbwz|zbxa|zbxb|zbxc|zbxd|zbxe|zbxf|zbxg|zbxh|zbxi|zbxj|zbxk|zbxl|zbxm|zbxn|zbxo|zbxp|zbxq|zbxr|zbxs|zbxt|zbxu|zbxv|zbxw|zbxx|zbxy|zbxz|zbya|zbyb|zbyc|zbyd|zbye|zbyf|zbyg|zbyh|zbyi|zbyj|zbyk|zbyl|zbym|zbyn|zbyo|zbyp|zbyq|zbyr|zbys|zbyt|zbyu|zbyv|zbyw|zbyx|zbyy|zbyz|zbza|zbzb|zbzc|zbzd|zbze|zbzf|zbzg|zbzh|zbzi|zbzj|zbzk|zbzl|zbzm|zbzn|zbzo|zbzp|zbzq|zbzr|zbzs|zbzt|zbzu|zbzv|zbzw|zbzx|zbzy|zbzz|zcaa|zcab|zcac|zcad|zcae|zcaf|zcag|zcah|zcai=>k_is)
