import PyProof.Rows.All
import Wide.All
import OpenK.AllK
import Wide.FinOn
import Lean
import PyProof.EqAt
import PyProof.EqKinds
import PyProof.TupleCall
import KE.KSortTup
import PyProof.Rows.DictUnroll
import PyProof.DictItems
import KE.LcSums
import PyProof.IsiH_list
import KE.KDictOf
import PyProof.DictWalks
import PyProof.ListRange
import PyProof.EnumStmt
import PyProof.EnumMake
import KE.KDictSum
import PyProof.StrOps2
import PyProof.Rows.CallKwBuiltin
import KE.KRevSl
import PySem.Challenge.RW_firstout_k65_whole_one_behind_the_other
namespace PySem.W.Fast
def tw11595532631919087008:=()
def tw18345231240357786947:=()
def tw9743575274899175875:=()
def tw2228577246081871363:=()
def tw1084902697949305443:=()
def tw8618554198933555684:=()
def tw10232038374523097125:=()
def tw6097790590530148006:=()
def tw1522012628809617799:=()
def tw13314581315268585800:=()
def tw1399036681595870728:=()
def tw16461978517036824522:=()
def tw3258534020043825997:=()
def tw6401639262374522160:=()
def tw11018627982289929712:=()
def tw1394757941053006800:=()
def tw4106209707861186705:=()
def tw9374043450379947953:=()
def tw13576626378039618002:=()
def tw14058766097329763379:=()
def tw10869238625716282969:=()
def tw2313152987555228377:=()
def tw18071788407157575418:=()
def tw8061783355455741918:=()
def tw16410947580938414671:=()
def tw4125557420034278200:=()
def tw2434355821396682464:=()
def tw4182203854366368171:=()
def tw9382685605051721143:=()
def tw10802982882641408109:=()
def tw8308658437818150085:=()
def tw11714554611943635916:=()
def tw6330170642777842144:=()
def tw17106570162305195549:=()
def tw10651082783201931964:=()
def tw12826229714904651188:=()
def tw11860992317479370441:=()
def tw5008859109596924179:=()
def tw11215858583659248875:=()
def tw12729233735161531107:=()
def tw1043373177864129477:=()
def tw12210933598033327716:=()
def tw5643958457812243013:=()
def tw295467346548967935:=()
def tw7107073072843028337:=()
def tw12410097632689997903:=()
def tw9679529240354487044:=()
def tw3457876316936719390:=()
def tw5911492408152626051:=()
def tw7872061201070509218:=()
def tw8592247738306643462:=()
def tw633120627809590154:=()
def tw10836156817516118543:=()
def tw63062836608467440:=()
def tw8037018596236039714:=()
def tw5520014536948233900:=()
def tw232464365080958246:=()
def tw11075618085495584069:=()
def tw9676512179707972855:=()
def tw14263931024422431833:=()
def tw9180637242832206607:=()
def tw14551772748654469902:=()
def tw10223390137029084057:=()
def tw15842766293302142994:=()
def tw9222329286803253614:=()
def tw15666437540695448375:=()
def tw755617500213269662:=()
def tw14340268378282643814:=()
def tw2785870558787651780:=()
def tw13718894667098679247:=()
def tw18181739125729937125:=()
def tw3745896509627165202:=()
def tw11129301506561177180:=()
def tw4760943477988234003:=()
def tw4974867936433247701:=()
def tw14074927639741007254:=()
def tw4123230185323690786:=()
def tw16792328060994542393:=()
def tw16937228693653471540:=()
def tw3199252933609416068:=()
def tw5949300698530786570:=()
def tw6106094757914842418:=()
def tw3829701390608846055:=()
def tw2382057188502602296:=()
def tw6558536790984043781:=()
def tw17322895852210897226:=()
def tw3792554060464240903:=()
def tw15812965007944586993:=()
def tw431771436761328912:=()
def tw9735292902050709712:=()
def tw1313029837581011808:=()
def tw15516315040735266126:=()
def tw5676369522432906509:=()
def tw10915593325534592774:=()
def tw17170268843405346838:=()
def tw12750038679920401325:=()
def tw479582221616959115:=()
def tw2682718016345174732:=()
def tw15808541233091284422:=()
def tw3358967626740509014:=()
def tw6511560818270553448:=()
def tw14542474583268598925:=()
def tw4040603203154535769:=()
def tw2375678159531901381:=()
def tw3285731518776331072:=()
def tw17397097215791448325:=()
def tw7172921953588834243:=()
def tw14917535892492436026:=()
def tw5841981789530949576:=()
def tw15429804888317613317:=()
def tw4180194860211576561:=()
def tw4261857882733834252:=()
def tw6054213589799966793:=()
def tw5192152377241850049:=()
def tw3637292525349270247:=()
def tw8046483235794005612:=()
def tw3836680555134588547:=()
def tw9303229359760489972:=()
def tw8702791168506991983:=()
def tw9599269598520364540:=()
def tw12768006180579212207:=()
def tw10365764518420820853:=()
def tw4749798350097383212:=()
def tw5628812729469822011:=()
def tw9458801335210923767:=()
def tw17942317531670311988:=()
def tw6173466943484788896:=()
def tw2356622151521357798:=()
def tw5973630240407093286:=()
def tw9342236970910289589:=()
def tw1248729415745406042:=()
def tw2804945051364107471:=()
def tw18354730789388496553:=()
def tw8015371757128975218:=()
def tw5941227503478292189:=()
def tw14070280502882764499:=()
def tw5308764167787865796:=()
def tw11935754035132016219:=()
def tw4439251867799018643:=()
def tw5418273572278421019:=()
def tw7235751350915138084:=()
def tw10253939664866229847:=()
def tw18099918995880943069:=()
def tw7899173074241785413:=()
def tw16066957304522043842:=()
def tw15366573864347417823:=()
def tw10683721955318677176:=()
def tw3652931173658888336:=()
def tw18312523186096609656:=()
def tw12234763169614870645:=()
def tw10598208468293329959:=()
def tw1183317907103916210:=()
def tw10471868920959857616:=()
def tw10248663401135051943:=()
def tw7067997258033289735:=()
def tw13719612567143926363:=()
def tw16997191099973511625:=()
def tw14939933069207459198:=()
def tw13641869647545099107:=()
def tw10555979639226650759:=()
def tw414349103801146026:=()
def tw8881416957630101963:=()
def tw4294256652575932178:=()
def tw10449725252147618710:=()
def tw14709094287341434566:=()
def tw13028958955742424714:=()
def tw175979085888073526:=()
def tw437610134561495676:=()
def tw3033736422446200573:=()
def tw2642620825716887985:=()
def tw16787728102116463136:=()
def tw317304697024045203:=()
def tw13416914839759376433:=()
def tw5722127647341107408:=()
def tw5589143145500652375:=()
def tw14101801274808540926:=()
def tw4717895656804502323:=()
def tw13663881209209919760:=()
def tw11235515439551425872:=()
def tw15700743020827502831:=()
def tw9051027996181853677:=()
def tw9491267577921908412:=()
def tw5998281683061943469:=()
def tw321156498389398752:=()
def tw17435792236202015189:=()
def tw6482028734671788626:=()
def tw5060040355179625793:=()
def tw9887696992956345571:=()
def tw880039964921315051:=()
def tw14365686549576495400:=()
def tw2648854998953443188:=()
def tw2012363857587606631:=()
def tw13978662614100420290:=()
def tw2194234646424185873:=()
def tw10593138677875490908:=()
def tw14074769290658961349:=()
def tw16659916395130831274:=()
def tw10448033373091193397:=()
def tw17682312839032803455:=()
def tw15672932992933594092:=()
def tw10538918773456178731:=()
def tw16501087262914387098:=()
def tw7034709036974647492:=()
def tw15427398666678078171:=()
def tw11378131873566739755:=()
def tw15048018752619456655:=()
def tw9113497663079465081:=()
end PySem.W.Fast
set_option compiler.extract_closed false
local macro_rules| `(tactic| walk_at"oi")=> `(tactic| first|exact Or.inl rfl|exact Or.inr rfl)
set_option Elab.async false
set_option linter.all false
set_option maxRecDepth 100000
namespace L2
open PySem PySem.Spec PyProof.Rows
abbrev Key:=Sum Int Str
def wV:Key->Value->Bool
 | .inl k,v=>Value.isInt k v
 | .inr x,v=>Value.isStrOf x v
def aCu (w:World):Key->Int
 | .inl k=>hashInt k
 | .inr x=>hashStr w x
theorem c4:∀{k:Key}{v:Value},wV k v=true->(∃i t,k=Sum.inl i/\v=Value.int i t)∨(∃x t,k=Sum.inr x/\v=Value.str x t)
 | .inl i,v,h=>by
  obtain⟨t,e⟩:=Value.isInt_shape (k:=i) (v:=v) h;exact .inl ⟨i,t,rfl,e⟩
 | .inr x,v,h=>by
  obtain⟨t,e⟩:=Value.isStrOf_shape (x:=x) (v:=v) h;exact .inr ⟨x,t,rfl,e⟩
theorem P5 (i:Int)(t:Tok):wV (.inl i) (.int i t)=true:=by simp[wV,Value.isInt]
theorem N6 (x:Str)(t:Tok):wV (.inr x) (.str x t)=true:=by simp[wV,Value.isStrOf]
theorem aAx (a b:Int):decide ((Sum.inl a:Key)=Sum.inl b)=(a==b):=by
 by_cases e:a=b
 ·subst e;simp
 ·have h:¬(Sum.inl a:Key)=Sum.inl b:=fun q=>e (Sum.inl.inj q);rw[decide_eq_false h];exact(beq_eq_false_iff_ne.mpr e).symm
theorem aA7 (a b:Str):decide ((Sum.inr a:Key)=Sum.inr b)=decide (a=b):=by
 by_cases e:a=b
 ·subst e;simp
 ·have h:¬(Sum.inr a:Key)=Sum.inr b:=fun q=>e (Sum.inr.inj q);rw[decide_eq_false h,decide_eq_false e]
theorem ZS (a:Int)(b:Str):decide ((Sum.inl a:Key)=Sum.inr b)=false:=decide_eq_false (fun q=>nomatch q)
theorem aAt (a:Str)(b:Int):decide ((Sum.inr a:Key)=Sum.inl b)=false:=decide_eq_false (fun q=>nomatch q)
def bQ (prog:Program)(w:World):PySem.KeyKind prog w Key where
 is:=wV
 hash:=aCu w
 inj:=fun v a b ha hb=>by
  rcases c4 ha with⟨i,t,rfl,rfl⟩|⟨x,t,rfl,rfl⟩
  ·rcases c4 hb with⟨j,u,rfl,e⟩|⟨y,u,rfl,e⟩
   ·injection e with e1 _;rw[e1]
   ·exact nomatch e
  ·rcases c4 hb with⟨j,u,rfl,e⟩|⟨y,u,rfl,e⟩
   ·exact nomatch e
   ·injection e with e1 _;rw[e1]
 byValue:=fun k v h=>by
  rcases c4 h with⟨i,t,rfl,rfl⟩|⟨x,t,rfl,rfl⟩<;>rfl
 pyHash:=fun hv h=>by
  rcases c4 hv with⟨i,t,rfl,rfl⟩|⟨x,t,rfl,rfl⟩
  ·exact wpAny_pyHash_int h
  ·exact wpAny_pyHash_str h
 eqBool:=fun hu hv h=>by
  rcases c4 hu with⟨i,t,rfl,rfl⟩|⟨x,t,rfl,rfl⟩
  ·rcases c4 hv with⟨j,u,rfl,rfl⟩|⟨y,u,rfl,rfl⟩
   ·rw[aAx]at h;exact wpAny_eqBool_int h
   ·rw[ZS]at h;exact SeqAt.EqAt.int_str i t y u _ _ _ _ h
  ·rcases c4 hv with⟨j,u,rfl,rfl⟩|⟨y,u,rfl,rfl⟩
   ·rw[aAt]at h;exact SeqAt.EqAt.str_int x t j u _ _ _ _ h
   ·rw[aA7]at h;exact wpAny_eqBool_str h
 «strs»:=fun k x t v h=>by
  rcases c4 h with⟨i,u,rfl,e⟩|⟨y,u,rfl,e⟩
  ·exact nomatch e
  ·injection e with e1 _;subst e1;cases v<;>rfl
theorem I0 (prog:Program)(w:World)(i:Int)(t:Tok):(bQ prog w).is (.inl i) (.int i t)=true:=P5 i t
theorem IU (prog:Program)(w:World)(x:Str)(t:Tok):(bQ prog w).is (.inr x) (.str x t)=true:=N6 x t
end L2
namespace L2
open PySem PySem.Spec PyProof.Rows
inductive V where
 | non|bl (b:Bool)|int (i:Int)|str (x:Str)|byt (b:Array UInt8)|flt (b:UInt64)|ref (a:Addr)|ty (n:String)
 deriving DecidableEq
def RelV:V->Value->Prop
 | .non,u=>u=Value.none
 | .bl b,u=>u=Value.bool b
 | .int i,u=>∃t,u=Value.int i t
 | .str x,u=>∃t,u=Value.str x t
 | .byt b,u=>∃t,u=Value.bytes b t
 | .flt b,u=>∃t,u=Value.float b t
 | .ref a,u=>u=Value.ref a
 | .ty n,u=>u=Value.type n
abbrev Vals:List V->List Value->Prop:=Paired RelV
theorem Vals.length {xs:List V}{us:List Value} (r:Vals xs us):xs.length=us.length:=Paired.length r
theorem Vals.get:∀{xs:List V}{us:List Value}{i:Nat}{x:V},Vals xs us->xs[i]? =some x->∃u,us[i]? =some u/\RelV x u
 | _,_,_,_,.nil,e=>by simp at e
 | _,_,0,_,.cons r _,e=>by simp at e;subst e;exact⟨_,rfl,r⟩
 | _,_,i+1,x,.cons _ t,e=>by
  obtain⟨u,h1,h2⟩:=Vals.get (i:=i) (x:=x) t (by simpa using e);exact⟨u,by simpa using h1,h2⟩
theorem Vals.append:∀{xs ys:List V}{us ws:List Value},Vals xs us->Vals ys ws->Vals (xs++ys) (us++ws)
 | _,_,_,_,.nil,s=>s
 | _,_,_,_,.cons r t,s=> .cons r (Vals.append t s)
theorem Vals.take:∀{xs:List V}{us:List Value} (n:Nat),Vals xs us->Vals (xs.take n) (us.take n)
 | _,_,0,_=> .nil
 | _,_,_+1,.nil=> .nil
 | _,_,n+1,.cons r t=> .cons r (Vals.take n t)
theorem Vals.drop:∀{xs:List V}{us:List Value} (n:Nat),Vals xs us->Vals (xs.drop n) (us.drop n)
 | _,_,0,r=>r
 | _,_,_+1,.nil=> .nil
 | _,_,n+1,.cons _ t=>Vals.drop n t
def RelO:Option V->Option Value->Prop
 | some v,some u=>RelV v u
 | none,none=>True
 | _,_=>False
def KV {κ:Type}:List (κ×V)->List (κ×Value)->Prop:=Paired fun (p:κ×V) (q:κ×Value)=>p.1=q.1/\RelV p.2 q.2
def kV:Key->V
 | .inl i=> .int i
 | .inr x=> .str x
inductive HO where
  | lst (xs:List V)
  | tup (xs:List V)
  | dK (kvs:List (Key×V))|dT (kvs:List (List Key×V))
  | set (S:Int->Bool) (n:Nat)
  | ins (C dx:Addr) (fs:List (Str×V))
  | own (x:Addr)
  | xd (fs:List (Str×V))
  | met (f x:Addr)
  | rng (lo hi:Int)
  | frz (o:Obj) (u:HO)
  | tbl (ps:Array Value)
  | ext (φ:Heap->Prop)
abbrev Hp:=Addr->Option HO
def upd (H:Hp)(a:Addr)(o:HO):Hp:=fun b=>if b=a then some o else H b
theorem bC {H:Hp}{a:Addr}{o:HO}:upd H a o a=some o:=by unfold upd;rw[if_pos rfl]
theorem aL {H:Hp}{a b:Addr}{o:HO} (h:b≠a):upd H a o b=H b:=by unfold upd;rw[if_neg h]
theorem YJ {H:Hp}{a:Addr}{o u:HO}:upd (upd H a o) a u=upd H a u:=by
 funext b;unfold upd;split<;>rfl
theorem aBP {H:Hp}{a b:Addr}{o u:HO} (h:H a=some o) (h':H b=some u) (d:o≠u):a≠b:=by
 intro e;subst e;rw[h]at h';exact d (Option.some.inj h')
theorem bG {H:Hp}{a b:Addr}{o:HO} (h:H a=some o) (h':H b=none):a≠b:=by
 intro e;subst e;rw[h]at h';cases h'
section
variable (P:Program)(w:World)
def ObjOk (H:Hp)(h:Heap)(a:Addr):HO->Prop
 | .lst xs=>xs.length<=sizeLine/\∃(its:List Value) (n:Nat),Vals xs its/\h.get? a=some { cls:= .type "list",data:= .seq its.toArray n }
 | .tup xs=>xs.length<=sizeLine/\∃its:List Value,Vals xs its/\IsTup h a its.toArray
 | .dK kvs=>kvs.length<=sizeLine/\(a==sysModules)=false/\∃vs,KV kvs vs/\h.DictOf (bQ P w) a vs
 | .dT kvs=>kvs.length<=sizeLine/\(a==sysModules)=false/\∃xs:List (List Key×Addr×Value),
   Paired (fun (p:List Key×V) (q:List Key×Addr×Value)=>p.1=q.1/\H q.2.1=some (.tup (p.1.map kV))/\RelV p.2 q.2.2) kvs xs ∧
   ∃o es ep,h.get? a=some o/\o.ExactDict/\o.data= .dict es ep/\es.toList=xs.map (entryOfKey (tupleKind (bQ P w)))/\(xs.map (·.1)).Nodup
 | .set S n=>h.SetOf (intKind P w) a S n
 | .ins C dx fs=>H dx=some (.own a)/\fs.length<=1000/\dx≠a/\h.get? a=some (PySem.W.instObj C dx) ∧
   ∃mA,h.Ns1 dx mA/\(∀f,RelO (fs.lookup f) (mA f))/\PySem.Within mA (fs.map (·.1))
 | .own _=>∃o,h.get? a=some o
 | .xd fs=>∃mA,h.Ns1 a mA/\∀f,RelO (fs.lookup f) (mA f)
 | .rng lo hi=>∃t u v,h.get? a=some { cls:= .type "range",data:= .fields #[.int lo t,.int hi u,.int 1 v] }
 | .frz o u=>h.get? a=some o/\ObjOk H h a u
 | .tbl ps=>h.get? a=some { cls:= .none,data:= .fields ps }
 | .met f x=>h.get? a=some (PySem.W.methodObj (.ref f) (.ref x))
 | .ext φ=>φ h/\(∃o,h.get? a=some o)/\∀h1 h2:Heap,φ h1->(∀o,h1.get? a=some o->h2.get? a=some o)->φ h2
def HOk (H:Hp)(h:Heap):Prop:=∀a o,H a=some o->ObjOk P w H h a o
end
section
variable {P:Program}{w:World}{H H':Hp}{h h':Heap}{a:Addr}{o:HO}
theorem ObjOk.lt (x:ObjOk P w H h a o):a<h.objs.size:=by
 cases o with
 | lst xs=>obtain⟨_,_,_,_,e⟩:=x;exact Heap.lt_size e
 | tup xs=>obtain⟨_,_,_,p⟩:=x;exact p.lt
 | dK kvs=>obtain⟨_,_,_,_,o,_,_,e,_⟩:=x;exact Heap.lt_size e
 | dT kvs=>obtain⟨_,_,_,_,o,_,_,e,_⟩:=x;exact Heap.lt_size e
 | set S n=>obtain⟨o,_,_,_,e,_⟩:=x;exact Heap.lt_size e
 | ins C dx fs=>obtain⟨_,_,_,e,_⟩:=x;exact Heap.lt_size e
 | own y=>obtain⟨_,e⟩:=x;exact Heap.lt_size e
 | xd fs=>obtain⟨_,⟨_,_,_,e,_⟩,_⟩:=x;exact Heap.lt_size e
 | rng lo hi=>obtain⟨_,_,_,e⟩:=x;exact Heap.lt_size e
 | frz ob u=>obtain⟨e,_⟩:=x;exact Heap.lt_size e
 | tbl ps=>exact Heap.lt_size (show h.get? a=some _ from x)
 | met f y=>exact Heap.lt_size (show h.get? a=some _ from x)
 | ext φ=>obtain⟨_,⟨_,e⟩,_⟩:=x;exact Heap.lt_size e
theorem Paired.mapP {α β:Type}{F G:α->β->Prop}:∀{l₁:List α}{l₂:List β},Paired F l₁ l₂->(∀a b,F a b->G a b)->Paired G l₁ l₂
 | _,_,.nil,_=> .nil
 | _,_,.cons r t,f=> .cons (f _ _ r) (Paired.mapP t f)
theorem Paired.imp' {α β:Type}{F G:α->β->Prop} (f:∀a b,F a b->G a b) {l₁:List α}{l₂:List β} (r:Paired F l₁ l₂):Paired G l₁ l₂:=Paired.mapP r f
theorem ObjOk.stay (x:ObjOk P w H h a o)(k:∀b u,(b=a∨H b=some (.own a))->h.get? b=some u->h'.get? b=some u)
  (ho:∀b,H b=some (.own a)->H' b=some (.own a))(ht:∀b xs,H b=some (.tup xs)->H' b=some (.tup xs)):ObjOk P w H' h' a o:=by
 induction o with
 | lst xs=>obtain⟨z,its,n,r,e⟩:=x;exact⟨z,its,n,r,k _ _ (.inl rfl) e⟩
 | tup xs=>obtain⟨z,its,r,ob,e,c⟩:=x;exact⟨z,its,r,ob,k _ _ (.inl rfl) e,c⟩
 | dK kvs=>obtain⟨z,y,vs,r,ob,es,ep,e,c⟩:=x;exact⟨z,y,vs,r,ob,es,ep,k _ _ (.inl rfl) e,c⟩
 | dT kvs =>
  obtain⟨z,y,xs,r,ob,es,ep,e,c⟩:=x;exact⟨z,y,xs,Paired.mapP r fun p q z=>⟨z.1,ht _ _ z.2.1,z.2.2⟩,ob,es,ep,k _ _ (.inl rfl) e,c⟩
 | set S n=>obtain⟨ob,es,ep,t,e,c⟩:=x;exact⟨ob,es,ep,t,k _ _ (.inl rfl) e,c⟩
 | ins C dx fs =>
  obtain⟨d,z,ne,e,mA,⟨od,es,ep,e2,c⟩,r⟩:=x;exact⟨ho _ d,z,ne,k _ _ (.inl rfl) e,mA,⟨od,es,ep,k _ _ (.inr d) e2,c⟩,r⟩
 | own y=>obtain⟨ob,e⟩:=x;exact⟨ob,k _ _ (.inl rfl) e⟩
 | xd fs=>obtain⟨mA,⟨od,es,ep,e,c⟩,r⟩:=x;exact⟨mA,⟨od,es,ep,k _ _ (.inl rfl) e,c⟩,r⟩
 | rng lo hi=>obtain⟨t,u,v,e⟩:=x;exact⟨t,u,v,k _ _ (.inl rfl) e⟩
 | frz ob u ih=>obtain⟨e,q⟩:=x;exact⟨k _ _ (.inl rfl) e,ih q⟩
 | tbl ps =>
  have e:h.get? a=some { cls:= .none,data:= .fields ps }:=x;show h'.get? a=some { cls:= .none,data:= .fields ps };exact k a _ (.inl rfl) e
 | met f y =>
  have e:h.get? a=some (PySem.W.methodObj (.ref f) (.ref y)):=x;show h'.get? a=some (PySem.W.methodObj (.ref f) (.ref y));exact k a _ (.inl rfl) e
 | ext φ=>obtain⟨p,⟨o,e⟩,st⟩:=x;exact⟨st _ _ p fun o q=>k _ _ (.inl rfl) q,⟨o,k _ _ (.inl rfl) e⟩,st⟩
theorem HOk.lt (x:HOk P w H h)(e:H a=some o):a<h.objs.size:=(x a o e).lt
theorem HOk.fresh (x:HOk P w H h)(e:h.objs.size<=a):H a=none:=by
 cases q:H a with
 | none=>rfl
 | some u=>exact absurd (Nat.lt_of_lt_of_le (x.lt q) e) (Nat.lt_irrefl _)
theorem HOk.kept (x:HOk P w H h)(k:∀b u,h.get? b=some u->h'.get? b=some u):HOk P w H h':=fun a o e =>
 (x a o e).stay (fun b u _ q=>k b u q) (fun _ q=>q) fun _ _ q=>q
theorem HOk.laid (x:HOk P w H h)(k:∀b u,h.get? b=some u->h'.get? b=some u)(hp:h.objs.size<=a)(new:ObjOk P w (upd H a o) h' a o):HOk P w (upd H a o) h':=fun b u e=>by
 have hn:=x.fresh hp
 by_cases hb:b=a
 ·subst hb;rw[bC]at e;cases e;exact new
 ·rw[aL hb]at e;exact(x b u e).stay (fun c v _ q=>k c v q) (fun c q=>by rw[aL (bG q hn)];exact q) fun c xs q=>by rw[aL (bG q hn)];exact q
end
def Rd (H:Hp)(a:Addr)(u:HO):Prop:=H a=some u∨∃o,H a=some (.frz o u)
theorem Rd.ok {P:Program}{w:World}{H:Hp}{h:Heap}{a:Addr}{u:HO} (r:Rd H a u) (x:HOk P w H h):ObjOk P w H h a u:=by
 rcases r with r|⟨o,r⟩
 ·exact x a u r
 ·obtain⟨_,q⟩:=x a _ r;exact q
def Mut:Option HO->Prop
 | some (.lst _)=>True
 | some (.dK _)=>True
 | some (.dT _)=>True
 | some (.set _ _)=>True
 | some (.ins _ _ _)=>True
 | some (.ext _)=>True
 | _=>False
section
variable {P:Program}{w:World}{H:Hp}{h h':Heap}{x e:Addr}{o':HO}
theorem HOk.write (ok:HOk P w H h)(mu:Mut (H x))(he:e=x∨H e=some (.own x))(k:∀b u,b≠e->h.get? b=some u->h'.get? b=some u)(heo:∃u,h'.get? e=some u)
  (new:ObjOk P w (upd H x o') h' x o'):HOk P w (upd H x o') h':=fun b u q=>by
 have nown:∀c y,H c=some (.own y)->c≠x:=fun c y r z=>by subst z;rw[r]at mu;exact mu
 have ntup:∀c xs,H c=some (.tup xs)->c≠x:=fun c xs r z=>by subst z;rw[r]at mu;exact mu
 by_cases hb:b=x
 ·subst hb;rw[bC]at q;cases q;exact new
 ·rw[aL hb]at q
  by_cases hbe:b=e
  ·have q':H b=some (.own x):=by
    rcases he with z|z
    ·exact absurd (hbe.trans z) hb
    ·rw[hbe];exact z
   rw[q]at q';cases q';obtain⟨v,hv⟩:=heo;exact⟨v,by rw[hbe];exact hv⟩
  ·refine(ok b u q).stay (fun c v hc r=>k c v ?_ r) (fun c r=>by rw[aL (nown c b r)];exact r) fun c xs r=>by rw[aL (ntup c xs r)];exact r
   rcases hc with rfl|hc
   ·exact hbe
   ·rintro rfl;rcases he with z|z
    ·exact nown c b hc z
    ·rw[hc]at z;cases z;exact hb rfl
end
structure Un (fs ex:List Addr)(H H':Hp)(h h':Heap):Prop where
 keep:∀b o,h.get? b=some o->H b=none->b∉fs->b∉ex->h'.get? b=some o
 slot:∀b o,h.get? b=some o->H b=none->b∈fs->b∉ex->∃sl,h'.get? b=some { o with slots:=sl }
 free:∀b o,h.get? b=some o->H b=none->b∉ex->H' b=none
 there:∀b o,h.get? b=some o->b∉ex->∃o',h'.get? b=some o'
 tups:∀b xs,H b=some (.tup xs)->H' b=some (.tup xs)
 frzs:∀b o u,H b=some (.frz o u)->H' b=some (.frz o u)
 tbls:∀b ps,H b=some (.tbl ps)->∃more,H' b=some (.tbl (ps++more))
section
variable {fs fs' ex ex':List Addr}{H H1 H2:Hp}{h h1 h2 h':Heap}{a x e:Addr}{o:HO}
theorem Un.any (u:Un fs ex H H1 h h1){b:Addr}{ob:Obj} (q:h.get? b=some ob) (n:H b=none) (hx:b∉ex):∃sl,h1.get? b=some { ob with slots:=sl }:=by
 by_cases hb:b∈fs
 ·exact u.slot b ob q n hb hx
 ·exact⟨ob.slots,u.keep b ob q n hb hx⟩
theorem Un.kept (k:∀b u,h.get? b=some u->h'.get? b=some u):Un fs ex H H h h' :=
 ⟨fun b ob q _ _ _=>k b ob q,fun b ob q _ _ _=>⟨ob.slots,k b ob q⟩,fun _ _ _ n _=>n,fun b ob q _=>⟨ob,k b ob q⟩,fun _ _ q=>q,fun _ _ _ q=>q,fun _ ps q=>⟨#[],by rw[q];simp⟩⟩
theorem Un.refl:Un fs ex H H h h:=Un.kept fun _ _ q=>q
theorem Un.laid (k:∀b u,h.get? b=some u->h'.get? b=some u)(hp:h.objs.size<=a)(hn:H a=none):Un fs ex H (upd H a o) h h' where
 keep:=fun b u q _ _ _=>k b u q
 slot:=fun b u q _ _ _=>⟨u.slots,k b u q⟩
 free:=fun b u q n _=>by rw[aL (Nat.ne_of_lt (Nat.lt_of_lt_of_le (Heap.lt_size q) hp))];exact n
 there:=fun b u q _=>⟨u,k b u q⟩
 tups:=fun b xs q=>by rw[aL (bG q hn)];exact q
 frzs:=fun b u xs q=>by rw[aL (bG q hn)];exact q
 tbls:=fun b ps q=>⟨#[],by rw[aL (bG q hn),q];simp⟩
theorem Un.write (mu:Mut (H x))(he:e=x∨H e=some (.own x))(k:∀b u,b≠e->h.get? b=some u->h'.get? b=some u)(heo:∃u,h'.get? e=some u):Un fs ex H (upd H x o) h h':=by
 have hx:∀b,H b=none->b≠x:=fun b n z=>by subst z;rw[n]at mu;exact mu
 have hb:∀b,H b=none->b≠e:=fun b n z=>by
  subst z;rcases he with r|r
  ·exact hx b n r
  ·rw[n]at r;cases r
 have hm:∀b u,H b=some u->¬Mut (some u)->b≠x:=fun b u q nm z=>by subst z;rw[q]at mu;exact nm mu
 refine⟨fun b u q n _ _=>k b u (hb b n) q,fun b u q n _ _=>⟨u.slots,k b u (hb b n) q⟩,fun b u q n _=>by rw[aL (hx b n)];exact n,fun b u q _=> ?_,
  fun b xs q=>by rw[aL (hm b _ q fun z=>z)];exact q,fun b u xs q=>by rw[aL (hm b _ q fun z=>z)];exact q,fun b ps q=>⟨#[],by rw[aL (hm b _ q fun z=>z),q];simp⟩⟩
 by_cases hbe:b=e
 ·subst hbe;exact heo
 ·exact⟨u,k b u hbe q⟩
end
def trk (h:Heap)(H:Hp):List Addr:=(List.range h.objs.size).filter fun a=>(H a).isSome
def o8 (h:Heap)(H:Hp):Heap:=PySem.W.hideAll h (trk h H)
theorem O6 (h:Heap)(H:Hp):(o8 h H).objs.size=h.objs.size:=PySem.W.hideAll_size _ _
theorem SS {h:Heap}{H:Hp}{b:Addr}{o:Obj} (e:h.get? b=some o) (n:H b=none):(o8 h H).get? b=some o :=
 PySem.W.hideAll_get _ e fun hm=>by
  have q:(H b).isSome=true:=(List.mem_filter.mp hm).2;rw[n]at q;simp at q
theorem XZ {h:Heap}{H:Hp}{b:Addr}{o:Obj} (e:(o8 h H).get? b=some o):h.get? b=some o/\H b=none:=by
 have e':h.get? b=some o:=PySem.W.of_hideAll (trk h H) e;refine⟨e',?_⟩;cases q:H b with
 | none=>rfl
 | some x =>
  have hm:b∈trk h H:=List.mem_filter.mpr ⟨List.mem_range.mpr (Heap.lt_size e'),by simp[q]⟩;have z:(o8 h H).get? b=none:=PySem.W.hideAll_none (trk h H) hm;rw[z]at e;cases e
end L2
namespace L2
open PySem PySem.Spec PyProof.Rows
structure Mod (K:PySem.W.Frag)(mg:Str->Option Value)(base:Heap):Prop where
 kin:K.In base
 glob:base.Ns mainGlobals mg
 blt:∃mb,base.Ns builtinsNs mb/\∀x:Str,x≠ "__name__" ->mb x=bootBuiltins x
 nolimit:base.NoLimit
structure Cx where
 prog:Program
 w:World
 K:PySem.W.Frag
 mg:Str->Option Value
 base:Heap
 A:Around
 N:List Str
 s₀:Shared
 H₀:Hp
 env:Env
 outer:List Env
 stack:List Env
 ex:List Addr
 fn:Str->Bool
 calm:Bool
 pn:List (Addr×Obj)
 xe:Value->Shared->Prop
def frs (l:List Env):List Addr:=l.filterMap (·.frame)
abbrev Cx.fs (X:Cx):List Addr:=frs X.outer
def Vis (sc:Scope)(x:Str):Prop:=sc.names.lookup x=some .local∨sc.names.lookup x=some .cell∨sc.names.lookup x=some .free
def Loc (sc:Scope)(x:Str):Prop:=sc.names.lookup x=some .local∨sc.names.lookup x=some .cell
def aCB (env:Env)(h:Heap)(m:Str->Option Value)(x:Str)(u:Value):Prop :=
 (env.kindOf x=some .local/\m x=some u)∨((env.kindOf x=some .cell∨env.kindOf x=some .free)/\∃c,env.cells.lookup x=some c/\h.IsCell c (some u))
structure Cx.Ok (X:Cx):Prop where
 mod:Mod X.K X.mg X.base
 kind:X.env.scope.kind= .function
 glob:X.env.globals=mainGlobals
 blt:X.env.builtins=builtinsNs
 above:X.s₀.heap.objs.size<=X.env.locals
 inj:∀x y c,X.env.cells.lookup x=some c->X.env.cells.lookup y=some c->x=y
 has:∀x,(X.env.kindOf x=some .cell∨X.env.kindOf x=some .free)->∃c,X.env.cells.lookup x=some c
 cab:∀x c,X.fn x=true->X.env.cells.lookup x=some c->X.s₀.heap.objs.size<=c
 hd:X.calm=true->X.A.handled=none
 frames:X.A.frames=some X.stack
 stk:X.stack=X.outer∨(X.stack=X.env::X.outer/\X.env.frame=some X.env.locals)
 exf:∀b∈X.ex,b≠X.env.locals/\∀x c,X.env.cells.lookup x=some c->c≠b
 bs:∀b o,X.base.get? b=some o->X.s₀.heap.get? b=some o/\X.H₀ b=none
 bsz:X.base.objs.size<=X.s₀.heap.objs.size
 noex:∀b o,X.base.get? b=some o->b∉X.ex
 exfs:∀b∈X.ex,b∉X.fs
 funs:X.s₀.heap.FunFrames X.base X.outer
 frf:∀b∈X.fs,X.H₀ b=none
structure Inv (X:Cx)(pins:List (Addr×Obj))(σ:List (Option V))(H:Hp)(s:Shared):Prop where
 ok:X.Ok
 os:s.os=X.s₀.os
 bare:AllBare s.gens
 base:Un X.fs X.ex X.H₀ H X.s₀.heap s.heap
 loc:∃m,s.heap.Ns X.env.locals m/\∀(i:Nat) (x:Str) (v:V),X.N[i]? =some x->σ[i]? =some (some v)->Vis X.env.scope x->∃u,RelV v u/\aCB X.env s.heap m x u
 cell:∀x c,X.env.cells.lookup x=some c->∃v,s.heap.IsCell c v
 free:H X.env.locals=none
 freeC:∀x c,X.env.cells.lookup x=some c->H c=none
 pin:∀p∈X.pn++pins,s.heap.get? p.1=some p.2/\H p.1=none/\p.1≠X.env.locals/\p.1∉X.fs/\∀v,p.2.data≠ .cell v
 hok:HOk X.prog X.w H s.heap
 len:σ.length=X.N.length
section
variable {X:Cx}{pins:List (Addr×Obj)}{σ:List (Option V)}{H H':Hp}{s:Shared}{h':Heap}
theorem Cx.Ok.nofr (ok:X.Ok){b:Addr}{o:Obj} (e:X.base.get? b=some o):b∉X.fs:=fun hb=>by
 have:=(ok.funs.mem hb).1;rw[e]at this;cases this
theorem Inv.bs (I:Inv X pins σ H s):∀b o,X.base.get? b=some o->s.heap.get? b=some o/\H b=none:=fun b o e =>
 ⟨I.base.keep b o (I.ok.bs b o e).1 (I.ok.bs b o e).2 (I.ok.nofr e) (I.ok.noex b o e),I.base.free b o (I.ok.bs b o e).1 (I.ok.bs b o e).2 (I.ok.noex b o e)⟩
theorem Inv.bk (I:Inv X pins σ H s):∀b o,X.base.get? b=some o->s.heap.get? b=some o:=fun b o e=>(I.bs b o e).1
theorem Inv.mod (I:Inv X pins σ H s):Mod X.K X.mg X.base:=I.ok.mod
theorem Inv.kIn (I:Inv X pins σ H s):X.K.In s.heap:=I.ok.mod.kin.keeps I.bk
theorem Inv.lt (I:Inv X pins σ H s):X.env.locals<s.heap.objs.size:=let ⟨_,hn,_⟩:=I.loc;hn.lt
theorem Inv.sz (I:Inv X pins σ H s):X.s₀.heap.objs.size<=s.heap.objs.size:=Nat.le_trans I.ok.above (Nat.le_of_lt I.lt)
theorem Inv.nofs (I:Inv X pins σ H s){a:Addr}(h:s.heap.objs.size<=a):a∉X.fs:=fun hb=>by
 obtain⟨_,o,ho,_⟩:=I.ok.funs.mem hb;exact absurd (Nat.lt_of_lt_of_le (Heap.lt_size ho) (Nat.le_trans I.sz h)) (Nat.lt_irrefl _)
theorem Inv.cne (I:Inv X pins σ H s):∀x c,X.env.cells.lookup x=some c->c≠X.env.locals:=fun x c e z=>by
 obtain⟨v,o,ho,hd⟩:=I.cell x c e;obtain⟨m,⟨o',es,ep,ho',hd',_⟩,_⟩:=I.loc;rw[z,ho']at ho;cases ho;rw[hd']at hd;cases hd
theorem Inv.funs (I:Inv X pins σ H s):s.heap.FunFrames X.base X.outer:=by
 have all:∀(l:List Env),(∀b∈frs l,b∈X.fs)->X.s₀.heap.FunFrames X.base l->s.heap.FunFrames X.base l:=by
  intro l
  induction l with
  | nil=>intro _ _;trivial
  | cons env r ih =>
   intro hs hl;obtain⟨hk,⟨L,o,hf,hn,ho,hd⟩,hr⟩:=hl;have hL:L∈X.fs:=hs L (by unfold frs;rw[List.filterMap_cons,hf];exact List.mem_cons_self);obtain⟨sl,e⟩:=I.base.slot L o ho (I.ok.frf L hL) hL fun z=>I.ok.exfs L z hL;exact⟨hk,⟨L,_,hf,hn,e,hd⟩,ih (fun b hb=>hs b (by unfold frs;rw[List.filterMap_cons,hf];exact List.mem_cons_of_mem _ hb)) hr⟩
 exact all X.outer (fun _ hb=>hb) I.ok.funs
theorem Inv.stack (I:Inv X pins σ H s):s.heap.FunFrames X.base X.stack:=by
 rcases I.ok.stk with e|⟨e,hf⟩
 ·rw[e];exact I.funs
 ·rw[e];obtain⟨m,hn,_⟩:=I.loc;refine .cons (by rw[I.ok.kind];decide) hf hn ?_ I.funs;exact Heap.get?_none_of_le (Nat.le_trans I.ok.bsz I.ok.above)
theorem Inv.stkSub (I:Inv X pins σ H s):∀b∈frs X.stack,b∈X.env.locals::X.fs:=fun b hb=>by
 rcases I.ok.stk with e|⟨e,hf⟩
 ·rw[e]at hb;exact List.mem_cons_of_mem _ hb
 ·rw[e]at hb;unfold frs at hb;rw[List.filterMap_cons,hf]at hb;exact hb
theorem Inv.stkFree (I:Inv X pins σ H s):∀b∈frs X.stack,H b=none:=fun b hb=>by
 rcases List.mem_cons.mp (I.stkSub b hb) with e|hb
 ·rw[e];exact I.free
 ·obtain⟨_,o,ho,_⟩:=I.ok.funs.mem hb;exact I.base.free b o ho (I.ok.frf b hb) fun z=>I.ok.exfs b z hb
theorem Inv.step {g':Array GenState}{t':Nat}{d':Drawn}{ch:List Addr} (I:Inv X pins σ H s)
  (hch:∀b∈ch,(b∈X.ex∨X.s₀.heap.objs.size<=b)/\b≠X.env.locals/\(∀x c,X.env.cells.lookup x=some c->c≠b)/\∀p∈X.pn++pins,p.1≠b)
  (keep:∀b o,b≠X.env.locals->b∉X.fs->b∉ch->s.heap.get? b=some o->H b=none->h'.get? b=some o)
  (slot:∀b o,b≠X.env.locals->b∈X.fs->b∉ch->s.heap.get? b=some o->H b=none->∃sl,h'.get? b=some { o with slots:=sl })(free:∀b o,b∉ch->s.heap.get? b=some o->H b=none->H' b=none)
  (there:∀b o,b∉ch->s.heap.get? b=some o->∃o',h'.get? b=some o')
  (tups:∀b xs,H b=some (.tup xs)->H' b=some (.tup xs))(frzs:∀b o u,H b=some (.frz o u)->H' b=some (.frz o u))(tbls:∀b ps,H b=some (.tbl ps)->∃more,H' b=some (.tbl (ps++more)))
  (ns:∀m,s.heap.Ns X.env.locals m->h'.Ns X.env.locals m)(hok:HOk X.prog X.w H' h')(hg:AllBare g') :
  Inv X pins σ H' { s with heap:=h',gens:=g',drawn:=d',toks:=t' }:=by
 have neL:∀b o,X.s₀.heap.get? b=some o->b≠X.env.locals:=fun b o e=>Nat.ne_of_lt (Nat.lt_of_lt_of_le (Heap.lt_size e) I.ok.above);have neC:∀b o,X.s₀.heap.get? b=some o->b∉X.ex->b∉ch:=fun b o e hx hb=>by
  rcases (hch b hb).1 with z|z
  ·exact hx z
  ·exact absurd (Nat.lt_of_lt_of_le (Heap.lt_size e) z) (Nat.lt_irrefl _)
 have cellK:∀x c,X.env.cells.lookup x=some c->∀v,s.heap.IsCell c v->h'.IsCell c v:=fun x c e v ⟨o,ho,hd⟩=>by
  have nch:c∉ch:=fun z=>(hch c z).2.2.1 x c e rfl
  by_cases hc:c∈X.fs
  ·obtain⟨sl,q⟩:=slot c o (I.cne x c e) hc nch ho (I.freeC x c e);exact⟨_,q,hd⟩
  ·exact⟨o,keep c o (I.cne x c e) hc nch ho (I.freeC x c e),hd⟩
 refine⟨I.ok,I.os,hg,⟨fun b o e n hb hx=> ?_,fun b o e n hb hx=> ?_,fun b o e n hx=> ?_,fun b o e hx=> ?_,fun b xs e=>tups b xs (I.base.tups b xs e),fun b o xs e=>frzs b o xs (I.base.frzs b o xs e),fun b ps e=> ?_⟩,?_,fun x c e=> ?_,?_,fun x c e=> ?_,fun p hp=> ?_,hok,I.len⟩
 ·exact keep b o (neL b o e) hb (neC b o e hx) (I.base.keep b o e n hb hx) (I.base.free b o e n hx)
 ·obtain⟨sl,e1⟩:=I.base.slot b o e n hb hx;obtain⟨sl',e2⟩:=slot b _ (neL b o e) hb (neC b o e hx) e1 (I.base.free b o e n hx);exact⟨sl',e2⟩
 ·obtain⟨o',e1⟩:=I.base.there b o e hx;exact free b o' (neC b o e hx) e1 (I.base.free b o e n hx)
 ·obtain⟨o',e1⟩:=I.base.there b o e hx;exact there b o' (neC b o e hx) e1
 ·obtain⟨m1,e1⟩:=I.base.tbls b ps e;obtain⟨m2,e2⟩:=tbls b _ e1;exact⟨m1++m2,by rw[e2,Array.append_assoc]⟩
 ·obtain⟨m,hn,hl⟩:=I.loc;refine⟨m,ns m hn,fun i x v e1 e2 e3=> ?_⟩;obtain⟨u,r,l⟩:=hl i x v e1 e2 e3;refine⟨u,r,?_⟩;rcases l with l|⟨k,c,e,z⟩
  ·exact .inl l
  ·exact .inr ⟨k,c,e,cellK x c e _ z⟩
 ·obtain⟨v,z⟩:=I.cell x c e;exact⟨v,cellK x c e v z⟩
 ·obtain⟨m,⟨o,_,_,ho,_⟩,_⟩:=I.loc;exact free _ o (fun z=>(hch _ z).2.1 rfl) ho I.free
 ·obtain⟨v,o,ho,hd⟩:=I.cell x c e;exact free c o (fun z=>(hch c z).2.2.1 x c e rfl) ho (I.freeC x c e)
 ·obtain⟨e,n,ne,nf,d⟩:=I.pin p hp;have nch:p.1∉ch:=fun z=>(hch p.1 z).2.2.2 p hp rfl;exact⟨keep p.1 p.2 ne nf nch e n,free p.1 p.2 nch e n,ne,nf,d⟩
theorem Inv.un {t':Nat}(I:Inv X pins σ H s)(u:Un X.fs [] H H' s.heap h')(hok:HOk X.prog X.w H' h'):Inv X pins σ H' { s with heap:=h',toks:=t' }:=by
 obtain⟨m,⟨o,es,ep,ho,r⟩,_⟩:=id I.loc;obtain⟨sl,hL⟩:=u.any ho I.free (by simp);exact I.step (g':=s.gens) (d':=s.drawn) (ch:=[]) (fun _ z=>nomatch z) (fun b o _ hb _ e n=>u.keep b o e n hb (by simp)) (fun b o _ hb _ e n=>u.slot b o e n hb (by simp)) (fun b o _ e n=>u.free b o e n (by simp)) (fun b o _ e=>u.there b o e (by simp)) u.tups u.frzs u.tbls (fun m' hm=>by
  obtain⟨o',es',ep',ho',r'⟩:=hm;rw[ho]at ho';cases ho';exact⟨_,es',ep',hL,r'⟩) hok I.bare
theorem Inv.call {g':Array GenState}{t':Nat}{d':Drawn}{ch:List Addr} (I:Inv X pins σ H s) (u:Un (frs X.stack) ch H H' s.heap h') (hok:HOk X.prog X.w H' h') (hg:AllBare g')
  (hch:∀b∈ch,(b∈X.ex∨X.s₀.heap.objs.size<=b)/\b≠X.env.locals/\(∀x c,X.env.cells.lookup x=some c->c≠b)/\∀p∈X.pn++pins,p.1≠b) :
  Inv X pins σ H' { s with heap:=h',gens:=g',drawn:=d',toks:=t' }:=by
 obtain⟨m,⟨o,es,ep,ho,r⟩,_⟩:=id I.loc;obtain⟨sl,hL⟩:=u.any ho I.free fun z=>(hch _ z).2.1 rfl;exact I.step (ch:=ch) hch (fun b o hL hb hc e n=>u.keep b o e n (fun z=>(List.mem_cons.mp (I.stkSub b z)).elim hL hb) hc) (fun b o _ _ hc e n=>u.any e n hc) (fun b o hc e n=>u.free b o e n hc) (fun b o hc e=>u.there b o e hc) u.tups u.frzs u.tbls (fun m' hm=>by
  obtain⟨o',es',ep',ho',r'⟩:=hm;rw[ho]at ho';cases ho';exact⟨_,es',ep',hL,r'⟩) hok hg
theorem Inv.turned {t':Nat}{it:Addr} (I:Inv X pins σ H s) (k:∀b o,b≠it->s.heap.get? b=some o->h'.get? b=some o) (hn:H it=none) (hL:it≠X.env.locals)
  (h1:it∈X.ex∨X.s₀.heap.objs.size<=it)(h2:∀x c,X.env.cells.lookup x=some c->c≠it)(h3:∀p∈X.pn++pins,p.1≠it):Inv X pins σ H { s with heap:=h',toks:=t' }:=by
 have nit:∀b u,H b=some u->b≠it:=fun b u e z=>by rw[z,hn]at e;cases e
 refine I.step (g':=s.gens) (d':=s.drawn) (ch:=[it]) (fun b hb=> ?_) (fun b o _ _ hc e _=>k b o (fun z=>hc (by simp[z])) e) (fun b o _ _ hc e _=>⟨o.slots,k b o (fun z=>hc (by simp[z])) e⟩) (fun _ _ _ _ n=>n)
  (fun b o hc e=>⟨o,k b o (fun z=>hc (by simp[z])) e⟩) (fun _ _ e=>e) (fun _ _ _ e=>e) (fun b ps e=>⟨#[],by rw[e];simp⟩) (fun m hm=> ?_) (fun b u e=> ?_) I.bare
 ·have e:b=it:=by simpa using hb
  subst e;exact⟨h1,hL,h2,h3⟩
 ·obtain⟨o,es,ep,ho,r⟩:=hm;exact⟨o,es,ep,k _ o (Ne.symm hL) ho,r⟩
 ·refine(I.hok b u e).stay (fun c v hc q=>k c v ?_ q) (fun _ q=>q) fun _ _ q=>q;rcases hc with z|z
  ·rw[z];exact nit b u e
  ·exact nit c _ z
theorem Inv.tok (I:Inv X pins σ H s)(t:Nat):Inv X pins σ H { s with toks:=t }:=I.un (h':=s.heap) (t':=t) Un.refl I.hok
theorem Inv.kept {t':Nat}(I:Inv X pins σ H s)(k:∀b u,s.heap.get? b=some u->h'.get? b=some u):Inv X pins σ H { s with heap:=h',toks:=t' }:=I.un (Un.kept k) (I.hok.kept k)
theorem Inv.laid {a:Addr}{o:HO}{t':Nat} (I:Inv X pins σ H s) (k:∀b u,s.heap.get? b=some u->h'.get? b=some u) (hp:s.heap.objs.size<=a) (new:ObjOk X.prog X.w (upd H a o) h' a o) :
  Inv X pins σ (upd H a o) { s with heap:=h',toks:=t' }:=I.un (Un.laid k hp (I.hok.fresh hp)) (I.hok.laid k hp new)
theorem Inv.write {x e:Addr}{o:HO}{t':Nat} (I:Inv X pins σ H s) (mu:Mut (H x)) (he:e=x∨H e=some (.own x)) (k:∀b u,b≠e->s.heap.get? b=some u->h'.get? b=some u) (heo:∃u,h'.get? e=some u)
  (new:ObjOk X.prog X.w (upd H x o) h' x o):Inv X pins σ (upd H x o) { s with heap:=h',toks:=t' }:=I.un (Un.write mu he k heo) (I.hok.write mu he k heo new)
theorem Inv.weak {σ':List (Option V)}(I:Inv X pins σ H s)(hl:σ'.length=σ.length)(w:∀(i:Nat) v,σ'[i]? =some (some v)->σ[i]? =some (some v)):Inv X pins σ' H s :=
 ⟨I.ok,I.os,I.bare,I.base,let ⟨m,hn,hl'⟩:=I.loc;⟨m,hn,fun i x v e1 e2 e3=>hl' i x v e1 (w i v e2) e3⟩,I.cell,I.free,I.freeC,I.pin,I.hok,hl.trans I.len⟩
theorem Inv.pins_of {pins':List (Addr×Obj)}(I:Inv X pins σ H s)(h:∀p∈pins',s.heap.get? p.1=some p.2/\H p.1=none/\p.1≠X.env.locals/\p.1∉X.fs/\∀v,p.2.data≠ .cell v):Inv X pins' σ H s :=
 ⟨I.ok,I.os,I.bare,I.base,I.loc,I.cell,I.free,I.freeC,fun p hp=>(List.mem_append.mp hp).elim (fun z=>I.pin p (List.mem_append_left _ z)) (h p),I.hok,I.len⟩
theorem GA {N:List Str}(hN:N.Nodup){i j:Nat}{x:Str} (a:N[i]? =some x) (b:N[j]? =some x):i=j:=by
 obtain⟨h1,e1⟩:=List.getElem?_eq_some_iff.mp a;obtain⟨h2,e2⟩:=List.getElem?_eq_some_iff.mp b;exact(List.getElem_inj hN).mp (e1.trans e2.symm)
theorem P3 {M:Model}{A:Around}{E:Value->Shared->Prop}{i:Nat}{x:Str}{v:V}{u:Value}{Q:Unit->Shared->Prop} (I:Inv X pins σ H s) (hN:X.N.Nodup) (hi:X.N[i]? =some x) (hx:Loc X.env.scope x) (r:RelV v u)
  (h:∀s',Inv X pins (σ.set i (some v)) H s'->(∃a,Heap.SameBut a s.heap s'.heap/\(a=X.env.locals∨X.env.cells.lookup x=some a))->Q () s')(hf:X.fn x=true∨X.env.scope.names.lookup x=some .local:=by first|exact .inl rfl|exact .inr rfl|assumption):wpAny M A (storeName X.env x u) Q E s:=by
 obtain⟨m,hn,hl⟩:=id I.loc;have hcls:(X.env.scope.kind== .class||(X.env.scope.kind== .module&&X.env.locals !=X.env.globals))=false:=by rw[I.ok.kind];rfl
 have hiσ:i<σ.length:=by rw[I.len];exact(List.getElem?_eq_some_iff.mp hi).1
 have cne:=I.cne;have tracked:∀{a:Addr}{h':Heap},(∃o,s.heap.get? a=some o/\H a=none)->Heap.SameBut a s.heap h'->HOk X.prog X.w H h':=fun {a h'} ha hs b ob e=>by
  obtain⟨_,_,hfree⟩:=ha;refine(I.hok b ob e).stay (fun c w' hc q=>(hs.2 c ?_).trans q) (fun _ q=>q) fun _ _ q=>q;rintro rfl;rcases hc with rfl|hc
  ·rw[hfree]at e;cases e
  ·rw[hfree]at hc;cases hc
 rcases hx with hk|hk
 ·refine wpAny_storeName_local hk hn (fun h' hn' hs=> ?_) hcls;obtain⟨oL,_,_,hoL,_⟩:=id hn;refine h _ ⟨I.ok,I.os,I.bare,⟨fun b o e n hb hx=> ?_,fun b o e n hb hx=> ?_,I.base.free,fun b o e hx=> ?_,I.base.tups,I.base.frzs,I.base.tbls⟩,⟨_,hn',fun j y v' e1 e2 e3=> ?_⟩,fun y c e=> ?_,I.free,I.freeC,fun p hp=> ?_,tracked ⟨oL,hoL,I.free⟩ hs,by simpa using I.len⟩ ⟨_,hs,.inl rfl⟩
  ·exact(hs.2 b (Nat.ne_of_lt (Nat.lt_of_lt_of_le (Heap.lt_size e) I.ok.above))).trans (I.base.keep b o e n hb hx)
  ·obtain⟨sl,e1⟩:=I.base.slot b o e n hb hx;exact⟨sl,(hs.2 b (Nat.ne_of_lt (Nat.lt_of_lt_of_le (Heap.lt_size e) I.ok.above))).trans e1⟩
  ·obtain⟨o',e1⟩:=I.base.there b o e hx;exact⟨o',(hs.2 b (Nat.ne_of_lt (Nat.lt_of_lt_of_le (Heap.lt_size e) I.ok.above))).trans e1⟩
  ·by_cases hj:j=i
   ·subst hj;rw[hi]at e1;cases e1;rw[List.getElem?_set_self hiσ]at e2;cases e2;exact⟨u,r,.inl ⟨hk,by simp⟩⟩
   ·rw[List.getElem?_set_ne (Ne.symm hj)]at e2;obtain⟨u',r',q⟩:=hl j y v' e1 e2 e3;refine⟨u',r',?_⟩;rcases q with⟨k,e⟩|⟨k,c,e,z⟩
    ·refine .inl ⟨k,?_⟩;have:y≠x:=fun e=>hj (GA hN e1 (e▸hi));simp[this,e]
    ·exact .inr ⟨k,c,e,z.sameBut hs (cne y c e)⟩
  ·obtain⟨w',z⟩:=I.cell y c e;exact⟨w',z.sameBut hs (cne y c e)⟩
  ·obtain⟨e,n,ne,nf,d⟩:=I.pin p hp;exact⟨(hs.2 p.1 ne).trans e,n,ne,nf,d⟩
 ·have hfn:X.fn x=true:=by
   rcases hf with z|z
   ·exact z
   ·rw[z]at hk;cases hk
  obtain⟨c,hc⟩:=I.ok.has x (.inl hk);obtain⟨w',z⟩:=I.cell x c hc;refine wpAny_storeName_cell I.ok.kind hk hc z (fun h' hc' hs=> ?_);obtain⟨oc,hoc,hocd⟩:=id z;refine h { s with heap:=h' } ⟨I.ok,I.os,I.bare,⟨fun b o e n hb hx=> ?_,fun b o e n hb hx=> ?_,I.base.free,fun b o e hx=> ?_,I.base.tups,I.base.frzs,I.base.tbls⟩,⟨m,hn.sameBut hs (Ne.symm (cne x c hc)),fun j y v' e1 e2 e3=> ?_⟩,fun y c' e=> ?_,I.free,I.freeC,fun p hp=> ?_,tracked ⟨oc,hoc,I.freeC x c hc⟩ hs,by simpa using I.len⟩ ⟨c,hs,.inr hc⟩
  ·exact(hs.2 b (Nat.ne_of_lt (Nat.lt_of_lt_of_le (Heap.lt_size e) (I.ok.cab x c hfn hc)))).trans (I.base.keep b o e n hb hx)
  ·obtain⟨sl,e1⟩:=I.base.slot b o e n hb hx;exact⟨sl,(hs.2 b (Nat.ne_of_lt (Nat.lt_of_lt_of_le (Heap.lt_size e) (I.ok.cab x c hfn hc)))).trans e1⟩
  ·obtain⟨o',e1⟩:=I.base.there b o e hx;exact⟨o',(hs.2 b (Nat.ne_of_lt (Nat.lt_of_lt_of_le (Heap.lt_size e) (I.ok.cab x c hfn hc)))).trans e1⟩
  ·by_cases hj:j=i
   ·subst hj;rw[hi]at e1;cases e1;rw[List.getElem?_set_self hiσ]at e2;cases e2;exact⟨u,r,.inr ⟨.inl hk,c,hc,hc'⟩⟩
   ·rw[List.getElem?_set_ne (Ne.symm hj)]at e2;obtain⟨u',r',q⟩:=hl j y v' e1 e2 e3;refine⟨u',r',?_⟩;rcases q with q|⟨k,c',e,z'⟩
    ·exact .inl q
    ·refine .inr ⟨k,c',e,z'.sameBut hs ?_⟩;rintro rfl;exact hj (GA hN e1 (I.ok.inj _ _ _ e hc▸hi))
  ·by_cases hcc:c'=c
   ·subst hcc;exact⟨_,hc'⟩
   ·obtain⟨w2,z2⟩:=I.cell y c' e;exact⟨w2,z2.sameBut hs hcc⟩
  ·obtain⟨e,n,ne,nf,d⟩:=I.pin p hp;refine⟨(hs.2 p.1 ?_).trans e,n,ne,nf,d⟩;intro q;rw[q,hoc]at e;have q':oc=p.2:=Option.some.inj e;exact d w' (by rw[←q'];exact hocd)
theorem FA {M:Model}{A:Around}{E:Value->Shared->Prop}{i:Nat}{x:Str}{v:V}{u:Value}{Q:Unit->Shared->Prop} (I:Inv X pins σ H s) (hN:X.N.Nodup) (hi:X.N[i]? =some x) (hx:Loc X.env.scope x) (r:RelV v u)
  (h:∀s',Inv X pins (σ.set i (some v)) H s'->Q () s')(hf:X.fn x=true∨X.env.scope.names.lookup x=some .local:=by first|exact .inl rfl|exact .inr rfl|assumption):wpAny M A (storeName X.env x u) Q E s :=
 P3 I hN hi hx r (fun s' I' _=>h s' I') hf
theorem Inv.call' {s':Shared}{ch:List Addr} (I:Inv X pins σ H s) (ho:s'.os=s.os) (u:Un (frs X.stack) ch H H' s.heap s'.heap) (hok:HOk X.prog X.w H' s'.heap) (hg:AllBare s'.gens)
  (hch:∀b∈ch,(b∈X.ex∨X.s₀.heap.objs.size<=b)/\b≠X.env.locals/\(∀x c,X.env.cells.lookup x=some c->c≠b)/\∀p∈X.pn++pins,p.1≠b):Inv X pins σ H' s':=by
 obtain⟨h',g',d',t',o'⟩:=s';have e:o'=s.os:=ho;subst e;exact I.call (g':=g') (t':=t') (d':=d') u hok hg hch
end
abbrev XK:=Value->Option Addr->Hp->Prop
abbrev St:=List (Option V)
abbrev VK:=V->Hp->Prop
abbrev TE:=St->Hp->VK->Prop
abbrev TT:=St->Hp->(Bool->Hp->Prop)->Prop
abbrev TA:=St->Hp->(List V->Hp->Prop)->Prop
structure gU where
 nx:St->Hp->Prop
 rt:VK
 bk:St->Hp->Prop:=fun _ _=>False
 ct:St->Hp->Prop:=fun _ _=>False
abbrev TS:=gU->St->Hp->Prop
def EP (X:Cx)(pins:List (Addr×Obj))(σ:St)(Q:VK)(u:Value)(s':Shared):Prop:=∃v H',Inv X pins σ H' s'/\RelV v u/\Q v H'
def TP (X:Cx)(pins:List (Addr×Obj))(σ:St)(Q:Bool->Hp->Prop)(b:Bool)(s':Shared):Prop:=∃H',Inv X pins σ H' s'/\Q b H'
def AP (X:Cx)(pins:List (Addr×Obj))(σ:St)(Q:List V->Hp->Prop)(us:List Value)(s':Shared):Prop:=∃vs H',Inv X pins σ H' s'/\Vals vs us/\Q vs H'
def SP (X:Cx)(pins:List (Addr×Obj))(D:gU)(f:Flow)(s':Shared):Prop :=
 match f with
 | .next=>∃σ' H',Inv X pins σ' H' s'/\D.nx σ' H'
 | .brk=>∃σ' H',Inv X pins σ' H' s'/\D.bk σ' H'
 | .cont=>∃σ' H',Inv X pins σ' H' s'/\D.ct σ' H'
 | .ret u=>∃v σ' H',Inv X pins σ' H' s'/\RelV v u/\D.rt v H'
def PE (X:Cx)(e:Expr)(t:TE):Prop :=
 ∀(pins:List (Addr×Obj)) (s:Shared) (σ:St) (H:Hp) (Q:VK),Inv X pins σ H s->t σ H Q->wpAny (model X.prog X.w) X.A (eval e X.env) (EP X pins σ Q) X.xe s
def PT (X:Cx)(e:Expr)(t:TT):Prop :=
 ∀(pins:List (Addr×Obj)) (s:Shared) (σ:St) (H:Hp) (Q:Bool->Hp->Prop),Inv X pins σ H s->t σ H Q->wpAny (model X.prog X.w) X.A (isTrue e X.env (eval e X.env)) (TP X pins σ Q) X.xe s
def PW (X:Cx)(e:Expr)(t:TT):Prop :=
 ∀(whole:Sem Value) (pins:List (Addr×Obj)) (s:Shared) (σ:St) (H:Hp) (Q:Bool->Hp->Prop),Inv X pins σ H s->t σ H Q->wpAny (model X.prog X.w) X.A (isTrue e X.env whole) (TP X pins σ Q) X.xe s
theorem PW.pt {X:Cx}{e:Expr}{t:TT} (h:PW X e t):PT X e t:=h _
def PA (X:Cx)(es:List Expr)(t:TA):Prop :=
 ∀(pos:Pos) (pins:List (Addr×Obj)) (s:Shared) (σ:St) (H:Hp) (Q:List V->Hp->Prop),Inv X pins σ H s->t σ H Q->wpAny (model X.prog X.w) X.A (spliced (backTo pos (starEach es X.env))) (AP X pins σ Q) X.xe s
def PS (X:Cx)(st:Stmt)(t:TS):Prop :=
 ∀(pins:List (Addr×Obj)) (s:Shared) (σ:St) (H:Hp) (D:gU),Inv X pins σ H s->t D σ H->wpAny (model X.prog X.w) X.A (exec st X.env) (SP X pins D) X.xe s
def PSs (X:Cx)(st:List Stmt)(t:TS):Prop :=
 ∀(pins:List (Addr×Obj)) (s:Shared) (σ:St) (H:Hp) (D:gU),Inv X pins σ H s->t D σ H->wpAny (model X.prog X.w) X.A (execs st X.env) (SP X pins D) X.xe s
theorem thn {α:Type}{t:Sem α}{Q Q':α->Shared->Prop}{M:Model}{A:Around}{E:Value->Shared->Prop}{s:Shared} (h:wpAny M A t Q E s) (hQ:∀a s,Q a s->Q' a s):wpAny M A t Q' E s:=wpAny_mono h hQ fun _ _ x=>x
end L2
namespace L2
open PySem PySem.Spec PyProof.Rows
section
variable {X:Cx}
def gQ (i:Nat):TE:=fun σ H Q=>∃v,σ[i]? =some (some v)/\Q v H
def tC (v:V):TE:=fun _ H Q=>Q v H
theorem O9 {i:Nat}{x:Str}{pos:Pos} (hN:X.N[i]? =some x) (hv:Vis X.env.scope x) (hd:(x==("__debug__" :Str))=false:=by decide) (hcd:(x==("__classdict__" :Str))=false:=by decide):PE X (.Name x pos) (gQ i):=by
 intro pins s σ H Q I h;obtain⟨v,e,h⟩:=h;obtain⟨m,hn,hl⟩:=I.loc;obtain⟨u,r,l⟩:=hl i x v hN e hv;have fin:EP X pins σ Q u s:=⟨v,H,I,r,h⟩
 rcases l with⟨hk,hm⟩|⟨hk,c,hc,hcell⟩
 ·exact wpAny_Name (wpAny_loadName_local I.ok.kind hk hn hm fin) hd
 ·rcases hk with hk|hk
  ·exact wpAny_Name (wpAny_loadName_cell I.ok.kind hk hc hcell fin) hd
  ·exact wpAny_Name (wpAny_loadName_free I.ok.kind hk hc hcell fin hcd) hd
theorem aE {i j pos}:PE X (.Constant (.int i) j pos) (tC (.int i)):=fun _ _ _ H _ I h=>wpAny_Constant_int ⟨.int i,H,I.tok _,⟨_,rfl⟩,h⟩
theorem wN {b j pos}:PE X (.Constant (.bool b) j pos) (tC (.bl b)):=fun _ _ _ H _ I h=>Constant_bool ⟨.bl b,H,I,rfl,h⟩
theorem sM {j pos}:PE X (.Constant .none j pos) (tC .non):=fun _ _ _ H _ I h=>Constant_none ⟨.non,H,I,rfl,h⟩
theorem d0 {x j pos}:PE X (.Constant (.str x) j pos) (tC (.str x)):=fun _ _ _ H _ I h=>Calls.Constant_str ⟨.str x,H,I.tok _,⟨_,rfl⟩,h⟩
def Gl (X:Cx)(x:Str):Prop:=X.env.kindOf x=some .globalImplicit
theorem sQ {E:Value->Shared->Prop}{pins:List (Addr×Obj)}{s:Shared}{σ:St}{H:Hp}{x:Str}{u:Value}{pos:Pos}{Q:Value->Shared->Prop} (I:Inv X pins σ H s) (hg:Gl X x) (hm:X.mg x=some u) (h:Q u s)
  (hd:(x==("__debug__" :Str))=false:=by decide):wpAny (model X.prog X.w) X.A (eval (.Name x pos) X.env) Q E s :=
 Calls.Name_function_global I.ok.kind hg (Calls.loadGlobal_global (by rw[I.ok.glob];exact I.mod.glob.keeps I.bk) hm h) hd
theorem vC {E:Value->Shared->Prop}{pins:List (Addr×Obj)}{s:Shared}{σ:St}{H:Hp}{x:Str}{u:Value}{pos:Pos}{Q:Value->Shared->Prop} (I:Inv X pins σ H s) (hg:Gl X x) (hm:X.mg x=none) (hv:bootBuiltins x=some u) (h:Q u s)
  (hn:x≠ "__name__" :=by decide)(hd:(x==("__debug__" :Str))=false:=by decide):wpAny (model X.prog X.w) X.A (eval (.Name x pos) X.env) Q E s:=by
 obtain⟨mb,h1,h2⟩:=I.mod.blt;exact Calls.Name_function_global I.ok.kind hg (Calls.loadGlobal_builtin (by rw[I.ok.glob];exact I.mod.glob.keeps I.bk) hm (by rw[I.ok.blt];exact h1.keeps I.bk) ((h2 x hn).trans hv) h) hd
theorem V4 {x:Str}{v:V}{u:Value}{pos:Pos} (hg:Gl X x) (hm:X.mg x=some u) (r:RelV v u) (hd:(x==("__debug__" :Str))=false:=by decide):PE X (.Name x pos) (tC v) :=
 fun _ _ _ H _ I h=>sQ I hg hm ⟨v,H,I,r,h⟩ hd
theorem YB {x:Str}{v:V}{u:Value}{pos:Pos} (hg:Gl X x) (hm:X.mg x=none) (hv:bootBuiltins x=some u) (r:RelV v u) (hn:x≠ "__name__" :=by decide) (hd:(x==("__debug__" :Str))=false:=by decide):PE X (.Name x pos) (tC v) :=
 fun _ _ _ H _ I h=>vC I hg hm hv ⟨v,H,I,r,h⟩ hn hd
variable {a b:Expr}{ta tb:TE}{pos:Pos}
def PC (X:Cx)(op:CmpOp)(a b:Expr)(t:TE):Prop :=
 ∀(pins:List (Addr×Obj)) (s:Shared) (σ:St) (H:Hp) (Q:VK),Inv X pins σ H s->t σ H Q →
  wpAny (model X.prog X.w) X.A (eval a X.env) (fun v s₁=>wpAny (model X.prog X.w) X.A (eval b X.env) (fun u s₂=>wpAny (model X.prog X.w) X.A (compareOp op v u) (EP X pins σ Q) X.xe s₂) X.xe s₁) X.xe s
def tB (t:TE):TT:=fun σ H Q=>t σ H fun x H1=>∃c,x= .bl c/\Q c H1
theorem GF {op:CmpOp}{t:TE} (h:PC X op a b t) (h1:behindInMarks op b=false:=by first|exact nobehind _ (by decide) (by decide)|rfl):PT X (.Compare a [op] [b] pos) (tB t):=by
 intro pins s σ H Q I hw;refine wpAny_isTrue_Compare1 (thn (h pins s σ H _ I hw) fun v s1 h1=>thn h1 fun u s2 h2=>thn h2 fun c s3 ⟨x,H1,I1,r1,q1⟩=> ?_) h1;obtain⟨d,rfl,q⟩:=q1;cases r1;exact wpAny_truthy_bool ⟨H1,I1,q⟩
theorem j9 {e:Expr}{t:TE} (h:PE X e t) (he:∀whole,isTrue e X.env whole=(do let v ←whole;standAt e.pos;holding [v] (truthy v)):=by intro _;rfl):PT X e (tB t):=by
 intro pins s σ H Q I hw;refine isTrue_plain (thn (h pins s σ H _ I hw) fun v s1 ⟨x,H1,I1,r1,q1⟩=> ?_) (he _);obtain⟨d,rfl,q⟩:=q1;cases r1;exact wpAny_truthy_bool ⟨H1,I1,q⟩
variable {tA tB':TT}{rest:List Expr}
def ZQ (t u:TT):TT:=fun σ H Q=>t σ H fun c H1=>if c=true then u σ H1 Q else Q false H1
def tOr (t u:TT):TT:=fun σ H Q=>t σ H fun c H1=>if c=true then Q true H1 else u σ H1 Q
def aAo (t:TT):TT:=fun σ H Q=>t σ H fun c H1=>Q (!c) H1
theorem sJ (ha:PT X a tA):PW X (.BoolOp .And [a] pos) tA:=by
 intro wh pins s σ H Q I h;refine isTrue_and (thn (ha pins s σ H Q I h) fun c s1 e=> ?_);cases c with
 | true=>exact isTrue_and_nil e
 | false=>exact e
theorem FM (ha:PT X a tA):PW X (.BoolOp .Or [a] pos) tA:=by
 intro wh pins s σ H Q I h;refine isTrue_or (thn (ha pins s σ H Q I h) fun c s1 e=> ?_);cases c with
 | false=>exact isTrue_or_nil e
 | true=>exact e
theorem vH (ha:PT X a tA)(hb:PW X (.BoolOp .And (b::rest) pos) tB'):PW X (.BoolOp .And (a::b::rest) pos) (ZQ tA tB'):=by
 intro wh pins s σ H Q I h;refine isTrue_and (thn (ha pins s σ H _ I h) fun c s1 ⟨H1,I1,q1⟩=> ?_);cases c with
 | true=>exact hb wh pins s1 σ H1 Q I1 q1
 | false=>exact⟨H1,I1,q1⟩
theorem MP (ha:PT X a tA)(hb:PW X (.BoolOp .Or (b::rest) pos) tB'):PW X (.BoolOp .Or (a::b::rest) pos) (tOr tA tB'):=by
 intro wh pins s σ H Q I h;refine isTrue_or (thn (ha pins s σ H _ I h) fun c s1 ⟨H1,I1,q1⟩=> ?_);cases c with
 | true=>exact⟨H1,I1,q1⟩
 | false=>exact hb wh pins s1 σ H1 Q I1 q1
theorem sT (ha:PT X a tA):PT X (.UnaryOp .Not a pos) (aAo tA):=by
 intro pins s σ H Q I h;exact isTrue_not (ha pins s σ H (fun c H1=>Q (!c) H1) I h)
def aBC (ta tb:TE):TE:=fun σ H Q=>ta σ H fun x H1=>∃c,x= .bl c/\if c=true then tb σ H1 Q else Q (.bl false) H1
def aCk (ta:TE):TE:=fun σ H Q=>ta σ H fun x H1=>∃c,x= .bl c/\Q (.bl (!c)) H1
theorem NL {op}{t:TE} (h:PE X a t):PE X (.BoolOp op [a] pos) t:=fun pins s σ H Q I hw=>BoolOp_one (h pins s σ H Q I hw)
theorem PB (ha:PE X a ta)(hb:PE X (.BoolOp .And (b::rest) pos) tb):PE X (.BoolOp .And (a::b::rest) pos) (aBC ta tb):=by
 intro pins s σ H Q I h;refine BoolOp_and (thn (ha pins s σ H _ I h) fun v s1 ⟨x,H1,I1,r1,q1⟩=> ?_);obtain⟨c,rfl,q1⟩:=q1;cases r1;refine wpAny_truthy_bool ?_;cases c with
 | true=>exact hb pins s1 σ H1 Q I1 q1
 | false=>exact⟨.bl false,H1,I1,rfl,q1⟩
theorem aBf (ha:PE X a ta):PE X (.UnaryOp .Not a pos) (aCk ta):=by
 intro pins s σ H Q I h;refine UnaryOp_ (thn (ha pins s σ H _ I h) fun v s1 ⟨x,H1,I1,r1,q1⟩=> ?_);obtain⟨c,rfl,q1⟩:=q1;cases r1;exact not_of (wpAny_truthy_bool ⟨.bl (!c),H1,I1,rfl,q1⟩)
def tIf (t:TT)(ta tb:TE):TE:=fun σ H Q=>t σ H fun c H1=>if c=true then ta σ H1 Q else tb σ H1 Q
theorem tI {c:Expr}(hc:PT X c tA)(ha:PE X a ta)(hb:PE X b tb):PE X (.IfExp c a b pos) (tIf tA ta tb):=by
 intro pins s σ H Q I h;refine wpAny_IfExp (thn (hc pins s σ H _ I h) fun d s1 ⟨H1,I1,q1⟩=> ?_);cases d with
 | true=>exact ha pins s1 σ H1 Q I1 q1
 | false=>exact hb pins s1 σ H1 Q I1 q1
end
end L2
namespace L2
open PySem PySem.Spec PyProof.Rows
def SqL (K:PySem.W.Frag)(H:Hp)(a:Addr)(xs:List V):Prop :=
 Rd H a (.lst xs) ∨
  ∃(o:Obj) (its:Array Value) (n:Nat),K.lookup a=some o/\o.cls= .type "list" /\o.dict=none/\o.data= .seq its n/\its.size<=sizeLine/\Vals xs its.toList
def SqT (K:PySem.W.Frag)(H:Hp)(a:Addr)(xs:List V):Prop :=
 Rd H a (.tup xs) ∨
  ∃(o:Obj) (its:Array Value) (n:Nat),K.lookup a=some o/\o.cls= .type "tuple" /\o.data= .seq its n/\its.size<=sizeLine/\Vals xs its.toList
def aCr:Value->Option V
 | .none=>some .non
 | .bool b=>some (.bl b)
 | .int i _=>some (.int i)
 | .str x _=>some (.str x)
 | .bytes b _=>some (.byt b)
 | .float b _=>some (.flt b)
 | .ref a=>some (.ref a)
 | .type n=>some (.ty n)
 | _=>none
theorem RelV.abs {x:V}{u:Value} (r:RelV x u):aCr u=some x:=by
 cases x with
 | non=>cases r;rfl
 | bl _=>cases r;rfl
 | int _=>obtain⟨t,rfl⟩:=r;rfl
 | str _=>obtain⟨t,rfl⟩:=r;rfl
 | byt _=>obtain⟨t,rfl⟩:=r;rfl
 | flt _=>obtain⟨t,rfl⟩:=r;rfl
 | ref _=>cases r;rfl
 | ty _=>cases r;rfl
theorem RelV.inj {x y:V}{u:Value} (r:RelV x u) (q:RelV y u):x=y:=Option.some.inj (r.abs.symm.trans q.abs)
theorem Vals.inj:∀{xs ys:List V}{us:List Value},Vals xs us->Vals ys us->xs=ys
 | _,_,_,.nil,.nil=>rfl
 | _,_,_,.cons r t,.cons r' t'=>by rw[r.inj r',Vals.inj t t']
section
variable {X:Cx}{pins:List (Addr×Obj)}{σ:St}{H:Hp}{s:Shared}{a:Addr}{xs ys:List V}
theorem SqL.of {K:PySem.W.Frag}(h:H a=some (.lst xs)):SqL K H a xs:= .inl (.inl h)
theorem SqT.of {K:PySem.W.Frag}(h:H a=some (.tup xs)):SqT K H a xs:= .inl (.inl h)
theorem Inv.list (I:Inv X pins σ H s)(h:SqL X.K H a xs):∃its:List Value,Vals xs its/\PlainL s.heap a its.toArray/\xs.length<=sizeLine:=by
 rcases h with h|⟨o,its,n,hk,hc,hd,hs,hz,r⟩
 ·obtain⟨z,its,n,r,e⟩:=h.ok I.hok;exact⟨its,r,⟨_,n,e,rfl,rfl,rfl⟩,z⟩
 ·refine⟨its.toList,r,⟨o,n,I.kIn a o hk,hc,hd,by simpa using hs⟩,?_⟩;have e:=r.length;simp only[Array.length_toList]at e
  lia
theorem Inv.tuple (I:Inv X pins σ H s)(h:SqT X.K H a xs):∃its:List Value,Vals xs its/\IsTup s.heap a its.toArray/\xs.length<=sizeLine:=by
 rcases h with h|⟨o,its,n,hk,hc,hs,hz,r⟩
 ·obtain⟨z,its,r,p⟩:=h.ok I.hok;exact⟨its,r,p,z⟩
 ·refine⟨its.toList,r,⟨o,I.kIn a o hk,hc,n,by simpa using hs⟩,?_⟩;have e:=r.length;simp only[Array.length_toList]at e
  lia
theorem Inv.list_inj (I:Inv X pins σ H s)(h:SqL X.K H a xs)(h':SqL X.K H a ys):xs=ys:=by
 obtain⟨its,r,⟨o,n,e,_,_,d⟩,_⟩:=I.list h;obtain⟨its',r',⟨o',n',e',_,_,d'⟩,_⟩:=I.list h';rw[e]at e';cases e';rw[d]at d';injection d' with d1 _;have:its=its':=by simpa using congrArg Array.toList d1
 subst this;exact r.inj r'
end
abbrev Cx.wish (X:Cx)(E:Value->Shared->Prop):Cx:={ X with xe:=E }
abbrev Cx.nox (X:Cx):Cx:=X.wish fun _ _=>False
theorem Cx.Ok.wish {X:Cx}(ok:X.Ok)(E:Value->Shared->Prop):(X.wish E).Ok :=
 ⟨ok.mod,ok.kind,ok.glob,ok.blt,ok.above,ok.inj,ok.has,ok.cab,ok.hd,ok.frames,ok.stk,ok.exf,ok.bs,ok.bsz,ok.noex,ok.exfs,ok.funs,ok.frf⟩
theorem Cx.Ok.unwish {X:Cx}{E:Value->Shared->Prop} (ok:(X.wish E).Ok):X.Ok :=
 ⟨ok.mod,ok.kind,ok.glob,ok.blt,ok.above,ok.inj,ok.has,ok.cab,ok.hd,ok.frames,ok.stk,ok.exf,ok.bs,ok.bsz,ok.noex,ok.exfs,ok.funs,ok.frf⟩
section
variable {X:Cx}{pins:List (Addr×Obj)}{σ:St}{H:Hp}{s:Shared}{E:Value->Shared->Prop}
theorem Inv.wish (I:Inv X pins σ H s)(E:Value->Shared->Prop):Inv (X.wish E) pins σ H s:=⟨I.ok.wish E,I.os,I.bare,I.base,I.loc,I.cell,I.free,I.freeC,I.pin,I.hok,I.len⟩
theorem Inv.unwish (I:Inv (X.wish E) pins σ H s):Inv X pins σ H s:=⟨I.ok.unwish,I.os,I.bare,I.base,I.loc,I.cell,I.free,I.freeC,I.pin,I.hok,I.len⟩
theorem SP.unwish {D:gU}{f:Flow}{s':Shared} (h:SP (X.wish E) pins D f s'):SP X pins D f s':=by
 cases f with
 | next=>obtain⟨σ',H',I,q⟩:=h;exact⟨σ',H',I.unwish,q⟩
 | brk=>obtain⟨σ',H',I,q⟩:=h;exact⟨σ',H',I.unwish,q⟩
 | cont=>obtain⟨σ',H',I,q⟩:=h;exact⟨σ',H',I.unwish,q⟩
 | ret u=>obtain⟨v,σ',H',I,r,q⟩:=h;exact⟨v,σ',H',I.unwish,r,q⟩
theorem PE.nox {e:Expr}{t:TE} (h:PE X.nox e t):PE X e t:=fun pins s σ H Q I hw =>
 wpAny_mono (h pins s σ H Q (I.wish _) hw) (fun _ _ ⟨v,H',I',r,q⟩=>⟨v,H',I'.unwish,r,q⟩) fun _ _ z=>False.elim z
theorem PSs.nox {st:List Stmt}{t:TS} (h:PSs X.nox st t):PSs X st t:=fun pins s σ H D I hw =>
 wpAny_mono (h pins s σ H D (I.wish _) hw) (fun _ _ q=>q.unwish) fun _ _ z=>False.elim z
end
section
variable {X:Cx}{st:Stmt}{rest:List Stmt}{t u:TS}{e:Expr}{te:TE}{pos:Pos}
def U7:TS:=fun D σ H=>D.nx σ H
def GR (t u:TS):TS:=fun D σ H=>t { D with nx:=u D } σ H
theorem bL:PSs X [] U7:=fun _ _ σ H _ I h=>wpAny_execs_nil ⟨σ,H,I,h⟩
theorem aB (h1:PS X st t)(h2:PSs X rest u):PSs X (st::rest) (GR t u):=by
 intro pins s σ H D I h;refine wpAny_execs_cons (thn (h1 pins s σ H { D with nx:=u D } I h) fun f s1 q=> ?_);cases f with
 | next =>
  obtain⟨σ',H',I',q⟩:=q;exact h2 pins s1 σ' H' D I' q
 | ret v=>exact q
 | brk=>exact q
 | cont=>exact q
theorem aF (h1:PS X st t):PSs X [st] t:=by
 intro pins s σ H D I h;refine wpAny_execs_cons (thn (h1 pins s σ H D I h) fun f s1 q=> ?_);cases f with
 | next=>exact wpAny_execs_nil q
 | ret v=>exact q
 | brk=>exact q
 | cont=>exact q
theorem Inv.quiet {pins:List (Addr×Obj)}{σ:St}{H:Hp}{s:Shared} (I:Inv X pins σ H s):interactive X.env=false:=by simp[interactive,I.ok.kind]
def U6 (te:TE):TS:=fun D σ H=>te σ H fun _ H1=>D.nx σ H1
theorem bP (he:PE X e te)(hs:swapsWith e none pos.line X.env=pure false:=by rfl):PS X (.Expr e pos) (U6 te):=by
 intro pins s σ H D I h;exact wpAny_Expr_any (thn (he pins s σ H _ I h) fun v s1 ⟨x,H1,I1,r1,q1⟩=>⟨σ,H1,I1,q1⟩) I.quiet hs
def aAY (te:TE):TS:=fun D σ H=>te σ H D.rt
theorem aT (he:PE X e te):PS X (.Return (some e) pos) (aAY te):=by
 intro pins s σ H D I h;exact wpAny_Return_some (thn (he pins s σ H _ I h) fun v s1 ⟨x,H1,I1,r1,q1⟩=>⟨x,σ,H1,I1,r1,q1⟩)
def LZ (c:TT)(t u:TS):TS:=fun D σ H=>c σ H fun b H1=>if b=true then t D σ H1 else u D σ H1
theorem b9 {c:Expr}{a b:List Stmt}{tc:TT} (hc:PT X c tc) (ha:PSs X a t) (hb:PSs X b u):PS X (.If c a b pos) (LZ tc t u):=by
 intro pins s σ H D I h;refine wpAny_If (thn (hc pins s σ H _ I h) fun d s1 ⟨H1,I1,q1⟩=> ?_);cases d with
 | true=>exact ha pins s1 σ H1 D I1 q1
 | false=>exact hb pins s1 σ H1 D I1 q1
def aAm:TS:=fun _ _ _=>False
theorem dO:PS X st aAm:=fun _ _ _ _ _ _ h=>h.elim
end
abbrev TG:=V->St->Hp->(St->Hp->Prop)->Prop
abbrev TGs:=List V->St->Hp->(St->Hp->Prop)->Prop
def PG (X:Cx)(target:Expr)(t:TG):Prop :=
 ∀(pins:List (Addr×Obj)) (s:Shared) (σ:St) (H:Hp) (v:V) (u:Value) (Q:St->Hp->Prop),Inv X pins σ H s->RelV v u->t v σ H Q →
  wpAny (model X.prog X.w) X.A (assign target X.env u) (fun _ s'=>∃σ' H',Inv X pins σ' H' s'/\Q σ' H') X.xe s
def PGs (X:Cx)(ts:List Expr)(t:TGs):Prop :=
 ∀(pins:List (Addr×Obj)) (s:Shared) (σ:St) (H:Hp) (vs:List V) (us:List Value) (Q:St->Hp->Prop),Inv X pins σ H s->Vals vs us->t vs σ H Q →
  wpAny (model X.prog X.w) X.A (assignInOrder ((assignEach ts X.env).map (·.2)) us) (fun _ s'=>∃σ' H',Inv X pins σ' H' s'/\Q σ' H') X.xe s
section
variable {X:Cx}{pos:Pos}
def bZ (i:Nat):TG:=fun v σ H Q=>Q (σ.set i (some v)) H
theorem aK {i:Nat}{x:Str} (hN:X.N.Nodup) (hi:X.N[i]? =some x) (hx:Loc X.env.scope x) (hf:X.fn x=true∨X.env.scope.names.lookup x=some .local:=by first|exact .inl rfl|exact .inr rfl|assumption):PG X (.Name x pos) (bZ i):=by
 intro pins s σ H v u Q I r h;exact wpAny_assign_Name (FA I hN hi hx r (fun s' I'=>⟨_,H,I',h⟩) hf)
def BV:TGs:=fun vs σ H Q=>vs=[]/\Q σ H
def j7 (t:TG)(u:TGs):TGs:=fun vs σ H Q=>∃v r,vs=v::r/\t v σ H fun σ' H'=>u r σ' H' Q
theorem cV:PGs X [] BV:=by
 intro pins s σ H vs us Q I r h;obtain⟨e,h⟩:=h;subst e;cases r;exact assignInOrder_nil ⟨σ,H,I,h⟩
theorem aW {e:Expr}{es:List Expr}{t:TG}{u:TGs} (h1:PG X e t) (h2:PGs X es u)
  (hs:(assignEach (e::es) X.env).map (·.2)=assign e X.env::(assignEach es X.env).map (·.2):=by rfl):PGs X (e::es) (j7 t u):=by
 intro pins s σ H vs us Q I r h;obtain⟨v,vr,e1,h⟩:=h;subst e1;cases r with
 | cons r rr =>
  rw[hs];refine assignInOrder_cons (thn (h1 pins s σ H _ _ _ I r h) fun _ s1 ⟨σ1,H1,I1,q1⟩=> ?_);exact h2 pins s1 σ1 H1 _ _ Q I1 rr q1
def xY (K:PySem.W.Frag)(n:Nat)(t:TGs):TG:=fun v σ H Q=>∃a xs,v= .ref a/\SqT K H a xs/\xs.length=n/\t xs σ H Q
theorem j4 {es:List Expr}{k:Nat}{t:TGs}{n:Nat} (hc:X.calm=true) (h:PGs X es t)
  (hn:(assignEach es X.env).length=n:=by rfl)(hst:(assignEach es X.env).findIdx? (·.1)=none:=by rfl):PG X (.Tuple es k pos) (xY X.K n t):=by
 intro pins s σ H v u Q I r hw;obtain⟨a,xs,e1,hq,hl,hw⟩:=hw;subst e1;cases r;obtain⟨its,rv,ht,hz⟩:=I.tuple hq;refine assign_Tuple_tuple (I.ok.hd hc) ht (by simp[hn,←hl,rv.length]) hst fun h' hx=> ?_;have I1:Inv X pins σ H { s with heap:=h' }:=I.kept (t':=s.toks) fun b o e=>hx b o (Nat.ne_of_lt (Heap.lt_size e)) e;exact h pins _ σ H xs _ Q I1 (by simpa using rv) hw
def LQ (te:TE)(g:TG):TS:=fun D σ H=>te σ H fun x H1=>g x σ H1 D.nx
theorem QJ {tg e:Expr}{te:TE}{g:TG} (he:PE X e te) (hg:PG X tg g) (hs:swapsWithSole [tg] e pos.line X.env=pure false:=by rfl) (hw:swappedStores [tg] e X.env=pure none:=by rfl)
  (h1:(assignEach [tg] X.env).map (·.2)=[assign tg X.env]:=by rfl):PS X (.Assign [tg] e pos) (LQ te g):=by
 intro pins s σ H D I h;refine wpAny_Assign_stores (thn (he pins s σ H _ I h) fun v s1 ⟨x,H1,I1,r1,q1⟩=> ?_) hs hw;rw[h1];exact thn (hg pins s1 σ H1 x v _ I1 r1 q1) fun _ s2 q=>q
theorem aN {i:Nat}{x:Str}{e:Expr}{te:TE}{pos':Pos} (hN:X.N.Nodup) (hi:X.N[i]? =some x) (hx:Loc X.env.scope x) (he:PE X e te) (hs:swapsWith e (some (.Name x pos')) pos.line X.env=pure false:=by rfl) (hf:X.fn x=true∨X.env.scope.names.lookup x=some .local:=by first|exact .inl rfl|exact .inr rfl|assumption) :
  PS X (.Assign [.Name x pos'] e pos) (LQ te (bZ i)):=by
 intro pins s σ H D I h;refine wpAny_Assign_Name (thn (he pins s σ H _ I h) fun v s1 ⟨y,H1,I1,r1,q1⟩=> ?_) hs;exact FA I1 hN hi hx r1 (fun s2 I2=>⟨_,H1,I2,q1⟩) hf
end
section
variable {X:Cx}{pos:Pos}
def OD (c:TT)(tb:TS):TS:=fun D σ H=>∃W:Nat->St->Hp->Prop,(∃m,W m σ H)/\∀m σ H,W m σ H →
 c σ H fun b H1=>if b=true then ∃N:St->Hp->Prop,(∀σ' H',N σ' H'->∃m',m'<m/\W m' σ' H')/\tb { D with nx:=N,ct:=N,bk:=D.nx } σ H1 else D.nx σ H1
theorem R1 {c:Expr}{body:List Stmt}{tc:TT}{tb:TS} (hp:PassesOwn (model X.prog X.w) X.A X.env X.xe) (hc:PT X c tc) (hb:PSs X body tb):PS X (.While c body [] pos) (OD tc tb):=by
 intro pins s σ H D I h;obtain⟨W,⟨m0,w0⟩,turn⟩:=h;refine wpAny_While (codeAny_whileLoop (fun n s'=>∃σ' H',Inv X pins σ' H' s'/\W n σ' H') ?_ m0 ⟨σ,H,I,w0⟩);rintro n s1 ⟨σ1,H1,I1,w1⟩;refine wpAny_passesOwn hp (thn (hc pins s1 σ1 H1 _ I1 (turn n σ1 H1 w1)) fun b s2 ⟨H2,I2,q2⟩=> ?_);cases b with
 | true =>
  obtain⟨N,hN,q2⟩:=q2;rw[if_pos rfl];refine wpAny_passesOwn hp (thn (hb pins s2 σ1 H2 _ I2 q2) fun f s3 q3=> ?_);cases f with
  | next =>
   obtain⟨σ3,H3,I3,n3⟩:=q3;obtain⟨m',hm,w3⟩:=hN σ3 H3 n3;exact⟨m',hm,σ3,H3,I3,w3⟩
  | cont =>
   obtain⟨σ3,H3,I3,n3⟩:=q3;obtain⟨m',hm,w3⟩:=hN σ3 H3 n3;exact⟨m',hm,σ3,H3,I3,w3⟩
  | brk=>exact q3
  | ret v=>exact q3
 | false =>
  rw[if_neg Bool.false_ne_true];exact wpAny_execs_nil ⟨σ1,H2,I2,q2⟩
end
structure It where
 go:Nat->Hp->Prop
 yld:Nat->Hp->V->Hp->Prop
 stop:Nat->Hp->Prop
def pK (X:Cx)(pins:List (Addr×Obj))(H:Hp)(b:Addr):Prop :=
 H b=none/\b≠X.env.locals/\b∉X.fs/\(b∈X.ex∨X.s₀.heap.objs.size<=b)/\(∀x c,X.env.cells.lookup x=some c->c≠b)/\∀p∈X.pn++pins,p.1≠b
theorem Inv.fpOk {X:Cx}{pins:List (Addr×Obj)}{σ:St}{H H':Hp}{s:Shared}{b:Addr} (I:Inv X pins σ H s) (hb:s.heap.objs.size<=b) (hn:H' b=none):pK X pins H' b:=by
 refine⟨hn,Nat.ne_of_gt (Nat.lt_of_lt_of_le I.lt hb),I.nofs hb,.inr (Nat.le_trans I.sz hb),fun x c e z=> ?_,fun p hp z=> ?_⟩
 ·obtain⟨v,q⟩:=I.cell x c e;exact absurd (Nat.lt_of_lt_of_le q.lt (by rw[z];exact hb)) (Nat.lt_irrefl _)
 ·exact absurd (Nat.lt_of_lt_of_le (Heap.lt_size (I.pin p hp).1) (by rw[z];exact hb)) (Nat.lt_irrefl _)
structure u5 (P:Program)(w:World)(K:PySem.W.Frag)(tg:Expr)(J:It)(fp:List Addr)(it:Addr)(tn:Nat->Heap->Prop):Prop where
 mem:it∈fp
 obj:∀i h,tn i h->∀b∈fp,∃o,h.get? b=some o/\∀v,o.data≠ .cell v
 keep:∀i h h',tn i h->(∀b∈fp,∀o,h.get? b=some o->h'.get? b=some o)->tn i h'
 item:∀(X:Cx),X.prog=P->X.w=w->X.K=K->X.calm=true->∀(i:Nat) (pins:List (Addr×Obj)) (s:Shared) (σ:St) (H:Hp) (E:Value->Shared->Prop),Inv X pins σ H s->(∀b∈fp,pK X pins H b)->tn i s.heap->J.go i H →
  wpAny (model P w) X.A (pyNext (.ref it)) (fun r s1=>∃u,r=some u ∧
   wpAny (model P w) X.A (letOwnedTupleGo tg (.ref it) u) (fun _ s2=>∃x H',Inv X pins σ H' s2/\RelV x u/\J.yld i H x H'/\tn (i+1) s2.heap/\∀b∈fp,H' b=none) E s1) E s
 done:∀(X:Cx),X.prog=P->X.w=w->X.K=K->X.calm=true->∀(i:Nat) (pins:List (Addr×Obj)) (s:Shared) (σ:St) (H:Hp) (E:Value->Shared->Prop),Inv X pins σ H s->(∀b∈fp,pK X pins H b)->tn i s.heap->J.stop i H →
  wpAny (model P w) X.A (pyNext (.ref it)) (fun r s1=>r=none/\Inv X pins σ H s1) E s
 self:∀(A:Around) (i:Nat) (s:Shared) (Q:Value->Shared->Prop) (E:Value->Shared->Prop),tn i s.heap->Q (.ref it) s->wpAny (model P w) A (pyIter (.ref it)) Q E s
abbrev TI:=St->Hp->(It->Hp->Prop)->Prop
def PIE (X:Cx)(pins:List (Addr×Obj))(σ:St)(tg:Expr)(R:It->Hp->Prop)(itv:Value)(s2:Shared):Prop :=
 ∃(it:Addr) (fp:List Addr) (tn:Nat->Heap->Prop) (J:It) (H':Hp),itv= .ref it/\Inv X pins σ H' s2/\u5 X.prog X.w X.K tg J fp it tn/\tn 0 s2.heap/\(∀b∈fp,pK X pins H' b)/\R J H'
def PI (X:Cx)(tg iter:Expr)(wi:TI):Prop :=
 ∀(pins:List (Addr×Obj)) (s:Shared) (σ:St) (H:Hp) (R:It->Hp->Prop),Inv X pins σ H s->wi σ H R →
  wpAny (model X.prog X.w) X.A (eval iter X.env) (fun v s1=>wpAny (model X.prog X.w) X.A (pyIter v) (PIE X pins σ tg R) X.xe s1) X.xe s
theorem L6 {M:Model}{A:Around}{E:Value->Shared->Prop}{s:Shared}{tg:Expr}{it:Addr}{u:Value}{o:Obj}{n:String}{vs:Array Value}{Q:Unit->Shared->Prop} (ho:s.heap.get? it=some o) (hc:o.cls= .type n) (hd:o.data= .fields vs)
  (hn:["enumerate","zip","dict_itemiterator","dict_reverseitemiterator","odict_iterator","itertools.zip_longest","itertools.pairwise"].contains n=false)(hQ:Q () s):wpAny M A (letOwnedTupleGo tg (.ref it) u) Q E s:=by
 unfold letOwnedTupleGo;cases tg<;>first
  | exact wpAny_pure hQ
  | (cases u<;>first
    | exact wpAny_pure hQ
    | (refine wpAny_bind (wpAny_load ho ?_);rw[hc,hd];show wpAny M A (if (["enumerate","zip","dict_itemiterator","dict_reverseitemiterator","odict_iterator","itertools.zip_longest","itertools.pairwise"].contains n&&vs[0]? ==some (rawInt _))=true then _ else _) Q E s;rw[if_neg (by intro h;rw[hn,Bool.false_and]at h;cases h)];exact wpAny_pure hQ))
def Itl (K:PySem.W.Frag)(a:Addr):It :=
 ⟨fun i H=>∃xs x,SqL K H a xs/\xs[i]? =some x,fun i H x H'=>H'=H/\∀xs,SqL K H a xs->xs[i]? =some x,fun i H=>∃xs,SqL K H a xs/\xs.length<=i⟩
def Itr (lo:Int)(n:Nat):It:=⟨fun i _=>i<n,fun i H x H'=>H'=H/\x= .int (lo+i),fun i _=>n<=i⟩
theorem OL {P:Program}{w:World}{K:PySem.W.Frag}{tg:Expr} (a it:Addr):u5 P w K tg (Itl K a) [it] it (fun i h=>h.IsListIter it a i) where
 mem:=by simp
 obj:=fun i h st b hb=>by
  have e:b=it:=by simpa using hb
  subst e;obtain⟨o,e,c,d⟩:=st;exact⟨o,e,fun v z=>by rw[d]at z;cases z⟩
 keep:=fun i h h' st k=>st.at fun o e=>k it (by simp) o e
 item:=by
  intro X hP hw hK hc i pins s σ H E I hf st hg;subst hP hw hK;obtain⟨xs,x,hq,hx⟩:=hg;obtain⟨its,rv,p,hz⟩:=I.list hq;obtain⟨u,hu,ru⟩:=rv.get hx;obtain⟨f0,f1,f2,f3,f4,f5⟩:=hf it (by simp);refine wpAny_pyNext_list_item st p.isList (x:=u) (by simpa using hu) fun h' st' sb=> ?_;have I1:Inv X pins σ H { s with heap:=h' }:=I.turned (t':=s.toks) (fun b o hb e=>(sb.2 b hb).trans e) f0 f1 f3 f4 f5;obtain⟨o,e,c,d⟩:=id st';exact⟨u,rfl,L6 (s:={ s with heap:=h' }) e c d (by decide) ⟨x,H,I1,ru,⟨rfl,fun ys hy=>by rw[I.list_inj hy hq];exact hx⟩,st',fun b hb=>(hf b hb).1⟩⟩
 done:=by
  intro X hP hw hK hc i pins s σ H E I hf st hg;subst hP hw hK;obtain⟨xs,hq,hx⟩:=hg;obtain⟨its,rv,p,hz⟩:=I.list hq;obtain⟨f0,f1,f2,f3,f4,f5⟩:=hf it (by simp);have hl:=rv.length;exact wpAny_pyNext_list_end (I.ok.hd hc) st p.isList (by simp;lia) fun h' eb=>⟨rfl,I.turned (t':=s.toks) (fun b o hb e=>eb b o hb e) f0 f1 f3 f4 f5⟩
 self:=fun _ _ _ _ _ st h=>wpAny_pyIter_listiter st h
theorem K3 {P:Program}{w:World}{K:PySem.W.Frag}{tg:Expr} (it:Addr) (lo:Int) (n:Nat):u5 P w K tg (Itr lo n) [it] it (fun i h=>IsRangeIter h it (lo+(i:Nat) * 1) ((n:Int) - (i:Nat)) 1) where
 mem:=by simp
 obj:=fun i h st b hb=>by
  have e:b=it:=by simpa using hb
  subst e;exact⟨_,st,fun v z=>by
   have z':Data.fields _=Data.cell v:=z;cases z'⟩
 keep:=fun i h h' st k=>k it (by simp) _ st
 item:=by
  intro X hP hw hK hc i pins s σ H E I hf st hg;subst hP hw hK;obtain⟨f0,f1,f2,f3,f4,f5⟩:=hf it (by simp);have W:=Walks.range (prog:=X.prog) (w:=X.w) (I.ok.hd hc) it lo 1 n;refine W.item i s _ _ hg st fun v h' tk hv st' kk=> ?_;obtain⟨t,rfl⟩:=hv;have I1:Inv X pins σ H { s with heap:=h',toks:=tk }:=I.turned (fun b o hb e=>kk b o (by simpa using hb) e) f0 f1 f3 f4 f5;refine⟨_,rfl,L6 (s:={ s with heap:=h',toks:=tk }) (n:= "range_iterator") st' rfl rfl (by decide) ⟨.int (lo+i),H,I1,⟨t,?_⟩,⟨rfl,rfl⟩,st',fun b hb=>(hf b hb).1⟩⟩;rw[Int.mul_one]
 done:=by
  intro X hP hw hK hc i pins s σ H E I hf st hg;subst hP hw hK;obtain⟨f0,f1,f2,f3,f4,f5⟩:=hf it (by simp);exact wpAny_pyNext_range_end (I.ok.hd hc) st (by have:n<=i:=hg;lia) fun h' eb=>⟨rfl,I.turned (t':=s.toks) (fun b o hb e=>eb b o hb e) f0 f1 f3 f4 f5⟩
 self:=fun _ _ _ _ _ st h=>wpAny_pyIter_rangeiter st h
end L2
namespace L2
open PySem PySem.Spec PyProof.Rows
section
variable {X:Cx}{tg:Expr}
def VO (K:PySem.W.Frag)(tl:TE):TI:=fun σ H R=>tl σ H fun x H1=>∃a,x= .ref a/\(∃xs,SqL K H1 a xs)/\R (Itl K a) H1
theorem bH {l:Expr}{tl:TE} (hl:PE X l tl):PI X tg l (VO X.K tl):=by
 intro pins s σ H R I h;refine thn (hl pins s σ H _ I h) fun v s1 ⟨x,H1,I1,r1,q1⟩=> ?_;obtain⟨a,e,⟨xs,hq⟩,q⟩:=q1;subst e;cases r1;obtain⟨its,rv,p,hz⟩:=I1.list hq;refine wpAny_pyIter_list p.isList ?_;refine⟨s1.heap.objs.size,[s1.heap.objs.size],_,_,H1,rfl,I1.kept (t':=s1.toks) fun b o e=>Heap.get?_push_of_some _ e,OL a _,⟨_,Heap.get?_push_size _ rfl,rfl,rfl⟩,fun b hb=> ?_,q⟩;have e:b=s1.heap.objs.size:=by simpa using hb
 subst e;exact I1.fpOk (Nat.le_refl _) (I1.hok.fresh (Nat.le_refl _))
theorem FG {pins:List (Addr×Obj)}{σ:St}{H:Hp}{s:Shared}{R:It->Hp->Prop}{E:Value->Shared->Prop}{lo hi:Int}{t u v:Tok}{tk:Nat} (I:Inv X pins σ H s) (h1: -(2^62)<=lo) (h2:lo<2^62) (h3: -(2^62)<=hi) (h4:hi<2^62)
  (q:R (Itr lo (hi - lo).toNat) H):wpAny (model X.prog X.w) X.A (pyIter (.ref s.heap.objs.size)) (PIE X pins σ tg R) E { s with heap:=s.heap.push { cls:= .type "range",data:= .fields #[.int lo t,.int hi u,.int 1 v] },toks:=tk }:=by
 refine wpAny_pyIter_range (IsRange.new ..) (small_one h1 h2 h3 h4) ?_;have I1:Inv X pins σ H { s with heap:=s.heap.push { cls:= .type "range",data:= .fields #[.int lo t,.int hi u,.int 1 v] },toks:=tk }:=I.kept fun b o e=>Heap.get?_push_of_some _ e;refine⟨(s.heap.push { cls:= .type "range",data:= .fields #[.int lo t,.int hi u,.int 1 v] }).objs.size,[(s.heap.push { cls:= .type "range",data:= .fields #[.int lo t,.int hi u,.int 1 v] }).objs.size],_,_,H,rfl,
  I1.kept (t':=tk) fun b o e=>Heap.get?_push_of_some _ e,K3 _ lo (hi - lo).toNat,?_,fun b hb=> ?_,q⟩
 ·have e1:lo+((0:Nat):Int) * 1=lo:=by simp
  have e2:(((hi - lo).toNat:Nat):Int) - ((0:Nat):Int)=Builtin.Range.rangeSize lo hi 1:=by rw[rangeSize_one];split<;>lia
  show IsRangeIter _ _ (lo+((0:Nat):Int) * 1) ((((hi - lo).toNat:Nat):Int) - ((0:Nat):Int)) 1;rw[e1,e2];exact Heap.get?_push_size _ rfl
 ·have e:b=(s.heap.push { cls:= .type "range",data:= .fields #[.int lo t,.int hi u,.int 1 v] }).objs.size:=by simpa using hb
  subst e;exact I1.fpOk (Nat.le_refl _) (I1.hok.fresh (Nat.le_refl _))
def VT (ta:TA):TI:=fun σ H R=>ta σ H fun vs H1=>∃j:Int,vs=[.int j]/\ -(2^62)<=j/\j<2^62/\R (Itr 0 j.toNat) H1
def VW (ta:TA):TI:=fun σ H R=>ta σ H fun vs H1=>∃i j:Int,vs=[.int i,.int j]/\(-(2^62)<=i/\i<2^62/\ -(2^62)<=j/\j<2^62)/\R (Itr i (j - i).toNat) H1
theorem mI {a:Expr}{ta:TA}{p pos:Pos} (hg:Gl X "range") (hm:X.mg "range" =none) (ha:PA X [a] ta) (hs:starEach [a] X.env=[(false,eval a X.env)]:=by rfl):PI X tg (.Call (.Name "range" p) [a] [] pos) (VT ta):=by
 intro pins s σ H R I h;refine Call_ (vC I hg hm boot_range (PyProof.Rows.callWith_type1 (thn (ha pos pins s σ H _ I h) fun us s1 ⟨vs,H1,I1,r1,q1⟩=> ?_) hs rfl));obtain⟨j,e,q1,q2,q⟩:=q1;subst e;cases r1 with
 | cons r rr =>
  cases rr;obtain⟨t,rfl⟩:=r;exact call_range_1 (FG I1 (by lia) (by lia) q1 q2 (by simpa using q))
theorem vT {a b:Expr}{ta:TA}{p pos:Pos} (hg:Gl X "range") (hm:X.mg "range" =none) (ha:PA X [a,b] ta) (hs:starEach [a,b] X.env=[(false,eval a X.env),(false,eval b X.env)]:=by rfl) (hs2:starEach [b] X.env=[(false,eval b X.env)]:=by rfl) :
  PI X tg (.Call (.Name "range" p) [a,b] [] pos) (VW ta):=by
 intro pins s σ H R I h;refine Call_ (vC I hg hm boot_range (PyProof.Rows.callWith_type1 (thn (ha pos pins s σ H _ I h) fun us s1 ⟨vs,H1,I1,r1,q1⟩=> ?_) (by rw[hs,hs2]) (by rw[hs2];rfl)));obtain⟨i,j,e,⟨q1,q2,q3,q4⟩,q⟩:=q1;subst e;cases r1 with
 | cons r rr =>
  cases rr with
  | cons r' rr =>
   cases rr;obtain⟨t,rfl⟩:=r;obtain⟨t',rfl⟩:=r';exact call_range_2 (FG I1 q1 q2 q3 q4 q)
def aAw (wi:TI)(g:TG)(tb:TS):TS:=fun D σ H=>wi σ H fun J H1=>∃W:Nat->Nat->St->Hp->Prop,(∃m,W 0 m σ H1)/\∀i m σ H,W i m σ H →
 (J.stop i H/\D.nx σ H)∨(J.go i H/\∃N:St->Hp->Prop,(∀σ' H',N σ' H'->∃m',m'<m/\W (i+1) m' σ' H')/\∀x H',J.yld i H x H'->g x σ H' fun σ2 H2=>tb { D with nx:=N,ct:=N,bk:=D.nx } σ2 H2)
def mD (fp:List Addr)(h:Heap):List (Addr×Obj):=fp.filterMap fun b=>(h.get? b).map fun o=>(b,o)
theorem kB {fp:List Addr}{h:Heap}{b:Addr}{o:Obj} (hb:b∈fp) (e:h.get? b=some o):(b,o)∈mD fp h:=List.mem_filterMap.mpr ⟨b,hb,by rw[e];rfl⟩
theorem CY {fp:List Addr}{h:Heap}{p:Addr×Obj} (hp:p∈mD fp h):p.1∈fp/\h.get? p.1=some p.2:=by
 obtain⟨b,hb,e⟩:=List.mem_filterMap.mp hp;cases q:h.get? b with
 | none=>rw[q]at e;cases e
 | some o =>
  rw[q]at e;have e':(b,o)=p:=Option.some.inj e;subst e';exact⟨hb,q⟩
theorem Inv.pinned {pins:List (Addr×Obj)}{σ:St}{H:Hp}{s:Shared}{fp:List Addr} (I:Inv X pins σ H s) (hf:∀b∈fp,pK X pins H b) (ho:∀b∈fp,∃o,s.heap.get? b=some o/\∀v,o.data≠ .cell v):Inv X (pins++mD fp s.heap) σ H s :=
 I.pins_of fun p hp=>(List.mem_append.mp hp).elim (fun z=>I.pin p (List.mem_append_right _ z)) fun z=>by
  obtain⟨hb,e⟩:=CY z;obtain⟨f0,f1,f2,_⟩:=hf p.1 hb;obtain⟨o,e',d⟩:=ho p.1 hb;rw[e]at e';cases e';exact⟨e,f0,f1,f2,d⟩
theorem Inv.unpinned {pins pl:List (Addr×Obj)}{σ:St}{H:Hp}{s:Shared} (I:Inv X (pins++pl) σ H s):Inv X pins σ H s:=I.pins_of fun p hp=>I.pin p (List.mem_append_right _ (List.mem_append_left _ hp))
theorem cS {iter:Expr}{body:List Stmt}{wi:TI}{g:TG}{tb:TS}{pos:Pos} (hp:PassesOwn (model X.prog X.w) X.A X.env X.xe) (hc:X.calm=true) (hi:PI X tg iter wi) (hg:PG X tg g) (hb:PSs X body tb)
  (hs:∀x,foldedSetIterable iter X.env x=pure x:=by intro _;rfl):PS X (.For tg iter body [] pos) (aAw wi g tb):=by
 intro pins s σ H D I h;refine wpAny_For (thn (hi pins s σ H _ I h) fun v s1 h1=>thn h1 fun itv s2 h2=> ?_) hs;obtain⟨it,fp,tn,J,H2,e,I2,T,st2,f2,W,⟨m0,w0⟩,turn⟩:=h2;subst e;have stat:∀{H':Hp},(∀b∈fp,H' b=none)->∀b∈fp,pK X pins H' b:=fun hn b hb=>⟨hn b hb,(f2 b hb).2⟩
 refine codeAny_forLoop_any (fun n s'=>∃i σ' H',Inv X pins σ' H' s'/\tn i s'.heap/\(∀b∈fp,H' b=none)/\W i n σ' H') ?_ m0 ⟨0,σ,H2,I2,st2,fun b hb=>(f2 b hb).1,w0⟩;rintro n s3 ⟨i,σ3,H3,I3,st3,fr3,w3⟩;rcases turn i n σ3 H3 w3 with⟨stop,qn⟩|⟨go,N,hN,step⟩
 ·refine wpAny_passesOwn hp (thn (T.done X rfl rfl rfl hc i pins s3 σ3 H3 X.xe I3 (stat fr3) st3 stop) fun r s4 ⟨hr,I4⟩=> ?_);subst hr;exact wpAny_execs_nil ⟨σ3,H3,I4,qn⟩
 ·refine wpAny_passesOwn hp (thn (T.item X rfl rfl rfl hc i pins s3 σ3 H3 X.xe I3 (stat fr3) st3 go) fun r s4 ⟨u,hr,h4⟩=> ?_);subst hr;refine wpAny_passesOwn hp (thn h4 fun _ s5 ⟨x,H5,I5,r5,y5,st5,fr5⟩=> ?_);have I5':=I5.pinned (stat fr5) (T.obj _ _ st5);refine wpAny_passesOwn hp (thn (hg _ s5 σ3 H5 x u _ I5' r5 (step x H5 y5)) fun _ s6 ⟨σ6,H6,I6,q6⟩=> ?_);refine wpAny_passesOwn hp (thn (hb _ s6 σ6 H6 _ I6 q6) fun f s7 q7=> ?_);have again:∀{σ7:St}{H7:Hp},Inv X (pins++mD fp s5.heap) σ7 H7 s7->N σ7 H7->∃m,m<n/\∃i σ' H',Inv X pins σ' H' s7/\tn i s7.heap/\(∀b∈fp,H' b=none)/\W i m σ' H':=fun {σ7 H7} I7 n7=>by
   obtain⟨m',hm,w7⟩:=hN σ7 H7 n7;refine⟨m',hm,i+1,σ7,H7,I7.unpinned,T.keep _ _ _ st5 fun b hb o e=>(I7.pin (b,o) (List.mem_append_right _ (List.mem_append_right _ (kB hb e)))).1,fun b hb=> ?_,w7⟩;obtain⟨o,e,d⟩:=T.obj _ _ st5 b hb;exact(I7.pin (b,o) (List.mem_append_right _ (List.mem_append_right _ (kB hb e)))).2.1
  cases f with
  | next=>obtain⟨σ7,H7,I7,n7⟩:=q7;exact again I7 n7
  | cont=>obtain⟨σ7,H7,I7,n7⟩:=q7;exact again I7 n7
  | brk=>obtain⟨σ7,H7,I7,q7⟩:=q7;exact⟨σ7,H7,I7.unpinned,q7⟩
  | ret v=>obtain⟨x7,σ7,H7,I7,r7,q7⟩:=q7;exact⟨x7,σ7,H7,I7.unpinned,r7,q7⟩
end
theorem RI {K:PySem.W.Frag}{a:Addr}{xs:List V}{g:TG}{tb:TS}{D:gU}{σ:St}{H:Hp} (Pv:Nat->St->Hp->Prop) (h0:Pv 0 σ H) (hl:∀i σ H,i<=xs.length->Pv i σ H->SqL K H a xs)
  (hs:∀i x σ H,xs[i]? =some x->Pv i σ H->g x σ H fun σ2 H2=>tb { D with nx:=Pv (i+1),ct:=Pv (i+1),bk:=D.nx } σ2 H2)(hd:∀σ H,Pv xs.length σ H->D.nx σ H) :
  ∃W:Nat->Nat->St->Hp->Prop,(∃m,W 0 m σ H)/\∀i m σ H,W i m σ H →
   ((Itl K a).stop i H/\D.nx σ H)∨((Itl K a).go i H/\∃N:St->Hp->Prop,(∀σ' H',N σ' H'->∃m',m'<m/\W (i+1) m' σ' H')/\∀x H',(Itl K a).yld i H x H'->g x σ H' fun σ2 H2=>tb { D with nx:=N,ct:=N,bk:=D.nx } σ2 H2):=by
 refine⟨fun i m σ H=>m=xs.length - i/\i<=xs.length/\Pv i σ H,⟨xs.length,by simp,Nat.zero_le _,h0⟩,?_⟩;rintro i m σ H ⟨rfl,hi,p⟩;have q:=hl i σ H hi p
 by_cases hlt:i<xs.length
 ·refine .inr ⟨⟨xs,xs[i],q,by simp[hlt]⟩,Pv (i+1),fun σ' H' p'=>⟨xs.length - (i+1),by lia,rfl,hlt,p'⟩,fun x H' y=> ?_⟩;obtain⟨e,y⟩:=y;subst e;exact hs i x σ _ (y xs q) p
 ·have e:i=xs.length:=by lia
  subst e;exact .inl ⟨⟨xs,q,Nat.le_refl _⟩,hd σ H p⟩
theorem PP {lo:Int}{n:Nat}{g:TG}{tb:TS}{D:gU}{σ:St}{H:Hp} (Pv:Nat->St->Hp->Prop) (h0:Pv 0 σ H)
  (hs:∀i σ H,i<n->Pv i σ H->g (.int (lo+i)) σ H fun σ2 H2=>tb { D with nx:=Pv (i+1),ct:=Pv (i+1),bk:=D.nx } σ2 H2)(hd:∀σ H,Pv n σ H->D.nx σ H) :
  ∃W:Nat->Nat->St->Hp->Prop,(∃m,W 0 m σ H)/\∀i m σ H,W i m σ H →
   ((Itr lo n).stop i H/\D.nx σ H)∨((Itr lo n).go i H/\∃N:St->Hp->Prop,(∀σ' H',N σ' H'->∃m',m'<m/\W (i+1) m' σ' H')/\∀x H',(Itr lo n).yld i H x H'->g x σ H' fun σ2 H2=>tb { D with nx:=N,ct:=N,bk:=D.nx } σ2 H2):=by
 refine⟨fun i m σ H=>m=n - i/\i<=n/\Pv i σ H,⟨n,by simp,Nat.zero_le _,h0⟩,?_⟩;rintro i m σ H ⟨rfl,hi,p⟩
 by_cases hlt:i<n
 ·refine .inr ⟨hlt,Pv (i+1),fun σ' H' p'=>⟨n - (i+1),by lia,rfl,hlt,p'⟩,fun x H' y=> ?_⟩;obtain⟨e,y⟩:=y;subst e y;exact hs i σ _ hlt p
 ·have e:i=n:=by lia
  subst e;exact .inl ⟨Nat.le_refl _,hd σ H p⟩
end L2
namespace L2
open PySem PySem.Spec PyProof.Rows
abbrev R2:=V->V->Hp->VK->Prop
def OpR (X:Cx)(f:Value->Value->Sem Value)(r:R2):Prop :=
 ∀(pins:List (Addr×Obj)) (s:Shared) (σ:St) (H:Hp) (x y:V) (v u:Value) (Q:VK),Inv X pins σ H s->RelV x v->RelV y u->r x y H Q →
  wpAny (model X.prog X.w) X.A (f v u) (EP X pins σ Q) X.xe s
def c7 (X:Cx)(f:Value)(r:List V->Hp->VK->Prop):Prop :=
 ∀(pins:List (Addr×Obj)) (s:Shared) (σ:St) (H:Hp) (xs:List V) (us:List Value) (Q:VK),Inv X pins σ H s->Vals xs us->r xs H Q →
  wpAny (model X.prog X.w) X.A (call f us) (EP X pins σ Q) X.xe s
def tOp (r:R2)(ta tb:TE):TE:=fun σ H Q=>ta σ H fun x H1=>tb σ H1 fun y H2=>r x y H2 Q
def rI (C:Int->Int->Prop)(g:Int->Int->V):R2:=fun x y H Q=>∃i j,x= .int i/\y= .int j/\C i j/\Q (g i j) H
def rI0 (g:Int->Int->V):R2:=fun x y H Q=>∃i j,x= .int i/\y= .int j/\Q (g i j) H
section
variable {X:Cx}{a b c:Expr}{ta tb tc:TE}{pos:Pos}
theorem T9 (ha:PE X a ta)(hb:PE X b tb){pins:List (Addr×Obj)}{s:Shared}{σ:St}{H:Hp}{R:V->V->Hp->Prop} (I:Inv X pins σ H s)
  (h:ta σ H fun x H1=>tb σ H1 fun y H2=>R x y H2){Q:Value->Shared->Prop}{f:Value->Value->Sem Value}
  (hf:∀v u s2 x y H2,Inv X pins σ H2 s2->RelV x v->RelV y u->R x y H2->wpAny (model X.prog X.w) X.A (f v u) Q X.xe s2) :
  wpAny (model X.prog X.w) X.A (eval a X.env) (fun v s₁=>wpAny (model X.prog X.w) X.A (eval b X.env) (fun u s₂=>wpAny (model X.prog X.w) X.A (f v u) Q X.xe s₂) X.xe s₁) X.xe s:=by
 refine thn (ha pins s σ H _ I h) fun v s1 ⟨x,H1,I1,r1,q1⟩=> ?_;refine thn (hb pins s1 σ H1 _ I1 q1) fun u s2 ⟨y,H2,I2,r2,q2⟩=> ?_;exact hf v u s2 x y H2 I2 r1 r2 q2
theorem aH {op:Operator}{r:R2} (ho:OpR X (binaryOp op) r) (ha:PE X a ta) (hb:PE X b tb):PE X (.BinOp a op b pos) (tOp r ta tb):=by
 intro pins s σ H Q I h;exact wpAny_BinOp (T9 ha hb I h fun v u s2 x y H2 I2 rx ry q=>ho pins s2 σ H2 x y v u Q I2 rx ry q)
theorem opI {f:Value->Value->Sem Value}{C:Int->Int->Prop}{g:Int->Int->Int}
  (rule:∀(i j:Int) (t u:Tok) (s:Shared) (Q:Value->Shared->Prop) (E:Value->Shared->Prop),C i j->Q (.int (g i j) s.toks) { s with toks:=s.toks+1 }->wpAny (model X.prog X.w) X.A (f (.int i t) (.int j u)) Q E s) :
  OpR X f (rI C fun i j=> .int (g i j)):=by
 intro pins s σ H x y v u Q I rx ry h;obtain⟨i,j,rfl,rfl,hc,q⟩:=h;obtain⟨t,rfl⟩:=rx;obtain⟨t',rfl⟩:=ry;exact rule i j t t' s _ _ hc ⟨.int (g i j),H,I.tok _,⟨_,rfl⟩,q⟩
theorem Y7 {f:Value->Value->Sem Value}{g:Int->Int->Int}
  (rule:∀(i j:Int) (t u:Tok) (s:Shared) (Q:Value->Shared->Prop) (E:Value->Shared->Prop),Q (.int (g i j) s.toks) { s with toks:=s.toks+1 }->wpAny (model X.prog X.w) X.A (f (.int i t) (.int j u)) Q E s) :
  OpR X f (rI0 fun i j=> .int (g i j)):=by
 intro pins s σ H x y v u Q I rx ry h;obtain⟨i,j,rfl,rfl,q⟩:=h;obtain⟨t,rfl⟩:=rx;obtain⟨t',rfl⟩:=ry;exact rule i j t t' s _ _ ⟨.int (g i j),H,I.tok _,⟨_,rfl⟩,q⟩
theorem M1 {f:Value->Value->Sem Value}{g:Int->Int->Bool}
  (rule:∀(i j:Int) (t u:Tok) (s:Shared) (Q:Value->Shared->Prop) (E:Value->Shared->Prop),Q (.bool (g i j)) s->wpAny (model X.prog X.w) X.A (f (.int i t) (.int j u)) Q E s) :
  OpR X f (rI0 fun i j=> .bl (g i j)):=by
 intro pins s σ H x y v u Q I rx ry h;obtain⟨i,j,rfl,rfl,q⟩:=h;obtain⟨t,rfl⟩:=rx;obtain⟨t',rfl⟩:=ry;exact rule i j t t' s _ _ ⟨.bl (g i j),H,I,rfl,q⟩
def aAr (i j:Int):Prop:=0<j/\j<1073741824
def aAL (i j:Int):Prop:=0<=j/\j<=1000000/\i.natAbs<2^64
def CMul (i j:Int):Prop:=(-(2^64)<i/\i<2^64)∨(-(2^64)<j/\j<2^64)
theorem CMul.ok {i j:Int}(h:CMul i j):IntMulOk i j:=by
 rcases h with⟨h1,h2⟩|⟨h1,h2⟩
 ·exact .of_left (intBits_le_64 h1 h2)
 ·exact .of_right (intBits_le_64 h1 h2)
theorem MS (k:Nat):(0:Int)<=2^k:=by
 rw[two_pow_cast];exact Int.natCast_nonneg _
theorem bI:OpR X (binaryOp .Add) (rI0 fun i j=> .int (i+j)):=Y7 fun _ _ _ _ _ _ _ q=>add_int q
theorem fU:OpR X (binaryOp .Sub) (rI0 fun i j=> .int (i - j)):=Y7 fun _ _ _ _ _ _ _ q=>sub_int q
theorem fV:OpR X (binaryOp .Mult) (rI CMul fun i j=> .int (i * j)):=opI fun _ _ _ _ _ _ _ hc q=>mul_int q hc.ok
theorem dF:OpR X (binaryOp .FloorDiv) (rI aAr fun i j=> .int (i/j)):=opI fun i j _ _ _ _ _ hc q=>by
 have h1:(0:Int)<j:=hc.1;have h2:j<1073741824:=hc.2;exact floordiv_int (by lia) (by rw[Int.fdiv_eq_ediv_of_nonneg i (by lia)];exact q) (.inl (PyProof.noPylong_small (by lia)))
theorem bM:OpR X (binaryOp .Mod) (rI (fun _ j=>0<j) fun i j=> .int (i%j)):=opI fun i j _ _ _ _ _ hc q=>by
 have h1:(0:Int)<j:=hc;exact mod_int' (by lia) (by rw[Int.fmod_eq_emod_of_nonneg i (by lia)];exact q)
theorem ZL:OpR X (binaryOp .Pow) (rI aAL fun i j=> .int (i^j.toNat)):=opI fun _ _ _ _ _ _ _ hc q=>pow_int_small hc.1 hc.2.1 hc.2.2 q
theorem OR:OpR X (binaryOp .RShift) (rI (fun _ j=>0<=j) fun i j=> .int (i/2^j.toNat)):=opI fun i j _ _ _ _ _ hc q =>
 rshift_int hc (by rw[Int.fdiv_eq_ediv_of_nonneg i (MS _)];exact q)
end
def aBc:V->V->Bool
 | .non,.non=>true| .non,.int _=>true| .int _,.non=>true| .non,.bl _=>true| .bl _,.non=>true| .non,.str _=>true| .str _,.non=>true
 | .int _,.int _=>true| .bl _,.bl _=>true| .str _,.str _=>true| .byt _,.byt _=>true
 | .int _,.str _=>true| .str _,.int _=>true| .bl _,.str _=>true| .str _,.bl _=>true
 | _,_=>false
def rEq:R2:=fun x y H Q=>aBc x y=true/\Q (.bl (decide (x=y))) H
def rNe:R2:=fun x y H Q=>aBc x y=true/\Q (.bl (!decide (x=y))) H
theorem J4 {i j:Int}:decide (V.int i=V.int j)=(i==j):=by
 rw[Bool.eq_iff_iff];simp
theorem OH {i j:Bool}:decide (V.bl i=V.bl j)=(i==j):=by
 rw[Bool.eq_iff_iff];simp
theorem J8 {i j:Str}:decide (V.str i=V.str j)=(i==j):=by
 rw[Bool.eq_iff_iff];simp
theorem KG {i j:Array UInt8}:decide (V.byt i=V.byt j)=(i.toList==j.toList):=by
 rw[Bool.eq_iff_iff];cases i;cases j;simp
section
variable {X:Cx}{a b c:Expr}{ta tb tc:TE}{pos:Pos}
theorem bT {pins:List (Addr×Obj)}{σ:St}{H:Hp}{s:Shared}{Q:VK}{k k':Bool} (I:Inv X pins σ H s) (q:Q (.bl k) H) (e:k=k'):EP X pins σ Q (.bool k') s:=by
 subst e;exact⟨.bl k,H,I,rfl,q⟩
theorem jX:OpR X (compareOp .Eq) rEq:=by
 intro pins s σ H x y v u Q I rx ry h;obtain⟨hs,q⟩:=h;cases x with
 | non =>
  cases rx;cases y with
  | non=>cases ry;exact PySem.EqNone.eq_none_none (bT I q (by simp))
  | bl j=>cases ry;exact PySem.EqNone.eq_none_bool (bT I q (by simp))
  | int j=>obtain⟨t',rfl⟩:=ry;exact PySem.EqNone.eq_none_int (bT I q (by simp))
  | str j=>obtain⟨t',rfl⟩:=ry;exact PySem.EqNone.eq_none_str (bT I q (by simp))
  | _=>exact absurd (show false=true from hs) Bool.false_ne_true
 | bl i =>
  cases rx;cases y with
  | non=>cases ry;exact PySem.EqNone.eq_bool_none (bT I q (by simp))
  | bl j=>cases ry;exact eq_bool (bT I q OH)
  | str j=>obtain⟨t',rfl⟩:=ry;exact PySem.EqMixed.eq_bool_str (bT I q (by simp))
  | _=>exact absurd (show false=true from hs) Bool.false_ne_true
 | int i =>
  obtain⟨t,rfl⟩:=rx;cases y with
  | non=>cases ry;exact PySem.EqNone.eq_int_none (bT I q (by simp))
  | int j=>obtain⟨t',rfl⟩:=ry;exact eq_int (bT I q J4)
  | str j=>obtain⟨t',rfl⟩:=ry;exact PySem.EqMixed.eq_int_str (bT I q (by simp))
  | _=>exact absurd (show false=true from hs) Bool.false_ne_true
 | str i =>
  obtain⟨t,rfl⟩:=rx;cases y with
  | non=>cases ry;exact PySem.EqNone.eq_str_none (bT I q (by simp))
  | bl j=>cases ry;exact PySem.EqMixed.eq_str_bool (bT I q (by simp))
  | int j=>obtain⟨t',rfl⟩:=ry;exact PySem.EqMixed.eq_str_int (bT I q (by simp))
  | str j=>obtain⟨t',rfl⟩:=ry;exact eq_str (bT I q J8)
  | _=>exact absurd (show false=true from hs) Bool.false_ne_true
 | byt i =>
  obtain⟨t,rfl⟩:=rx;cases y with
  | byt j=>obtain⟨t',rfl⟩:=ry;exact PySem.W.eq_bytes (bT I q KG)
  | _=>exact absurd (show false=true from hs) Bool.false_ne_true
 | _=>cases y<;>exact absurd (show false=true from hs) Bool.false_ne_true
theorem M7:OpR X (compareOp .NotEq) rNe:=by
 intro pins s σ H x y v u Q I rx ry h;obtain⟨hs,q⟩:=h;cases x with
 | non =>
  cases rx;cases y with
  | non=>cases ry;exact PySem.EqNone.ne_none_none (bT I q (by simp))
  | bl j=>cases ry;exact PySem.EqNone.ne_none_bool (bT I q (by simp))
  | int j=>obtain⟨t',rfl⟩:=ry;exact PySem.EqNone.ne_none_int (bT I q (by simp))
  | str j=>obtain⟨t',rfl⟩:=ry;exact PySem.EqNone.ne_none_str (bT I q (by simp))
  | _=>exact absurd (show false=true from hs) Bool.false_ne_true
 | bl i =>
  cases rx;cases y with
  | non=>cases ry;exact PySem.EqNone.ne_bool_none (bT I q (by simp))
  | bl j=>cases ry;exact ne_bool (bT I q (congrArg not OH))
  | str j=>obtain⟨t',rfl⟩:=ry;exact PySem.EqMixed.ne_bool_str (bT I q (by simp))
  | _=>exact absurd (show false=true from hs) Bool.false_ne_true
 | int i =>
  obtain⟨t,rfl⟩:=rx;cases y with
  | non=>cases ry;exact PySem.EqNone.ne_int_none (bT I q (by simp))
  | int j=>obtain⟨t',rfl⟩:=ry;exact ne_int (bT I q (congrArg not J4))
  | str j=>obtain⟨t',rfl⟩:=ry;exact PySem.EqMixed.ne_int_str (bT I q (by simp))
  | _=>exact absurd (show false=true from hs) Bool.false_ne_true
 | str i =>
  obtain⟨t,rfl⟩:=rx;cases y with
  | non=>cases ry;exact PySem.EqNone.ne_str_none (bT I q (by simp))
  | bl j=>cases ry;exact PySem.EqMixed.ne_str_bool (bT I q (by simp))
  | int j=>obtain⟨t',rfl⟩:=ry;exact PySem.EqMixed.ne_str_int (bT I q (by simp))
  | str j=>obtain⟨t',rfl⟩:=ry;exact ne_str (bT I q (congrArg not J8))
  | _=>exact absurd (show false=true from hs) Bool.false_ne_true
 | byt i =>
  obtain⟨t,rfl⟩:=rx;cases y with
  | byt j=>obtain⟨t',rfl⟩:=ry;exact PySem.W.ne_bytes (bT I q (congrArg not KG))
  | _=>exact absurd (show false=true from hs) Bool.false_ne_true
 | _=>cases y<;>exact absurd (show false=true from hs) Bool.false_ne_true
theorem iZ:OpR X (compareOp .Lt) (rI0 fun i j=> .bl (decide (i<j))):=M1 fun _ _ _ _ _ _ _ q=>lt_int q
theorem EU:OpR X (compareOp .LtE) (rI0 fun i j=> .bl (decide (i<=j))):=M1 fun _ _ _ _ _ _ _ q=>le_int q
theorem i6:OpR X (compareOp .Gt) (rI0 fun i j=> .bl (decide (j<i))):=M1 fun _ _ _ _ _ _ _ q=>gt_int q
theorem ES:OpR X (compareOp .GtE) (rI0 fun i j=> .bl (decide (j<=i))):=M1 fun _ _ _ _ _ _ _ q=>ge_int q
theorem Z7:OpR X (compareOp .Is) (fun x y H Q=>y= .non/\Q (.bl (decide (x= .non))) H):=by
 intro pins s σ H x y v u Q I rx ry h;obtain⟨rfl,q⟩:=h;cases ry;refine is_none_gen (bT I q ?_);cases x<;>first
  | (cases rx;rfl)
  | (obtain⟨t,rfl⟩:=rx;rfl)
theorem WM:OpR X (compareOp .IsNot) (fun x y H Q=>y= .non/\Q (.bl (!decide (x= .non))) H):=by
 intro pins s σ H x y v u Q I rx ry h;obtain⟨rfl,q⟩:=h;cases ry;refine isnot_none_gen (bT I q ?_);cases x<;>first
  | (cases rx;rfl)
  | (obtain⟨t,rfl⟩:=rx;rfl)
theorem aY (b:Expr){op:CmpOp}(h:op≠ .In:=by decide)(h2:op≠ .NotIn:=by decide):behindInMarks op b=false:=by
 have e1:(op==CmpOp.In)=false:=by cases op<;>first|rfl|exact absurd rfl h
 have e2:(op==CmpOp.NotIn)=false:=by cases op<;>first|rfl|exact absurd rfl h2
 cases b<;>simp[behindInMarks,e1,e2]
theorem oM {op:CmpOp}{r:R2} (ho:OpR X (compareOp op) r) (ha:PE X a ta) (hb:PE X b tb) (hm:behindInMarks op b=false):PE X (.Compare a [op] [b] pos) (tOp r ta tb):=by
 intro pins s σ H Q I h;exact wpAny_Compare1 (T9 ha hb I h fun v u s2 x y H2 I2 rx ry q=>ho pins s2 σ H2 x y v u Q I2 rx ry q) hm
def MI (t:TE):TT:=fun σ H Q=>t σ H fun x H'=>∃k,x= .bl k/\Q k H'
theorem aV {op:CmpOp}{r:R2} (ho:OpR X (compareOp op) r) (ha:PE X a ta) (hb:PE X b tb) (hm:behindInMarks op b=false):PT X (.Compare a [op] [b] pos) (MI (tOp r ta tb)):=by
 intro pins s σ H Q I h;refine wpAny_isTrue_Compare1 (thn (ha pins s σ H _ I h) fun v s1 ⟨x,H1,I1,r1,q1⟩=>thn (hb pins s1 σ H1 _ I1 q1) fun u s2 ⟨y,H2,I2,r2,q2⟩ =>
  thn (ho pins s2 σ H2 x y v u _ I2 r1 r2 q2) fun c s3 ⟨z,H3,I3,r3,k,e,q3⟩=> ?_) hm
 subst e;cases r3;exact wpAny_truthy_bool ⟨H3,I3,q3⟩
def HV (r r':R2)(ta tb tc:TE):TE:=fun σ H Q=>ta σ H fun x H1=>tb σ H1 fun y H2=>r x y H2 fun z H3=>∃k,z= .bl k ∧
 (if k=true then tc σ H3 fun w' H4=>r' y w' H4 Q else Q (.bl false) H3)
theorem FF {op op':CmpOp}{r r':R2} (ho:OpR X (compareOp op) r) (ho':OpR X (compareOp op') r') (ha:PE X a ta) (hb:PE X b tb) (hc:PE X c tc)
  (hm:lastMarks [op,op'] [b,c]=false:=by with_unfolding_all rfl):PE X (.Compare a [op,op'] [b,c] pos) (HV r r' ta tb tc):=by
 intro pins s σ H Q I h;refine Compare_chain (thn (ha pins s σ H _ I h) fun v s1 ⟨x,H1,I1,r1,q1⟩=>chain_link (thn (hb pins s1 σ H1 _ I1 q1) fun u s2 ⟨y,H2,I2,r2,q2⟩ =>
  thn (ho pins s2 σ H2 x y v u _ I2 r1 r2 q2) fun d s3 ⟨z,H3,I3,r3,k,e,q3⟩=> ?_)) hm
 subst e;cases r3;refine wpAny_truthy_bool ?_;cases k with
 | false=>exact ite_ff ⟨.bl false,H3,I3,rfl,q3⟩
 | true=>exact ite_tt (chain_last (thn (hc pins s3 σ H3 _ I3 q3) fun w' s4 ⟨z',H4,I4,r4,q4⟩=>ho' pins s4 σ H4 y z' u w' Q I4 r2 r4 q4))
theorem SI {op op':CmpOp}{r r':R2} (ho:OpR X (compareOp op) r) (ho':OpR X (compareOp op') r') (ha:PE X a ta) (hb:PE X b tb) (hc:PE X c tc)
  (hm:lastMarks [op,op'] [b,c]=false:=by with_unfolding_all rfl):PT X (.Compare a [op,op'] [b,c] pos) (MI (HV r r' ta tb tc)):=by
 intro pins s σ H Q I h;refine isTrue_chain (thn (ha pins s σ H _ I h) fun v s1 ⟨x,H1,I1,r1,q1⟩=>test_link (thn (hb pins s1 σ H1 _ I1 q1) fun u s2 ⟨y,H2,I2,r2,q2⟩ =>
  thn (ho pins s2 σ H2 x y v u _ I2 r1 r2 q2) fun d s3 ⟨z,H3,I3,r3,k,e,q3⟩=> ?_)) hm
 subst e;cases r3;refine wpAny_truthy_bool ?_;cases k with
 | false =>
  obtain⟨k',e',q'⟩:=q3;cases e';exact ite_ff ⟨H3,I3,q'⟩
 | true =>
  refine ite_tt (test_last (thn (hc pins s3 σ H3 _ I3 q3) fun w' s4 ⟨z',H4,I4,r4,q4⟩=>thn (ho' pins s4 σ H4 y z' u w' _ I4 r2 r4 q4) fun d' s5 ⟨z2,H5,I5,r5,k2,e2,q5⟩=> ?_));subst e2;cases r5;exact wpAny_truthy_bool ⟨H5,I5,q5⟩
theorem u7:(sizeLine:Nat)<2^63:=by rw[sizeLine_eq];decide
theorem K5:OpR X (binaryOp .Add) (fun x y H Q=>∃i j,x= .str i/\y= .str j/\i.length+j.length<=sizeLine/\Q (.str (i++j)) H):=by
 intro pins s σ H x y v u Q I rx ry h;obtain⟨i,j,rfl,rfl,hz,q⟩:=h;obtain⟨t,rfl⟩:=rx;obtain⟨t',rfl⟩:=ry;exact add_str (fun t' tk=>⟨.str (i++j),H,I.tok _,⟨_,rfl⟩,q⟩) hz
theorem iY {x:V}{us:List Value} (r:Vals [x] us):∃u,us=[u]/\RelV x u:=by
 cases r with
 | cons r1 r2=>cases r2;exact⟨_,rfl,r1⟩
theorem MX {x y:V}{us:List Value} (r:Vals [x,y] us):∃u w',us=[u,w']/\RelV x u/\RelV y w':=by
 cases r with
 | cons r1 r2 =>
  cases r2 with
  | cons r3 r4=>cases r4;exact⟨_,_,rfl,r1,r3⟩
theorem PM (hc:X.calm=true):c7 X (.builtin "max") (fun xs H Q=>∃i j,xs=[.int i,.int j]/\Q (.int (if j>i then j else i)) H):=by
 intro pins s σ H xs us Q I r h;obtain⟨i,j,rfl,q⟩:=h;obtain⟨u,w',rfl,⟨t,rfl⟩,⟨t',rfl⟩⟩:=MX r;refine max_two_ints (I.ok.hd hc) fun h' tk k=>⟨_,H,I.kept k,?_,q⟩
 by_cases hj:j>i
 ·rw[if_pos hj,if_pos hj];exact⟨_,rfl⟩
 ·rw[if_neg hj,if_neg hj];exact⟨_,rfl⟩
theorem QI (hc:X.calm=true):c7 X (.builtin "min") (fun xs H Q=>∃i j,xs=[.int i,.int j]/\Q (.int (if j<i then j else i)) H):=by
 intro pins s σ H xs us Q I r h;obtain⟨i,j,rfl,q⟩:=h;obtain⟨u,w',rfl,⟨t,rfl⟩,⟨t',rfl⟩⟩:=MX r;refine min_two_ints (I.ok.hd hc) fun h' tk k=>⟨_,H,I.kept k,?_,q⟩
 by_cases hj:j<i
 ·rw[if_pos hj,if_pos hj];exact⟨_,rfl⟩
 ·rw[if_neg hj,if_neg hj];exact⟨_,rfl⟩
theorem P7:c7 X (.type "int") (fun xs H Q=>(∃i,xs=[.int i]/\Q (.int i) H)∨∃k,xs=[.bl k]/\Q (.int (if k then 1 else 0)) H):=by
 intro pins s σ H xs us Q I r h;rcases h with⟨i,rfl,q⟩|⟨k,rfl,q⟩
 ·obtain⟨u,rfl,t,rfl⟩:=iY r;exact call_int_int ⟨.int i,H,I,⟨_,rfl⟩,q⟩
 ·obtain⟨u,rfl,r1⟩:=iY r;cases r1;exact call_int_bool ⟨.int (if k then 1 else 0),H,I.tok _,⟨_,rfl⟩,q⟩
end
end L2
namespace L2
open PySem PySem.Spec PyProof.Rows
structure ObjM (h:Heap)(x dx C:Addr)(mA:Str->Option Value):Prop where
 obj:h.get? x=some (PySem.W.instObj C dx)
 ns:h.Ns1 dx mA
 ne:dx≠x
theorem QO {h:Heap}{dx:Addr}{mA:Str->Option Value} (n:h.Ns1 dx mA):∃od,h.get? dx=some od/\∀name,PySem.W.lookIn name od=some (mA name):=by
 obtain⟨o,es,ep,ho,hd,hk,_,hm⟩:=n;refine⟨o,ho,fun name=> ?_⟩;have e:=hm name;unfold nsFind findBy at e;rw[←Array.find?_toList]at e;unfold PySem.W.lookIn;rw[hd]
 dsimp only
 split
 ·rename_i y q;rw[q]at e;exact congrArg some e
 ·rename_i q;rw[q]at e;have a:es.toList.any (·.refKey)=false:=by
   rw[List.any_eq_false];intro y hy;obtain⟨z,t,hkey⟩:=hk y (Array.mem_toList_iff.mp hy);simp[DictEntry.refKey,hkey]
  have a':¬es.toList.any (·.refKey)=true:=by rw[a];exact Bool.false_ne_true
  rw[if_neg a'];exact congrArg some e
theorem ObjM.look {h:Heap}{x dx C:Addr}{mA:Str->Option Value} (I:ObjM h x dx C mA):∃od,PySem.W.InstAt h x (PySem.W.instObj C dx) C (some od)/\∀name,PySem.W.lookIn name od=some (mA name) :=
 let ⟨od,ho,hl⟩:=QO I.ns
 ⟨od,⟨I.obj,rfl,rfl,ho⟩,hl⟩
section
variable {prog:Program}{w:World}{A:Around}{E:Value->Shared->Prop}{s:Shared}{K:PySem.W.Frag}{x dx C f:Addr}{mA:Str->Option Value}{name:Str}{v:Value}
theorem YR {expr:Bool}{Q:Value->Shared->Prop} (X:K.In s.heap) (I:ObjM s.heap x dx C mA) (hg:PySem.W.plainGet K C name=true) (hh:PySem.W.hasDictIn K C=true)
  (ha:PySem.W.findIn K (.ref C) name=some none)(hv:mA name=some v)(hv':PySem.W.handedIn v=true)(h:Q v { s with toks:=s.toks+1 }) :
  wpAny (model prog w) A (getAttr (.ref x) name expr) Q E s:=by
 obtain⟨od,J,hl⟩:=I.look;exact PySem.W.get_value X J (PySem.W.plainGet_of hg).1 (PySem.W.findObj_own hh ha rfl (by rw[hl,hv])) hv' h
theorem SV {pl:Sem Bool}{Q:Value×List Value->Shared->Prop} (X:K.In s.heap) (I:ObjM s.heap x dx C mA) (hg:PySem.W.plainGet K C name=true)
  (hf:PySem.W.findIn K (.ref C) name=some (some (.ref f)))(ht:PySem.W.isFn K (.ref f)=true)(hv:mA name=none)(h:Q (.ref f,[.ref x]) s) :
  wpAny (model prog w) A (getMethod (.ref x) name pl) Q E s:=by
 obtain⟨od,J,hl⟩:=I.look;exact PySem.W.method_fn X J (PySem.W.plainGet_of hg).1 (PySem.W.plainGet_of hg).2 hf (beq_iff_eq.mp ht) (by show (PySem.W.lookIn name od).map (·.isSome)=some false;rw[hl,hv];rfl) h
theorem WO {ns:List Str}{Q:Unit->Shared->Prop} (X:K.In s.heap) (I:ObjM s.heap x dx C mA)
  (hs:PySem.W.findIn K (.ref C) "__setattr__" =some (some (.builtin "object.__setattr__")))(hp:PySem.W.plainOver K C=true)(ht:PySem.W.takerIn K C name=some none)(hh:PySem.W.hasDictIn K C=true)
  (hw:PySem.Within mA ns)(hsz:ns.length<=sizeLine)
  (h:∀h',ObjM h' x dx C (fun y=>if y=name then some v else mA y)->Heap.SameBut dx s.heap h'->Q () { s with heap:=h',toks:=s.toks+2 }) :
  wpAny (model prog w) A (setAttr (.ref x) name v) Q E s:=by
 obtain⟨od,J,hl⟩:=I.look;refine PySem.W.set_plain X J hs (PySem.W.osa_open (s:={ s with toks:=s.toks+1 }) (r:=none) X J hp ht fun b=> ?_);obtain⟨cd,hc,hd'⟩:=PySem.W.any_some hh;have hx:s.heap.get? x=some ⟨.ref C,some dx,.plain,#[]⟩:=I.obj;refine wpAny_bind (wpAny_pure (wpAny_bind (wpAny_bind (wpAny_loadPart hx (wpAny_bind (PySem.W.Looks.here (s:={ s with toks:=s.toks+1 }) (PySem.W.looks_clsIn X hc) ?_))))));rw[hd'];refine wpAny_pure (a:=some dx) (wpAny_bind (wpAny_pure (wpAny_bind ?_)));refine wpAny_nsSet1 (s:={ s with toks:=s.toks+1 }) I.ns fun h' hn2 hs2=> ?_;obtain⟨oD,esD,epD,hoD,hdD,hcD⟩:=hn2.count (PySem.Within.cons name v hw);refine wpAny_bind (wpAny_lookBehind hoD (by rw[hdD];exact pastItsLine_dict (Nat.le_trans hcD (by rw[List.length_cons];lia))) ?_);exact wpAny_pure (h _ ⟨(hs2.2 _ (Ne.symm I.ne)).trans I.obj,hn2,I.ne⟩ hs2)
theorem RF {R:Result->Shared->Prop}{vs:List Value}{kw:List (Str×Value)} (X:K.In s.heap) (hm:PySem.W.makesIn K C=true)
  (hi:PySem.W.findIn K (.ref C) "__init__" =some (some (.ref f)))(hf:PySem.W.typeIn K (.ref f)=some (.type "function"))
  (h:codeAny (model prog w) (A.under (.builtin "type.__call__" ⟨.ref C::vs,kw⟩)) (.call (.ref f) ⟨.ref (s.heap.objs.size+1)::vs,kw⟩) (PySem.W.InitBack (s.heap.objs.size+1) R)
   { s with heap:=(s.heap.push PySem.W.emptyDict).push (PySem.W.instObj C s.heap.objs.size) }) :
  codeAny (model prog w) A (.call (.ref C) ⟨vs,kw⟩) R s:=by
 obtain⟨hh,g,d,t,os⟩:=s;exact PySem.W.make_core (PySem.W.makes_of X hm) (PySem.W.looks_findIn X hi) (fun self=>PySem.W.bind_fn X self hf) (.inl rfl) h
end
def cN (f:Str)(v:V):List (Str×V)->List (Str×V)
 | []=>[(f,v)]
 | (g,x)::r=>if g=f then (g,v)::r else (g,x)::cN f v r
theorem lY (f g:Str)(v:V):∀fs:List (Str×V),(cN f v fs).lookup g=if g=f then some v else fs.lookup g
 | []=>by
  show List.lookup g [(f,v)]=_
  by_cases h:g=f
  ·have hb:(g==f)=true:=beq_iff_eq.mpr h;simp only[List.lookup,hb,if_pos h]
  ·have hb:(g==f)=false:=beq_eq_false_iff_ne.mpr h;simp only[List.lookup,hb,if_neg h]
 | (k,x)::r=>by
  have ih:=lY f g v r;rw[show cN f v ((k,x)::r)=(if k=f then (k,v)::r else (k,x)::cN f v r) from rfl]
  by_cases hk:k=f
  ·rw[if_pos hk]
   by_cases h:g=k
   ·have hb:(g==k)=true:=beq_iff_eq.mpr h;simp only[List.lookup,hb,if_pos (h.trans hk)]
   ·have hb:(g==k)=false:=beq_eq_false_iff_ne.mpr h;simp only[List.lookup,hb,if_neg (fun e:g=f=>h (e.trans hk.symm))]
  ·rw[if_neg hk]
   by_cases h:g=k
   ·have hb:(g==k)=true:=beq_iff_eq.mpr h;simp only[List.lookup,hb,if_neg (fun e:g=f=>hk (h.symm.trans e))]
   ·have hb:(g==k)=false:=beq_eq_false_iff_ne.mpr h;simp only[List.lookup,hb];exact ih
theorem vY (f:Str)(v:V):∀fs:List (Str×V),f∈(cN f v fs).map (·.1)/\∀g,g∈fs.map (·.1)->g∈(cN f v fs).map (·.1)
 | []=>⟨by simp[cN],fun g h=>by simp at h⟩
 | (k,x)::r=>by
  obtain⟨i1,i2⟩:=vY f v r;rw[show cN f v ((k,x)::r)=(if k=f then (k,v)::r else (k,x)::cN f v r) from rfl]
  by_cases hk:k=f
  ·rw[if_pos hk];subst hk;exact⟨by simp,fun g h=>by simpa using h⟩
  ·rw[if_neg hk];refine⟨?_,fun g h=> ?_⟩
   ·rw[List.map_cons];exact List.mem_cons_of_mem _ i1
   ·rw[List.map_cons]at h ⊢;rcases List.mem_cons.mp h with e|e
    ·exact List.mem_cons.mpr (.inl e)
    ·exact List.mem_cons_of_mem _ (i2 g e)
theorem xO (f:Str)(v:V):∀fs:List (Str×V),(cN f v fs).length<=fs.length+1
 | []=>by simp[cN]
 | (k,x)::r=>by
  have ih:=xO f v r;rw[show cN f v ((k,x)::r)=(if k=f then (k,v)::r else (k,x)::cN f v r) from rfl]
  by_cases hk:k=f
  ·rw[if_pos hk,List.length_cons,List.length_cons];lia
  ·rw[if_neg hk,List.length_cons,List.length_cons];lia
theorem RelO.some_of {v:V}{o:Option Value} (r:RelO (some v) o):∃u,o=some u/\RelV v u:=by
 cases o with
 | none=>exact(show False from r).elim
 | some u=>exact⟨u,rfl,r⟩
theorem RelO.none_of {o:Option Value}(r:RelO none o):o=none:=by
 cases o with
 | none=>rfl
 | some u=>exact(show False from r).elim
theorem u4 {v:V}{u:Value} (r:RelV v u):PySem.W.handedIn u=true:=by
 cases v with
 | non=>cases (show u=Value.none from r);rfl
 | bl b=>cases (show u=Value.bool b from r);rfl
 | int i=>obtain⟨t,e⟩:=(show ∃t,u=Value.int i t from r);cases e;rfl
 | str x=>obtain⟨t,e⟩:=(show ∃t,u=Value.str x t from r);cases e;rfl
 | byt b=>obtain⟨t,e⟩:=(show ∃t,u=Value.bytes b t from r);cases e;rfl
 | flt b=>obtain⟨t,e⟩:=(show ∃t,u=Value.float b t from r);cases e;rfl
 | ref a=>cases (show u=Value.ref a from r);rfl
 | ty n=>cases (show u=Value.type n from r);rfl
section
variable {P:Program}{w:World}{H H':Hp}{h h':Heap}{a C dx:Addr}{fs fs':List (Str×V)}
theorem jS (hok:HOk P w H h)(e:H a=some (.ins C dx fs)):∃mA,ObjM h a dx C mA/\(∀f,RelO (fs.lookup f) (mA f))/\PySem.Within mA (fs.map (·.1))/\fs.length<=1000/\H dx=some (.own a):=by
 obtain⟨d,z,ne,ob,mA,n,r,q⟩:=(show ObjOk P w H h a (.ins C dx fs) from hok a _ e)
 exact⟨mA,⟨ob,n,ne⟩,r,q,z,d⟩
end
structure Cls (K:PySem.W.Frag)(C:Addr):Prop where
 pg:PySem.W.plainGet K C Str.empty=true
 hd:PySem.W.hasDictIn K C=true
 po:PySem.W.plainOver K C=true
 sa:PySem.W.findIn K (.ref C) "__setattr__" =some (some (.builtin "object.__setattr__"))
theorem Cls.get {K:PySem.W.Frag}{C:Addr} (c:Cls K C) (f:Str):PySem.W.plainGet K C f=true:=c.pg
def NoAttr (K:PySem.W.Frag)(C:Addr)(f:Str):Prop:=PySem.W.findIn K (.ref C) f=some none
theorem NoAttr.taker {K:PySem.W.Frag}{C:Addr}{f:Str} (n:NoAttr K C f):PySem.W.takerIn K C f=some none:=by
 unfold PySem.W.takerIn;rw[show PySem.W.findIn K (.ref C) f=some none from n];rfl
structure Meth (K:PySem.W.Frag)(C:Addr)(m:Str)(f:Addr):Prop where
 at_:PySem.W.findIn K (.ref C) m=some (some (.ref f))
 fn:PySem.W.isFn K (.ref f)=true
 kp:PySem.W.keepIn K (.ref f)=true
section
variable {X:Cx}{pins:List (Addr×Obj)}{σ:St}{H:Hp}{s:Shared}{a C dx:Addr}{fs:List (Str×V)}{f:Str}{v:V}{A:Around}{E:Value->Shared->Prop}
theorem LF {b:Bool}{Q:Value->Shared->Prop} (I:Inv X pins σ H s) (e:H a=some (.ins C dx fs)) (c:Cls X.K C) (n:NoAttr X.K C f) (l:fs.lookup f=some v)
  (h:∀u s',Inv X pins σ H s'->RelV v u->Q u s'):wpAny (model X.prog X.w) A (getAttr (.ref a) f b) Q E s:=by
 obtain⟨mA,O,r,_,_,_⟩:=jS I.hok e;obtain⟨u,hu,ru⟩:=RelO.some_of (v:=v) (o:=mA f) (by rw[←l];exact r f);exact YR I.kIn O (c.get f) c.hd n hu (u4 ru) (h u _ (I.tok _) ru)
theorem AJ {m:Str}{g:Addr}{pl:Sem Bool}{Q:Value×List Value->Shared->Prop} (I:Inv X pins σ H s) (e:H a=some (.ins C dx fs)) (c:Cls X.K C) (k:Meth X.K C m g) (l:fs.lookup m=none)
  (h:Q (.ref g,[.ref a]) s):wpAny (model X.prog X.w) A (getMethod (.ref a) m pl) Q E s:=by
 obtain⟨mA,O,r,_,_,_⟩:=jS I.hok e;have hn:mA m=none:=RelO.none_of (by rw[←l];exact r m);exact SV I.kIn O (c.get m) k.at_ k.fn hn h
theorem LS {y:V}{u:Value}{Q:Unit->Shared->Prop} (I:Inv X pins σ H s) (e:H a=some (.ins C dx fs)) (c:Cls X.K C) (n:NoAttr X.K C f) (hl:fs.length<1000) (ry:RelV y u)
  (h:∀s',Inv X pins σ (upd H a (.ins C dx (cN f y fs))) s'->Q () s'):wpAny (model X.prog X.w) A (setAttr (.ref a) f u) Q E s:=by
 obtain⟨mA,O,r,wi,_,ho⟩:=jS I.hok e;have hz:(fs.map (·.1)).length<=sizeLine:=by rw[List.length_map,sizeLine_eq];lia
 refine WO I.kIn O c.sa c.po n.taker c.hd wi hz fun h' O' sb=>h _ ?_;have hd:∃o,h'.get? dx=some o:=let ⟨o,_,_,e',_⟩:=O'.ns;⟨o,e'⟩;refine I.write (x:=a) (e:=dx) (by rw[e];exact True.intro) (.inr ho) (fun b q hb z=>(sb.2 b hb).trans z) hd ?_;refine⟨by rw[aL O.ne];exact ho,?_,O.ne,O'.obj,_,O'.ns,fun g=> ?_,fun g hg=> ?_⟩
 ·have:=xO f y fs;lia
 ·show RelO ((cN f y fs).lookup g) (if g=f then some u else mA g);rw[lY]
  by_cases q:g=f
  ·rw[if_pos q,if_pos q];exact ry
  ·rw[if_neg q,if_neg q];exact r g
 ·by_cases q:g=f
  ·rw[q];exact(vY f y fs).1
  ·refine(vY f y fs).2 g (wi g fun z=>hg ?_);show (if g=f then some u else mA g)=none;rw[if_neg q];exact z
theorem Inv.made (I:Inv X pins σ H s):Inv X pins σ (upd (upd H s.heap.objs.size (.own (s.heap.objs.size+1))) (s.heap.objs.size+1) (.ins C s.heap.objs.size []))
  { s with heap:=(s.heap.push PySem.W.emptyDict).push (PySem.W.instObj C s.heap.objs.size) }:=by
 have e1:(s.heap.push PySem.W.emptyDict).get? s.heap.objs.size=some PySem.W.emptyDict:=Heap.get?_push_size s.heap rfl;have e2:((s.heap.push PySem.W.emptyDict).push (PySem.W.instObj C s.heap.objs.size)).get? (s.heap.objs.size+1)=some (PySem.W.instObj C s.heap.objs.size):=by
  have:=Heap.get?_push_size (s.heap.push PySem.W.emptyDict) (o:=PySem.W.instObj C s.heap.objs.size) rfl
  rwa [Heap.size_push]at this
 have e3:(s.heap.push PySem.W.emptyDict).Ns s.heap.objs.size (fun _=>none):=⟨PySem.W.emptyDict,#[],_,e1,rfl,(fun e he=>absurd he (by simp)),fun _=>rfl⟩
 have I1:=I.laid (a:=s.heap.objs.size) (o:= .own (s.heap.objs.size+1)) (h':=s.heap.push PySem.W.emptyDict) (t':=s.toks) (fun b u q=>Heap.get?_push_of_some _ q) (Nat.le_refl _) ⟨_,e1⟩;refine I1.laid (a:=s.heap.objs.size+1) (o:= .ins C s.heap.objs.size []) (t':=s.toks) (fun b u q=>Heap.get?_push_of_some _ q) (Nat.le_of_eq (Heap.size_push _ _)) ?_;have ne:s.heap.objs.size≠s.heap.objs.size+1:=Nat.ne_of_lt (Nat.lt_succ_self _);refine⟨by rw[aL ne,bC],Nat.zero_le _,ne,e2,fun _=>none,(Heap.Ns1.of_empty e3).at fun o q=>Heap.get?_push_of_some _ q,fun _=>True.intro,fun y hy=>absurd rfl hy⟩
theorem X3 {prog:Program}{w:World}{env:Env}{e:Expr}{f:Str}{pos:Pos}{s:Shared}{Q:Value->Shared->Prop} (hb:attributeBase e f env (eval e env)=eval e env)
  (h:wpAny (model prog w) A (eval e env) (fun o s₁=>wpAny (model prog w) A (getAttr o f true) Q E s₁) E s):wpAny (model prog w) A (eval (.Attribute e f pos) env) Q E s :=
 Attribute_any_ h (by rw[arm_eval_Attribute,hb])
end
def R5 (K:PySem.W.Frag)(ta:TE)(f:Str):TE:=fun σ H Q=>ta σ H fun x H1=>∃a C dx fs v,x= .ref a/\H1 a=some (.ins C dx fs)/\Cls K C/\NoAttr K C f/\fs.lookup f=some v/\Q v H1
def aBu (K:PySem.W.Frag)(ta tv:TE)(f:Str):TS:=fun D σ H=>tv σ H fun y H1=>ta σ H1 fun x H2=>∃a C dx fs,x= .ref a/\H2 a=some (.ins C dx fs)/\Cls K C/\NoAttr K C f/\fs.length<1000 ∧
 D.nx σ (upd H2 a (.ins C dx (cN f y fs)))
def aAg (X:Cx)(op:Operator)(rd:V->V->Hp->VK->Prop):Prop :=
 ∀(pins:List (Addr×Obj)) (s:Shared) (σ:St) (H:Hp) (x y:V) (u v:Value) (Q:VK),Inv X pins σ H s->RelV x u->RelV y v->rd x y H Q->wpAny (model X.prog X.w) X.A (inplaceOp op u v) (EP X pins σ Q) X.xe s
section
variable {X:Cx}{o e value:Expr}{f:Str}{pos pos' tpos:Pos}{ta tv:TE}
theorem bB (he:PE X e ta)(hb:attributeBase e f X.env (eval e X.env)=eval e X.env):PE X (.Attribute e f pos) (R5 X.K ta f):=by
 intro pins s σ H Q I h;refine X3 hb (thn (he pins s σ H _ I h) fun u s1 ⟨x,H1,I1,rx,a,C,dx,fs,v,ex,ea,c,n,l,q⟩=> ?_);subst ex;obtain rfl:u=Value.ref a:=rx;exact LF I1 ea c n l fun u' s2 I2 ru=>⟨v,H1,I2,ru,q⟩
theorem eK (ha:PE X o ta)(hv:PE X value tv)(hs:swapsWith value (some (.Attribute o f pos')) pos.line X.env=pure false):PS X (.Assign [.Attribute o f pos'] value pos) (aBu X.K ta tv f):=by
 intro pins s σ H D I h;refine plainObj_wpAny_Assign_Attribute (thn (hv pins s σ H _ I h) fun u s1 ⟨y,H1,I1,ry,q⟩=>thn (ha pins s1 σ H1 _ I1 q) fun ov s2 ⟨x,H2,I2,rx,a,C,dx,fs,ex,ea,c,n,l,q2⟩=> ?_) hs;subst ex;obtain rfl:ov=Value.ref a:=rx;exact LS I2 ea c n l ry fun s3 I3=>⟨σ,_,I3,q2⟩
def aAs:V->V->Hp->VK->Prop:=fun x y H Q=>∃i j,x= .int i/\y= .int j/\Q (.int (i+j)) H
theorem aAD:aAg X .Add aAs:=by
 rintro pins s σ H x y u v Q I rx ry ⟨i,j,rfl,rfl,q⟩;obtain⟨t,rfl⟩:=(show ∃t,u=Value.int i t from rx)
 obtain⟨t',rfl⟩:=(show ∃t',v=Value.int j t' from ry)
 exact PyProof.Rows.iadd_int ⟨.int (i+j),H,I.tok _,⟨_,rfl⟩,q⟩
end
section
variable {X:Cx}{pins:List (Addr×Obj)}{σ:St}{H:Hp}{s:Shared}{A:Around}{E:Value->Shared->Prop}{Q:Value->Shared->Prop}{c:Value}{b:Bool}
inductive jI (K:PySem.W.Frag)(H:Hp):V->Value->Prop where
 | non:jI K H .non (.type "NoneType")
 | bl (x:Bool):jI K H (.bl x) (.type "bool")
 | int (i:Int):jI K H (.int i) (.type "int")
 | str (x:Str):jI K H (.str x) (.type "str")
 | flt (x:UInt64):jI K H (.flt x) (.type "float")
 | lst {a:Addr}{xs:List V} (e:H a=some (.lst xs)):jI K H (.ref a) (.type "list")
 | frz {a:Addr}{o:Obj}{xs:List V} (e:H a=some (.frz o (.lst xs))):jI K H (.ref a) (.type "list")
 | tup {a:Addr}{xs:List V} (e:H a=some (.tup xs)):jI K H (.ref a) (.type "tuple")
 | dK {a:Addr}{kvs:List (Key×V)} (e:H a=some (.dK kvs)):jI K H (.ref a) (.type "dict")
 | dT {a:Addr}{kvs:List (List Key×V)} (e:H a=some (.dT kvs)):jI K H (.ref a) (.type "dict")
 | ins {a C dx:Addr}{fs:List (Str×V)} (e:H a=some (.ins C dx fs)) (cl:Cls K C) (ha:PySem.W.findIn K (.ref C) "__class__" =some (some (.builtin "object.__class__")))
   (hn:PySem.W.specialIn K (.builtin "object.__class__") "__get__" =some (some (.builtin "getset_descriptor.__get__")))(htk:PySem.W.takesIn K (.builtin "object.__class__")=some true)
   (hm:PySem.W.mroIn K C (.type "object")=some true):jI K H (.ref a) (.ref C)
theorem QK {x:V}{u t:Value} (I:Inv X pins σ H s) (rx:RelV x u) (ty:jI X.K H x t) (e:PySem.W.kitOne X.K t c=some b) (h:∀tk,Q (.bool b) { s with toks:=tk }) :
  wpAny (model X.prog X.w) A (call (.builtin "isinstance") [u,c]) Q E s:=by
 cases ty with
 | non=>cases (show u=Value.none from rx);exact PySem.W.kia_one PySem.W.kitx_none I.kIn True.intro e (fun z=>nomatch z) h
 | bl y=>cases (show u=Value.bool y from rx);exact PySem.W.kia_one PySem.W.kitx_bool I.kIn True.intro e (fun z=>nomatch z) h
 | int i=>obtain⟨t,q⟩:=(show ∃t,u=Value.int i t from rx);cases q;exact PySem.W.kia_one PySem.W.kitx_int I.kIn True.intro e (fun z=>nomatch z) h
 | str y=>obtain⟨t,q⟩:=(show ∃t,u=Value.str y t from rx);cases q;exact PySem.W.kia_one PySem.W.kitx_str I.kIn True.intro e (fun z=>nomatch z) h
 | flt y=>obtain⟨t,q⟩:=(show ∃t,u=Value.float y t from rx);cases q;exact PySem.W.kia_one PySem.W.kitx_float I.kIn True.intro e (fun z=>nomatch z) h
 | @lst a xs ea =>
  cases (show u=Value.ref a from rx);obtain⟨_,_,n,_,h1⟩:=(show ObjOk X.prog X.w H s.heap a (.lst xs) from I.hok a _ ea)
  exact PySem.W.kia_one PySem.W.kitx_list I.kIn ⟨_,h1,rfl⟩ e (fun z=>nomatch z) h
 | @frz a ob xs ea =>
  cases (show u=Value.ref a from rx);obtain⟨_,_,_,n,_,h1⟩:=(show ObjOk X.prog X.w H s.heap a (.frz ob (.lst xs)) from I.hok a _ ea)
  exact PySem.W.kia_one PySem.W.kitx_list I.kIn ⟨_,h1,rfl⟩ e (fun z=>nomatch z) h
 | @tup a xs ea =>
  cases (show u=Value.ref a from rx);obtain⟨_,_,_,p⟩:=(show ObjOk X.prog X.w H s.heap a (.tup xs) from I.hok a _ ea)
  obtain⟨o,h1,h2,_⟩:=p;exact PySem.W.kia_one PySem.W.kitx_tuple I.kIn ⟨o,h1,h2⟩ e (fun z=>nomatch z) h
 | @dK a kvs ea =>
  cases (show u=Value.ref a from rx);obtain⟨_,_,vs,_,p⟩:=(show ObjOk X.prog X.w H s.heap a (.dK kvs) from I.hok a _ ea)
  obtain⟨o,es,ep,h1,h2,_⟩:=p;exact PySem.W.kia_one PySem.W.kitx_dict I.kIn ⟨o,h1,h2.1⟩ e (fun z=>nomatch z) h
 | @dT a kvs ea =>
  cases (show u=Value.ref a from rx);obtain⟨_,_,xs,_,o,es,ep,h1,h2,_⟩:=(show ObjOk X.prog X.w H s.heap a (.dT kvs) from I.hok a _ ea)
  exact PySem.W.kia_one PySem.W.kitx_dict I.kIn ⟨o,h1,h2.1⟩ e (fun z=>nomatch z) h
 | @ins a C dx fs ea cl ha hn htk hm =>
  cases (show u=Value.ref a from rx);obtain⟨mA,O,_⟩:=jS I.hok ea;obtain⟨od,J,_⟩:=O.look;exact PySem.W.kia_one (PySem.W.kitx_own (cl.get _) cl.hd ha hn htk hm) I.kIn J e (fun z=>nomatch z) h
end
end L2
namespace L2
open PySem PySem.Spec PyProof.Rows
structure Room (k:Nat)(A:Around):Prop where
 hd:A.handled=none
 dp:A.depth+3 * k+5<recursionLimit
 un:A.units+16 * k+200<cLine
theorem Room.mono {j k:Nat}{A:Around} (r:Room k A) (h:j<=k):Room j A:=⟨r.hd,by have:=r.dp;lia,by have:=r.un;lia⟩
theorem Room.deeper {k:Nat}{A:Around} (r:Room (k+1) A) (env:Env):Room k (A.deeper env) :=
 ⟨r.hd,by have:=r.dp;show A.depth+1+3 * k+5<_;lia,by have:=r.un;show A.units+3+16 * k+200<_;lia⟩
theorem MJ {A:Around}{C:Addr}{us:List Value}{kw:List (Str×Value)}:(A.under (.builtin "type.__call__" ⟨.ref C::us,kw⟩)).depth=A.depth+1:=by
 first|rfl|simp[Around.under,Code.weight,Code.isCreation,Code.isGuard,Code.isCaller,Code.frames,Code.isFrame,guardIds]
theorem MN {A:Around}{C:Addr}{us:List Value}{kw:List (Str×Value)}:(A.under (.builtin "type.__call__" ⟨.ref C::us,kw⟩)).units=A.units+1:=by
 first|rfl|simp[Around.under,Code.cUnits,Code.frames,Code.isFrame]
theorem Room.make {k:Nat}{A:Around} (r:Room (k+1) A) (C:Addr) (us:List Value) (kw:List (Str×Value)):Room k (A.under (.builtin "type.__call__" ⟨.ref C::us,kw⟩)) :=
 ⟨r.hd,by have:=r.dp;rw[MJ];lia,by have:=r.un;rw[MN];lia⟩
theorem Room.depth {k:Nat}{A:Around} (r:Room k A):A.depth<recursionLimit:=by have:=r.dp;lia
theorem Room.units0 {k:Nat}{A:Around} (r:Room k A):A.units<cLine:=by have:=r.un;lia
def LW:TA:=fun _ H Q=>Q [] H
def VB (ta:TE)(tr:TA):TA:=fun σ H Q=>ta σ H fun x H1=>tr σ H1 fun xs H2=>Q (x::xs) H2
section
variable {X:Cx}{e:Expr}{es:List Expr}{te:TE}{t:TA}{pos:Pos}
theorem aC:PA X [] LW:=fun _ _ _ _ H Q I h=>Calls.spliced_nil ⟨[],H,I,.nil,h⟩
theorem aA (ha:PE X e te)(hr:PA X es t)(hs:starEach (e::es) X.env=(false,eval e X.env)::starEach es X.env:=by rfl):PA X (e::es) (VB te t):=by
 intro pos pins s σ H Q I h;rw[hs];show wpAny _ _ (spliced ((false,eval e X.env)::backTo pos (starEach es X.env))) _ _ s;refine Calls.spliced_cons (thn (ha pins s σ H _ I h) fun u s1 ⟨x,H1,I1,r1,q1⟩=> ?_);exact thn (hr pos pins s1 σ H1 _ I1 q1) fun us s2 ⟨xs,H2,I2,r2,q2⟩=>⟨x::xs,H2,I2,.cons r1 r2,q2⟩
def aAB (t:TA):TE:=fun σ H Q=>t σ H fun xs H1=>xs.length<=sizeLine/\∀p,H1 p=none->Q (.ref p) (upd H1 p (.tup xs))
def ZD (t:TA):TE:=fun σ H Q=>t σ H fun xs H1=>xs.length<=sizeLine/\∀p,H1 p=none->Q (.ref p) (upd H1 p (.lst xs))
theorem bV {x1}(h:PA X es t):PE X (.Tuple es x1 pos) (aAB t):=by
 intro pins s σ H Q I hq;refine wpAny_Tuple_spliced (thn (h pos pins s σ H _ I hq) fun us s1 ⟨xs,H1,I1,r,z,q⟩=>⟨by rw[←r.length];exact z,?_⟩);have hf:H1 s1.heap.objs.size=none:=I1.hok.fresh (Nat.le_refl _);refine⟨.ref s1.heap.objs.size,upd H1 s1.heap.objs.size (.tup xs),I1.laid (t':=s1.toks) (fun b u e=>Heap.get?_push_of_some _ e) (Nat.le_refl _) ?_,rfl,q _ hf⟩;exact⟨z,us,r,⟨_,Heap.get?_push_size _ rfl,rfl,_,rfl⟩⟩
theorem fG (h:PA X es t):PE X (.List es pos) (ZD t):=by
 intro pins s σ H Q I hq;refine wpAny_List_spliced (thn (h pos pins s σ H _ I hq) fun us s1 ⟨xs,H1,I1,r,z,q⟩=>⟨by rw[←r.length];exact z,?_⟩);have hf:H1 s1.heap.objs.size=none:=I1.hok.fresh (Nat.le_refl _);refine⟨.ref s1.heap.objs.size,upd H1 s1.heap.objs.size (.lst xs),I1.laid (t':=s1.toks) (fun b u e=>Heap.get?_push_of_some _ e) (Nat.le_refl _) ?_,rfl,q _ hf⟩;exact⟨z,us,0,r,Heap.get?_push_size _ rfl⟩
end
abbrev Sp:=List V->Hp->VK->XK->Prop
abbrev CXT:=List Env->Hp->Shared->XK->Value->Shared->Prop
structure Env0 (P:Program)(w:World)(K:PySem.W.Frag)(mg:Str->Option Value)(base:Heap)(A:Around)(outer:List Env)(s:Shared)(H:Hp):Prop where
 frames:A.frames=some outer
 mod:Mod K mg base
 bs:∀b o,base.get? b=some o->s.heap.get? b=some o/\H b=none
 bsz:base.objs.size<=s.heap.objs.size
 funs:s.heap.FunFrames base outer
 frf:∀b∈frs outer,H b=none
 hok:HOk P w H s.heap
 bare:AllBare s.gens
def CE (outer:List Env)(P:Program)(w:World)(H:Hp)(s:Shared)(Q:VK)(u:Value)(s':Shared):Prop :=
 ∃v H',s'.os=s.os/\AllBare s'.gens/\Un (frs outer) [] H H' s.heap s'.heap/\HOk P w H' s'.heap/\RelV v u/\Q v H'
def CR (CX:CXT)(outer:List Env)(P:Program)(w:World)(H:Hp)(s:Shared)(Q:VK)(E:XK)(r:Result)(s':Shared):Prop :=
 match r with
 | .ok (.ret u)=>CE outer P w H s Q u s'
 | .ok _=>False
 | .error e=>CX outer H s E e s'
structure FnOk (P:Program)(w:World)(K:PySem.W.Frag)(mg:Str->Option Value)(base:Heap)(CX:CXT)(k:Nat)(f:Addr)(fd:FuncData)(ps:List Str)(sp:Sp):Prop where
 len:∀vs H Q E,sp vs H Q E->vs.length=ps.length
 run:∀(A:Around) (outer:List Env) (s:Shared) (H:Hp) (args:Args) (us:List Value) (vs:List V) (Q:VK) (E:XK),Room k A->Env0 P w K mg base A outer s H->BindsTo s fd args (ps.zip us)->Vals vs us->sp vs H Q E →
  codeAny (model P w) A (.call (.ref f) args) (CR CX outer P w H s Q E) s
theorem FnOk.mono {P:Program}{w:World}{K:PySem.W.Frag}{mg:Str->Option Value}{base:Heap}{CX:CXT}{j k:Nat}{f:Addr}{fd:FuncData}{ps:List Str}{sp:Sp} (F:FnOk P w K mg base CX j f fd ps sp) (h:j<=k) :
  FnOk P w K mg base CX k f fd ps sp:=⟨F.len,fun A outer s H args us vs Q E hr=>F.run A outer s H args us vs Q E (hr.mono h)⟩
theorem Env0.make {P:Program}{w:World}{K:PySem.W.Frag}{mg:Str->Option Value}{base:Heap}{A:Around}{outer:List Env}{s:Shared}{H:Hp} (e:Env0 P w K mg base A outer s H) (C:Addr) (us:List Value) (kw:List (Str×Value)) :
  Env0 P w K mg base (A.under (.builtin "type.__call__" ⟨.ref C::us,kw⟩)) outer s H:=⟨by first|exact e.frames|(simpa [Around.under,Code.envs,Code.isFrame,pushEnvs] using e.frames),e.mod,e.bs,e.bsz,e.funs,e.frf,e.hok,e.bare⟩
section
variable {X:Cx}{pins:List (Addr×Obj)}{σ:St}{H:Hp}{s s':Shared}
theorem Inv.env0 (I:Inv X pins σ H s):Env0 X.prog X.w X.K X.mg X.base X.A X.stack s H :=
 ⟨I.ok.frames,I.ok.mod,I.bs,Nat.le_trans I.ok.bsz I.sz,I.stack,I.stkFree,I.hok,I.bare⟩
theorem Inv.after {Q:VK}{u:Value} (I:Inv X pins σ H s) (h:CE X.stack X.prog X.w H s Q u s'):EP X pins σ Q u s':=by
 obtain⟨v,H',os,bare,un,hok,r,q⟩:=h;obtain⟨hh,g,d,t,os'⟩:=s';obtain rfl:os'=s.os:=os;exact⟨v,H',I.call (h':=hh) (g':=g) (d':=d) (t':=t) (ch:=[]) un hok bare (fun b z=>absurd z (by simp)),r,q⟩
end
def rE (sp:Sp)(dvs:List V)(E:XK)(t:TA):TE:=fun σ H Q=>t σ H fun vs H1=>sp (vs++dvs) H1 Q E
def MD (C:Addr)(sp:Sp)(dvs:List V)(E:XK)(t:TA):TE:=fun σ H Q=>t σ H fun vs H1=>∀x dx,H1 x=none->H1 dx=none->dx≠x →
 sp (.ref x::(vs++dvs)) (upd (upd H1 dx (.own x)) x (.ins C dx [])) (fun v H2=>v= .non/\Q (.ref x) H2) E
def Binds (K:PySem.W.Frag)(fd:FuncData)(ps:List Str)(ds:List Value):Prop :=
 ∀(s:Shared) (us:List Value),K.In s.heap->(us++ds).length=ps.length->BindsTo s fd ⟨us,[]⟩ (ps.zip (us++ds))
theorem Binds.all {K:PySem.W.Frag}{fd:FuncData}{ps:List Str} (h:∀us:List Value,us.length=ps.length->bindArgs fd ⟨us,[]⟩=pure (ps.zip us)):Binds K fd ps []:=fun s us _ hl=>by
 rw[List.append_nil]at hl ⊢;exact .of_eq (h us hl)
def vB (CX:CXT)(X:Cx)(E:XK):Prop:=∀(pins:List (Addr×Obj)) (σ:St) (H:Hp) (s:Shared) (e:Value) (s':Shared),Inv X pins σ H s->CX X.stack H s E e s'->X.xe e s'
section
variable {X:Cx}{CX:CXT}{k:Nat}{f C:Addr}{fd:FuncData}{ps:List Str}{sp:Sp}{dvs:List V}{ds:List Value}{E:XK}{x m:Str}{p pos apos:Pos}{e o:Expr}{es:List Expr}{ta:TE}{t:TA}
theorem sN {pins:List (Addr×Obj)}{σ:St}{H:Hp}{s:Shared}{Q:VK}{us:List Value}{vs:List V} (F:FnOk X.prog X.w X.K X.mg X.base CX k f fd ps sp) (hr:Room k X.A) (hb:Binds X.K fd ps ds) (hd:Vals dvs ds) (hx:vB CX X E)
  (I:Inv X pins σ H s)(r:Vals vs us)(h:sp (vs++dvs) H Q E):wpAny (model X.prog X.w) X.A (call (.ref f) us) (EP X pins σ Q) X.xe s:=by
 have r2:Vals (vs++dvs) (us++ds):=r.append hd;have hl:(us++ds).length=ps.length:=by rw[←r2.length];exact F.len _ _ _ _ h
 refine wpAny_call (codeAny_mono (F.run X.A X.stack s H ⟨us,[]⟩ (us++ds) (vs++dvs) Q E hr I.env0 (hb s us I.kIn hl) r2 h) fun r s' hq=> ?_);cases r with
 | error e=>exact hx pins σ H s e s' I hq
 | ok fl =>
  cases fl with
  | ret u=>exact I.after hq
  | next=>exact False.elim hq
  | brk=>exact False.elim hq
  | cont=>exact False.elim hq
theorem J9 (F:FnOk X.prog X.w X.K X.mg X.base CX k f fd ps sp)(hr:Room k X.A)(hg:Gl X x)(hm:X.mg x=some (.ref f))(hk:PySem.W.keepIn X.K (.ref f)=true)(hb:Binds X.K fd ps ds)(hd:Vals dvs ds)(hx:vB CX X E)
  (ha:PA X (e::es) t)(hdb:(x==("__debug__" :Str))=false:=by decide)(he:starEach (e::es) X.env=(false,eval e X.env)::starEach es X.env:=by rfl)(hpl:(backTo pos (starEach es X.env)).any (·.1)=false:=by rfl) :
  PE X (.Call (.Name x p) (e::es) [] pos) (rE sp dvs E t):=by
 intro pins s σ H Q I h;refine wpAny_Call_Name_kw (sQ I hg hm ?_ hdb);refine PySem.W.callWith_K (h₀:=X.base) I.ok.mod.kin hk (thn (ha pos pins s σ H _ I h) fun us s1 ⟨vs,H1,I1,r,q⟩=>⟨I1.kIn,?_⟩) he hpl;exact sN F hr hb hd hx I1 r q
structure Mk (K:PySem.W.Frag)(C f:Addr):Prop where
 makes:PySem.W.makesIn K C=true
 init:PySem.W.findIn K (.ref C) "__init__" =some (some (.ref f))
 fn:PySem.W.isFn K (.ref f)=true
 kp:PySem.W.keepIn K (.ref C)=true
theorem SO {pins:List (Addr×Obj)}{σ:St}{H:Hp}{s:Shared}{Q:VK}{us:List Value}{vs:List V} (M:Mk X.K C f) (F:FnOk X.prog X.w X.K X.mg X.base CX k f fd ps sp) (hr:Room (k+1) X.A) (hb:Binds X.K fd ps ds) (hd:Vals dvs ds)
  (hx:vB CX X E)(I:Inv X pins σ H s)(r:Vals vs us)
  (h:∀x dx,H x=none->H dx=none->dx≠x->sp (.ref x::(vs++dvs)) (upd (upd H dx (.own x)) x (.ins C dx [])) (fun v H2=>v= .non/\Q (.ref x) H2) E) :
  wpAny (model X.prog X.w) X.A (call (.ref C) us) (EP X pins σ Q) X.xe s:=by
 have hq:=h (s.heap.objs.size+1) s.heap.objs.size (I.hok.fresh (Nat.le_succ _)) (I.hok.fresh (Nat.le_refl _)) (Nat.ne_of_lt (Nat.lt_succ_self _));have I2:=Inv.made (C:=C) I;have r2:Vals (V.ref (s.heap.objs.size+1)::(vs++dvs)) (Value.ref (s.heap.objs.size+1)::(us++ds)):= .cons rfl (r.append hd);have hl:(Value.ref (s.heap.objs.size+1)::us++ds).length=ps.length:=by
  have e:=r2.length;rw[F.len _ _ _ _ hq]at e;exact e.symm
 refine wpAny_call (RF (f:=f) I.kIn M.makes M.init (beq_iff_eq.mp M.fn) (codeAny_mono (F.run _ X.stack _ _ ⟨Value.ref (s.heap.objs.size+1)::us,[]⟩ (Value.ref (s.heap.objs.size+1)::(us++ds)) _ _ E (hr.make C us [])
  (I2.env0.make C us []) (hb _ (Value.ref (s.heap.objs.size+1)::us) I2.kIn hl) r2 hq) fun r s' hq'=> ?_))
 cases r with
 | error e=>exact hx pins σ _ _ e s' I2 hq'
 | ok fl =>
  cases fl with
  | ret u =>
   obtain⟨v,H',I3,rv,ev,q3⟩:=I2.after hq';subst ev;exact⟨rv,⟨V.ref (s.heap.objs.size+1),H',I3,rfl,q3⟩⟩
  | next=>exact False.elim hq'
  | brk=>exact False.elim hq'
  | cont=>exact False.elim hq'
theorem V6 (M:Mk X.K C f)(F:FnOk X.prog X.w X.K X.mg X.base CX k f fd ps sp)(hr:Room (k+1) X.A)(hg:Gl X x)(hm:X.mg x=some (.ref C))(hb:Binds X.K fd ps ds)(hd:Vals dvs ds)(hx:vB CX X E)
  (ha:PA X (e::es) t)(hdb:(x==("__debug__" :Str))=false:=by decide)(he:starEach (e::es) X.env=(false,eval e X.env)::starEach es X.env:=by rfl)(hpl:(backTo pos (starEach es X.env)).any (·.1)=false:=by rfl) :
  PE X (.Call (.Name x p) (e::es) [] pos) (MD C sp dvs E t):=by
 intro pins s σ H Q I h;refine wpAny_Call_Name_kw (sQ I hg hm ?_ hdb);refine PySem.W.callWith_K (h₀:=X.base) I.ok.mod.kin M.kp (thn (ha pos pins s σ H _ I h) fun us s1 ⟨vs,H1,I1,r,q⟩=>⟨I1.kIn,?_⟩) he hpl;exact SO M F hr hb hd hx I1 r q
end
section
variable {X:Cx}{CX:CXT}{k:Nat}{f C:Addr}{fd:FuncData}{ps ks:List Str}{sp:Sp}{E:XK}{x m:Str}{p pos apos kpos:Pos}{e o:Expr}{es:List Expr}{kws:List Keyword}{te ta:TE}{t tk:TA}{nm:Option Str}
variable {g:List Value->List Value->List Value}{gV:List V->List V->List V}
end
structure aQ (N P:List Str)(sc:Scope):Prop where
 kind:sc.kind= .function
 co:sc.isCoroutine=false
 gen:sc.isGenerator=false
 nd:N.Nodup
 pre:N.take P.length=P
 par:∀x∈P,sc.names.lookup x=some .local∨sc.names.lookup x=some .cell
 nofree:∀y∈sc.names,y.2≠ .free
theorem CZ {kindOf:Str->Option NameKind}{x:Str}:∀{binds:List (Str×Value)}{m:Str->Option Value},(∀v,(x,v)∉binds)->bindL kindOf binds m x=m x
 | [],_,_=>rfl
 | (n,v)::r,m,h=>by
  unfold bindL;rw[CZ fun w hw=>h w (List.mem_cons_of_mem _ hw)]
  split
  ·have:x≠n:=by rintro rfl;exact h v List.mem_cons_self
   simp[this]
  ·rfl
theorem DE {kindOf:Str->Option NameKind}{x:Str}:∀{binds:List (Str×Value)}{m:Str->Option Value},(∀v,(x,v)∉binds)->bindC kindOf binds m x=m x
 | [],_,_=>rfl
 | (n,v)::r,m,h=>by
  unfold bindC;rw[DE fun w hw=>h w (List.mem_cons_of_mem _ hw)]
  split
  ·rfl
  ·have:x≠n:=by rintro rfl;exact h v List.mem_cons_self
   simp[this]
theorem DB {kindOf:Str->Option NameKind}{x:Str}{v:Value}:∀{P:List Str}{vs:List Value}{i:Nat}{m:Str->Option Value},P.Nodup->P[i]? =some x->vs[i]? =some v->kindOf x=some .local →
  bindL kindOf (P.zip vs) m x=some v
 | [],_,_,_,_,h,_,_=>by simp at h
 | _::_,[],_,_,_,_,h,_=>by simp at h
 | p::P,w::vs,0,m,nd,h1,h2,hk=>by
  simp at h1 h2;subst h1;subst h2;show bindL kindOf ((p,w)::P.zip vs) m p=_;unfold bindL;rw[CZ fun v hv=>(List.nodup_cons.mp nd).1 (List.of_mem_zip hv).1,if_pos hk];simp
 | p::P,w::vs,i+1,m,nd,h1,h2,hk=>by
  show bindL kindOf ((p,w)::P.zip vs) m x=_;unfold bindL;exact DB (i:=i) (List.nodup_cons.mp nd).2 (by simpa using h1) (by simpa using h2) hk
theorem DA {kindOf:Str->Option NameKind}{x:Str}{v:Value}:∀{P:List Str}{vs:List Value}{i:Nat}{m:Str->Option Value},P.Nodup->P[i]? =some x->vs[i]? =some v->kindOf x≠some .local →
  bindC kindOf (P.zip vs) m x=some v
 | [],_,_,_,_,h,_,_=>by simp at h
 | _::_,[],_,_,_,_,h,_=>by simp at h
 | p::P,w::vs,0,m,nd,h1,h2,hk=>by
  simp at h1 h2;subst h1;subst h2;show bindC kindOf ((p,w)::P.zip vs) m p=_;unfold bindC;rw[DE fun v hv=>(List.nodup_cons.mp nd).1 (List.of_mem_zip hv).1,if_neg hk];simp
 | p::P,w::vs,i+1,m,nd,h1,h2,hk=>by
  show bindC kindOf ((p,w)::P.zip vs) m x=_;unfold bindC;exact DA (i:=i) (List.nodup_cons.mp nd).2 (by simpa using h1) (by simpa using h2) hk
def start (N:List Str)(vs:List V):St:=vs.map some++List.replicate (N.length - vs.length) none
def tP (CX:CXT)(P:Program)(w:World)(K:PySem.W.Frag)(mg:Str->Option Value)(base:Heap)(N:List Str)(qual:Str)(scope:Scope)(f:Addr)(cd:Value)(A:Around)(outer:List Env)(s:Shared)(H:Hp)(E:XK):Cx where
 prog:=P
 w:=w
 K:=K
 mg:=mg
 base:=base
 A:=A.deeper (envOfC qual scope s.heap.objs.size f cd)
 N:=N
 s₀:=s
 H₀:=H
 env:=envOfC qual scope s.heap.objs.size f cd
 outer:=outer
 stack:=envOfC qual scope s.heap.objs.size f cd::outer
 ex:=[]
 calm:=true
 fn:=fun _=>true
 pn:=[]
 xe:=fun e s'=>wpAny (model P w) (A.deeper (envOfC qual scope s.heap.objs.size f cd)) (leaving (envOfC qual scope s.heap.objs.size f cd) e) (fun _ s''=>CX outer H s E e s'') (fun e' s''=>CX outer H s E e' s'') s'
theorem tV {sc:Scope}{n:Nat}{x:Str} (h:sc.names.lookup x=some .cell):∃c,(cellsFrom n sc.names []).lookup x=some c:=by
 have q:=PySem.W.cellsFrom_some sc.names n [] (.inl h);exact Option.isSome_iff_exists.mp q
theorem DH {CX:CXT}{P:Program}{w:World}{K:PySem.W.Frag}{mg:Str->Option Value}{base:Heap}{N ps:List Str}{qual:Str}{scope:Scope}{f:Addr}{cd:Value}{A:Around}{outer:List Env}{s s1:Shared}{H:Hp}{E:XK}{us:List Value}{vs:List V}
  (S:aQ N ps scope)(hd:A.handled=none)(e0:Env0 P w K mg base A outer s H)(hl:vs.length=ps.length)(r:Vals vs us)
  (x:InCallC s s.heap.objs.size (bindL (envOfC qual scope s.heap.objs.size f cd).kindOf (ps.zip us) fun _=>none) (cellsFrom (s.heap.objs.size+1) scope.names []) (bindC (envOfC qual scope s.heap.objs.size f cd).kindOf (ps.zip us) fun _=>none) s1) :
  Inv (tP CX P w K mg base N qual scope f cd A outer s H E) [] (start N vs) H s1:=by
 have hpl:ps.length<=N.length:=by have:=congrArg List.length S.pre;rw[List.length_take]at this;lia
 obtain⟨h1,tk,rfl,hk⟩:=x.done;have noA:∀b:Addr,b∉(tP CX P w K mg base N qual scope f cd A outer s H E).ex:=fun b z=>absurd (show b∈([]:List Addr) from z) (by simp);refine⟨⟨e0.mod,S.kind,rfl,rfl,Nat.le_refl _,fun y z c h1 h2=> ?_,fun y hy=> ?_,fun y c _ h=> ?_,fun _=>hd,Around.frames_deeper e0.frames,.inr ⟨rfl,rfl⟩,fun b z=>absurd z (noA b),e0.bs,e0.bsz,fun b _ _=>noA b,fun b z=>absurd z (noA b),e0.funs,e0.frf⟩,
  rfl,e0.bare,Un.kept hk,⟨_,x.toInCall.ns,fun i y v h1 h2 h3=> ?_⟩,fun y c h=>⟨_,x.cell y c h⟩,e0.hok.fresh (Nat.le_refl _),fun y c h=> ?_,fun p hp=>absurd (show p∈([]:List (Addr×Obj)) from hp) (by simp),e0.hok.kept hk,?_⟩
 ·exact name_of_addr x.apart (PySem.mem_of_lookup h1) (PySem.mem_of_lookup h2)
 ·have hy:scope.names.lookup y=some .cell∨scope.names.lookup y=some .free:=hy;rcases hy with hy|hy
  ·exact tV hy
  ·exact absurd rfl (S.nofree _ (PySem.mem_of_lookup hy))
 ·exact Nat.le_of_lt (x.above y c (PySem.mem_of_lookup h))
 ·have hi:i<vs.length:=by
   unfold start at h2
   by_cases hi:i<vs.length
   ·exact hi
   ·rw[List.getElem?_append_right (by simpa using hi)]at h2;rw[List.getElem?_replicate]at h2
    split at h2<;>cases h2
  have ha:vs[i]? =some v:=by
   unfold start at h2;rw[List.getElem?_append_left (by simpa using hi),List.getElem?_map]at h2;cases e:vs[i]? with
   | none=>rw[e]at h2;cases h2
   | some a=>rw[e]at h2;cases h2;rfl
  obtain⟨u,hu,rv⟩:=r.get ha;have hp:ps[i]? =some y:=by
   rw[←S.pre,List.getElem?_take_of_lt (by lia)];exact h1
  have ndP:ps.Nodup:=by rw[←S.pre];exact S.nd.sublist (List.take_sublist _ _)
  refine⟨u,rv,?_⟩;rcases S.par y (List.mem_of_getElem? hp) with k|k
  ·exact .inl ⟨k,DB ndP hp hu k⟩
  ·obtain⟨c,e⟩:=tV (n:=s.heap.objs.size+1) k;refine .inr ⟨.inl k,c,e,?_⟩;have q:=x.cell y c e;rw[DA ndP hp hu (by show scope.names.lookup y≠_;rw[k];decide)]at q;exact q
 ·exact e0.hok.fresh (Nat.le_of_lt (x.above y c (PySem.mem_of_lookup h)))
 ·unfold start;show _=N.length;rw[List.length_append,List.length_map,List.length_replicate]
  lia
theorem aB7 {CX:CXT}{P:Program}{w:World}{K:PySem.W.Frag}{mg:Str->Option Value}{base:Heap}{k:Nat}{f:Addr}{name qual:Str}{params:Arguments}{body:List Stmt}{scope:Scope}{dV kV doc pm cdv ct oc:Value}{an od:Option Addr}
  {osl:Array (Option Value)}{N ps:List Str}{sp:Sp} (lk:K.lookup f=some ⟨oc,od,.func (PySem.W.fnOf name qual params body scope dV kV doc pm an cdv ct),osl⟩) (hcd:PySem.W.codeIn K cdv qual=true) (S:aQ N ps scope)
  (len:∀vs H Q E,sp vs H Q E->vs.length=ps.length)
  (hbody:∀(A:Around) (outer:List Env) (s:Shared) (H:Hp) (vs:List V) (Q:VK) (E:XK),Room k (A.deeper (envOfC qual scope s.heap.objs.size f cdv))->sp vs H Q E →
   ∃t,PSs (tP CX P w K mg base N qual scope f cdv A outer s H E) body t/\t { nx:=fun _ H'=>Q .non H',rt:=Q } (start N vs) H) :
  FnOk P w K mg base CX (k+1) f (PySem.W.fnOf name qual params body scope dV kV doc pm an cdv ct) ps sp:=by
 refine⟨len,fun A outer s H args us vs Q E hr e0 hb r hsp=> ?_⟩;have hl:=len _ _ _ _ hsp;have KX:K.In s.heap:=e0.mod.kin.keeps fun b o e=>(e0.bs b o e).1;have lim:s.heap.NoLimit:=e0.mod.nolimit.keeps fun b o e=>(e0.bs b o e).1;have hkind:∀y∈ps.zip us,scope.names.lookup y.1=some .local∨(scope.names.lookup y.1=some .cell/\((cellsFrom (s.heap.objs.size+1) scope.names []).lookup y.1).isSome=true):=fun⟨n,v⟩ hy=>by
  rcases S.par n (List.of_mem_zip hy).1 with q|q
  ·exact .inl q
  ·exact .inr ⟨q,PySem.W.cellsFrom_some _ _ _ (.inl q)⟩
 refine codeAny_call_function hr.depth (KX _ _ lk) rfl S.co S.gen rfl (PySem.W.codeRec_of KX hcd) (hb _ _ _ _ ?_);refine wpAny_newFunctionEnv_cells S.kind hkind fun env he s1 x=> ?_;subst he;refine⟨lim.keeps x.toInCall.keep,codeAny_func ?_⟩;obtain⟨t,ht,hq⟩:=hbody A outer s H vs Q E (hr.deeper _) hsp;have I:Inv (tP CX P w K mg base N qual scope f cdv A outer s H E) [] (start N vs) H s1:=DH S hr.hd e0 hl r x;refine wpAny_mono (ht [] s1 (start N vs) H _ I hq) (fun fl s' hs=> ?_) fun e s' hs=>hs;have fin:∀{σ':St}{H':Hp}{v:V}{u:Value},Inv (tP CX P w K mg base N qual scope f cdv A outer s H E) [] σ' H' s'->RelV v u->Q v H'->CE outer P w H s Q u s' :=
  fun {σ' H' v u} J rv q=>⟨v,H',J.os,J.bare,J.base,J.hok,rv,q⟩
 cases fl with
 | ret u =>
  obtain⟨v,σ',H',J,rv,q⟩:=hs;exact fin J rv q
 | next =>
  obtain⟨σ',H',J,q⟩:=hs;exact fin (v:=V.non) (u:=Value.none) J rfl q
 | brk =>
  obtain⟨_,_,_,q⟩:=hs;exact False.elim q
 | cont =>
  obtain⟨_,_,_,q⟩:=hs;exact False.elim q
end L2
namespace L2
open PySem PySem.Spec PyProof.Rows
section
variable {X:Cx}{x:Str}{p pos:Pos}{e:Expr}{es:List Expr}{t:TA}{id T:String}{r:List V->Hp->VK->Prop}
def tCB (r:List V->Hp->VK->Prop)(t:TA):TE:=fun σ H Q=>t σ H fun vs H1=>r vs H1 Q
theorem bS (hc:c7 X (.builtin id) r)(hg:Gl X x)(hm:X.mg x=none)(hv:bootBuiltins x=some (.builtin id))(ha:PA X (e::es) t)(hn:x≠ "__name__" :=by decide)(hdb:(x==("__debug__" :Str))=false:=by decide)
  (he:starEach (e::es) X.env=(false,eval e X.env)::starEach es X.env:=by rfl)(hpl:(backTo pos (starEach es X.env)).any (·.1)=false:=by rfl):PE X (.Call (.Name x p) (e::es) [] pos) (tCB r t):=by
 intro pins s σ H Q I h;refine wpAny_Call_Name_kw (vC I hg hm hv ?_ hn hdb);exact PyProof.Rows.callWith_builtin1 (thn (ha pos pins s σ H _ I h) fun us s1 ⟨vs,H1,I1,r1,q1⟩=>hc pins s1 σ H1 vs us Q I1 r1 q1) he hpl
theorem mH (hc:c7 X (.type T) r)(hg:Gl X x)(hm:X.mg x=none)(hv:bootBuiltins x=some (.type T))(ha:PA X (e::es) t)(hn:x≠ "__name__" :=by decide)(hdb:(x==("__debug__" :Str))=false:=by decide)
  (he:starEach (e::es) X.env=(false,eval e X.env)::starEach es X.env:=by rfl)(hpl:(backTo pos (starEach es X.env)).any (·.1)=false:=by rfl):PE X (.Call (.Name x p) (e::es) [] pos) (tCB r t):=by
 intro pins s σ H Q I h;refine wpAny_Call_Name_kw (vC I hg hm hv ?_ hn hdb);exact PyProof.Rows.callWith_type1 (thn (ha pos pins s σ H _ I h) fun us s1 ⟨vs,H1,I1,r1,q1⟩=>hc pins s1 σ H1 vs us Q I1 r1 q1) he hpl
end
end L2
namespace HT
open PySem PyProof.Rows
section
open PySem.SeqAt
open PySem.AutoSeq1 (wpAny_loadPart')
open PySem.MeetsSeq PySem.MeetsSeq2 PySem.MeetsSeq3
end
section
variable {prog:Program}{w:World}{A:Around}{E:Value->Shared->Prop}{s:Shared}
def sIx (n d:Nat):Option Int->Nat
 | none=>d
 | some v=>if v<0 then (v+(n:Int)).toNat else min v.toNat n
end
end HT
namespace L2
open PySem PySem.Spec PyProof.Rows
abbrev TO:=St->Hp->(Option Int->Hp->Prop)->Prop
def PO (X:Cx)(e:Option Expr)(t:TO):Prop :=
 ∀(pins:List (Addr×Obj)) (s:Shared) (σ:St) (H:Hp) (Q:Option Int->Hp->Prop),Inv X pins σ H s->t σ H Q →
  wpAny (model X.prog X.w) X.A (evalPart e X.env) (fun u s'=>∃o H',Inv X pins σ H' s'/\IsPart u o/\Q o H') X.xe s
def J7:TO:=fun _ H Q=>Q none H
def VD (t:TE):TO:=fun σ H Q=>t σ H fun x H1=>∃i,x= .int i/\Q (some i) H1
section
variable {X:Cx}{e:Expr}{te:TE}{lo hi:Option Expr}{tl th:TO}{pos p2:Pos}
theorem wL:PO X none J7:=by
 intro pins s σ H Q I h;rw[evalPart_none];exact wpAny_pure ⟨none,H,I,.none,h⟩
theorem jU (h:PE X e te):PO X (some e) (VD te):=by
 intro pins s σ H Q I hw;rw[evalPart_some];refine thn (h pins s σ H _ I hw) fun u s1 ⟨x,H1,I1,r1,q1⟩=> ?_;obtain⟨i,rfl,q⟩:=q1;obtain⟨t,rfl⟩:=r1;exact⟨some i,H1,I1,.int i t,q⟩
def SlR (X:Cx)(r:V->Option Int->Option Int->Hp->VK->Prop):Prop :=
 ∀(pins:List (Addr×Obj)) (s:Shared) (σ:St) (H:Hp) (x:V) (v vl vu:Value) (lo hi:Option Int) (sl:Addr) (Q:VK),Inv X pins σ H s->RelV x v->s.heap.IsSliceOf sl vl vu .none->IsPart vl lo->IsPart vu hi->r x lo hi H Q →
  ∃T id,typeLookup (.type T) "__getitem__" =pure (some (.builtin id))/\s.TypeIs v T/\wpAny (model X.prog X.w) X.A (getItem v (.ref sl)) (EP X pins σ Q) X.xe s
def tSl (r:V->Option Int->Option Int->Hp->VK->Prop)(te:TE)(tl th:TO):TE:=fun σ H Q=>te σ H fun x H1=>tl σ H1 fun l H2=>th σ H2 fun u H3=>r x l u H3 Q
theorem k6 {r:V->Option Int->Option Int->Hp->VK->Prop}(hr:SlR X r)(he:PE X e te)(hl:PO X lo tl)(hu:PO X hi th):PE X (.Subscript e (.Slice lo hi none p2) pos) (tSl r te tl th):=by
 intro pins s σ H Q I h;refine Subscript_ (thn (he pins s σ H _ I h) fun v s1 ⟨x,H1,I1,r1,q1⟩=> ?_);refine wpAny_Slice (thn (hl pins s1 σ H1 _ I1 q1) fun vl s2 ⟨l,H2,I2,pl,q2⟩=>thn (hu pins s2 σ H2 _ I2 q2) fun vu s3 ⟨u,H3,I3,pu,q3⟩=> ?_);rw[evalPart_none];refine wpAny_pure ?_;have I4:Inv X pins σ H3 { s3 with heap:=s3.heap.push { cls:= .type "slice",data:= .fields #[vl,vu,.none] } }:=I3.kept (t':=s3.toks) fun b ob q=>Heap.get?_push_of_some _ q;obtain⟨T,id,hT,ht,hg⟩:=hr pins { s3 with heap:=s3.heap.push { cls:= .type "slice",data:= .fields #[vl,vu,.none] } } σ H3 x v vl vu l u s3.heap.objs.size Q I4 r1 (Heap.IsSliceOf.new ..) pl pu q3;show wpAny (model X.prog X.w) X.A (subscriptTail e (.Slice lo hi none p2) v (.ref s3.heap.objs.size)) (EP X pins σ Q) X.xe { s3 with heap:=s3.heap.push { cls:= .type "slice",data:= .fields #[vl,vu,.none] } };exact tail_any (ops:=[.ref s3.heap.objs.size,v]) ht hT hg (by with_unfolding_all rfl)
def yG (xs:List V)(lo hi:Option Int):List V:=(xs.drop (HT.sIx xs.length 0 lo)).take (HT.sIx xs.length xs.length hi - HT.sIx xs.length 0 lo)
theorem IZ (xs:List V)(lo hi:Option Int):(yG xs lo hi).length<=xs.length:=by
 unfold yG;rw[List.length_take,List.length_drop]
 lia
end
end L2
namespace L2
open PySem PySem.Spec PyProof.Rows
def ixN (n:Nat)(i:Int):Option Nat:=if 0<=i then (if i<n then some i.toNat else none) else if -(n:Int)<=i then some (i+n).toNat else none
def atI {α:Type}(xs:List α)(i:Int):Option α:=(ixN xs.length i).bind fun j=>xs[j]?
theorem X2 {n:Nat}{i:Int}{j:Nat} (h:ixN n i=some j):seqIndex? i n=some j/\j<n/\ -(n:Int)<=i/\i<n:=by
 unfold ixN at h
 by_cases h0:0<=i
 ·rw[if_pos h0]at h
  by_cases h1:i<n
  ·rw[if_pos h1]at h;have e:i.toNat=j:=Option.some.inj h;exact⟨by rw[seqIndex_of h0 h1,e],by lia,by lia,h1⟩
  ·rw[if_neg h1]at h;cases h
 ·rw[if_neg h0]at h
  by_cases h1: -(n:Int)<=i
  ·rw[if_pos h1]at h;have e:(i+n).toNat=j:=Option.some.inj h;exact⟨by rw[seqIndex_neg (by lia) h1,e],by lia,h1,by lia⟩
  ·rw[if_neg h1]at h;cases h
theorem BP {α:Type}{xs:List α}{i:Int}{v:α} (h:atI xs i=some v):∃j,seqIndex? i xs.length=some j/\xs[j]? =some v/\j<xs.length/\ -(xs.length:Int)<=i/\i<xs.length:=by
 unfold atI at h;cases e:ixN xs.length i with
 | none=>rw[e]at h;cases h
 | some j =>
  rw[e]at h;obtain⟨h1,h2,h3,h4⟩:=X2 e;exact⟨j,h1,h,h2,h3,h4⟩
theorem wR {α:Type}{xs:List α}{j:Nat}{v:α} (h:xs[j]? =some v):atI xs (j:Int)=some v:=by
 have hj:j<xs.length:=(List.getElem?_eq_some_iff.mp h).1;have e:ixN xs.length (j:Int)=some j:=by
  unfold ixN;rw[if_pos (by lia),if_pos (by lia)];simp
 unfold atI;rw[e];exact h
def YK (b:Expr):Prop:=∀o i,subscripted b false o i=operate [o,i] (getItem o i)
def IxR (X:Cx)(r:R2):Prop :=
 ∀(value slice:Expr) (pins:List (Addr×Obj)) (s:Shared) (σ:St) (H:Hp) (x y:V) (v u:Value) (Q:VK),Inv X pins σ H s->RelV x v->RelV y u->r x y H Q →
  subscripted slice false v u=operate [v,u] (getItem v u)->wpAny (model X.prog X.w) X.A (subscriptTail value slice v u) (EP X pins σ Q) X.xe s
def MtR (X:Cx)(id:String)(r:V->List V->Hp->VK->Prop):Prop :=
 ∀(pins:List (Addr×Obj)) (s:Shared) (σ:St) (H:Hp) (x:V) (xs:List V) (v:Value) (us:List Value) (Q:VK),Inv X pins σ H s->RelV x v->Vals xs us->r x xs H Q →
  wpAny (model X.prog X.w) X.A (call (.builtin id) (v::us)) (EP X pins σ Q) X.xe s
section
variable {X:Cx}{a b:Expr}{ta tb:TE}{pos:Pos}
theorem dI {r:R2}(hr:IxR X r)(ha:PE X a ta)(hb:PE X b tb)(hs:YK b):PE X (.Subscript a b pos) (tOp r ta tb):=by
 intro pins s σ H Q I h;exact Subscript_ (T9 ha hb I h fun v u s2 x y H2 I2 rx ry q=>hr a b pins s2 σ H2 x y v u Q I2 rx ry q (hs _ _))
def E7 (K:PySem.W.Frag):R2:=fun x y H Q=>∃p xs i v,x= .ref p/\y= .int i/\SqL K H p xs/\atI xs i=some v/\Q v H
def aBk (K:PySem.W.Frag):R2:=fun x y H Q=>∃p xs i v,x= .ref p/\y= .int i/\SqT K H p xs/\atI xs i=some v/\Q v H
def aCs:R2:=fun x y H Q=>∃z i c,x= .str z/\y= .int i/\z.length<=sizeLine/\atI z.cps.toList i=some c/\Q (.str ⟨#[c]⟩) H
theorem fI:IxR X (E7 X.K):=by
 intro value slice pins s σ H x y v u Q I rx ry h hs;obtain⟨p,xs,i,z,rfl,rfl,hq,he,q⟩:=h;cases rx;obtain⟨t,rfl⟩:=ry;obtain⟨its,r,pl,hz⟩:=I.list hq;obtain⟨j,h1,h2,h3,h4,h5⟩:=BP he;obtain⟨w,ew,rw'⟩:=r.get h2;have hl:=r.length;have hn:=u7;have fin:EP X pins σ Q w s:=⟨z,H,I,rw',q⟩
 by_cases h0:0<=i
 ·have hj:i.toNat=j:=by
   rw[seqIndex_of h0 h5]at h1;exact Option.some.inj h1
  exact item_listR pl.isList h0 (by lia) (by rw[hj];simpa using ew) fin hs
 ·have hj:(i+(its.toArray.size:Int)).toNat=j:=by
   rw[seqIndex_neg (by lia) h4]at h1;rw[List.size_toArray,←hl];exact Option.some.inj h1
  exact subscriptTail_builtinR (x:=w) pl.isList.typeIs slot_list_getitem.lookup
   (wpAny_getItem_list_neg (Q:=fun r s'=>r=w/\EP X pins σ Q r s') pl.isList (by lia) (by rw[List.size_toArray]<;>lia) (by lia) (by rw[hj];simpa using ew) ⟨rfl,fin⟩) hs
theorem GB:IxR X (aBk X.K):=by
 intro value slice pins s σ H x y v u Q I rx ry h hs;obtain⟨p,xs,i,z,rfl,rfl,hq,he,q⟩:=h;cases rx;obtain⟨t,rfl⟩:=ry;obtain⟨its,r,pl,hz⟩:=I.tuple hq;obtain⟨j,h1,h2,h3,h4,h5⟩:=BP he;obtain⟨w,ew,rw'⟩:=r.get h2;have hl:=r.length;have hn:=u7;have fin:EP X pins σ Q w s:=⟨z,H,I,rw',q⟩
 exact subscriptTail_builtinR (x:=w) pl.typeIs slot_tuple_getitem.lookup
  (getItem_tuple (j:=j) (Q:=fun r s'=>r=w/\EP X pins σ Q r s') pl (by lia) (by lia) (by rw[List.size_toArray,←hl];exact h1) (by simpa using ew) ⟨rfl,fin⟩) hs
theorem aAz:IxR X aCs:=by
 intro value slice pins s σ H x y v u Q I rx ry h hs;obtain⟨z,i,c,rfl,rfl,hz,he,q⟩:=h;obtain⟨t,rfl⟩:=rx;obtain⟨t',rfl⟩:=ry;obtain⟨j,h1,h2,h3,h4,h5⟩:=BP he;have hl:z.cps.toList.length=z.length:=by simp[Str.length]
 rw[hl]at h1 h4 h5;have hn:=u7;exact tail_any (typeIs_str s z t) slot_str_getitem.lookup (getItem_str (c:=c) (by
  have e1:decide (i< -(2^63:Int))=false:=decide_eq_false (by lia);have e2:decide (i≥2^63)=false:=decide_eq_false (by lia);rw[e1,e2,Bool.or_false]) (by rw[h1];simpa using h2) ⟨.str ⟨#[c]⟩,H,I.tok _,⟨_,rfl⟩,q⟩) hs
theorem FK (lo hi:Option Int)(n:Nat):(sliceBounds lo hi none n).1=((HT.sIx n 0 lo:Nat):Int)/\(sliceBounds lo hi none n).2.1=((HT.sIx n n hi:Nat):Int)/\(sliceBounds lo hi none n).2.2=1:=by
 refine⟨?_,?_,rfl⟩
 ·cases lo with
  | none=>simp[sliceBounds,HT.sIx]
  | some i =>
   simp only[sliceBounds,HT.sIx,Option.getD_none,show (1:Int)>0 by decide,if_true]
   by_cases h:i<0
   ·simp only[h,if_true]<;>lia
   ·simp only[h,if_false]<;>lia
 ·cases hi with
  | none=>simp[sliceBounds,HT.sIx]
  | some i =>
   simp only[sliceBounds,HT.sIx,Option.getD_none,show (1:Int)>0 by decide,if_true]
   by_cases h:i<0
   ·simp only[h,if_true]<;>lia
   ·simp only[h,if_false]<;>lia
theorem EE (its:List Value)(lo hi:Option Int):slicePick its.toArray lo hi none=((its.drop (HT.sIx its.length 0 lo)).take (HT.sIx its.length its.length hi - HT.sIx its.length 0 lo)).toArray:=by
 obtain⟨h1,h2,h3⟩:=FK lo hi its.toArray.size;unfold slicePick;rw[h1,h2,h3];simp only[sliceRange_one,pick_run,List.size_toArray]<;>rfl
def SQ (K:PySem.W.Frag):V->Option Int->Option Int->Hp->VK->Prop:=fun x lo hi H Q=>∃a xs,x= .ref a/\SqL K H a xs/\∀p,H p=none->Q (.ref p) (upd H p (.lst (yG xs lo hi)))
theorem KK:SlR X (SQ X.K):=by
 intro pins s σ H x v vl vu lo hi sl Q I rx hs pl pu h;obtain⟨a,xs,rfl,hx,q⟩:=h;cases rx;obtain⟨its,r,ht,hz⟩:=I.list hx;have hlen:=r.length;refine⟨"list",_,slot_list_getitem.lookup,ht.isList.typeIs,?_⟩;refine wpAny_getItem_list_slice ht.isList hs pl pu .none (by simp) ?_ (by rw[List.size_toArray]<;>lia);rw[EE,←hlen];refine⟨.ref s.heap.objs.size,_,I.laid (t':=s.toks) (o:= .lst (yG xs lo hi)) (fun b ob q=>Heap.get?_push_of_some _ q) (Nat.le_refl _) ?_,rfl,q _ (I.hok.fresh (Nat.le_refl _))⟩;exact⟨Nat.le_trans (IZ xs lo hi) hz,_,0,(r.drop (HT.sIx xs.length 0 lo)).take (HT.sIx xs.length xs.length hi - HT.sIx xs.length 0 lo),Heap.get?_push_size _ rfl⟩
def j3:V->Bool
 | .non=>true
 | .bl _=>true
 | .int _=>true
 | .str _=>true
 | _=>false
def eqV:V->V->Bool
 | .non,.non=>true
 | .bl a,.bl b=>a==b
 | .bl a,.int b=>(if a then 1 else 0)==b
 | .int a,.bl b=>a==(if b then 1 else 0)
 | .int a,.int b=>a==b
 | .str a,.str b=>a==b
 | _,_=>false
theorem NF {A:Around}{s:Shared}{y x:V}{u v:Value} (ry:RelV y u) (rx:RelV x v) (fy:j3 y=true) (fx:j3 x=true):SeqAt.EqAt A s u v (eqV y x):=by
 cases y with
 | non =>
  cases ry;cases x with
  | non=>cases rx;exact SeqAt.EqAt.same _
  | bl b=>cases rx;exact SeqAt.EqAt.none_bool b
  | int b=>obtain⟨t,rfl⟩:=rx;exact SeqAt.EqAt.none_int b t
  | str b=>obtain⟨t,rfl⟩:=rx;exact SeqAt.EqAt.none_str b t
  | _=>exact absurd (show false=true from fx) Bool.false_ne_true
 | bl a =>
  cases ry;cases x with
  | non=>cases rx;exact SeqAt.EqAt.bool_none a
  | bl b=>cases rx;exact SeqAt.EqAt.bool_bool a b
  | int b=>obtain⟨t,rfl⟩:=rx;exact SeqAt.EqAt.bool_int a b t
  | str b=>obtain⟨t,rfl⟩:=rx;exact SeqAt.EqAt.bool_str a b t
  | _=>exact absurd (show false=true from fx) Bool.false_ne_true
 | int a =>
  obtain⟨t',rfl⟩:=ry;cases x with
  | non=>cases rx;exact SeqAt.EqAt.int_none a t'
  | bl b=>cases rx;exact SeqAt.EqAt.int_bool a t' b
  | int b=>obtain⟨t,rfl⟩:=rx;exact SeqAt.EqAt.int_int a t' b t
  | str b=>obtain⟨t,rfl⟩:=rx;exact SeqAt.EqAt.int_str a t' b t
  | _=>exact absurd (show false=true from fx) Bool.false_ne_true
 | str a =>
  obtain⟨t',rfl⟩:=ry;cases x with
  | non=>cases rx;exact SeqAt.EqAt.str_none a t'
  | bl b=>cases rx;exact SeqAt.EqAt.str_bool a t' b
  | int b=>obtain⟨t,rfl⟩:=rx;exact SeqAt.EqAt.str_int a t' b t
  | str b=>obtain⟨t,rfl⟩:=rx;exact SeqAt.EqAt.str_str a t' b t
  | _=>exact absurd (show false=true from fx) Bool.false_ne_true
 | _=>exact absurd (show false=true from fy) Bool.false_ne_true
def eqU (x:V)(u:Value):Bool:=match u with
 | .none=>eqV .non x
 | .bool b=>eqV (.bl b) x
 | .int i _=>eqV (.int i) x
 | .str z _=>eqV (.str z) x
 | _=>false
theorem NW {x y:V}{u:Value} (r:RelV y u) (f:j3 y=true):eqU x u=eqV y x:=by
 cases y with
 | non=>cases r;rfl
 | bl b=>cases r;rfl
 | int i=>obtain⟨t,rfl⟩:=r;rfl
 | str z=>obtain⟨t,rfl⟩:=r;rfl
 | _=>exact absurd (show false=true from f) Bool.false_ne_true
theorem sS {x:V}:∀{xs:List V}{us:List Value},Vals xs us->xs.all j3=true->us.any (eqU x)=xs.any fun y=>eqV y x
 | _,_,.nil,_=>rfl
 | y::xs,u::us,.cons r t,f=>by
  rw[List.all_cons,Bool.and_eq_true]at f;rw[List.any_cons,List.any_cons,NW r f.1,sS t f.2]
theorem oX {A:Around}{s:Shared}{x:V}{v:Value} (rx:RelV x v) (fx:j3 x=true):∀{xs:List V}{us:List Value},Vals xs us->xs.all j3=true->∀u∈us,SeqAt.EqAt A s u v (eqU x u)
 | _,_,.nil,_=>fun u hu=>by cases hu
 | y::xs,u::us,.cons r t,f=>fun u' hu=>by
  rw[List.all_cons,Bool.and_eq_true]at f;rcases List.mem_cons.mp hu with rfl|hu
  ·rw[NW r f.1];exact NF r rx f.1 fx
  ·exact oX rx fx t f.2 u' hu
def inV (x:V)(xs:List V):Bool:=xs.any fun y=>eqV y x
def rIn (K:PySem.W.Frag)(neg:Bool):R2:=fun x y H Q=>∃p xs,y= .ref p/\(SqL K H p xs∨SqT K H p xs)/\j3 x=true/\xs.all j3=true/\Q (.bl (if neg then !inV x xs else inV x xs)) H
theorem PV:OpR X (compareOp .In) (rIn X.K false):=by
 intro pins s σ H x y v u Q I rx ry h;obtain⟨p,xs,rfl,hq,fx,fs,q⟩:=h;cases ry;rcases hq with hq|hq
 ·obtain⟨its,r,pl,hz⟩:=I.list hq;refine SeqAt.in_listAt (eqU x) pl.isList (fun w hw=>oX rx fx r fs w (by simpa using hw)) ⟨.bl _,H,I,rfl,?_⟩;rw[show its.toArray.any (eqU x)=its.any (eqU x) by simp,sS r fs];exact q
 ·obtain⟨its,r,pl,hz⟩:=I.tuple hq;refine SeqAt.in_tupleAt (eqU x) pl (fun w hw=>oX rx fx r fs w (by simpa using hw)) ⟨.bl _,H,I,rfl,?_⟩;rw[show its.toArray.any (eqU x)=its.any (eqU x) by simp,sS r fs];exact q
theorem HJ:OpR X (compareOp .NotIn) (rIn X.K true):=by
 intro pins s σ H x y v u Q I rx ry h;obtain⟨p,xs,rfl,hq,fx,fs,q⟩:=h;cases ry;rcases hq with hq|hq
 ·obtain⟨its,r,pl,hz⟩:=I.list hq;refine SeqAt.notIn_listAt (eqU x) pl.isList (fun w hw=>oX rx fx r fs w (by simpa using hw)) ⟨.bl _,H,I,rfl,?_⟩;rw[show its.toArray.any (eqU x)=its.any (eqU x) by simp,sS r fs];exact q
 ·obtain⟨its,r,pl,hz⟩:=I.tuple hq;refine SeqAt.notIn_tupleAt (eqU x) pl (fun w hw=>oX rx fx r fs w (by simpa using hw)) ⟨.bl _,H,I,rfl,?_⟩;rw[show its.toArray.any (eqU x)=its.any (eqU x) by simp,sS r fs];exact q
theorem E3:c7 X (.builtin "len") (fun xs H Q=>∃p ys,xs=[.ref p]/\(SqL X.K H p ys∨SqT X.K H p ys)/\Q (.int ys.length) H):=by
 intro pins s σ H xs us Q I r h;obtain⟨p,ys,rfl,hq,q⟩:=h;obtain⟨u,rfl,rx⟩:=iY r;cases rx;have hn:=u7;rcases hq with hq|hq
 ·obtain⟨its,r',pl,hz⟩:=I.list hq;have hlen:=r'.length;exact Calls.call_len_list pl.isList (by simp only[List.size_toArray]<;>lia) ⟨.int ys.length,H,I.tok _,⟨s.toks+1,by rw[List.size_toArray,hlen]⟩,q⟩
 ·obtain⟨its,r',pl,hz⟩:=I.tuple hq;have hlen:=r'.length;exact len_tuple pl (by simp only[List.size_toArray]<;>lia) ⟨.int ys.length,H,I.tok _,⟨s.toks+1,by rw[List.size_toArray,hlen]⟩,q⟩
theorem GH:c7 X (.builtin "len") (fun xs H Q=>∃z,xs=[.str z]/\z.length<=sizeLine/\Q (.int z.length) H):=by
 intro pins s σ H xs us Q I r h;obtain⟨z,rfl,hz,q⟩:=h;obtain⟨u,rfl,t,rfl⟩:=iY r;have hn:=u7;exact len_str (by lia) ⟨.int z.length,H,I.tok _,⟨_,rfl⟩,q⟩
def tyV (K:PySem.W.Frag)(T:String)(x:V)(H:Hp):Prop:=match x with
 | .str _=>T= "str"
 | .int _=>T= "int"
 | .ref p=>(T= "list" /\∃xs,SqL K H p xs)∨(T= "tuple" /\∃o,K.lookup p=some o/\o.cls= .type "tuple" /\o.dict=none) ∨
   (T= "dict" /\((∃kvs,H p=some (.dK kvs))∨∃kvs,H p=some (.dT kvs)))∨(T= "set" /\∃S n,H p=some (.set S n))
 | _=>False
theorem aAF {pins:List (Addr×Obj)}{σ:St}{H:Hp}{s:Shared}{T:String}{x:V}{v:Value} (I:Inv X pins σ H s) (r:RelV x v) (ty:tyV X.K T x H) :
  s.TypeIs v T/\∀a,v= .ref a->∃ob,s.heap.get? a=some ob/\ob.dict=none:=by
 cases x with
 | str z =>
  obtain⟨t,rfl⟩:=r;cases (show T= "str" from ty);exact⟨typeIs_str s z t,fun _ e=>nomatch e⟩
 | int i =>
  obtain⟨t,rfl⟩:=r;cases (show T= "int" from ty);exact⟨typeIs_int s i t,fun _ e=>nomatch e⟩
 | ref p =>
  cases r;rcases ty with⟨rfl,xs,hq⟩|⟨rfl,o,hk,hc,hd⟩|⟨rfl,hk⟩|⟨rfl,S,n,hk⟩
  ·obtain⟨its,_,pl,_⟩:=I.list hq;refine⟨pl.isList.typeIs,fun a e=> ?_⟩;cases e;obtain⟨o,n,e,c,hd,_⟩:=pl;exact⟨o,e,hd⟩
  ·refine⟨⟨o,I.kIn p o hk,hc⟩,fun a e=> ?_⟩;cases e;exact⟨o,I.kIn _ o hk,hd⟩
  ·have z:∃o,s.heap.get? p=some o/\o.ExactDict:=by
    rcases hk with⟨kvs,hk⟩|⟨kvs,hk⟩
    ·obtain⟨_,_,_,_,o,_,_,e,ex,_⟩:=I.hok p _ hk;exact⟨o,e,ex⟩
    ·obtain⟨_,_,_,_,o,_,_,e,ex,_⟩:=I.hok p _ hk;exact⟨o,e,ex⟩
   obtain⟨o,e,ex⟩:=z;refine⟨⟨o,e,ex.1⟩,fun a e2=> ?_⟩;cases e2;exact⟨o,e,ex.2.1⟩
  ·obtain⟨o,_,_,_,e,ex,_⟩:=I.hok p _ hk;refine⟨⟨o,e,ex.1⟩,fun a e2=> ?_⟩;cases e2;exact⟨o,e,ex.2.1⟩
 | _=>exact False.elim ty
def tBM (K:PySem.W.Frag)(T:String)(r:V->List V->Hp->VK->Prop)(to:TE)(t:TA):TE:=fun σ H Q=>to σ H fun x H1=>tyV K T x H1/\t σ H1 fun xs H2=>r x xs H2 Q
variable {o e:Expr}{es:List Expr}{to:TE}{t:TA}{name:Str}{apos cpos:Pos}{T id:String}{r:V->List V->Hp->VK->Prop}
theorem wS (pa:PlainAttrs T)(slot:Slot T name id)(hty:typeOf (.builtin id)=pure (.type "method_descriptor"))(hm:MtR X id r)(ho:PE X o to)(ha:PA X (e::es) t)
  (hbase:attributeBase o name X.env (eval o X.env)=eval o X.env:=by rfl)
  (hfew:((backTo cpos (starEach (e::es) X.env)).all (fun x=> !x.1)&&(backToKw cpos (keywordEach [] X.env)).all (fun x=>x.1.isSome)
   && decide ((e::es).length+([]:List Keyword).length+(if ([]:List Keyword).isEmpty then 0 else 1)<30))=true:=by rfl)
  (hline:(apos.endLine==cpos.line)=true:=by rfl)(hs:starEach (e::es) X.env=(false,eval e X.env)::starEach es X.env:=by rfl)(hplain:(backTo cpos (starEach es X.env)).any (·.1)=false:=by rfl) :
  PE X (.Call (.Attribute o name apos) (e::es) [] cpos) (tBM X.K T r to t):=by
 intro pins s σ H Q I h;refine wpAny_Call_method_late hbase hfew hline rfl (thn (ho pins s σ H _ I h) fun v s1 ⟨x,H1,I1,r1,ty,q1⟩=> ?_);obtain⟨h1,h2⟩:=aAF I1 r1 ty;refine⟨T,id,pa,slot,hty,h1,h2,?_⟩;have hA:=ha cpos pins s1 σ H1 _ I1 q1;rw[hs]at hA ⊢;refine Calls.callWith_builtin (by show (false||(backTo cpos (starEach es X.env)).any (·.1))=false;rw[hplain]<;>rfl) (Calls.evalArgs_plain ?_);exact thn hA fun us s2 ⟨vs,H2,I2,r2,q2⟩=>hm pins s2 σ H2 x vs v us Q I2 r1 r2 q2
end
end L2
namespace L2
open PySem PySem.Spec PyProof.Rows
def MtM (X:Cx)(id:String)(r:V->List V->Hp->VK->Prop):Prop :=
 ∀(pins:List (Addr×Obj)) (s:Shared) (σ:St) (H:Hp) (x:V) (xs:List V) (v:Value) (us:List Value) (Q:VK),Inv X pins σ H s->RelV x v->Vals xs us->r x xs H Q →
  wpAny (model X.prog X.w) X.A (call (.builtin id) (v::us)) (EP X pins σ Q) X.xe s
theorem Vals.one:∀{x:V}{us:List Value},Vals [x] us->∃u,us=[u]/\RelV x u
 | _,_,.cons r .nil=>⟨_,rfl,r⟩
section
variable {X:Cx}{pins:List (Addr×Obj)}{σ:St}{H:Hp}{s:Shared}{l b:Addr}{xs ys zs:List V}
theorem Inv.lset {its its':List Value}{n:Nat}{f:Array Value->Array Value}{t':Nat} (I:Inv X pins σ H s) (hH:H l=some (.lst xs))
  (e:s.heap.get? l=some { cls:= .type "list",data:= .seq its.toArray n })(hf:f its.toArray=its'.toArray)(hv:Vals ys its')(hz:ys.length<=sizeLine) :
  Inv X pins σ (upd H l (.lst ys)) { s with heap:=s.heap.update l (Obj.mapSeq f),toks:=t' }:=by
 have q:=PySem.IsL.update e f;rw[hf]at q;refine I.write (x:=l) (e:=l) (by rw[hH];exact trivial) (.inl rfl) (fun b' u hb hu=>(Heap.get?_update_other s.heap (Obj.mapSeq f) (Ne.symm hb)).trans hu) ⟨_,q⟩ ?_;exact⟨hz,its',_,hv,q⟩
theorem Inv.lnew {its:List Value}{t':Nat} (I:Inv X pins σ H s) (hv:Vals ys its) (hz:ys.length<=sizeLine) :
  Inv X pins σ (upd H s.heap.objs.size (.lst ys)) { s with heap:=s.heap.push { cls:= .type "list",data:= .seq its.toArray },toks:=t' } :=
 I.laid (fun _ _ q=>Heap.get?_push_of_some _ q) (Nat.le_refl _) ⟨hz,its,0,hv,Heap.get?_push_size _ rfl⟩
theorem Inv.fresh (I:Inv X pins σ H s):H s.heap.objs.size=none:=I.hok.fresh (Nat.le_refl _)
theorem Inv.lstM (I:Inv X pins σ H s)(hH:H l=some (.lst xs)):xs.length<=sizeLine/\∃(its:List Value) (n:Nat),Vals xs its/\xs.length=its.length/\s.heap.get? l=some { cls:= .type "list",data:= .seq its.toArray n }:=by
 obtain⟨z,its,n,r,e⟩:=I.hok l _ hH;exact⟨z,its,n,r,r.length,e⟩
theorem R6 {n:Nat}(h:n<=sizeLine):Builtin.List.listTooLong n=false:=by
 unfold Builtin.List.listTooLong;exact decide_eq_false (by lia)
end
section
variable {X:Cx}
def KP:V->List V->Hp->VK->Prop:=fun x vs H Q=>∃l xs y,x= .ref l/\vs=[y]/\H l=some (.lst xs)/\xs.length<sizeLine/\Q .non (upd H l (.lst (xs++[y])))
theorem jQ:MtM X "list.append" KP:=by
 intro pins s σ H x vs v us Q I rx rv h;obtain⟨l,xs,y,rfl,rfl,hH,hz,q⟩:=h;cases rx;obtain⟨u,rfl,ru⟩:=rv.one;obtain⟨z,its,n,r,hl,e⟩:=I.lstM hH;refine call_meets F.slot_list_append ⟨_,e,rfl⟩ F.entry_list_append (F.args_list_append_2 _ _) (PySem.list_append l its.toArray n u (by rw[List.size_toArray];lia)) ⟨e,?_⟩;refine⟨.non,_,I.lset (its':=its++[u]) hH e (by simp) (r.append (.cons ru .nil)) ?_,rfl,q⟩;rw[List.length_append,List.length_singleton]
 lia
def KC:V->List V->Hp->VK->Prop:=fun x vs H Q=>∃l b xs zs,x= .ref l/\vs=[.ref b]/\H l=some (.lst xs)/\H b=some (.lst zs)/\xs.length+zs.length<=sizeLine/\Q .non (upd H l (.lst (xs++zs)))
theorem PH:MtM X "list.extend" KC:=by
 intro pins s σ H x vs v us Q I rx rv h;obtain⟨l,b,xs,zs,rfl,rfl,hH,hB,hz,q⟩:=h;cases rx;obtain⟨u,rfl,ru⟩:=rv.one;cases ru;obtain⟨z,its,n,r,hl,e⟩:=I.lstM hH;obtain⟨z2,its2,n2,r2,hl2,e2⟩:=I.lstM hB;have hsz:its.toArray.size+its2.toArray.size<=sizeLine:=by rw[List.size_toArray,List.size_toArray];lia
 have hlong:¬(!its.toArray.isEmpty&&Builtin.List.listTooLong (its.toArray.size+its2.toArray.size))=true:=by
  rw[R6 hsz,Bool.and_false];exact Bool.false_ne_true
 refine call_meets F.slot_list_extend ⟨_,e,rfl⟩ F.entry_list_extend (F.args_list_extend_2 _ _)
  (AutoSeq1.list_extend_list_list_0 l its.toArray n b its2.toArray n2 hlong (by rw[List.size_toArray];lia) (by lia)) ⟨e,e2,?_⟩
 refine⟨.non,_,I.lset (its':=its++its2) hH e (by simp) (r.append r2) ?_,rfl,q⟩;rw[List.length_append]
 lia
def Z0:R2:=fun x y H Q=>∃l b xs zs,x= .ref l/\y= .ref b/\H l=some (.lst xs)/\H b=some (.lst zs)/\xs.length+zs.length<=sizeLine/\∀p,H p=none->Q (.ref p) (upd H p (.lst (xs++zs)))
theorem sK:OpR X (binaryOp .Add) Z0:=by
 intro pins s σ H x y v u Q I rx ry h;obtain⟨l,b,xs,zs,rfl,rfl,hH,hB,hz,q⟩:=h;cases rx;cases ry;obtain⟨z,its,n,r,hl,e⟩:=I.lstM hH;obtain⟨z2,its2,n2,r2,hl2,e2⟩:=I.lstM hB;refine PySem.P.add_list e e2 ?_ (by rw[List.size_toArray,List.size_toArray];lia);have ea:its.toArray++its2.toArray=(its++its2).toArray:=by simp
 rw[ea];exact⟨.ref _,_,I.lnew (t':=s.toks) (r.append r2) (by rw[List.length_append];lia),rfl,q _ I.fresh⟩
end
section
variable {prog:Program}{w:World}{A:Around}{E:Value->Shared->Prop}{s:Shared}
set_option maxRecDepth 100000 in
end
section
variable {X:Cx}
end
end L2
namespace Att
open PySem PySem.W PySem.Calls PyProof.Rows
theorem zK {P:Params}{h:Heap}:∀(ns:List Int) (vs:List Value),WellAll P h vs (ns.map WData.int)->IntsAre vs ns:=by
 intro ns
 induction ns with
 | nil =>
  intro vs w;rw[List.map_nil]at w;cases w;exact .nil
 | cons n ns ih =>
  intro vs w;rw[List.map_cons]at w;cases w with
  | cons a b =>
   cases a;exact .cons _ _ (ih _ b)
theorem NI {l:OpenLaw}{n:Nat} (hn:l.most=some n) {P:Params}{h:Heap}{args:List WData}{vals:List Value}
  (hpre:l.row.toRowW.claim.pre args=true)(hwl:WellAll P h vals args) :
  ∃a vs ns,vals=[Value.ref a]/\args=[WData.list (ns.map WData.int)]/\h.get? a=some { cls:= .type "list",data:= .seq vs.toArray }/\IntsAre vs ns/\ns.length<=n:=by
 have hsh:WShape.hasAll [] args [.list .int]=true:=(pre_splitW hpre).1;have hc:l.pre.holds [] { args:=args }=true:=(pre_splitW hpre).2;obtain⟨d,r,rfl,h1,h2⟩:=hasAllW_cons hsh;obtain rfl:=hasAllW_nil h2;obtain⟨xs,rfl,h3⟩:=hasW_list h1;obtain⟨ns,rfl⟩:=items_int h3;have hlen:ns.length<=n:=by
  unfold OpenLaw.pre at hc;have h4:(WTm.not (.lt (.lit (.int (n:Int))) (.len (.arg 0)))).holds [] { args:=[.list (ns.map .int)] }=true:=by
   have h4:=(holds_andW hc).1;rw[hn]at h4;exact h4
  have h5:=condW_of h4 (w_not (w_lt w_lit (w_len_list (w_arg rfl))));rw[List.length_map]at h5;refine Nat.le_of_not_lt fun q=> ?_;have q':(n:Int)<((ns.length:Nat):Int):=by lia
  first
   | (rw[decide_eq_true q']at h5;exact absurd h5 (by decide))
   | (simp at h5;lia)
 cases hwl with
 | cons w1 w2 =>
  cases w2;cases w1 with
  | list ho hall=>exact⟨_,_,ns,rfl,rfl,ho,zK ns _ hall,hlen⟩
theorem OU (l:OpenLaw)(args:List WData):l.row.toRowW.claim.post args (.bool true) args=true :=
 postW_of (r:=l.row.toRowW) (X:=(true==true))
  (show WShape.has [] (.bool true) .bool=true by first|rfl|decide|simp[WShape.has,WShape.arms,WShape.armsAll])
  (show (WTm.eq .res (.lit (.bool true))).value [] { args:=args,res:=some (.bool true),after:=args }=some (.bool (true==true)) from w_eq_bool (w_res rfl) w_lit) rfl
theorem attach_call {l:OpenLaw}{n:Nat}{q:Program}{loose:List Str}{XP:(Str->Option Value)->Heap->Prop}{YP:World->Heap->Prop}{d:DefRec}
  (hn:l.most=some n)(hdf:d.params.defaults=[])
  (call:∀(w:World) (s₀ s₁:Shared) (mg mb:Str->Option Value) (fa:Addr) (o:Obj) (pm cd doc:Value) (a:Addr) (vs:List Value) (ns:List Int),
   Ground q loose [] XP w s₀ mg mb s₁.heap->YP w s₁.heap →
   s₁.heap.get? fa=some o->o.data= .func (docDef d.name d.params d.body d.scope pm cd doc)->s₁.heap.CodeRec cd d.name->mg d.name=some (.ref fa) →
   s₁.heap.get? a=some { cls:= .type "list",data:= .seq vs.toArray }->IntsAre vs ns->ns.length<=n->s₁.gens= #[] →
   codeAny (model l.prog w) callerA (.call (.ref fa) ⟨[.ref a],[]⟩) (fun r s'=>r= .ok (.ret (.bool true))/\OldK s₁.heap s'.heap/\s'.os=s₁.os/\AllBare s'.gens) s₁) :
  WalkO q loose XP YP l.row.toRowW d [] (fun f vs=>PySem.call f vs):=by
 intro w s₀ s₁ mg mb G Y fa o pm cd doc dV kV ho hd hcd hD hmg hg args vals as hpre hlay hrd hwl hlo;obtain rfl:dV= .none:=Dflts.none hD hdf;obtain rfl:kV= .none:=Dflts.noKw hD;obtain⟨a,vs,ns,rfl,rfl,hobj,hints,hlen⟩:=NI hn hpre hwl;refine enter_call (codeAny_mono (call w s₀ s₁ mg mb fa o pm cd doc a vs ns G Y ho (fd_plain hd) hcd hmg hobj hints hlen hg) fun r s' hq=> ?_);obtain⟨rfl,h2,h3,h4⟩:=hq;exact⟨.inl ⟨.bool true,.bool true,[],rfl,fun _=>rfl,.bool true,OU l _,fun _=>⟨List.Pairwise.nil,fun _ hm=>(nomatch hm)⟩⟩,h2,h3,h4⟩
section
variable {prog:Program}{w:World}{A:Around}{E:Value->Shared->Prop}{s:Shared}{K:Frag}
end
end Att
namespace L2
open PySem PySem.Spec PyProof.Rows
theorem DQ:∀{vs:List Value}{ns:List Int},IntsAre vs ns->Vals (ns.map V.int) vs
 | _,_,.nil=> .nil
 | _,_,.cons n t h=> .cons ⟨t,rfl⟩ (DQ h)
end L2
namespace L2
open PySem PySem.Spec PyProof.Rows
end L2
namespace L2
open PySem PySem.Spec PyProof.Rows
def cD (s:Stmt)(j:Nat):Stmt:=match s with
 | .ClassDef _ _ _ body _ _ _ _ _ _ _=>body.getD j (.Pass ⟨0,0,0,0⟩)
 | _=> .Pass ⟨0,0,0,0⟩
def dB (s:Stmt):Arguments:=match s with
 | .FunctionDef _ a _ _ _ _ _ _ _ _=>a
 | _=>{ posonlyargs:=[],args:=[],vararg:=none,kwonlyargs:=[],kw_defaults:=[],kwarg:=none,defaults:=[] }
def cZ (s:Stmt):List Stmt:=match s with
 | .FunctionDef _ _ b _ _ _ _ _ _ _=>b
 | _=>[]
def aG (s:Stmt):Scope:=match s with
 | .FunctionDef _ _ _ _ _ _ sc _ _ _=>sc
 | _=>{ kind:= .function,names:=[],isGenerator:=false,isCoroutine:=false }
abbrev CX0:CXT:=fun _ _ _ _ _ _=>False
abbrev E0:XK:=fun _ _ _=>False
theorem rH {X:Cx}:vB CX0 X E0:=fun _ _ _ _ _ _ _ h=>h.elim
section
variable {P:Program}{w:World}{K:PySem.W.Frag}{mg:Str->Option Value}{base:Heap}
end
theorem N4 {n:Nat}(h:n<=1000):n<sizeLine:=Nat.lt_of_le_of_lt h (by decide)
section
variable {X:Cx}
theorem pv (i:Nat){x:Str}{pos:Pos} (hN:X.N[i]? =some x:=by rfl) (hv:Vis X.env.scope x:=by first|exact Or.inl rfl|exact Or.inr (Or.inl rfl)|exact Or.inr (Or.inr rfl)) (hd:(x==("__debug__" :Str))=false:=by decide)
  (hcd:(x==("__classdict__" :Str))=false:=by decide):PE X (.Name x pos) (gQ i):=O9 hN hv hd hcd
end
theorem A3 {c A B:Prop}[Decidable c](h1:c->A)(h2:¬c->B):if c then A else B:=by
 by_cases h:c
 ·rw[if_pos h];exact h1 h
 ·rw[if_neg h];exact h2 h
def Same (H H':Hp):Prop:=∀b o,H b=some o->H' b=some o
theorem Same.refl (H:Hp):Same H H:=fun _ _ h=>h
theorem Same.trans {H H1 H2:Hp}(a:Same H H1)(b:Same H1 H2):Same H H2:=fun c o h=>b c o (a c o h)
theorem Same.seq {K:PySem.W.Frag}{H H':Hp}{a:Addr}{xs:List V} (e:Same H H') (h:SqL K H a xs):SqL K H' a xs:=by
 rcases h with (h|⟨o,h⟩)|h
 ·exact .inl (.inl (e _ _ h))
 ·exact .inl (.inr ⟨o,e _ _ h⟩)
 ·exact .inr h
end L2
namespace L2
open PySem PySem.Spec PyProof.Rows
section
variable {X:Cx}{pins:List (Addr×Obj)}{σ:St}{H:Hp}{s:Shared}{D:Addr}{ys:List V}
theorem HOk.adds {P:Program}{w:World}{h:Heap}{o:HO} (x:HOk P w H h) (hn:H D=none) (new:ObjOk P w (upd H D o) h D o):HOk P w (upd H D o) h:=fun b u e=>by
 by_cases hb:b=D
 ·subst hb;rw[bC]at e;cases e;exact new
 ·rw[aL hb]at e;exact(x b u e).stay (fun c v _ q=>q) (fun c q=>by rw[aL (bG q hn)];exact q) fun c xs q=>by rw[aL (bG q hn)];exact q
theorem HOk.drops {P:Program}{w:World}{h:Heap} (x:HOk P w (upd H D (.lst ys)) h) (hn:H D=none):HOk P w H h:=fun b u e=>by
 have hb:b≠D:=bG e hn;refine(x b u (by rw[aL hb];exact e)).stay (fun c v _ q=>q) (fun c q=> ?_) fun c xs q=> ?_
 ·by_cases hc:c=D
  ·subst hc;rw[bC]at q;cases q
  ·rw[aL hc]at q;exact q
 ·by_cases hc:c=D
  ·subst hc;rw[bC]at q;cases q
  ·rw[aL hc]at q;exact q
theorem Inv.track {its:List Value}{n:Nat} (I:Inv X pins σ H s) (hn:H D=none) (e:s.heap.get? D=some { cls:= .type "list",data:= .seq its.toArray n }) (r:Vals ys its) (hz:ys.length<=sizeLine)
  (h0:X.s₀.heap.objs.size<=D)(h1:D≠X.env.locals)(h2:∀x c,X.env.cells.lookup x=some c->c≠D)(h3:∀p∈X.pn++pins,p.1≠D):Inv X pins σ (upd H D (.lst ys)) s where
 ok:=I.ok
 os:=I.os
 bare:=I.bare
 base:=by
  have lt:∀b o,X.s₀.heap.get? b=some o->b≠D:=fun b o q=>Nat.ne_of_lt (Nat.lt_of_lt_of_le (Heap.lt_size q) h0);refine⟨I.base.keep,I.base.slot,fun b o q n' hx=> ?_,I.base.there,fun b xs q=> ?_,fun b o u q=> ?_,fun b ps q=> ?_⟩
  ·rw[aL (lt b o q)];exact I.base.free b o q n' hx
  ·have z:=I.base.tups b xs q;rw[aL (bG z hn)];exact z
  ·have z:=I.base.frzs b o u q;rw[aL (bG z hn)];exact z
  ·obtain⟨more,z⟩:=I.base.tbls b ps q;exact⟨more,by rw[aL (bG z hn)];exact z⟩
 loc:=I.loc
 cell:=I.cell
 free:=by rw[aL (Ne.symm h1)];exact I.free
 freeC:=fun x c q=>by rw[aL (h2 x c q)];exact I.freeC x c q
 pin:=fun p hp=>by
  obtain⟨a,b,c⟩:=I.pin p hp;exact⟨a,by rw[aL (h3 p hp)];exact b,c⟩
 hok:=I.hok.adds hn ⟨hz,its,n,r,e⟩
 len:=I.len
theorem Inv.untrack (I:Inv X pins σ (upd H D (.lst ys)) s)(hn:H D=none):Inv X pins σ H s where
 ok:=I.ok
 os:=I.os
 bare:=I.bare
 base:=by
  have low:∀b u,upd H D (.lst ys) b=some u->(∀xs,u≠ .lst xs)->H b=some u:=fun b u q nl=>by
   by_cases hb:b=D
   ·subst hb;rw[bC]at q;cases q;exact absurd rfl (nl ys)
   ·rw[aL hb]at q;exact q
  refine⟨I.base.keep,I.base.slot,fun b o q n' hx=> ?_,I.base.there,fun b xs q=> ?_,fun b o u q=> ?_,fun b ps q=> ?_⟩
  ·have z:=I.base.free b o q n' hx
   by_cases hb:b=D
   ·subst hb;exact hn
   ·rw[aL hb]at z;exact z
  ·exact low _ _ (I.base.tups b xs q) (fun _ z=>by cases z)
  ·exact low _ _ (I.base.frzs b o u q) (fun _ z=>by cases z)
  ·obtain⟨more,z⟩:=I.base.tbls b ps q;exact⟨more,low _ _ z (fun _ z=>by cases z)⟩
 loc:=I.loc
 cell:=I.cell
 free:=by
  have z:=I.free
  by_cases hb:X.env.locals=D
  ·rw[hb];exact hn
  ·rw[aL hb]at z;exact z
 freeC:=fun x c q=>by
  have z:=I.freeC x c q
  by_cases hb:c=D
  ·rw[hb];exact hn
  ·rw[aL hb]at z;exact z
 pin:=fun p hp=>by
  obtain⟨a,b,c⟩:=I.pin p hp;refine⟨a,?_,c⟩
  by_cases hb:p.1=D
  ·rw[hb];exact hn
  ·rw[aL hb]at b;exact b
 hok:=I.hok.drops hn
 len:=I.len
end
def bR (X:Cx)(scope:Scope)(cl:List (Str×Addr))(N:List Str)(C:Addr)(s0:Shared)(H0:Hp)(fp:List Addr):Cx where
 prog:=X.prog
 w:=X.w
 K:=X.K
 mg:=X.mg
 base:=X.base
 A:=X.A
 N:=N
 s₀:=s0
 H₀:=H0
 env:=compEnvC scope cl C X.env
 outer:=X.stack
 stack:=X.stack
 ex:=fp
 fn:=fun _=>false
 calm:=X.calm
 pn:=[]
 xe:=fun _ _=>False
structure Blk (X:Cx)(scope:Scope)(cl:List (Str×Addr))(N:List Str)(nl:Nat)(ci:List Nat):Prop where
 kind:scope.kind= .function
 names:∀y∈scope.names,y.2= .local->scope.names.lookup y.1=some .local
 nocell:∀y∈scope.names,y.2≠ .cell
 clos:closureFor scope X.env=pure cl
 sub:∀n c,cl.lookup n=some c->X.env.cells.lookup n=some c
 has:∀n,((relabel scope X.env).names.lookup n=some .cell∨(relabel scope X.env).names.lookup n=some .free)->∃c,cl.lookup n=some c
 len:N.length=nl+ci.length
 cap:∀(j i:Nat),ci[j]? =some i->∃n,N[nl+j]? =some n/\X.N[i]? =some n/\(X.env.scope.names.lookup n=some .cell∨X.env.scope.names.lookup n=some .free) ∧
  ((relabel scope X.env).names.lookup n=some .cell∨(relabel scope X.env).names.lookup n=some .free)/\cl.lookup n=X.env.cells.lookup n
def bY (nl:Nat)(ci:List Nat)(σ:St):St:=List.replicate nl none++ci.map fun i=>(σ[i]?).join
theorem QE {nl:Nat}{ci:List Nat}{σ:St}{k:Nat}{v:V} (h:(bY nl ci σ)[k]? =some (some v)):∃j i,k=nl+j/\ci[j]? =some i/\σ[i]? =some (some v):=by
 unfold bY at h
 by_cases hk:k<nl
 ·rw[List.getElem?_append_left (by simpa using hk),List.getElem?_replicate]at h
  split at h<;>cases h
 ·rw[List.getElem?_append_right (by simpa using hk),List.length_replicate,List.getElem?_map]at h;cases e:ci[k - nl]? with
  | none=>rw[e]at h;cases h
  | some i =>
   rw[e]at h;have h':(σ[i]?).join=some v:=by simpa using h
   refine⟨k - nl,i,by lia,e,?_⟩;cases q:σ[i]? with
   | none=>rw[q]at h';cases h'
   | some o=>rw[q]at h';simp at h';rw[h']
theorem GW {nl:Nat}{ci:List Nat}{σ:St}:(bY nl ci σ).length=nl+ci.length:=by unfold bY;simp
section
variable {X:Cx}{scope:Scope}{cl:List (Str×Addr)}{N:List Str}{nl:Nat}{ci:List Nat}{pins:List (Addr×Obj)}{σ:St}{H2:Hp}{s2:Shared}{fp:List Addr}
theorem IX (B:Blk X scope cl N nl ci)(I:Inv X pins σ H2 s2)(f2:∀b∈fp,pK X pins H2 b)(fo:∀b∈fp,∃o,s2.heap.get? b=some o){C:Addr}{h4:Heap}{t4:Nat}{m4:Str->Option Value} (hC:s2.heap.objs.size<=C) (hns:h4.Ns C m4)
  (hk:∀b o,s2.heap.get? b=some o->h4.get? b=some o):Inv (bR X scope cl N C s2 H2 fp) [] (bY nl ci σ) H2 { s2 with heap:=h4,toks:=t4 }:=by
 have lt2:∀b∈fp,b<s2.heap.objs.size:=fun b hb=>by obtain⟨o,e⟩:=fo b hb;exact Heap.lt_size e
 have ok:(bR X scope cl N C s2 H2 fp).Ok:=by
  refine⟨I.ok.mod,B.kind,I.ok.glob,I.ok.blt,hC,fun x y c h1 h2=>I.ok.inj x y c (B.sub x c h1) (B.sub y c h2),fun x hx=>B.has x hx,fun x c hf _=>(by cases hf),I.ok.hd,I.ok.frames,.inl rfl,fun b hb=>⟨?_,?_⟩,I.bs,?_,fun b o e hb=> ?_,fun b hb z=> ?_,I.stack,I.stkFree⟩
  ·exact Nat.ne_of_lt (Nat.lt_of_lt_of_le (lt2 b hb) hC)
  ·exact fun x c h=>(f2 b hb).2.2.2.2.1 x c (B.sub x c h)
  ·exact Nat.le_trans I.ok.bsz I.sz
  ·rcases (f2 b hb).2.2.2.1 with z|z
   ·exact I.ok.noex b o e z
   ·exact absurd (Nat.lt_of_lt_of_le (Heap.lt_size e) (Nat.le_trans I.ok.bsz z)) (Nat.lt_irrefl _)
  ·rcases List.mem_cons.mp (I.stkSub b z) with q|q
   ·exact(f2 b hb).2.1 q
   ·exact(f2 b hb).2.2.1 q
 refine⟨ok,rfl,I.bare,Un.kept hk,⟨m4,hns,fun k x v e1 e2 e3=> ?_⟩,fun x c e=> ?_,I.hok.fresh hC,fun x c e=>I.freeC x c (B.sub x c e),fun p hp=>(by cases hp),I.hok.kept hk,?_⟩
 ·obtain⟨j,i,rfl,hj,hσ⟩:=QE e2;obtain⟨n,hn1,hn2,hk1,hk2,hl⟩:=B.cap j i hj;have en:x=n:=by
   have e1':N[nl+j]? =some x:=e1;rw[hn1]at e1';exact(Option.some.inj e1').symm
  subst en;obtain⟨m,hm,hloc⟩:=I.loc;have vis:Vis X.env.scope x:= .inr hk1;obtain⟨u,ru,lk⟩:=hloc i x v hn2 hσ vis;refine⟨u,ru,.inr ⟨hk2,?_⟩⟩;rcases lk with⟨kl,_⟩|⟨_,c,ec,hc⟩
  ·have kl':X.env.scope.names.lookup x=some .local:=kl;rcases hk1 with z|z<;>· rw[z]at kl';cases kl'
  ·refine⟨c,hl.trans ec,?_⟩;obtain⟨o,ho,hd⟩:=hc;exact⟨o,hk _ _ ho,hd⟩
 ·obtain⟨v,o,ho,hd⟩:=I.cell x c (B.sub x c e);exact⟨v,o,hk _ _ ho,hd⟩
 ·show (bY nl ci σ).length=N.length;rw[GW,B.len]
theorem PY {C:Addr}{σ':St}{H':Hp}{s':Shared}{pb:List (Addr×Obj)} (I:Inv X pins σ H2 s2) (f2:∀b∈fp,pK X pins H2 b) (J:Inv (bR X scope cl N C s2 H2 fp) pb σ' H' s'):Inv X pins σ H' s' :=
 I.call' J.os J.base J.hok J.bare fun b hb=>⟨(f2 b hb).2.2.2.1,(f2 b hb).2.1,(f2 b hb).2.2.2.2.1,(f2 b hb).2.2.2.2.2⟩
end
section
variable {prog:Program}{w:World}{A:Around}{R:Result->Shared->Prop}{s:Shared}
theorem IK {elt target iter:Expr}{ifs:List Expr}{scope:Scope}{pos:Pos}{it acc:Value}{env:Env} (I:Nat->Shared->Prop)
  (turn:∀n s,I n s->wpAny (model prog w) A (pyNext it) (fun r s₁=>match r with
   | none=>R (.ok .next) s₁
   | some v=>wpAny (model prog w) A (letOwnedTupleGo target it v) (fun _ s₁'=>wpAny (model prog w) A (assign target env v) (fun _ s₂ =>
     wpAny (model prog w) A (forIn ifs true fun c r=>if r=true then do let ok ←isTrue c env (eval c env);pure (ForInStep.yield ok) else pure (ForInStep.yield r)) (fun ok s₃ =>
      if ok=true then wpAny (model prog w) A (eval elt env) (fun x s₄ =>
       wpAny (model prog w) A (call (.builtin "list.append") [acc,x]) (fun _ s₅=>∃m,m<n/\I m s₅) (notedBy (model prog w) A env fun e s'=>R (.error e) s') s₄) (notedBy (model prog w) A env fun e s'=>R (.error e) s') s₃
      else ∃m,m<n/\I m s₃) (notedBy (model prog w) A env fun e s'=>R (.error e) s') s₂) (notedBy (model prog w) A env fun e s'=>R (.error e) s') s₁') (notedBy (model prog w) A env fun e s'=>R (.error e) s') s₁) (notedBy (model prog w) A env fun e s'=>R (.error e) s') s)
  (n:Nat)(h:I n s) :
  codeAny (model prog w) A (.compLoop (.ListComp elt [⟨target,iter,ifs,0⟩] scope pos) 0 it acc env) R s:=by
 refine codeAny_loop rfl I (fun n s hI=> ?_) n h;show wpAny _ A ((compTurn (.ListComp elt [⟨target,iter,ifs,0⟩] scope pos) 0 it acc env).onRaise (fun x=>do noteFrame x env;theTreesLotGoes x)) _ _ s;refine wpAny_noted ?_;rw[compTurn_list];refine wpAny_bind (wpAny_standAt (wpAny_bind (wpAny_mono (turn n s hI) (fun r s₁ h₁=> ?_) fun _ _ h'=>h')));cases r with
 | none=>exact wpAny_pure h₁
 | some v =>
  refine wpAny_bind (wpAny_mono h₁ (fun _ s₁' h₁'=> ?_) fun _ _ h'=>h');refine wpAny_bind (wpAny_mono h₁' (fun _ s₂ h₂=>wpAny_bind (wpAny_mono h₂ (fun ok s₃ h₃=> ?_) fun _ _ h'=>h')) fun _ _ h'=>h');cases ok with
  | false=>exact wpAny_pure ⟨rfl,h₃⟩
  | true =>
   exact wpAny_bind (wpAny_bind (wpAny_mono h₃ (fun x s₄ h₄=>wpAny_bind (wpAny_mono h₄ (fun _ s₅ h₅=>wpAny_pure (wpAny_pure ⟨rfl,h₅⟩)) fun _ _ h'=>h')) fun _ _ h'=>h'))
end
def PF (X:Cx)(ifs:List Expr)(t:TT):Prop :=
 ∀(pins:List (Addr×Obj)) (s:Shared) (σ:St) (H:Hp) (Q:Bool->Hp->Prop),Inv X pins σ H s->t σ H Q →
  wpAny (model X.prog X.w) X.A (forIn ifs true fun c r=>if r=true then do let ok ←isTrue c X.env (eval c X.env);pure (ForInStep.yield ok) else pure (ForInStep.yield r)) (TP X pins σ Q) X.xe s
def yH:TT:=fun _ H Q=>Q true H
theorem dL {X:Cx}:PF X [] yH:=fun _ _ _ H _ I h=>wpAny_tests_nil ⟨H,I,h⟩
theorem fR {X:Cx}{c:Expr}{t:TT} (h:PT X c t):PF X [c] t:=fun pins s σ H Q I q=>wpAny_tests_one (h pins s σ H Q I q)
def dP (J:It)(g:TG)(ti:TT)(te:TE)(σ0:St)(fin:List V->Hp->Prop)(H1:Hp):Prop :=
 ∃W:Nat->Nat->List V->Hp->Prop,(∃m,W 0 m [] H1)/\∀i m ys H,W i m ys H →
  (J.stop i H/\fin ys H) ∨
  (J.go i H/\∀x H',J.yld i H x H'->g x σ0 H' fun σ2 H2=>(σ2.length=σ0.length/\∀(j:Nat) v,σ0[j]? =some (some v)->σ2[j]? =some (some v)) ∧
   ti σ2 H2 fun b H3=>if b=true then te σ2 H3 fun y H4=>ys.length<sizeLine/\∃m',m'<m/\W (i+1) m' (ys++[y]) H4 else ∃m',m'<m/\W (i+1) m' ys H3)
def LU (wi:TI)(nl:Nat)(ci:List Nat)(g:TG)(ti:TT)(te:TE):TE:=fun σ H Q =>
 wi σ H fun J H1=>dP J g ti te (bY nl ci σ) (fun ys H'=>∀p,H' p=none->Q (.ref p) (upd H' p (.lst ys))) H1
section
variable {X:Cx}{scope:Scope}{cl:List (Str×Addr)}{N:List Str}{nl:Nat}{ci:List Nat}{tg elt iter:Expr}{ifs:List Expr}{pos:Pos}{wi:TI}{g:TG}{ti:TT}{te:TE}
theorem DF {pins:List (Addr×Obj)}{σ:St}{H2:Hp}{s2:Shared}{fp:List Addr}{it:Addr}{J:It}{tn:Nat->Heap->Prop}{E:Value->Shared->Prop}{RR:Value->Addr->Result->Shared->Prop}{fin:List V->Hp->Prop}
  (hc:X.calm=true)(B:Blk X scope cl N nl ci)(hg:∀C s0 H0 fp,PG (bR X scope cl N C s0 H0 fp) tg g)(hi:∀C s0 H0 fp,PF (bR X scope cl N C s0 H0 fp) ifs ti)(he:∀C s0 H0 fp,PE (bR X scope cl N C s0 H0 fp) elt te)
  (I2:Inv X pins σ H2 s2)(T:u5 X.prog X.w X.K tg J fp it tn)(st2:tn 0 s2.heap)(f2:∀b∈fp,pK X pins H2 b)(hW:dP J g ti te (bY nl ci σ) fin H2)
  (hfin:∀(D C:Addr) (s':Shared) (H':Hp) (ys:List V) (oC:Obj) (m:Str->Option Value),H' D=none->Inv X (pins++[(C,oC)]) σ (upd H' D (.lst ys)) s'->s'.heap.Ns C m->s2.heap.objs.size<=C->fin ys H'->RR (.ref D) C (.ok .next) s') :
  wpAny (model X.prog X.w) X.A (newList []) (fun acc s₃=>wpAny (model X.prog X.w) X.A (newFunctionEnv scope X.env.globals cl [] X.env.qual none .none (some X.env)) (fun cenv s₄ =>
   codeAny (model X.prog X.w) X.A (.compStart (.ListComp elt [⟨tg,iter,ifs,0⟩] scope pos) 0 (.ref it) acc { cenv with scope:=relabel scope X.env }) (RR acc cenv.locals) s₄) E s₃) E s2:=by
 obtain⟨W,⟨m0,w0⟩,turn⟩:=hW;refine wpAny_newObj_type (wpAny_newFunctionEnv B.nocell (by intro y hy;simp at hy) (fun h1 hns1 hsb1=> ?_) B.kind)
 dsimp only at hns1 hsb1 ⊢
 generalize hH2:s2.heap.push { cls:= .type "list",dict:=none,data:= .seq ([]:List Value).toArray }=G2 at hns1 hsb1 ⊢;have hCs:G2.objs.size=s2.heap.objs.size+1:=by rw[←hH2,Heap.size_push]
 generalize hCe:G2.objs.size=C at hns1 hsb1 hCs ⊢;have hDC:s2.heap.objs.size≠C:=by rw[hCs];exact Nat.ne_of_lt (Nat.lt_succ_self _)
 have hCle:s2.heap.objs.size<=C:=by rw[hCs];exact Nat.le_succ _
 have old:∀b o,s2.heap.get? b=some o->h1.get? b=some o:=fun b o e=>hsb1.extBut b o (by rw[hCs];exact Nat.ne_of_lt (Nat.lt_succ_of_lt (Heap.lt_size e))) (Heap.get?_push_of_some _ (hH2▸Heap.get?_push_of_some _ e));have hacc:h1.get? s2.heap.objs.size=some { cls:= .type "list",data:= .seq ([]:List Value).toArray 0 }:=hsb1.extBut _ _ hDC (Heap.get?_push_of_some _ (hH2▸Heap.get?_push_size _ rfl));have fo:∀b∈fp,∃o,s2.heap.get? b=some o:=fun b hb=>let ⟨o,e,_⟩:=T.obj 0 _ st2 b hb;⟨o,e⟩;have lt2:∀b∈fp,b<s2.heap.objs.size:=fun b hb=>let ⟨o,e⟩:=fo b hb;Heap.lt_size e;have hDfp:s2.heap.objs.size∉fp:=fun z=>Nat.lt_irrefl _ (lt2 _ z);have hCfp:C∉fp:=fun z=>Nat.lt_irrefl _ (Nat.lt_of_lt_of_le (lt2 _ z) hCle);generalize hDe:s2.heap.objs.size=D at hCs hDC hCle hacc hDfp lt2;have loop:∀s3:Shared,s3={ s2 with heap:=h1,toks:=s2.toks+([]:List (Str×Value)).length } →
   codeAny (model X.prog X.w) X.A (.compLoop (.ListComp elt [⟨tg,iter,ifs,0⟩] scope pos) 0 (.ref it) (.ref D) (compEnvC scope cl C X.env)) (RR (.ref D) C) s3:=by
  rintro s3 rfl;have I4:Inv (bR X scope cl N C s2 H2 fp) [] (bY nl ci σ) H2 { s2 with heap:=h1,toks:=s2.toks+([]:List (Str×Value)).length }:=IX B I2 f2 fo (by rw[hDe];exact hCle) hns1 old;have fpk:∀{H':Hp},(∀b∈fp,H' b=none)->∀b∈fp,pK (bR X scope cl N C s2 H2 fp) [] H' b:=fun hn b hb =>
   ⟨hn b hb,(I4.ok.exf b hb).1,I4.ok.exfs b hb,.inl hb,(I4.ok.exf b hb).2,fun p hp=>by cases hp⟩
  have hDX:∀x c,(bR X scope cl N C s2 H2 fp).env.cells.lookup x=some c->c≠D:=fun x c e=>by
   obtain⟨v,o,ho,_⟩:=I2.cell x c (B.sub x c e);rw[←hDe];exact Nat.ne_of_lt (Heap.lt_size ho)
  have hDL:D≠(bR X scope cl N C s2 H2 fp).env.locals:=hDC;have hDf:D∉(bR X scope cl N C s2 H2 fp).fs:=fun z=>by
   rcases List.mem_cons.mp (I2.stkSub D z) with q|q
   ·exact Nat.lt_irrefl _ (by have:=I2.lt;rw[hDe,←q]at this;exact this)
   ·exact I2.nofs (by rw[hDe];exact Nat.le_refl _) q
  refine IK (fun n s'=>∃i ys its k H',W i n ys H'/\Inv (bR X scope cl N C s2 H2 fp) [] (bY nl ci σ) H' s'/\tn i s'.heap/\(∀b∈fp,H' b=none)/\H' D=none ∧
   s'.heap.get? D=some { cls:= .type "list",data:= .seq its.toArray k }/\Vals ys its/\ys.length<=sizeLine) ?_ m0 ?_
  ·rintro n s' ⟨i,ys,its,k,H',w',I',st',fr',hD',eD,rv,hz⟩;have IP:Inv (bR X scope cl N C s2 H2 fp) [(D,{ cls:= .type "list",data:= .seq its.toArray k })] (bY nl ci σ) H' s':=I'.pins_of fun p hp=>by
    obtain rfl:p=_:=by simpa using hp
    exact⟨eD,hD',hDL,hDf,fun v z=>by cases z⟩
   have fpD:∀{H'':Hp},(∀b∈fp,H'' b=none)->∀b∈fp,pK (bR X scope cl N C s2 H2 fp) [(D,{ cls:= .type "list",data:= .seq its.toArray k })] H'' b:=fun hn b hb =>
    ⟨hn b hb,(I4.ok.exf b hb).1,I4.ok.exfs b hb,.inl hb,(I4.ok.exf b hb).2,fun p hp=>by
     obtain rfl:p=_:=by simpa [bR] using hp
     exact fun z=>hDfp ((show D=b from z)▸hb)⟩
   rcases turn i n ys H' w' with⟨stop,q⟩|⟨go,step⟩
   ·refine thn (T.done (bR X scope cl N C s2 H2 fp) rfl rfl rfl hc i _ s' (bY nl ci σ) H' _ IP (fpD fr') st' stop) fun r s'' ⟨hr,I''⟩=> ?_;subst hr;have eD2:=(I''.pin (D,_) (List.mem_append_right _ List.mem_cons_self)).1;have J1:Inv (bR X scope cl N C s2 H2 fp) [] (bY nl ci σ) (upd H' D (.lst ys)) s'' :=
     (I''.pins_of (pins':=[]) fun p hp=>by cases hp).track hD' eD2 rv hz (by show s2.heap.objs.size<=D;rw[hDe];exact Nat.le_refl _) hDL hDX fun p hp=>by cases hp
    have K1:Inv X pins σ (upd H' D (.lst ys)) s'':=PY I2 f2 J1;obtain⟨mC,nsC,_⟩:=J1.loc;obtain⟨oC,es,ep,hoC,hdC,rC⟩:=id nsC;refine hfin D C s'' H' ys oC mC hD' (K1.pins_of fun p hp=> ?_) nsC (by rw[hDe];exact hCle) q;rcases List.mem_append.mp hp with hp|hp
    ·exact K1.pin p (List.mem_append_right _ hp)
    ·obtain rfl:p=(C,oC):=by simpa using hp
     refine⟨hoC,J1.free,Nat.ne_of_gt (Nat.lt_of_lt_of_le I2.lt (by rw[hDe];exact hCle)),I2.nofs (by rw[hDe];exact hCle),fun v z=> ?_⟩;rw[hdC]at z;cases z
   ·refine thn (T.item (bR X scope cl N C s2 H2 fp) rfl rfl rfl hc i _ s' (bY nl ci σ) H' _ IP (fpD fr') st' go) fun r s4 ⟨u,hr,h4⟩=> ?_;subst hr;refine thn h4 fun _ s5 ⟨x,H5,I5,r5,y5,st5,fr5⟩=> ?_;have I5':=I5.pinned (fpD fr5) (T.obj _ _ st5);refine wpAny_mono (hg C s2 H2 fp _ s5 (bY nl ci σ) H5 x u _ I5' r5 (step x H5 y5)) (fun _ s6 ⟨σ6,H6,I6,⟨hl6,hk6⟩,q6⟩=> ?_) fun _ _ f=>f.elim;refine wpAny_mono (hi C s2 H2 fp _ s6 σ6 H6 _ I6 q6) (fun b s7 ⟨H7,I7,q7⟩=> ?_) fun _ _ f=>f.elim;have pinD:∀{pp:List (Addr×Obj)}{σx:St}{Hx:Hp}{sx:Shared},Inv (bR X scope cl N C s2 H2 fp) ([(D,({ cls:= .type "list",data:= .seq its.toArray k }:Obj))]++mD fp s5.heap) σx Hx sx →
      sx.heap.get? D=some { cls:= .type "list",data:= .seq its.toArray k }/\Hx D=none/\tn (i+1) sx.heap/\(∀b∈fp,Hx b=none):=fun {pp σx Hx sx} Ix=>by
     refine⟨(Ix.pin (D,_) (List.mem_append_right _ (List.mem_append_left _ List.mem_cons_self))).1,(Ix.pin (D,_) (List.mem_append_right _ (List.mem_append_left _ List.mem_cons_self))).2.1,T.keep _ _ _ st5 fun b hb o e=>(Ix.pin (b,o) (List.mem_append_right _ (List.mem_append_right _ (kB hb e)))).1,fun b hb=> ?_⟩;obtain⟨o,e,d⟩:=T.obj _ _ st5 b hb;exact(Ix.pin (b,o) (List.mem_append_right _ (List.mem_append_right _ (kB hb e)))).2.1
    cases b with
    | false =>
     rw[if_neg Bool.false_ne_true]at q7 ⊢;obtain⟨m',hm',w7⟩:=q7;obtain⟨e7,n7,st7,fr7⟩:=pinD (pp:=[]) I7;exact⟨m',hm',i+1,ys,its,k,H7,w7,(I7.pins_of (pins':=[]) fun p hp=>by cases hp).weak hl6.symm hk6,st7,fr7,n7,e7,rv,hz⟩
    | true =>
     rw[if_pos rfl]at q7 ⊢;refine wpAny_mono (he C s2 H2 fp _ s7 σ6 H7 _ I7 q7) (fun y' s8 ⟨y,H8,I8,r8,hlt,m',hm',w8⟩=> ?_) fun _ _ f=>f.elim;obtain⟨e8,n8,st8,fr8⟩:=pinD (pp:=[]) I8;have I8f:Inv (bR X scope cl N C s2 H2 fp) (mD fp s5.heap) σ6 H8 s8:=I8.pins_of fun p hp=>I8.pin p (List.mem_append_right _ (List.mem_append_right _ hp));have I8t:=I8f.track n8 e8 rv hz (by show s2.heap.objs.size<=D;rw[hDe];exact Nat.le_refl _) hDL hDX fun p hp=>by
      have hp':p∈mD fp s5.heap:=by simpa [bR] using hp
      exact fun z=>hDfp (z▸(CY hp').1)
     refine wpAny_mono (jQ (X:=bR X scope cl N C s2 H2 fp) (mD fp s5.heap) s8 σ6 _ (.ref D) [y] (.ref D) [y'] (fun _ H9=>H9=upd H8 D (.lst (ys++[y]))) I8t rfl (.cons r8 .nil)
      ⟨D,ys,y,rfl,rfl,bC,hlt,YJ⟩) (fun _ s9 ⟨_,H9,I9,_,e9⟩=> ?_) fun _ _ f=>f.elim
     subst e9;obtain⟨hz9,its9,k9,rv9,e9⟩:=I9.hok D _ bC;have I9u:=I9.untrack n8;refine⟨m',hm',i+1,ys++[y],its9,k9,H8,w8,(I9u.pins_of (pins':=[]) fun p hp=>by cases hp).weak hl6.symm hk6,?_,fr8,n8,e9,rv9,hz9⟩;exact T.keep _ _ _ st5 fun b hb o e=>(I9u.pin (b,o) (List.mem_append_right _ (kB hb e))).1
  ·exact⟨0,[],[],0,H2,w0,I4,T.keep _ _ _ st2 fun b hb o e=>old b o e,fun b hb=>(f2 b hb).1,I2.hok.fresh (by rw[hDe];exact Nat.le_refl _),hacc,.nil,Nat.zero_le _⟩
 exact codeAny_compStart_list (loop _ rfl) (T.self _ 0 _ _ _ (T.keep _ _ _ st2 fun b hb o e=>old b o e) (loop _ rfl))
theorem cA (hc:X.calm=true)(B:Blk X scope cl N nl ci)(hp:PI X tg iter wi)(hg:∀C s0 H0 fp,PG (bR X scope cl N C s0 H0 fp) tg g)(hi:∀C s0 H0 fp,PF (bR X scope cl N C s0 H0 fp) ifs ti)
  (he:∀C s0 H0 fp,PE (bR X scope cl N C s0 H0 fp) elt te)(hs:∀x,foldedSetIterable iter X.env x=pure x:=by intro _;rfl):PE X (.ListComp elt [⟨tg,iter,ifs,0⟩] scope pos) (LU wi nl ci g ti te):=by
 intro pins s σ H Q I h;rw[eval_ListComp];refine wpAny_comprehension_free (use:=none) rfl hs B.clos B.kind B.names (thn (hp pins s σ H _ I h) fun v s1 h1=>thn h1 fun itv s2 h2=> ?_);obtain⟨it,fp,tn,J,H2,e,I2,T,st2,f2,hW⟩:=h2;subst e;refine DF (RR:=fun acc C=>compPost (model X.prog X.w) X.A X.xe none (EP X pins σ Q) acc C) hc B hg hi he I2 T st2 f2 hW ?_;intro D C s' H' ys oC m hD K1 hn hC q;refine⟨m,hn,fun h' hs'=> ?_⟩;have hL:C≠X.env.locals:=(K1.pin (C,oC) (by simp)).2.2.1;have I9:Inv X pins σ (upd H' D (.lst ys)) { s' with heap:=h',toks:=s'.toks }:=K1.unpinned.turned (t':=s'.toks) (it:=C) (fun b o hb e=>hs'.extBut b o hb e) (K1.pin (C,oC) (by simp)).2.1 hL (.inr (Nat.le_trans I2.sz hC)) (fun x c e z=> ?_) fun p hp z=> ?_
 ·exact⟨.ref D,_,I9,rfl,q D hD⟩
 ·obtain⟨v,o,ho,_⟩:=I2.cell x c e;exact absurd (Nat.lt_of_lt_of_le (Heap.lt_size ho) (z▸hC)) (Nat.lt_irrefl _)
 ·exact absurd (Nat.lt_of_lt_of_le (Heap.lt_size (I2.pin p hp).1) (z▸hC)) (Nat.lt_irrefl _)
theorem g7 {i:Nat}{x:Str}{pos' spos:Pos} (hN:X.N.Nodup) (hix:X.N[i]? =some x) (hx:Loc X.env.scope x) (hc:X.calm=true) (B:Blk X scope cl N nl ci) (hp:PI X tg iter wi) (hg:∀C s0 H0 fp,PG (bR X scope cl N C s0 H0 fp) tg g)
  (hi:∀C s0 H0 fp,PF (bR X scope cl N C s0 H0 fp) ifs ti)(he:∀C s0 H0 fp,PE (bR X scope cl N C s0 H0 fp) elt te)
  (hsw:swapsWith (.ListComp elt [⟨tg,iter,ifs,0⟩] scope pos) (some (.Name x pos')) spos.line X.env=pure true:=by rfl)(hs:∀x,foldedSetIterable iter X.env x=pure x:=by intro _;rfl)
  (hf:X.fn x=true∨X.env.scope.names.lookup x=some .local:=by first|exact .inl rfl|exact .inr rfl|assumption) :
  PS X (.Assign [.Name x pos'] (.ListComp elt [⟨tg,iter,ifs,0⟩] scope pos) spos) (LQ (LU wi nl ci g ti te) (bZ i)):=by
 intro pins s σ H D I h;rw[exec_Assign_Name_used _ _ _ _ hsw];refine wpAny_bind (wpAny_standAt (wpAny_bind ?_));show wpAny _ X.A (do let _ ←comprehension (.ListComp elt [⟨tg,iter,ifs,0⟩] scope pos) scope X.env _ (newList []) false (eval iter X.env) (some (assign (.Name x pos') X.env))) _ _ s;refine wpAny_bind (wpAny_mono (wpAny_comprehension_free (use:=some (assign (.Name x pos') X.env)) (Q:=fun _ s'=>SP X pins D .next s') rfl hs B.clos B.kind B.names
  (thn (hp pins s σ H _ I h) fun v s1 h1=>thn h1 fun itv s2 h2=> ?_)) (fun _ s' hq=>wpAny_pure (wpAny_pure hq)) fun _ _ e=>e)
 obtain⟨it,fp,tn,J,H2,e,I2,T,st2,f2,hW⟩:=h2;subst e;refine DF (RR:=fun acc C=>compPost (model X.prog X.w) X.A X.xe (some (assign (.Name x pos') X.env)) (fun _ s'=>SP X pins D .next s') acc C) hc B hg hi he I2 T st2 f2 hW ?_;intro Dd C s' H' ys oC m hD K1 hn hC q;show wpAny _ X.A (assign (.Name x pos') X.env (.ref Dd)) _ _ _;refine thn (aK (i:=i) hN hix hx hf (pins++[(C,oC)]) s' σ (upd H' Dd (.lst ys)) (.ref Dd) (.ref Dd) (fun σ' H''=>D.nx σ' H'') K1 rfl (q Dd hD)) fun _ s'' ⟨σ',H'',K2,q2⟩=> ?_;have eC:=K2.pin (C,oC) (by simp);obtain⟨oC',es,ep,hoC,hdC,rC⟩:=id hn;have eo:oC'=oC:=by
  have:=(K1.pin (C,oC) (by simp)).1;rw[hoC]at this;exact Option.some.inj this
 subst eo;refine⟨m,⟨oC',es,ep,eC.1,hdC,rC⟩,fun h' hs'=> ?_⟩;have hL:C≠X.env.locals:=eC.2.2.1;have I9:Inv X pins σ' H'' { s'' with heap:=h',toks:=s''.toks }:=K2.unpinned.turned (t':=s''.toks) (it:=C) (fun b o hb e=>hs'.extBut b o hb e) eC.2.1 hL (.inr (Nat.le_trans I2.sz hC)) (fun x c e z=> ?_) fun p hp z=> ?_
 ·exact⟨σ',H'',I9,q2⟩
 ·obtain⟨v,o,ho,_⟩:=I2.cell x c e;exact absurd (Nat.lt_of_lt_of_le (Heap.lt_size ho) (z▸hC)) (Nat.lt_irrefl _)
 ·exact absurd (Nat.lt_of_lt_of_le (Heap.lt_size (I2.pin p hp).1) (z▸hC)) (Nat.lt_irrefl _)
end
end L2
namespace L2
open PySem PySem.Spec PyProof.Rows
def Its (x:Str):It:=⟨fun i _=>i<x.cps.size,fun i H v H'=>H'=H/\∃c,x.cps[i]? =some c/\v= .str ⟨#[c]⟩,fun i _=>i=x.cps.size⟩
theorem F4 {P:Program}{w:World}{K:PySem.W.Frag}{tg:Expr} (it:Addr) (x:Str) (t:Tok) (ty:String)
  (hty:["enumerate","zip","dict_itemiterator","dict_reverseitemiterator","odict_iterator","itertools.zip_longest","itertools.pairwise"].contains ty=false)
  (W:∀A':Around,A'.handled=none->Walks P w A' it [it] [it] x.cps.size (SignAt x) (fun i h=>h.IsStrIter it ty x t i))
  (hself:∀(A:Around) (i:Nat) (s:Shared) (Q:Value->Shared->Prop) (E:Value->Shared->Prop),s.heap.IsStrIter it ty x t i->Q (.ref it) s->wpAny (model P w) A (pyIter (.ref it)) Q E s) :
  u5 P w K tg (Its x) [it] it (fun i h=>h.IsStrIter it ty x t i) where
 mem:=by simp
 obj:=fun i h st b hb=>by
  have e:b=it:=by simpa using hb
  subst e;obtain⟨o,e,c,d⟩:=st;exact⟨o,e,fun v z=>by rw[d]at z;cases z⟩
 keep:=fun i h h' st k=>let ⟨o,ho,r⟩:=st;⟨o,k it (by simp) o ho,r⟩
 item:=by
  intro X hP hw hK hc i pins s σ H E I hf st hg;subst hP hw hK;obtain⟨f0,f1,f2,f3,f4,f5⟩:=hf it (by simp);refine(W X.A (I.ok.hd hc)).item i s _ _ hg st fun v h' tk hv st' kk=> ?_;obtain⟨c,u,hc',rfl⟩:=hv;have I1:Inv X pins σ H { s with heap:=h',toks:=tk }:=I.turned (fun b o hb e=>kk b o (by simpa using hb) e) f0 f1 f3 f4 f5;obtain⟨o,e,c1,d⟩:=id st';exact⟨_,rfl,L6 (s:={ s with heap:=h',toks:=tk }) e c1 d hty ⟨.str ⟨#[c]⟩,H,I1,⟨u,rfl⟩,⟨rfl,c,hc',rfl⟩,st',fun b hb=>(hf b hb).1⟩⟩
 done:=by
  intro X hP hw hK hc i pins s σ H E I hf st hg;subst hP hw hK;obtain⟨f0,f1,f2,f3,f4,f5⟩:=hf it (by simp);have e:i=x.cps.size:=hg;subst e;exact(W X.A (I.ok.hd hc)).done s _ _ st fun h' tk kk=>⟨rfl,I.turned (fun b o hb e=>kk b o (by simpa using hb) e) f0 f1 f3 f4 f5⟩
 self:=hself
def aCv (tl:TE):TI:=fun σ H R=>tl σ H fun x H1=>∃z,x= .str z/\R (Its z) H1
theorem aAc {X:Cx}{tg l:Expr}{tl:TE} (hl:PE X l tl):PI X tg l (aCv tl):=by
 intro pins s σ H R I h;refine thn (hl pins s σ H _ I h) fun v s1 ⟨x,H1,I1,rx,z,ez,q⟩=> ?_;subst ez;obtain⟨t,rfl⟩:=rx;cases ha:z.cps.all (·<128)
 ·refine wpAny_pyIter_wide ha ⟨s1.heap.objs.size,[s1.heap.objs.size],_,Its z,H1,rfl,I1.kept (t':=s1.toks) fun b u e=>Heap.get?_push_of_some _ e,F4 _ z t "str_iterator" (by decide) (fun A' hA=>Walks.strWide hA _ z t) (fun _ _ _ _ _ st h=>wpAny_pyIter_striter_wide st h),⟨_,Heap.get?_push_size _ rfl,rfl,rfl⟩,fun b hb=> ?_,q⟩;have e:b=s1.heap.objs.size:=by simpa using hb
  subst e;exact I1.fpOk (Nat.le_refl _) (I1.hok.fresh (Nat.le_refl _))
 ·refine wpAny_pyIter_ascii ha ⟨s1.heap.objs.size,[s1.heap.objs.size],_,Its z,H1,rfl,I1.kept (t':=s1.toks) fun b u e=>Heap.get?_push_of_some _ e,F4 _ z t "str_ascii_iterator" (by decide) (fun A' hA=>Walks.strAscii hA _ z t) (fun _ _ _ _ _ st h=>wpAny_pyIter_striter_ascii st h),⟨_,Heap.get?_push_size _ rfl,rfl,rfl⟩,fun b hb=> ?_,q⟩;have e:b=s1.heap.objs.size:=by simpa using hb
  subst e;exact I1.fpOk (Nat.le_refl _) (I1.hok.fresh (Nat.le_refl _))
theorem XO {J:It}{g:TG}{ti:TT}{te:TE}{σ0:St}{fin:List V->Hp->Prop}{H1:Hp} (n:Nat) (f:Nat->V) (hn:n<=sizeLine) (Ok:Hp->Prop) (h0:Ok H1)
  (hst:∀H,Ok H->J.stop n H)(hgo:∀i H,i<n->Ok H->J.go i H)
  (hstep:∀i H x H',i<n->Ok H->J.yld i H x H'->g x σ0 H' fun σ2 H2=>(σ2.length=σ0.length/\∀(j:Nat) v,σ0[j]? =some (some v)->σ2[j]? =some (some v))/\ti σ2 H2 fun b H3=>b=true/\te σ2 H3 fun y H4=>y=f i/\Ok H4)
  (mono:∀σ H (Q Q':Bool->Hp->Prop),(∀b H',Q b H'->Q' b H')->ti σ H Q->ti σ H Q')(mono2:∀σ H (Q Q':VK),(∀b H',Q b H'->Q' b H')->te σ H Q->te σ H Q')(mono3:∀x σ H (Q Q':St->Hp->Prop),(∀σ' H',Q σ' H'->Q' σ' H')->g x σ H Q->g x σ H Q')
  (hfin:∀H,Ok H->fin ((List.range n).map f) H):dP J g ti te σ0 fin H1:=by
 refine⟨fun i m ys H=>m=n - i/\i<=n/\ys=(List.range i).map f/\Ok H,⟨n,by simp,Nat.zero_le _,rfl,h0⟩,?_⟩;rintro i m ys H ⟨rfl,hi,rfl,ok⟩
 by_cases hlt:i<n
 ·refine .inr ⟨hgo i H hlt ok,fun x H' y=> ?_⟩;refine mono3 _ _ _ _ _ (fun σ' H'' q=>⟨q.1,mono _ _ _ _ (fun b H3 q=> ?_) q.2⟩) (hstep i H x H' hlt ok y);obtain⟨rfl,q⟩:=q;rw[if_pos rfl];refine mono2 _ _ _ _ (fun v H4 q=> ?_) q;obtain⟨rfl,ok4⟩:=q;refine⟨by rw[List.length_map,List.length_range];lia,n - (i+1),by lia,rfl,hlt,?_,ok4⟩;rw[List.range_succ,List.map_append];rfl
 ·have e:i=n:=by lia
  subst e;exact .inl ⟨hst H ok,hfin H ok⟩
section
variable {X:Cx}
theorem HL:∀bs:List Bool,(List.range bs.length).all (fun i=>bs.getD i true)=bs.all id
 | []=>rfl
 | b::bs=>by
  rw[List.length_cons,List.range_succ_eq_map,List.all_cons,List.all_map,List.all_cons,←HL bs];rfl
theorem BW (hc:X.calm=true):c7 X (.builtin "all") (fun xs H Q=>∃(p:Addr) (bs:List Bool),xs=[.ref p]/\SqL X.K H p (bs.map V.bl)/\Q (.bl (bs.all id)) H):=by
 intro pins s σ H xs us Q I r h;obtain⟨p,bs,rfl,hq,q⟩:=h;obtain⟨u,rfl,rx⟩:=iY r;cases rx;obtain⟨its,r',pl,hz⟩:=I.list hq;have hl:=pl.isList;have hlt:p<s.heap.objs.size:=by obtain⟨_,e,_⟩:=hl;exact Heap.lt_size e
 have hlen:bs.length=its.length:=by have:=r'.length;rw[List.length_map]at this;exact this
 refine call_all_walk (wpAny_pyIter_list hl ?_);refine⟨s.heap.objs.size,_,_,its.toArray.size,_,_,fun i=>bs.getD i true,rfl,Walks.list (show X.A.in1.handled=none from I.ok.hd hc) s.heap.objs.size p (Nat.ne_of_lt hlt) its.toArray,⟨⟨_,Heap.get?_push_size _ rfl,rfl,rfl⟩,hl.push _⟩,?_,?_⟩
 ·intro i v s' Q' E' hi hQ;have hi':its[i]? =some v:=by simpa using hi
  have hib:i<bs.length:=by rw[hlen];exact(List.getElem?_eq_some_iff.mp hi').1
  obtain⟨u,hu,ru⟩:=r'.get (i:=i) (x:=V.bl bs[i]) (by rw[List.getElem?_map,List.getElem?_eq_getElem hib];rfl);rw[hi']at hu;cases hu;have:v=Value.bool bs[i]:=ru;subst this;refine wpAny_truthy_bool ?_;have eb:bs.getD i true=bs[i]:=by rw[List.getD_eq_getElem?_getD,List.getElem?_eq_getElem hib];rfl
  have hQ':Q' (bs.getD i true) s':=hQ;rw[eb]at hQ';exact hQ'
 ·intro h' tk hk;have eall:(List.range its.toArray.size).all (fun i=>bs.getD i true)=bs.all id:=by
   rw[List.size_toArray,←hlen];exact HL bs
  rw[eall];refine⟨.bl (bs.all id),H,?_,rfl,q⟩;have I1:Inv X pins σ H { s with heap:=s.heap.push { cls:= .type "list_iterator",data:= .fields #[.ref p,.int 0 0] },toks:=s.toks }:=I.kept fun b u e=>Heap.get?_push_of_some _ e;obtain⟨f0,f1,f2,f3,f4,f5⟩:=I.fpOk (Nat.le_refl _) (I.hok.fresh (Nat.le_refl _));exact I1.turned (fun b o hb e=>hk b o (by simpa using hb) e) f0 f1 f3 f4 f5
theorem IW:c7 X (.builtin "isinstance") (fun xs H Q=>∃x c t u b,xs=[x,c]/\jI X.K H x t/\RelV c u/\PySem.W.kitOne X.K t u=some b/\Q (.bl b) H):=by
 intro pins s σ H xs us Q I r h;obtain⟨x,c,t,u,b,rfl,ty,rc,e,q⟩:=h;obtain⟨v1,v2,rfl,r1,r2⟩:=MX r;have e2:v2=u:=by
  cases c with
  | non=>exact(show v2=_ from r2).trans (show u=_ from rc).symm
  | bl b=>exact(show v2=_ from r2).trans (show u=_ from rc).symm
  | ref b=>exact(show v2=_ from r2).trans (show u=_ from rc).symm
  | ty b=>exact(show v2=_ from r2).trans (show u=_ from rc).symm
  | int i =>
   obtain⟨t1,rfl⟩:=(show ∃t,u=_ from rc)
   cases ty<;>simp[PySem.W.kitOne,PySem.W.kitCls]at e
  | str i =>
   obtain⟨t1,rfl⟩:=(show ∃t,u=_ from rc)
   cases ty<;>simp[PySem.W.kitOne,PySem.W.kitCls]at e
  | byt i =>
   obtain⟨t1,rfl⟩:=(show ∃t,u=_ from rc)
   cases ty<;>simp[PySem.W.kitOne,PySem.W.kitCls]at e
  | flt i =>
   obtain⟨t1,rfl⟩:=(show ∃t,u=_ from rc)
   cases ty<;>simp[PySem.W.kitOne,PySem.W.kitCls]at e
 subst e2;exact QK I r1 ty e fun tk=>⟨.bl b,H,I.tok tk,rfl,q⟩
theorem OA:OpR X (compareOp .LtE) (fun x y H Q=>∃i j,x= .str i/\y= .str j/\Q (.bl (!decide (j.cps.toList<i.cps.toList))) H):=by
 intro pins s σ H x y v u Q I rx ry h;obtain⟨i,j,rfl,rfl,q⟩:=h;obtain⟨t,rfl⟩:=rx;obtain⟨t',rfl⟩:=ry;exact P.le_str ⟨.bl _,H,I,rfl,q⟩
theorem zZ {v:Value}{o:Option Int} (p:IsPart v o):∃l:Option (Int×Tok),v=partValue l/\o=l.map (·.1):=by
 cases p with
 | none=>exact⟨none,rfl,rfl⟩
 | int i u=>exact⟨some (i,u),rfl,rfl⟩
def ZI:V->Option Int->Option Int->Hp->VK->Prop:=fun x lo hi H Q=>∃z,x= .str z/\z.length<=sizeLine/\Q (.str (Txt.slice z lo hi)) H
theorem AF:SlR X ZI:=by
 intro pins s σ H x v vl vu lo hi sl Q I rx hs pl pu h;obtain⟨z,rfl,hz,q⟩:=h;obtain⟨t,rfl⟩:=rx;obtain⟨l,rfl,rfl⟩:=zZ pl;obtain⟨u,rfl,rfl⟩:=zZ pu;refine⟨"str",_,F.slot_str_getitem.lookup,typeIs_str _ _ _,?_⟩;exact wpAny_getItem_str_slice (l:=l) (u:=u) (st:=none) hs rfl (post_val_or_str ⟨Nat.le_trans (Txt.slice_le z _ _) hz,fun t' k=>⟨.str _,H,I.tok k,⟨t',rfl⟩,q⟩⟩)
end
end L2
namespace L2
open PySem PySem.Spec PyProof.Rows
def VS (xs:List (Str×NameKind))(XN:List Str)(ns:List (Str×NameKind))(N:List Str)(nl:Nat)(ci:List Nat):Bool :=
 (ns.all fun y=>y.2 != .cell&&(y.2 != .local||ns.lookup y.1==some .local)&&(y.2 != .free||(xs.lookup y.1==some .cell&&ns.lookup y.1==some .free))) &&
 (N.length==nl+ci.length) &&
 (List.range ci.length).all fun j=>match ci[j]?,N[nl+j]? with
  | some i,some n=>XN[i]? ==some n&&xs.lookup n==some .cell&&ns.lookup n==some .free
  | _,_=>false
def tZ (ns:List (Str×NameKind))(cs:List (Str×Addr)):List (Str×Addr)->List (Str×Addr)
 | acc=>ns.foldl (fun acc y=>if y.2== .free then (y.1,(cs.lookup y.1).getD 0)::acc else acc) acc
theorem uT {env:Env}:∀(ns:List (Str×NameKind)) (acc:List (Str×Addr)),(∀y∈ns,y.2= .free->∃c,env.cells.lookup y.1=some c) →
  (forIn ns acc fun x r=>(do
   let (name,kind):=x
   if (kind==NameKind.free)=true then do
     let c ←cellOf env name
     pure (ForInStep.yield ((name,c)::r))
    else pure (ForInStep.yield r)):Sem (List (Str×Addr)))=pure (tZ ns env.cells acc)
 | [],acc,_=>rfl
 | (n,k)::r,acc,h=>by
  have ih:=fun acc=>uT r acc fun y hy=>h y (List.mem_cons_of_mem _ hy);rw[List.forIn_cons]
  by_cases hk:k= .free
  ·subst hk;obtain⟨c,e⟩:=h (n,.free) List.mem_cons_self rfl;have e1:cellOf env n=pure c:=by unfold cellOf;rw[e]
   simp only[beq_self_eq_true,if_true,e1];show (forIn r ((n,c)::acc) _:Sem (List (Str×Addr)))=_;rw[ih];show _=pure (tZ ((n,NameKind.free)::r) env.cells acc);simp only[tZ,List.foldl_cons,beq_self_eq_true,if_true,e,Option.getD_some]
  ·have hb:(k==NameKind.free)=false:=by simpa using hk
   simp only[hb,Bool.false_eq_true,if_false];show (forIn r acc _:Sem (List (Str×Addr)))=_;rw[ih];simp only[tZ,List.foldl_cons,hb,Bool.false_eq_true,if_false]
theorem iT {cs:List (Str×Addr)}:∀(ns:List (Str×NameKind)) (acc:List (Str×Addr)) (n:Str),(∀y∈ns,y.2= .free->∃c,cs.lookup y.1=some c) →
  ((n,NameKind.free)∈ns∨acc.lookup n=cs.lookup n)->(∀c,acc.lookup n=some c->cs.lookup n=some c)->(tZ ns cs acc).lookup n=cs.lookup n
 | [],acc,n,_,h,_=>by
  rcases h with h|h
  ·cases h
  ·exact h
 | (m,k)::r,acc,n,hc,h,hs=>by
  have hc':∀y∈r,y.2= .free->∃c,cs.lookup y.1=some c:=fun y hy=>hc y (List.mem_cons_of_mem _ hy);show (tZ r cs (if k== .free then (m,(cs.lookup m).getD 0)::acc else acc)).lookup n=cs.lookup n
  by_cases hk:k= .free
  ·subst hk;obtain⟨c,e⟩:=hc (m,.free) List.mem_cons_self rfl;simp only[beq_self_eq_true,if_true,e,Option.getD_some]
   by_cases hm:n=m
   ·subst hm;have q:List.lookup n ((n,c)::acc)=some c:=by simp[List.lookup_cons]
    exact iT r _ n hc' (.inr (q.trans e.symm)) fun c' z=>by rw[q]at z;cases z;exact e
   ·have hb:(n==m)=false:=by simpa using hm
    have q:List.lookup n ((m,c)::acc)=acc.lookup n:=by simp[List.lookup_cons,hb]
    refine iT r _ n hc' ?_ fun c' z=>hs c' (q▸z);rcases h with h|h
    ·rcases List.mem_cons.mp h with z|z
     ·cases z;exact absurd rfl hm
     ·exact .inl z
    ·exact .inr (q.trans h)
  ·have hb:(k==NameKind.free)=false:=by simpa using hk
   simp only[hb,Bool.false_eq_true,if_false];refine iT r _ n hc' ?_ hs;rcases h with h|h
   ·rcases List.mem_cons.mp h with z|z
    ·cases z;exact absurd rfl hk
    ·exact .inl z
   ·exact .inr h
theorem GU {cs:List (Str×Addr)}:∀(ns:List (Str×NameKind)) (acc:List (Str×Addr)),(∀y∈ns,y.2= .free->∃c,cs.lookup y.1=some c) →
  (∀n c,acc.lookup n=some c->cs.lookup n=some c)->∀n c,(tZ ns cs acc).lookup n=some c->cs.lookup n=some c
 | [],acc,_,hs,n,c,h=>hs n c h
 | (m,k)::r,acc,hc,hs,n,c,h=>by
  have hc':∀y∈r,y.2= .free->∃c,cs.lookup y.1=some c:=fun y hy=>hc y (List.mem_cons_of_mem _ hy);have h':(tZ r cs (if k== .free then (m,(cs.lookup m).getD 0)::acc else acc)).lookup n=some c:=h;refine GU r _ hc' ?_ n c h';intro n' c' z
  by_cases hk:k= .free
  ·subst hk;obtain⟨d,e⟩:=hc (m,.free) List.mem_cons_self rfl;simp only[beq_self_eq_true,if_true,e,Option.getD_some]at z
   by_cases hm:n'=m
   ·subst hm;simp[List.lookup_cons]at z;subst z;exact e
   ·have hb:(n'==m)=false:=by simpa using hm
    simp[List.lookup_cons,hb]at z;exact hs n' c' z
  ·have hb:(k==NameKind.free)=false:=by simpa using hk
   simp only[hb,Bool.false_eq_true,if_false]at z;exact hs n' c' z
theorem kY {env:Env}(hkf:env.scope.kind= .function):∀{names:List (Str×NameKind)}{x:Str},names.lookup x=some .free->env.kindOf x=some .cell →
  (names.map fun (n,k)=>if (k==NameKind.free&&env.scope.kind== .function&&env.kindOf n==some .cell) then (n,NameKind.cell) else (n,k)).lookup x=some .cell
 | [],_,h,_=>by simp at h
 | (n,k)::r,x,h,hc=>by
  show List.lookup x ((if (k==NameKind.free&&env.scope.kind== .function&&env.kindOf n==some .cell)=true then (n,NameKind.cell) else (n,k))::_)=_;cases hx:x==n with
  | true =>
   simp only[List.lookup_cons,hx]at h;cases h;have e:x=n:=by simpa using hx
   subst e;rw[hkf,hc];simp[List.lookup_cons]
  | false =>
   simp only[List.lookup_cons,hx]at h;have ih:=kY hkf h hc
   split
   ·simp only[List.lookup_cons,hx];exact ih
   ·simp only[List.lookup_cons,hx];exact ih
theorem gD {env:Env}:∀{names:List (Str×NameKind)}{x:Str}{k':NameKind},(∀y∈names,y.2≠ .cell)->(k'= .cell∨k'= .free) →
  (names.map fun (n,k)=>if (k==NameKind.free&&env.scope.kind== .function&&env.kindOf n==some .cell) then (n,NameKind.cell) else (n,k)).lookup x=some k'->(x,NameKind.free)∈names
 | [],_,_,_,_,h=>by simp at h
 | (n,k)::r,x,k',hn,hk',h=>by
  have h':List.lookup x ((if (k==NameKind.free&&env.scope.kind== .function&&env.kindOf n==some .cell)=true then (n,NameKind.cell) else (n,k))::r.map _)=some k':=h;cases hx:x==n with
  | true =>
   have e:x=n:=by simpa using hx
   subst e
   by_cases hf:k= .free
   ·subst hf;exact List.mem_cons_self
   ·have hb:(k==NameKind.free)=false:=by simpa using hf
    simp only[hb,Bool.false_and,Bool.false_eq_true,if_false,List.lookup_cons,hx]at h';cases h';rcases hk' with z|z
    ·exact absurd z (hn (x,k) List.mem_cons_self)
    ·exact absurd z hf
  | false =>
   have h2:List.lookup x (r.map fun (n,k)=>if (k==NameKind.free&&env.scope.kind== .function&&env.kindOf n==some .cell) then (n,NameKind.cell) else (n,k))=some k':=by
    split at h'
    ·simp only[List.lookup_cons,hx]at h';exact h'
    ·simp only[List.lookup_cons,hx]at h';exact h'
   exact List.mem_cons_of_mem _ (gD (fun y hy=>hn y (List.mem_cons_of_mem _ hy)) hk' h2)
theorem blk {X:Cx}{scope:Scope}{N:List Str}{nl:Nat}{ci:List Nat} (n0:Nat) (hX:X.env.cells=cellsFrom n0 X.env.scope.names []) (hkf:X.env.scope.kind= .function) (hk:scope.kind= .function)
  (h:VS X.env.scope.names X.N scope.names N nl ci=true):Blk X scope (tZ scope.names X.env.cells []) N nl ci:=by
 unfold VS at h;rw[Bool.and_eq_true,Bool.and_eq_true]at h;obtain⟨⟨h1,h2⟩,h3⟩:=h;rw[List.all_eq_true]at h1;have h1':∀y∈scope.names,y.2≠ .cell/\(y.2= .local->scope.names.lookup y.1=some .local)/\(y.2= .free->X.env.scope.names.lookup y.1=some .cell/\scope.names.lookup y.1=some .free):=fun y hy=>by
  have q:=h1 y hy;simp only[Bool.and_eq_true,Bool.or_eq_true,bne_iff_ne,ne_eq,beq_iff_eq]at q;obtain⟨⟨q1,q2⟩,q3⟩:=q;exact⟨q1,fun e=>q2.resolve_left fun z=>z e,fun e=>q3.resolve_left fun z=>z e⟩
 have hcs:∀y∈scope.names,y.2= .free->∃c,X.env.cells.lookup y.1=some c:=fun y hy e=>by
  rw[hX];exact tV ((h1' y hy).2.2 e).1
 refine⟨hk,fun y hy=>(h1' y hy).2.1,fun y hy=>(h1' y hy).1,?_,?_,?_,by simpa using h2,?_⟩
 ·unfold closureFor;refine(congrArg (fun m:Sem (List (Str×Addr))=>m >>= fun cs=>pure cs) (uT scope.names [] hcs)).trans ?_;rfl
 ·exact GU scope.names [] hcs fun n c z=>by cases z
 ·intro n hn;have hm:(n,NameKind.free)∈scope.names:=by
   rcases hn with z|z
   ·exact gD (fun y hy=>(h1' y hy).1) (.inl rfl) z
   ·exact gD (fun y hy=>(h1' y hy).1) (.inr rfl) z
  obtain⟨c,e⟩:=hcs _ hm rfl;exact⟨c,(iT scope.names [] n hcs (.inl hm) fun c z=>by cases z).trans e⟩
 ·intro j i hj;have hjl:j<ci.length:=(List.getElem?_eq_some_iff.mp hj).1;rw[List.all_eq_true]at h3;have q:=h3 j (List.mem_range.mpr hjl);rw[hj]at q;cases e:N[nl+j]? with
  | none=>rw[e]at q;cases q
  | some n =>
   rw[e]at q;simp only[Bool.and_eq_true,beq_iff_eq]at q;obtain⟨⟨q1,q2⟩,q3⟩:=q;refine⟨n,rfl,q1,.inl q2,.inl (kY hkf q3 q2),?_⟩;exact iT scope.names [] n hcs (.inl (PySem.mem_of_lookup q3)) fun c z=>by cases z
structure Fc (P:Program)(w:World)(K:PySem.W.Frag)(mg:Str->Option Value)(base:Heap)(x:Str)(k:Nat)(ps:List Str)(sp:Sp):Prop where
 ex:∃f fd,mg x=some (.ref f)/\PySem.W.keepIn K (.ref f)=true/\Binds K fd ps []/\FnOk P w K mg base CX0 k f fd ps sp
theorem bA {X:Cx}{x:Str}{k k':Nat}{ps:List Str}{sp:Sp}{e:Expr}{es:List Expr}{t:TA}{p pos:Pos} (F:Fc X.prog X.w X.K X.mg X.base x k ps sp) (hr:Room k' X.A) (ha:PA X (e::es) t) (hk:k<=k':=by decide) (hg:Gl X x:=by rfl)
  (hdb:(x==("__debug__" :Str))=false:=by decide)(he:starEach (e::es) X.env=(false,eval e X.env)::starEach es X.env:=by rfl)(hpl:(backTo pos (starEach es X.env)).any (·.1)=false:=by rfl) :
  PE X (.Call (.Name x p) (e::es) [] pos) (rE sp [] E0 t):=by
 obtain⟨f,fd,hm,kp,b,G⟩:=F.ex;exact J9 G (hr.mono hk) hg hm kp b .nil rH ha hdb he hpl
theorem L9 {X:Cx}{x:Str}{n:String}{pos:Pos} (hg:Gl X x) (hm:X.mg x=none) (hv:bootBuiltins x=some (.type n)) (hn:x≠ "__name__" :=by decide) (hd:(x==("__debug__" :Str))=false:=by decide):PE X (.Name x pos) (tC (.ty n)):=YB hg hm hv rfl hn hd
theorem XD {X:Cx}{x:Str}{i:Int}{t:Tok}{pos:Pos} (hg:Gl X x) (hm:X.mg x=some (.int i t)) (hd:(x==("__debug__" :Str))=false:=by decide):PE X (.Name x pos) (tC (.int i)):=V4 hg hm ⟨t,rfl⟩ hd
theorem mL:bootBuiltins "isinstance" =some (.builtin "isinstance"):=by decide +kernel
theorem aAk:bootBuiltins "all" =some (.builtin "all"):=by decide +kernel
theorem iU:bootBuiltins "len" =some (.builtin "len"):=by decide +kernel
theorem aBt:bootBuiltins "max" =some (.builtin "max"):=by decide +kernel
theorem Y5:bootBuiltins "min" =some (.builtin "min"):=by decide +kernel
theorem OO:bootBuiltins "int" =some (.type "int"):=by decide +kernel
theorem aA4:bootBuiltins "str" =some (.type "str"):=by decide +kernel
theorem X6:bootBuiltins "bool" =some (.type "bool"):=by decide +kernel
theorem KM:bootBuiltins "list" =some (.type "list"):=by decide +kernel
theorem JJ:bootBuiltins "dict" =some (.type "dict"):=by decide +kernel
inductive BTy (K:PySem.W.Frag)(H:Hp):V->String->Prop where
 | non:BTy K H .non "NoneType"
 | bl (x:Bool):BTy K H (.bl x) "bool"
 | int (i:Int):BTy K H (.int i) "int"
 | str (x:Str):BTy K H (.str x) "str"
 | lst {a:Addr}{xs:List V} (e:H a=some (.lst xs)):BTy K H (.ref a) "list"
 | tup {a:Addr}{xs:List V} (e:H a=some (.tup xs)):BTy K H (.ref a) "tuple"
 | dK {a:Addr}{kvs:List (Key×V)} (e:H a=some (.dK kvs)):BTy K H (.ref a) "dict"
theorem BTy.ty {K:PySem.W.Frag}{H:Hp}{x:V}{n:String} (b:BTy K H x n):jI K H x (.type n):=by
 cases b with
 | non=>exact .non
 | bl=>exact .bl _
 | int=>exact .int _
 | str=>exact .str _
 | lst e=>exact .lst e
 | tup e=>exact .tup e
 | dK e=>exact .dK e
def isB (n c:String):Bool:=n==c||(n== "bool" &&c== "int")
theorem M6 {K:PySem.W.Frag}{H:Hp}{x:V}{n:String} (b:BTy K H x n) (c:String) (hc:c= "int" ∨c= "bool" ∨c= "str"):PySem.W.kitOne K (.type n) (.type c)=some (isB n c):=by
 cases b<;>rcases hc with rfl|rfl|rfl<;>kernel_rfl
end L2
namespace L2
open PySem PySem.Spec PyProof.Rows
theorem PR {J:It}{te:TE}{σ0:St}{fin:List V->Hp->Prop}{H1:Hp} (n:Nat) (Ok:Nat->List V->Hp->Prop) (hn:n<=sizeLine) (h00:σ0[0]? =some none) (h0:Ok 0 [] H1) (hlen:∀i ys H,Ok i ys H->ys.length<=i)
  (hst:∀ys H,Ok n ys H->J.stop n H/\fin ys H)(hstep:∀i ys H,i<n->Ok i ys H->J.go i H/\∀x H',J.yld i H x H'->∀R:VK,(∀y H4,Ok (i+1) (ys++[y]) H4->R y H4)->te (σ0.set 0 (some x)) H' R):dP J (bZ 0) yH te σ0 fin H1:=by
 refine⟨fun i m ys H=>m=n - i/\i<=n/\Ok i ys H,⟨n,by simp,Nat.zero_le _,h0⟩,?_⟩;rintro i m ys H ⟨rfl,hi,ok⟩
 by_cases hlt:i<n
 ·obtain⟨go,st⟩:=hstep i ys H hlt ok;refine .inr ⟨go,fun x H' y=>⟨⟨by simp,fun j v hv=> ?_⟩,?_⟩⟩
  ·cases j with
   | zero=>rw[h00]at hv;cases hv
   | succ j=>rw[List.getElem?_set_ne (by lia)];exact hv
  ·unfold yH
   dsimp only
   rw[if_pos rfl];exact st x H' y _ fun z H4 ok4=>⟨by have:=hlen i ys H ok;lia,n - (i+1),by lia,rfl,hlt,ok4⟩
 ·have e:i=n:=by lia
  subst e;exact .inl (hst ys H ok)
theorem ML {lo:Int}{n:Nat}{te:TE}{σ0:St}{fin:List V->Hp->Prop}{H1:Hp} (Ok:Nat->List V->Hp->Prop) (hn:n<=sizeLine) (h00:σ0[0]? =some none) (h0:Ok 0 [] H1) (hlen:∀i ys H,Ok i ys H->ys.length<=i) (hfin:∀ys H,Ok n ys H->fin ys H)
  (hstep:∀i ys H,i<n->Ok i ys H->∀R:VK,(∀y H4,Ok (i+1) (ys++[y]) H4->R y H4)->te (σ0.set 0 (some (.int (lo+i)))) H R):dP (Itr lo n) (bZ 0) yH te σ0 fin H1 :=
 PR n Ok hn h00 h0 hlen (fun ys H ok=>⟨Nat.le_refl _,hfin ys H ok⟩) fun i ys H hi ok=>⟨hi,fun x H' y=>by
  obtain⟨e1,e2⟩:=y;subst e1 e2;exact hstep i ys _ hi ok⟩
section
variable {X:Cx}
theorem RX {x:V}(h:j3 x=true):eqV x x=true:=by
 cases x<;>first|rfl|(simp[eqV];done)|exact absurd h Bool.false_ne_true
theorem xX (n:Nat):(List.range n).all (fun _=>true)=true:=by simp
end
structure FunV (K:PySem.W.Frag)(x qual:Str)(st:Stmt)(f:Addr)(fd:FuncData):Prop where
 ex:∃(oc:Value) (od:Option Addr) (dV kV doc pm:Value) (an:Option Addr) (cdv ct:Value) (osl:Array (Option Value)),
  fd=PySem.W.fnOf x qual (dB st) (cZ st) (aG st) dV kV doc pm an cdv ct/\K.lookup f=some ⟨oc,od,.func fd,osl⟩/\PySem.W.codeIn K cdv qual=true
 kp:PySem.W.keepIn K (.ref f)=true
section
variable {P:Program}{w:World}{K:PySem.W.Frag}{mg:Str->Option Value}{base:Heap}
theorem FunV.ok {x qual:Str}{st:Stmt}{f:Addr}{fd:FuncData}{N ps:List Str}{k:Nat}{sp:Sp} (F:FunV K x qual st f fd) (S:aQ N ps (aG st)) (len:∀vs H Q E,sp vs H Q E->vs.length=ps.length)
  (hbody:∀(cdv:Value) (A:Around) (outer:List Env) (s:Shared) (H:Hp) (vs:List V) (Q:VK) (E:XK),Room k (A.deeper (envOfC qual (aG st) s.heap.objs.size f cdv))->sp vs H Q E →
   ∃t,PSs (tP CX0 P w K mg base N qual (aG st) f cdv A outer s H E).nox (cZ st) t/\t { nx:=fun _ H'=>Q .non H',rt:=Q } (start N vs) H):FnOk P w K mg base CX0 (k+1) f fd ps sp:=by
 obtain⟨oc,od,dV,kV,doc,pm,an,cdv,ct,osl,rfl,lk,hcd⟩:=F.ex;refine aB7 lk hcd S len fun A outer s H vs Q E hr h=> ?_;obtain⟨t,h1,h2⟩:=hbody cdv A outer s H vs Q E hr h;exact⟨t,PSs.nox h1,h2⟩
theorem lG {x qual:Str}{st:Stmt}{f:Addr}{oc:Value}{od an:Option Addr}{osl:Array (Option Value)}{dV kV doc pm cdv ct:Value} (l:K.lookup f=some ⟨oc,od,.func (PySem.W.fnOf x qual (dB st) (cZ st) (aG st) dV kV doc pm an cdv ct),osl⟩) (c:PySem.W.codeIn K cdv qual=true)
  (k:PySem.W.keepIn K (.ref f)=true):FunV K x qual st f (PySem.W.fnOf x qual (dB st) (cZ st) (aG st) dV kV doc pm an cdv ct):=⟨⟨oc,od,dV,kV,doc,pm,an,cdv,ct,osl,rfl,l,c⟩,k⟩
structure Mc (P:Program)(w:World)(K:PySem.W.Frag)(mg:Str->Option Value)(base:Heap)(C:Addr)(nm:Str)(k:Nat)(sp:Sp):Prop where
 ex:∃f fd ps,Cls K C/\Meth K C nm f/\Binds K fd ps []/\FnOk P w K mg base CX0 k f fd ps sp
structure Kc (P:Program)(w:World)(K:PySem.W.Frag)(mg:Str->Option Value)(base:Heap)(x:Str)(C:Addr)(k:Nat)(dvs:List V)(sp:Sp):Prop where
 ex:∃f fd ps ds,mg x=some (.ref C)/\Mk K C f/\Vals dvs ds/\Binds K fd ps ds/\FnOk P w K mg base CX0 k f fd ps sp
end
section
variable {X:Cx}{k k':Nat}{sp:Sp}{x m:Str}{p pos apos:Pos}{e o:Expr}{es:List Expr}{ta:TE}{t:TA}{C:Addr}{dvs:List V}
def tMD (M:Addr->Sp->Prop)(m:Str)(ta:TE)(t:TA):TE:=fun σ H Q=>ta σ H fun x H1=>∃a C dx fs sp,x= .ref a/\H1 a=some (.ins C dx fs)/\fs.lookup m=none/\M C sp/\t σ H1 fun vs H2=>sp (x::vs) H2 Q E0
theorem d5 (k:Nat){pl:Sem Bool}(hr:Room k' X.A)(ho:PE X o ta)(ha:PA X (e::es) t)(hk:k<=k':=by decide)
  (hst:starEach (e::es) X.env=(false,eval e X.env)::starEach es X.env:=by rfl)(hpl:(backTo pos (starEach es X.env)).any (·.1)=false:=by rfl)
  (ht:eval (.Call (.Attribute o m apos) (e::es) [] pos) X.env=(do
   let ov ←eval o X.env
   standAt apos.atName
   let (f,first) ←holding [ov] (getMethod ov m pl)
   callWith pos f first (backTo pos (starEach (e::es) X.env)) (backToKw pos (keywordEach [] X.env))):=by rfl) :
  PE X (.Call (.Attribute o m apos) (e::es) [] pos) (tMD (fun C sp=>Mc X.prog X.w X.K X.mg X.base C m k sp) m ta t):=by
 intro pins s σ H Q I h;refine PySem.W.methodCall_KW (pl:=pl) (thn (ho pins s σ H _ I h) fun u s1 ⟨x,H1,I1,rx,a,C,dx,fs,sp,ex,ea,l,M,q⟩=> ?_) ht;subst ex;obtain rfl:u=Value.ref a:=rx;obtain⟨f,fd,ps,c,hm,hb,F⟩:=M.ex;refine AJ I1 ea c hm l ?_;refine PySem.W.callWith_K (first:=[.ref a]) (h₀:=X.base) I.ok.mod.kin hm.kp (thn (ha pos pins s1 σ H1 _ I1 q) fun us s2 ⟨vs,H2,I2,r,q2⟩=>⟨I2.kIn,?_⟩) hst hpl;exact sN (us:= .ref a::us) (vs:= .ref a::vs) (dvs:=[]) F (hr.mono hk) hb .nil rH I2 (.cons rfl r) (by rw[List.append_nil];exact q2)
theorem dA (k:Nat){pl:Sem Bool}(hr:Room k' X.A)(ho:PE X o ta)(hk:k<=k':=by decide)
  (ht:eval (.Call (.Attribute o m apos) [] [] pos) X.env=(do
   let ov ←eval o X.env
   standAt apos.atName
   let (f,first) ←holding [ov] (getMethod ov m pl)
   callWith pos f first (backTo pos (starEach [] X.env)) (backToKw pos (keywordEach [] X.env))):=by rfl) :
  PE X (.Call (.Attribute o m apos) [] [] pos) (tMD (fun C sp=>Mc X.prog X.w X.K X.mg X.base C m k sp) m ta LW):=by
 intro pins s σ H Q I h;refine PySem.W.methodCall_KW (pl:=pl) (thn (ho pins s σ H _ I h) fun u s1 ⟨x,H1,I1,rx,a,C,dx,fs,sp,ex,ea,l,M,q⟩=> ?_) ht;subst ex;obtain rfl:u=Value.ref a:=rx;obtain⟨f,fd,ps,c,hm,hb,F⟩:=M.ex;refine AJ I1 ea c hm l ?_;exact PySem.W.callWith_K0 (first:=[.ref a]) I1.kIn hm.kp (sN (us:=[.ref a]) (vs:=[.ref a]) (dvs:=[]) F (hr.mono hk) hb .nil rH I1 (.cons rfl .nil) q)
theorem uE (F:Kc X.prog X.w X.K X.mg X.base x C k dvs sp)(hr:Room k' X.A)(ha:PA X (e::es) t)(hk:k+1<=k':=by decide)(hg:Gl X x:=by rfl)
  (hdb:(x==("__debug__" :Str))=false:=by decide)(he:starEach (e::es) X.env=(false,eval e X.env)::starEach es X.env:=by rfl)(hpl:(backTo pos (starEach es X.env)).any (·.1)=false:=by rfl) :
  PE X (.Call (.Name x p) (e::es) [] pos) (MD C sp dvs E0 t):=by
 obtain⟨f,fd,ps,ds,hm,M,hd,hb,G⟩:=F.ex;exact V6 M G (hr.mono hk) hg hm hb hd rH ha hdb he hpl
structure Dc (P:Program)(w:World)(K:PySem.W.Frag)(mg:Str->Option Value)(base:Heap)(x m:Str)(k:Nat)(sp:Sp):Prop where
 ex:∃C f fd ps,mg x=some (.ref C)/\PySem.W.specialIn K (.ref C) "__getattribute__" =some (some (.builtin "type.__getattribute__"))/\PySem.W.readsIn K C (.type "type")=true/\PySem.W.findCls K (.ref C) (.type "type") m=some (.val (.ref f)) ∧
  PySem.W.keepIn K (.ref f)=true/\Binds K fd ps []/\FnOk P w K mg base CX0 k f fd ps sp
theorem LK {pl:Sem Bool}(F:Dc X.prog X.w X.K X.mg X.base x m k sp)(hr:Room k' X.A)(ha:PA X (e::es) t)(hk:k<=k':=by decide)(hg:Gl X x:=by rfl)(hdb:(x==("__debug__" :Str))=false:=by decide)
  (hst:starEach (e::es) X.env=(false,eval e X.env)::starEach es X.env:=by rfl)(hpl:(backTo pos (starEach es X.env)).any (·.1)=false:=by rfl)
  (ht:eval (.Call (.Attribute (.Name x p) m apos) (e::es) [] pos) X.env=(do
   let ov ←eval (.Name x p) X.env
   standAt apos.atName
   let (f,first) ←holding [ov] (getMethod ov m pl)
   callWith pos f first (backTo pos (starEach (e::es) X.env)) (backToKw pos (keywordEach [] X.env))):=by rfl) :
  PE X (.Call (.Attribute (.Name x p) m apos) (e::es) [] pos) (rE sp [] E0 t):=by
 intro pins s σ H Q I h;obtain⟨C,f,fd,ps,hm,hga,hrd,hfc,kp,hb,G⟩:=F.ex;refine PySem.W.methodCall_KW (pl:=pl) (sQ I hg hm ?_ hdb) ht;refine PySem.W.method_cls I.kIn hga (PySem.W.cls_value I.kIn hrd hfc (u4 (v:= .ref f) rfl) ?_);have I1:=I.tok (s.toks+1);refine PySem.W.callWith_K (first:=[]) (h₀:=X.base) I.ok.mod.kin kp (thn (ha pos pins _ σ H _ I1 h) fun us s2 ⟨vs,H2,I2,r,q2⟩=>⟨I2.kIn,?_⟩) hst hpl;exact sN G (hr.mono hk) hb .nil rH I2 r q2
end
end L2
namespace L2
open PySem PySem.Spec PyProof.Rows
def VV:R2:=fun x y H Q=>∃i j,x= .str i/\y= .str j/\i.length+j.length<=sizeLine/\Q (.str (i++j)) H
def LH:R2:=fun x y H Q=>y= .non/\Q (.bl (decide (x= .non))) H
def M5:R2:=fun x y H Q=>y= .non/\Q (.bl (!decide (x= .non))) H
def aCy:R2:=fun x y H Q=>∃i j,x= .str i/\y= .str j/\Q (.bl (!decide (j.cps.toList<i.cps.toList))) H
def aCA (K:PySem.W.Frag):List V->Hp->VK->Prop:=fun xs H Q=>∃x c t u b,xs=[x,c]/\jI K H x t/\RelV c u/\PySem.W.kitOne K t u=some b/\Q (.bl b) H
def aCw (K:PySem.W.Frag):List V->Hp->VK->Prop:=fun xs H Q=>∃(p:Addr) (bs:List Bool),xs=[.ref p]/\SqL K H p (bs.map V.bl)/\Q (.bl (bs.all id)) H
def VX:List V->Hp->VK->Prop:=fun xs H Q=>∃z,xs=[.str z]/\z.length<=sizeLine/\Q (.int z.length) H
def VM (K:PySem.W.Frag):List V->Hp->VK->Prop:=fun xs H Q=>∃p ys,xs=[.ref p]/\(SqL K H p ys∨SqT K H p ys)/\Q (.int ys.length) H
def U8:List V->Hp->VK->Prop:=fun xs H Q=>∃i j,xs=[.int i,.int j]/\Q (.int (if j>i then j else i)) H
def VH:List V->Hp->VK->Prop:=fun xs H Q=>∃i j,xs=[.int i,.int j]/\Q (.int (if j<i then j else i)) H
def VY:List V->Hp->VK->Prop:=fun xs H Q=>(∃i,xs=[.int i]/\Q (.int i) H)∨∃k,xs=[.bl k]/\Q (.int (if k then 1 else 0)) H
section
variable {X:Cx}
theorem JP:OpR X (binaryOp .Add) VV:=K5
theorem QR:OpR X (compareOp .Is) LH:=Z7
theorem JV:OpR X (compareOp .IsNot) M5:=WM
theorem PU:OpR X (compareOp .LtE) aCy:=OA
theorem xR:c7 X (.builtin "isinstance") (aCA X.K):=IW
theorem UB (hc:X.calm=true):c7 X (.builtin "all") (aCw X.K):=BW hc
theorem CT:c7 X (.builtin "len") VX:=GH
theorem fL:c7 X (.builtin "len") (VM X.K):=E3
theorem NH (hc:X.calm=true):c7 X (.builtin "max") U8:=PM hc
theorem QN (hc:X.calm=true):c7 X (.builtin "min") VH:=QI hc
theorem N8:c7 X (.type "int") VY:=P7
theorem KH {i j:Int}(n:Int){k1 k2 p1 p2 pos}(h:i^j.toNat=n)(c:aAL i j):PE X (.BinOp (.Constant (.int i) k1 p1) .Pow (.Constant (.int j) k2 p2) pos) (tC (.int n)):=by
 subst h;intro pins s σ H Q I q;exact aH ZL aE aE pins s σ H Q I ⟨i,j,rfl,rfl,c,q⟩
end
def ET (P:Bool->Hp->Prop):VK:=fun x H=>∃k,x= .bl k/\P k H
def aAv (O:Option Int->Hp->Prop):VK:=fun x H=>∃i,x= .int i/\O (some i) H
def aBg (Q:VK):List V->Hp->Prop:=fun xs H=>xs.length<=sizeLine/\∀p,H p=none->Q (.ref p) (upd H p (.lst xs))
def ZB (Q:VK):List V->Hp->Prop:=fun xs H=>xs.length<=sizeLine/\∀p,H p=none->Q (.ref p) (upd H p (.tup xs))
def aAP (Q:VK):List V->Hp->Prop:=fun ys H=>∀p,H p=none->Q (.ref p) (upd H p (.lst ys))
def aBb (K:PySem.W.Frag)(f:Str)(Q:VK):VK:=fun x H=>∃a C dx fs v,x= .ref a/\H a=some (.ins C dx fs)/\Cls K C/\NoAttr K C f/\fs.lookup f=some v/\Q v H
def VA (K:PySem.W.Frag)(f:Str)(y:V)(q:Hp->Prop):VK:=fun x H=>∃a C dx fs,x= .ref a/\H a=some (.ins C dx fs)/\Cls K C/\NoAttr K C f/\fs.length<1000/\q (upd H a (.ins C dx (cN f y fs)))
def MdP (M:Addr->Sp->Prop)(m:Str)(t:TA)(σ:St)(Q:VK):VK:=fun x H=>∃a C dx fs sp,x= .ref a/\H a=some (.ins C dx fs)/\fs.lookup m=none/\M C sp/\t σ H fun vs H2=>sp (x::vs) H2 Q E0
def qU (C:Addr)(sp:Sp)(dvs:List V)(E:XK)(Q:VK):List V->Hp->Prop:=fun vs H1=>∀x dx,H1 x=none->H1 dx=none->dx≠x →
 sp (.ref x::(vs++dvs)) (upd (upd H1 dx (.own x)) x (.ins C dx [])) (fun v H2=>v= .non/\Q (.ref x) H2) E
def BmP (K:PySem.W.Frag)(T:String)(r:V->List V->Hp->VK->Prop)(t:TA)(σ:St)(Q:VK):VK:=fun x H1=>tyV K T x H1/\t σ H1 fun xs H2=>r x xs H2 Q
def aAX (K:PySem.W.Frag)(R:It->Hp->Prop):VK:=fun x H1=>∃a,x= .ref a/\(∃xs,SqL K H1 a xs)/\R (Itl K a) H1
def ZT (R:It->Hp->Prop):List V->Hp->Prop:=fun vs H1=>∃j:Int,vs=[.int j]/\ -(2^62)<=j/\j<2^62/\R (Itr 0 j.toNat) H1
def aAJ (R:It->Hp->Prop):List V->Hp->Prop:=fun vs H1=>∃i j:Int,vs=[.int i,.int j]/\(-(2^62)<=i/\i<2^62/\ -(2^62)<=j/\j<2^62)/\R (Itr i (j - i).toNat) H1
section
variable {nx bk ct:St->Hp->Prop}{rt:VK}{σ:St}{H:Hp}{Q:VK}{t u:TS}{te ta tb tc:TE}{g:TG}{c d:TT}{v:V}{K:PySem.W.Frag}{E:XK}
theorem aBq (h:t ⟨u ⟨nx,rt,bk,ct⟩,rt,bk,ct⟩ σ H):GR t u ⟨nx,rt,bk,ct⟩ σ H:=h
theorem wO (R:St->Hp->Prop)(h2:∀σ' H',R σ' H'->u ⟨nx,rt,bk,ct⟩ σ' H')(h1:∀nx':St->Hp->Prop,(∀σ' H',R σ' H'->nx' σ' H')->t ⟨nx',rt,bk,ct⟩ σ H):GR t u ⟨nx,rt,bk,ct⟩ σ H:=h1 _ h2
theorem UD {v:TS}(h:GR (LZ c t u) v ⟨nx,rt,bk,ct⟩ σ H):GR (LZ c t u) v ⟨nx,rt,bk,ct⟩ σ H:=h
theorem XL (h:nx σ H):U7 ⟨nx,rt,bk,ct⟩ σ H:=h
theorem ZJ (h:te σ H fun x H1=>g x σ H1 nx):LQ te g ⟨nx,rt,bk,ct⟩ σ H:=h
theorem aBp (h:te σ H rt):aAY te ⟨nx,rt,bk,ct⟩ σ H:=h
theorem WK (h:te σ H fun _ H1=>nx σ H1):U6 te ⟨nx,rt,bk,ct⟩ σ H:=h
theorem aBD (h:c σ H fun b H1=>if b=true then t ⟨nx,rt,bk,ct⟩ σ H1 else u ⟨nx,rt,bk,ct⟩ σ H1):LZ c t u ⟨nx,rt,bk,ct⟩ σ H:=h
def L7 (J:It)(g:TG)(tb:TS)(D:gU)(σ:St)(H:Hp):Prop :=
 ∃W:Nat->Nat->St->Hp->Prop,(∃m,W 0 m σ H)/\∀i m σ H,W i m σ H →
  (J.stop i H/\D.nx σ H)∨(J.go i H/\∃N:St->Hp->Prop,(∀σ' H',N σ' H'->∃m',m'<m/\W (i+1) m' σ' H')/\∀x H',J.yld i H x H'->g x σ H' fun σ2 H2=>tb { D with nx:=N,ct:=N,bk:=D.nx } σ2 H2)
theorem aBr {wi:TI}{tb:TS} (h:wi σ H fun J H1=>L7 J g tb ⟨nx,rt,bk,ct⟩ σ H1):aAw wi g tb ⟨nx,rt,bk,ct⟩ σ H:=h
theorem aBI {l:St}(h:Q v H):gQ 0 (some v::l) H Q:=⟨v,rfl,h⟩
theorem aBK {a0}{l:St} (h:Q v H):gQ 1 (a0::some v::l) H Q:=⟨v,rfl,h⟩
theorem aB4 {a0 a1}{l:St} (h:Q v H):gQ 2 (a0::a1::some v::l) H Q:=⟨v,rfl,h⟩
theorem aBZ {a0 a1 a2}{l:St} (h:Q v H):gQ 3 (a0::a1::a2::some v::l) H Q:=⟨v,rfl,h⟩
theorem aBS {a0 a1 a2 a3}{l:St} (h:Q v H):gQ 4 (a0::a1::a2::a3::some v::l) H Q:=⟨v,rfl,h⟩
theorem aCh {a0 a1 a2 a3 a4}{l:St} (h:Q v H):gQ 5 (a0::a1::a2::a3::a4::some v::l) H Q:=⟨v,rfl,h⟩
theorem aCe {a0 a1 a2 a3 a4 a5}{l:St} (h:Q v H):gQ 6 (a0::a1::a2::a3::a4::a5::some v::l) H Q:=⟨v,rfl,h⟩
theorem aCb {a0 a1 a2 a3 a4 a5 a6}{l:St} (h:Q v H):gQ 7 (a0::a1::a2::a3::a4::a5::a6::some v::l) H Q:=⟨v,rfl,h⟩
theorem aBN {a0 a1 a2 a3 a4 a5 a6 a7}{l:St} (h:Q v H):gQ 8 (a0::a1::a2::a3::a4::a5::a6::a7::some v::l) H Q:=⟨v,rfl,h⟩
theorem aBT {a0 a1 a2 a3 a4 a5 a6 a7 a8}{l:St} (h:Q v H):gQ 9 (a0::a1::a2::a3::a4::a5::a6::a7::a8::some v::l) H Q:=⟨v,rfl,h⟩
theorem aAa {a0 a1 a2 a3 a4 a5 a6 a7 a8 a9}{l:St} (h:Q v H):gQ 10 (a0::a1::a2::a3::a4::a5::a6::a7::a8::a9::some v::l) H Q:=⟨v,rfl,h⟩
theorem aAM {a0 a1 a2 a3 a4 a5 a6 a7 a8 a9 a10}{l:St} (h:Q v H):gQ 11 (a0::a1::a2::a3::a4::a5::a6::a7::a8::a9::a10::some v::l) H Q:=⟨v,rfl,h⟩
theorem aBs {a0 a1 a2 a3 a4 a5 a6 a7 a8 a9 a10 a11}{l:St} (h:Q v H):gQ 12 (a0::a1::a2::a3::a4::a5::a6::a7::a8::a9::a10::a11::some v::l) H Q:=⟨v,rfl,h⟩
variable {q:St->Hp->Prop}
theorem aBO {a0 a}{l:St} (h:q (a0::some v::l) H):bZ 1 v (a0::a::l) H q:=h
theorem aB3 {a0 a1 a}{l:St} (h:q (a0::a1::some v::l) H):bZ 2 v (a0::a1::a::l) H q:=h
theorem aBB {a0 a1 a2 a}{l:St} (h:q (a0::a1::a2::some v::l) H):bZ 3 v (a0::a1::a2::a::l) H q:=h
theorem aBz {a0 a1 a2 a3 a}{l:St} (h:q (a0::a1::a2::a3::some v::l) H):bZ 4 v (a0::a1::a2::a3::a::l) H q:=h
theorem aBV {a0 a1 a2 a3 a4 a}{l:St} (h:q (a0::a1::a2::a3::a4::some v::l) H):bZ 5 v (a0::a1::a2::a3::a4::a::l) H q:=h
theorem aBR {a0 a1 a2 a3 a4 a5 a}{l:St} (h:q (a0::a1::a2::a3::a4::a5::some v::l) H):bZ 6 v (a0::a1::a2::a3::a4::a5::a::l) H q:=h
theorem aBH {a0 a1 a2 a3 a4 a5 a6 a}{l:St} (h:q (a0::a1::a2::a3::a4::a5::a6::some v::l) H):bZ 7 v (a0::a1::a2::a3::a4::a5::a6::a::l) H q:=h
theorem aCd {a0 a1 a2 a3 a4 a5 a6 a7 a}{l:St} (h:q (a0::a1::a2::a3::a4::a5::a6::a7::some v::l) H):bZ 8 v (a0::a1::a2::a3::a4::a5::a6::a7::a::l) H q:=h
theorem aCj {a0 a1 a2 a3 a4 a5 a6 a7 a8 a}{l:St} (h:q (a0::a1::a2::a3::a4::a5::a6::a7::a8::some v::l) H):bZ 9 v (a0::a1::a2::a3::a4::a5::a6::a7::a8::a::l) H q:=h
theorem Z2 {a0 a1 a2 a3 a4 a5 a6 a7 a8 a9 a}{l:St} (h:q (a0::a1::a2::a3::a4::a5::a6::a7::a8::a9::some v::l) H):bZ 10 v (a0::a1::a2::a3::a4::a5::a6::a7::a8::a9::a::l) H q:=h
theorem aBe {a0 a1 a2 a3 a4 a5 a6 a7 a8 a9 a10 a}{l:St} (h:q (a0::a1::a2::a3::a4::a5::a6::a7::a8::a9::a10::some v::l) H):bZ 11 v (a0::a1::a2::a3::a4::a5::a6::a7::a8::a9::a10::a::l) H q:=h
theorem aA1 {a0 a1 a2 a3 a4 a5 a6 a7 a8 a9 a10 a11 a}{l:St} (h:q (a0::a1::a2::a3::a4::a5::a6::a7::a8::a9::a10::a11::some v::l) H):bZ 12 v (a0::a1::a2::a3::a4::a5::a6::a7::a8::a9::a10::a11::a::l) H q:=h
theorem aCq (h:Q v H):tC v σ H Q:=h
theorem aBL {r:R2}(h:ta σ H fun x H1=>tb σ H1 fun y H2=>r x y H2 Q):tOp r ta tb σ H Q:=h
theorem aCa {f:Int->Int->V}{i j:Int} (h:Q (f i j) H):rI0 f (.int i) (.int j) H Q:=⟨i,j,rfl,rfl,h⟩
theorem aBi {f:Int->Int->V}{i j:Int} (h0:0<j) (h1:j<1073741824) (h:Q (f i j) H):rI aAr f (.int i) (.int j) H Q:=⟨i,j,rfl,rfl,⟨h0,h1⟩,h⟩
theorem aAy {f:Int->Int->V}{i j:Int} (h0:0<j) (h:Q (f i j) H):rI (fun _ j=>0<j) f (.int i) (.int j) H Q:=⟨i,j,rfl,rfl,h0,h⟩
theorem XJ {f:Int->Int->V}{i j:Int} (h0: -18446744073709551616<i) (h1:i<18446744073709551616) (h:Q (f i j) H):rI CMul f (.int i) (.int j) H Q:=⟨i,j,rfl,rfl,.inl ⟨by lia,by lia⟩,h⟩
theorem XS {f:Int->Int->V}{i j:Int} (h0: -18446744073709551616<j) (h1:j<18446744073709551616) (h:Q (f i j) H):rI CMul f (.int i) (.int j) H Q:=⟨i,j,rfl,rfl,.inr ⟨by lia,by lia⟩,h⟩
theorem VC {i j:Int}:decide (V.int i=V.int j)=decide (i=j):=by simp
theorem aB6 {i j:Str}:decide (V.str i=V.str j)=decide (i=j):=by simp
theorem aAl {i j:Int}(h:Q (.bl (decide (i=j))) H):rEq (.int i) (.int j) H Q:=⟨rfl,by rw[VC];exact h⟩
theorem aBo {i j:Str}(h:Q (.bl (decide (i=j))) H):rEq (.str i) (.str j) H Q:=⟨rfl,by rw[aB6];exact h⟩
theorem WX {i:Str}(h:Q (.bl false) H):rEq .non (.str i) H Q:=⟨rfl,by rw[decide_eq_false (fun z=>by cases z)];exact h⟩
theorem aAW {i j:Int}(h:Q (.bl (!decide (i=j))) H):rNe (.int i) (.int j) H Q:=⟨rfl,by rw[VC];exact h⟩
theorem WW (h:Q (.bl true) H):LH .non .non H Q:=⟨rfl,h⟩
theorem X7 {i:Addr}(h:Q (.bl false) H):LH (.ref i) .non H Q:=⟨rfl,by rw[decide_eq_false (fun z=>by cases z)];exact h⟩
theorem YQ (h:Q (.bl (decide (v= .non))) H):LH v .non H Q:=⟨rfl,h⟩
theorem YM (h:Q (.bl false) H):M5 .non .non H Q:=⟨rfl,h⟩
theorem WP {i:Str}(h:Q (.bl true) H):M5 (.str i) .non H Q:=⟨rfl,by rw[decide_eq_false (fun z=>by cases z)];exact h⟩
theorem WC {i j:Str}(hl:i.length+j.length<=sizeLine)(h:Q (.str (i++j)) H):VV (.str i) (.str j) H Q:=⟨i,j,rfl,rfl,hl,h⟩
theorem aAh (h:c σ H fun k H1=>if k=true then ta σ H1 Q else tb σ H1 Q):tIf c ta tb σ H Q:=h
theorem UE {r r':R2}(h:ta σ H fun x H1=>tb σ H1 fun y H2=>r x y H2 (ET fun k H3=>if k=true then tc σ H3 fun w' H4=>r' y w' H4 Q else Q (.bl false) H3)):HV r r' ta tb tc σ H Q:=h
theorem WE {sp:Sp}{t:TA} (h:t σ H fun vs H1=>sp vs H1 Q E):rE sp [] E t σ H Q:=by
 unfold rE;simp only[List.append_nil];exact h
theorem aB8 {r:List V->Hp->VK->Prop}{t:TA} (h:t σ H fun vs H1=>r vs H1 Q):tCB r t σ H Q:=h
theorem aBm {t:TA}(h:t σ H (aBg Q)):ZD t σ H Q:=h
theorem aA3 {t:TA}(h:t σ H (ZB Q)):aAB t σ H Q:=h
theorem fH {o:HO}{R:V->Hp->Prop} (h:∀p H',H p=none->Same H H'->H' p=some o->R (.ref p) H'):∀p,H p=none->R (.ref p) (upd H p o) :=
 fun p hp=>h p _ hp (fun b u e=>by rw[aL (bG e hp)];exact e) bC
theorem WY {xs:List V}(hn:xs.length<=sizeLine)(h:∀p H',H p=none->Same H H'->H' p=some (.lst xs)->Q (.ref p) H'):aBg Q xs H:=⟨hn,fH h⟩
theorem WU {xs:List V}(hn:xs.length<=sizeLine)(h:∀p H',H p=none->Same H H'->H' p=some (.tup xs)->Q (.ref p) H'):ZB Q xs H:=⟨hn,fH h⟩
theorem XH {xs:List V}(h:∀p H',H p=none->Same H H'->H' p=some (.lst xs)->Q (.ref p) H'):aAP Q xs H:=fH h
theorem ZC {f:Str}(h:ta σ H (aBb K f Q)):R5 K ta f σ H Q:=h
theorem WV {a C dx:Addr}{fs:List (Str×V)}{f:Str} (e:H a=some (.ins C dx fs)) (cl:Cls K C) (na:NoAttr K C f) (l:fs.lookup f=some v) (h:Q v H):aBb K f Q (.ref a) H:=⟨a,C,dx,fs,v,rfl,e,cl,na,l,h⟩
theorem X4 {f:Str}(h:ta σ H fun y H1=>tb σ H1 (VA K f y (nx σ))):aBu K tb ta f ⟨nx,rt,bk,ct⟩ σ H:=h
theorem UC {a C dx:Addr}{fs:List (Str×V)}{f:Str}{y:V}{w:Hp->Prop} (e:H a=some (.ins C dx fs)) (cl:Cls K C) (na:NoAttr K C f) (l:decide (fs.length<1000)=true)
  (h:∀H',(∀b o,H b=some o->b≠a->H' b=some o)->H' a=some (.ins C dx (cN f y fs))->w H'):VA K f y w (.ref a) H :=
 ⟨a,C,dx,fs,rfl,e,cl,na,of_decide_eq_true l,h _ (fun b o q hb=>by rw[aL hb];exact q) bC⟩
theorem aCc {M:Addr->Sp->Prop}{m:Str}{t:TA} (h:ta σ H (MdP M m t σ Q)):tMD M m ta t σ H Q:=h
theorem Z1 {M:Addr->Sp->Prop}{m:Str}{t:TA}{a C dx:Addr}{fs:List (Str×V)}{sp:Sp} (e:H a=some (.ins C dx fs)) (l:fs.lookup m=none) (F:M C sp) (h:t σ H fun vs H2=>sp (.ref a::vs) H2 Q E0):MdP M m t σ Q (.ref a) H :=
 ⟨a,C,dx,fs,sp,rfl,e,l,F,h⟩
theorem W1 {C:Addr}{sp:Sp}{dvs:List V}{t:TA} (h:t σ H (qU C sp dvs E Q)):MD C sp dvs E t σ H Q:=h
theorem oU {C:Addr}{sp:Sp}{dvs vs:List V}{fs:List (Str×V)}
  (hsp:∀p dx H0 (Q':VK),H0 p=some (.ins C dx [])->(∀H',(∀b o,H0 b=some o->b≠p->H' b=some o)->H' p=some (.ins C dx fs)->Q' .non H')->Same H H0->sp (.ref p::(vs++dvs)) H0 Q' E)
  (k:∀p dx H',H p=none->Same H H'->H' p=some (.ins C dx fs)->Q (.ref p) H'):qU C sp dvs E Q vs H:=by
 intro x dx nx nd ne;have s0:Same H (upd (upd H dx (.own x)) x (.ins C dx [])):=fun b o e=>by
  rw[aL (bG e nx),aL (bG e nd)];exact e
 exact hsp x dx _ _ bC (fun H' sb e=>⟨rfl,k x dx H' nx (fun b o q=>sb b o (s0 b o q) (bG q nx)) e⟩) s0
theorem XA {wi:TI}{nl:Nat}{ci:List Nat}{ti:TT} (h:wi σ H fun J H1=>dP J g ti te (bY nl ci σ) (aAP Q) H1):LU wi nl ci g ti te σ H Q:=h
theorem aBA {r:V->Option Int->Option Int->Hp->VK->Prop}{tl th:TO} (h:te σ H fun x H1=>tl σ H1 fun l H2=>th σ H2 fun u H3=>r x l u H3 Q):tSl r te tl th σ H Q:=h
theorem aA6 {z:Str}{lo hi:Option Int} (hz:z.length<=sizeLine) (h:(Txt.slice z lo hi).length<=z.length->Q (.str (Txt.slice z lo hi)) H):ZI (.str z) lo hi H Q:=⟨z,rfl,hz,h (Txt.slice_le _ _ _)⟩
theorem P4 {a:Addr}{xs:List V}{lo hi:Option Int} (e:SqL K H a xs) (h:∀p H',H p=none->Same H H'->H' p=some (.lst (yG xs lo hi))->Q (.ref p) H'):SQ K (.ref a) lo hi H Q:=⟨a,xs,rfl,e,fH h⟩
theorem XQ {p:Addr}{a b i:Int} (e:SqL K H p [.int a,.int b]) (h0:0<=i) (h1:i<2) (h:∀v,(i=0/\v=a)∨(i=1/\v=b)->Q (.int v) H):E7 K (.ref p) (.int i) H Q:=by
 have:i=0∨i=1:=by lia
 rcases this with rfl|rfl
 ·exact⟨p,_,0,_,rfl,rfl,e,rfl,h a (.inl ⟨rfl,rfl⟩)⟩
 ·exact⟨p,_,1,_,rfl,rfl,e,rfl,h b (.inr ⟨rfl,rfl⟩)⟩
def TN (ns:List Int)(lo hi:Option Int):List Int:=(ns.drop (HT.sIx ns.length 0 lo)).take (HT.sIx ns.length ns.length hi - HT.sIx ns.length 0 lo)
theorem QC (ns:List Int)(lo hi:Option Int):yG (ns.map V.int) lo hi=(TN ns lo hi).map V.int:=by
 unfold yG TN;rw[List.length_map,List.map_take,List.map_drop]
theorem Z6 {a:Addr}{ns:List Int}{lo hi:Option Int} (e:SqL K H a (ns.map V.int)) (h:∀p H',H p=none->Same H H'->H' p=some (.lst ((TN ns lo hi).map V.int))->Q (.ref p) H'):SQ K (.ref a) lo hi H Q :=
 P4 e (by rw[QC];exact h)
theorem KF {l b:Addr}{xs zs:List V} (e:H l=some (.lst xs)) (e2:H b=some (.lst zs)) (hn:xs.length+zs.length<=sizeLine) (h:∀p H',H p=none->Same H H'->H' p=some (.lst (xs++zs))->Q (.ref p) H'):Z0 (.ref l) (.ref b) H Q :=
 ⟨l,b,xs,zs,rfl,rfl,e,e2,hn,fH h⟩
theorem aBM {T:String}{r:V->List V->Hp->VK->Prop}{to:TE}{t:TA} (h:to σ H (BmP K T r t σ Q)):tBM K T r to t σ H Q:=h
theorem aAd {r:V->List V->Hp->VK->Prop}{t:TA}{p:Addr}{xs:List V} (e:SqL K H p xs) (h:t σ H fun xs H2=>r (.ref p) xs H2 Q):BmP K "list" r t σ Q (.ref p) H:=⟨.inl ⟨rfl,xs,e⟩,h⟩
structure ICls (K:PySem.W.Frag)(C:Addr):Prop where
 cl:Cls K C
 ha:PySem.W.findIn K (.ref C) "__class__" =some (some (.builtin "object.__class__"))
 hn:PySem.W.specialIn K (.builtin "object.__class__") "__get__" =some (some (.builtin "getset_descriptor.__get__"))
 tk:PySem.W.takesIn K (.builtin "object.__class__")=some true
 hm:PySem.W.mroIn K C (.type "object")=some true
theorem XX {z:Str}(hz:z.length<=sizeLine)(h:Q (.int z.length) H):VX [.str z] H Q:=⟨z,rfl,hz,h⟩
theorem W4 {p:Addr}{ys:List V} (e:SqL K H p ys) (h:Q (.int ys.length) H):VM K [.ref p] H Q:=⟨p,ys,rfl,.inl e,h⟩
theorem XT {i j:Int}(h:Q (.int (max i j)) H):U8 [.int i,.int j] H Q:=⟨i,j,rfl,by
 have e:(if j>i then j else i)=max i j:=by lia
 rw[e];exact h⟩
theorem WS {i j:Int}(h:Q (.int (min i j)) H):VH [.int i,.int j] H Q:=⟨i,j,rfl,by
 have e:(if j<i then j else i)=min i j:=by lia
 rw[e];exact h⟩
theorem XR {k:Bool}(h:Q (.int (if k then 1 else 0)) H):VY [.bl k] H Q:= .inr ⟨k,rfl,h⟩
variable {B:Bool->Hp->Prop}
theorem V9 (h:te σ H (ET B)):MI te σ H B:=h
theorem aBQ (h:te σ H (ET B)):tB te σ H B:=h
theorem Z9 (h:c σ H fun k H1=>if k=true then d σ H1 B else B false H1):ZQ c d σ H B:=h
theorem aB0 (h:c σ H fun k H1=>if k=true then B true H1 else d σ H1 B):tOr c d σ H B:=h
theorem ZF (h:c σ H fun k H1=>B (!k) H1):aAo c σ H B:=h
theorem aAQ {b:Bool}{P:Bool->Hp->Prop} (h:P b H):ET P (.bl b) H:=⟨b,rfl,h⟩
theorem QT {A B:Prop}(h:A):if true=true then A else B:=by rw[if_pos rfl];exact h
theorem GQ {A B:Prop}(h:B):if false=true then A else B:=by rw[if_neg Bool.false_ne_true];exact h
theorem W8 {A B:Prop}(h:B):if (!true)=true then A else B:=GQ h
theorem YU {A B:Prop}(h:A):if (!false)=true then A else B:=QT h
theorem aAp {p A B:Prop}[Decidable p](hp:¬p)(h:B):if decide p=true then A else B:=by rw[if_neg (by rw[decide_eq_false hp];exact Bool.false_ne_true)];exact h
theorem WL {p A B:Prop}[Decidable p](hp:p)(h:B):if (!decide p)=true then A else B:=by rw[decide_eq_true hp];exact GQ h
theorem cM {p A B:Prop}[Decidable p](h1:p->A)(h2:¬p->B):if decide p=true then A else B:=A3 (fun h=>h1 (of_decide_eq_true h)) fun h=>h2 fun z=>h (decide_eq_true z)
variable {L:List V->Hp->Prop}{O:Option Int->Hp->Prop}{tr:TA}
theorem Y6 (h:L [] H):LW σ H L:=h
theorem W2 (h:te σ H fun x H1=>tr σ H1 fun xs H2=>L (x::xs) H2):VB te tr σ H L:=h
theorem OV (h:O none H):J7 σ H O:=h
theorem YI (h:te σ H (aAv O)):VD te σ H O:=h
theorem aAH {i:Int}(h:O (some i) H):aAv O (.int i) H:=⟨i,rfl,h⟩
variable {vs:List V}{gs:TGs}
theorem X8 (h:q σ H):BV [] σ H q:=⟨rfl,h⟩
theorem SW (h:g v σ H fun σ' H'=>gs vs σ' H' q):j7 g gs (v::vs) σ H q:=⟨v,vs,rfl,h⟩
theorem YE {a:Addr}{n:Nat} (e:SqT K H a vs) (hl:vs.length=n) (h:gs vs σ H q):xY K n gs (.ref a) σ H q:=⟨a,vs,rfl,e,hl,h⟩
variable {R:It->Hp->Prop}
theorem UI (h:te σ H (aAX K R)):VO K te σ H R:=h
theorem C8 {a:Addr}{xs:List V} (e:SqL K H a xs) (h:R (Itl K a) H):aAX K R (.ref a) H:=⟨a,rfl,⟨xs,e⟩,h⟩
theorem SM (h:tr σ H (ZT R)):VT tr σ H R:=h
theorem OW {j:Int}(h0: -4611686018427387904<=j)(h1:j<4611686018427387904)(h:R (Itr 0 j.toNat) H):ZT R [.int j] H:=⟨j,rfl,by lia,by lia,h⟩
theorem Q6 (h:tr σ H (aAJ R)):VW tr σ H R:=h
theorem O7 {i j:Int}(h0: -4611686018427387904<=i)(h1:i<4611686018427387904)(h2: -4611686018427387904<=j)(h3:j<4611686018427387904)(h:R (Itr i (j - i).toNat) H):aAJ R [.int i,.int j] H:=⟨i,j,rfl,⟨by lia,by lia,by lia,by lia⟩,h⟩
theorem dN {a:Addr}{tb:TS} (xs:List V) (Pv:Nat->St->Hp->Prop) (h0:Pv 0 σ H) (hl:∀i σ H,i<=xs.length->Pv i σ H->SqL K H a xs)
  (hs:∀i x σ H,xs[i]? =some x->Pv i σ H->g x σ H fun σ2 H2=>tb ⟨Pv (i+1),rt,nx,Pv (i+1)⟩ σ2 H2)(hd:∀σ H,Pv xs.length σ H->nx σ H):L7 (Itl K a) g tb ⟨nx,rt,bk,ct⟩ σ H :=
 RI (D:=⟨nx,rt,bk,ct⟩) Pv h0 hl hs hd
theorem oP {lo:Int}{n:Nat}{tb:TS} (Pv:Nat->St->Hp->Prop) (h0:Pv 0 σ H)
  (hs:∀i σ H,i<n->Pv i σ H->g (.int (lo+i)) σ H fun σ2 H2=>tb ⟨Pv (i+1),rt,nx,Pv (i+1)⟩ σ2 H2)(hd:∀σ H,Pv n σ H->nx σ H):L7 (Itr lo n) g tb ⟨nx,rt,bk,ct⟩ σ H :=
 PP (D:=⟨nx,rt,bk,ct⟩) Pv h0 hs hd
end
section
variable {K:PySem.W.Frag}{te:TE}{σ:St}{ci:List Nat}{rest:St}{fin:List V->Hp->Prop}{H:Hp}{a:Addr}
theorem AU (hr:ci.map (fun i=>(σ[i]?).join)=rest):bY 1 ci σ=none::rest:=by
 unfold bY;rw[hr];rfl
theorem JE {lo:Int}{n:Nat} (P:Nat->V->Prop) (hn:n<=sizeLine) (hr:ci.map (fun i=>(σ[i]?).join)=rest)
  (hs:∀i H1,i<n->Same H H1->∀R:VK,(∀y H2,P i y->Same H1 H2->R y H2)->te (some (.int (lo+i))::rest) H1 R)
  (hf:∀ys H1,Same H H1->ys.length=n->(∀i y,ys[i]? =some y->P i y)->fin ys H1):dP (Itr lo n) (bZ 0) yH te (bY 1 ci σ) fin H:=by
 rw[AU hr];refine ML (fun i ys H1=>Same H H1/\ys.length=i/\∀j y,ys[j]? =some y->P j y) hn rfl ⟨Same.refl _,rfl,fun j y h=>by simp at h⟩ (fun i ys H1 ok=>Nat.le_of_eq ok.2.1) (fun ys H1 ok=>hf ys H1 ok.1 ok.2.1 ok.2.2) ?_;intro i ys H1 hi ⟨s1,hl,hp⟩ R hR;refine hs i H1 hi s1 R fun y H2 hy s2=>hR y H2 ⟨s1.trans s2,by simp[hl],fun j z hz=> ?_⟩
 by_cases hj:j<ys.length
 ·rw[List.getElem?_append_left hj]at hz;exact hp j z hz
 ·rw[List.getElem?_append_right (by lia)]at hz;have hj0:j - ys.length=0:=by
   cases e:j - ys.length with
   | zero=>rfl
   | succ k=>rw[e]at hz;simp at hz
  rw[hj0]at hz;have:z=y:=by simpa using hz.symm
  subst this;have:j=i:=by lia
  subst this;exact hy
end
section
variable {K:PySem.W.Frag}{te:TE}{σ:St}{ci:List Nat}{rest:St}{fin:List V->Hp->Prop}{H:Hp}{a:Addr}
theorem LD {α β:Type}{xs:List α}{ys:List β}{f:α->β} (hl:ys.length=xs.length) (h:∀(i:Nat) y,ys[i]? =some y->∃x,xs[i]? =some x/\y=f x):ys=xs.map f:=by
 apply List.ext_getElem?
 intro i;rw[List.getElem?_map];cases e:ys[i]? with
 | none =>
  have:xs[i]? =none:=by
   rw[List.getElem?_eq_none_iff]at e ⊢
   lia
  rw[this];rfl
 | some y =>
  obtain⟨x,hx,rfl⟩:=h i y e;rw[hx];rfl
theorem UG {lo:Int}{n:Nat} (f:Nat->V) (hn:n<=sizeLine) (hr:ci.map (fun i=>(σ[i]?).join)=rest)
  (hs:∀i H1,i<n->Same H H1->∀R:VK,(∀H2,Same H1 H2->R (f i) H2)->te (some (.int (lo+i))::rest) H1 R)
  (hf:∀H1,Same H H1->fin ((List.range n).map f) H1):dP (Itr lo n) (bZ 0) yH te (bY 1 ci σ) fin H:=by
 refine JE (fun i y=>y=f i) hn hr (fun i H1 hi s1 R hR=>hs i H1 hi s1 R fun H2 s2=>hR _ H2 rfl s2) ?_;intro ys H1 s1 hl hp;have e:ys=(List.range n).map f:=by
  refine LD (by rw[hl,List.length_range]) fun i y hy=> ?_;have hi:i<n:=by
   rw[←hl];exact(List.getElem?_eq_some_iff.mp hy).1
  exact⟨i,by simp[hi],hp i y hy⟩
 rw[e];exact hf H1 s1
end
theorem Same.at {H H':Hp}{b:Addr}{o:HO} (s:Same H H') (h:H b=some o):H' b=some o:=s b o h
def SameBut (p:Addr)(H H':Hp):Prop:=∀b o,H b=some o->b≠p->H' b=some o
theorem SameBut.upd {p:Addr}{H:Hp}{o:HO}:SameBut p H (upd H p o):=fun b u e hb=>by rw[aL hb];exact e
theorem SameBut.trans {p:Addr}{H H1 H2:Hp} (a:SameBut p H H1) (b:SameBut p H1 H2):SameBut p H H2:=fun c o h hc=>b c o (a c o h hc) hc
theorem Same.but {p:Addr}{H H':Hp} (s:Same H H'):SameBut p H H':=fun b o e _=>s b o e
theorem SameBut.same {p:Addr}{H H0 H':Hp} (n:H0 p=none) (s:Same H0 H) (b:SameBut p H H'):Same H0 H':=fun c o e=>b c o (s c o e) (bG e n)
theorem aO {t:TS}{D:gU}{N:List Str}{vs:List V}{σ:St}{H:Hp} (e:start N vs=σ) (h:t D σ H):t D (start N vs) H:=e▸h
theorem SameBut.refl {p:Addr}{H:Hp}:SameBut p H H:=fun _ _ e _=>e
theorem SameBut.snoc {p:Addr}{H H1 H2:Hp} (b:∀c o,H1 c=some o->c≠p->H2 c=some o) (a:SameBut p H H1):SameBut p H H2:=fun c o h hc=>b c o (a c o h hc) hc
theorem SameBut.snocS {p:Addr}{H H1 H2:Hp} (b:Same H1 H2) (a:SameBut p H H1):SameBut p H H2:=fun c o h hc=>b c o (a c o h hc)
theorem Same.snoc {H H1 H2:Hp}(b:Same H1 H2)(a:Same H H1):Same H H2:=a.trans b
theorem YD {f:Str}{v:V}{fs:List (Str×V)}:(cN f v fs).lookup f=some v:=by rw[lY,if_pos rfl]
theorem aCg {f g:Str}{v:V}{o:Option V}{fs:List (Str×V)} (h:decide (g=f)=false) (l:fs.lookup g=o):(cN f v fs).lookup g=o:=by rw[lY,if_neg (of_decide_eq_false h)];exact l
theorem Z5 {f:Str}:([]:List (Str×V)).lookup f=none:=rfl
section
variable {K:PySem.W.Frag}{x qual:Str}{st:Stmt}{kV doc pm cdv ct:Value}{an:Option Addr}{ps:List Str}
theorem hV (k:Nat){T:Addr}{ds:List Value}{oc:Value}{od:Option Addr}{sl:Array (Option Value)}{items:Array Value}{n:Nat} (lt:K.lookup T=some ⟨oc,od,.seq items n,sl⟩)
  (h:∀us:List Value,us.length=k->∃k,bindArgs (PySem.W.fnOf x qual (dB st) (cZ st) (aG st) (.ref T) kV doc pm an cdv ct) ⟨us,[]⟩=seqItems? (.ref T) >>= k/\k (some items)=pure (ps.zip (us++ds)))(hk:k+ds.length=ps.length:=by rfl) :
  Binds K (PySem.W.fnOf x qual (dB st) (cZ st) (aG st) (.ref T) kV doc pm an cdv ct) ps ds:=fun s us hK hl=>by
 obtain⟨k,h1,h2⟩:=h us (by rw[List.length_append]at hl;lia);exact .of_defaults (T:=T) (items:=items) (n:=n) rfl (hK T _ lt) rfl h1 h2
end
theorem bU (s:String):(Str.ofString s).length=s.length:=by
 rw[Str.ofString_eq_toList];show (s.toList.map Char.toNat).toArray.size=_;rw[List.size_toArray,List.length_map,String.length_toList]
def sgB (c:Nat):Bool:=decide (97<=c)&&decide (c<=122)
def iK (z:Str):Bool:=z.cps.toList.all sgB
def bE (z:Str):Bool:=decide (1<=(z.length:Int))&&decide ((z.length:Int)<=8)&&iK z
theorem QS {z:Str}(h:bE z=true):z.length<=8:=by
 unfold bE at h;simp only[Bool.and_eq_true,decide_eq_true_eq]at h
 lia
theorem UP {z:Str}(h0:1<=z.length)(h1:z.length<=8)(h2:iK z=true):bE z=true:=by
 unfold bE;simp only[Bool.and_eq_true,decide_eq_true_eq];exact⟨⟨by lia,by lia⟩,h2⟩
theorem FZ {c:Nat}{z:Str} (h:iK z=true) (hc:c∈z.cps.toList):iK ⟨#[c]⟩=true:=by
 unfold iK at h ⊢;rw[List.all_eq_true]at h;show [c].all sgB=true;rw[List.all_cons,h c hc];rfl
theorem QP {z:Str}{l u:Option Int}{c:Nat} (h:c∈(Txt.slice z l u).cps.toList):c∈z.cps.toList:=by
 unfold Txt.slice at h
 split at h
 ·exact h
 ·rw[List.toList_toArray]at h;obtain⟨i,_,hi⟩:=List.mem_filterMap.mp h;rw[←Array.getElem?_toList]at hi;exact List.mem_of_getElem? hi
theorem kE {z:Str}{l u:Option Int} (h:iK z=true):iK (Txt.slice z l u)=true:=by
 unfold iK at h ⊢;rw[List.all_eq_true]at h ⊢;exact fun c hc=>h c (QP hc)
theorem xM (x y:Str):(x++y).cps.toList=x.cps.toList++y.cps.toList:=by
 show (x.cps++y.cps).toList=_;simp
theorem eQ (x y:Str):(x++y).length=x.length+y.length:=by
 show (x.cps++y.cps).size=_;rw[Array.size_append];rfl
theorem BH (c:Nat):(⟨#[c]⟩:Str).length=1:=rfl
theorem F9 {x y:Str}(h:iK x=true)(h':iK y=true):iK (x++y)=true:=by
 unfold iK at h h' ⊢;rw[xM,List.all_append,h,h'];rfl
end L2
namespace L2
open PySem PySem.Spec PyProof.Rows
section
variable {prog:Program}{w:World}{A:Around}{E:Value->Shared->Prop}{s:Shared}
end
section
variable {X:Cx}{pos:Pos}
end
section
variable {nx bk ct:St->Hp->Prop}{rt:VK}{σ:St}{H:Hp}{g:TG}{K:PySem.W.Frag}{a:Addr}{tb:TS}{xs:List V}
end
theorem WA {H:Hp}{Q:VK}{i j:Int} (h0:0<j) (h:0<=i%j->i%j<j->Q (.int (i%j)) H):rI (fun _ j=>0<j) (fun i j=> .int (i%j)) (.int i) (.int j) H Q:=⟨i,j,rfl,rfl,h0,h (Int.emod_nonneg _ (by lia)) (Int.emod_lt_of_pos _ h0)⟩
end L2
namespace L2
open PySem PySem.Spec PyProof.Rows PySem.W
section
variable {prog:Program}{w:World}{A:Around}{E:Value->Shared->Prop}{h:Heap}{g:Array GenState}{d:Drawn}{t:Nat}{os:OsState}{a C:Addr}{o:Obj}{vs:Array Value}{K:Frag}
end
end L2
namespace L2
open PySem PySem.Spec PyProof.Rows PySem.W
section
variable {M:Model}{A:Around}{E:Value->Shared->Prop}{s:Shared}{base:Heap}{env:Env}{outer:List Env}{L ea:Addr}{Q:Unit->Shared->Prop}
end
end L2
namespace L2
open PySem PySem.Spec PyProof.Rows PySem.W
section
variable {P:Program}{w:World}{H H':Hp}{h h':Heap}{a:Addr}{o:HO}
end
section
variable {X:Cx}{pins:List (Addr×Obj)}{σ:St}{H H1:Hp}{s s1:Shared}{h2 B:Heap}
end
end L2
namespace L2
open PySem PySem.Spec PyProof.Rows PySem.W
section
variable {X:Cx}{E:XK}{x:Str}{C:Addr}{np cpos pos:Pos}{e:Expr}{es:List Expr}{t:TA}
end
section
variable {X:Cx}{k k':Nat}{sp:Sp}{x m:Str}{p pos apos:Pos}{e o:Expr}{es:List Expr}{ta:TE}{t:TA}{C:Addr}{dvs:List V}{E:XK}{ps:List Str}
end
section
variable {P:Program}{w:World}{K:PySem.W.Frag}{mg:Str->Option Value}{base:Heap}
end
end L2
namespace L2
open PySem PySem.Spec PyProof.Rows PySem.W
section
variable {M:Model}{A:Around}{E:Value->Shared->Prop}{s:Shared}{base:Heap}{env:Env}{outer:List Env}{L ea:Addr}{Q:Unit->Shared->Prop}
end
end L2
namespace L2
open PySem PySem.Spec PyProof.Rows PySem.W
section
variable {X:Cx}{pins:List (Addr×Obj)}{σ:St}{H:Hp}{s:Shared}{ea:Addr}
end
section
variable {X:Cx}{k k':Nat}{sp:Sp}{x m:Str}{p pos apos:Pos}{e o:Expr}{es:List Expr}{ta:TE}{t:TA}{C f:Addr}{dvs:List V}{ds:List Value}{R:XK}{ps:List Str}{fd:FuncData}
end
section
variable {X:Cx}{k k':Nat}{sp:Sp}{x m:Str}{p pos apos:Pos}{e o:Expr}{es:List Expr}{ta:TE}{t:TA}{C:Addr}{dvs:List V}{R:XK}
end
section
variable {X:Cx}{i:Nat}{n x:Str}{T:Addr}{np hpos pos epos:Pos}{e:Expr}{tc:XK->TE}{b₀:Stmt}{suite:List Stmt}{ts:TS}
end
end L2
namespace L2
open PySem PySem.Spec PyProof.Rows PySem.W
section
variable {X:Cx}{x:Str}{j:Nat}{p pos:Pos}{e v1 v2:Expr}{es:List Expr}{te:TE}{t:TJ}
end
end L2
namespace L2
open PySem PySem.W
section
variable {K:Frag}{C D:Addr}{cd:ClassData}{b:Bool}
end
variable {K:Frag}{H:Hp}{Q:VK}
end L2
namespace L2
open PySem PySem.W
end L2
set_option maxHeartbeats 4000000
namespace L2
open PySem PySem.Spec PyProof.Rows
abbrev kn (o:Obj):HO:= .frz o (.ext fun _=>True)
theorem EW {P:Program}{w:World}{H:Hp}{h:Heap}{a:Addr}{o:Obj} (e:h.get? a=some o):ObjOk P w H h a (kn o):=⟨e,trivial,⟨o,e⟩,fun _ _ _ _=>trivial⟩
theorem u9 {P:Program}{w:World}{H:Hp}{h:Heap}{a:Addr}{o:Obj} (x:HOk P w H h) (e:H a=some (kn o)):h.get? a=some o:=(x a _ e).1
section
variable {X:Cx}{pins:List (Addr×Obj)}{σ:St}{H:Hp}{s:Shared}
end
section
variable {X:Cx}{CX:CXT}{k k':Nat}{sp:Sp}{E:XK}{x y:Str}{p pos:Pos}{e:Expr}{es:List Expr}{t:TA}{i:Nat}{c:Addr}
end
def cxL (CX:CXT)(P:Program)(w:World)(K:PySem.W.Frag)(mg:Str->Option Value)(base:Heap)(N:List Str)(qual:Str)(scope:Scope)(f:Addr)(cd:Value)(cl:List (Str×Addr))(A:Around)(outer:List Env)(s:Shared)(H:Hp)(E:XK):Cx where
 prog:=P
 w:=w
 K:=K
 mg:=mg
 base:=base
 A:=A.deeper (PySem.W.envX qual scope s.heap.objs.size f cd cl)
 N:=N
 s₀:=s
 H₀:=H
 env:=PySem.W.envX qual scope s.heap.objs.size f cd cl
 outer:=outer
 stack:=PySem.W.envX qual scope s.heap.objs.size f cd cl::outer
 ex:=[]
 calm:=true
 fn:=fun _=>false
 pn:=[]
 xe:=fun e s'=>wpAny (model P w) (A.deeper (PySem.W.envX qual scope s.heap.objs.size f cd cl)) (leaving (PySem.W.envX qual scope s.heap.objs.size f cd cl) e) (fun _ s''=>CX outer H s E e s'') (fun e' s''=>CX outer H s E e' s'') s'
section
variable {P:Program}{w:World}{K:PySem.W.Frag}{mg:Str->Option Value}{base:Heap}
end
section
variable {X:Cx}{k k':Nat}{x:Str}{p pos:Pos}{e:Expr}{es:List Expr}{t:TA}
def aA5 (F:Addr->FuncData->List Str->Sp->Prop)(K:PySem.W.Frag)(i:Nat)(t:TA):TE:=fun σ H Q=>∃f o fd,σ[i]? =some (some (.ref f))/\H f=some (kn o)/\o.data= .func fd ∧
 t σ H fun vs H1=>∃ps sp,H1 f=some (kn o)/\Binds K fd ps []/\F f fd ps sp/\sp vs H1 Q E0
theorem KI {h:Heap}{f:Addr}{o:Obj}{fd:FuncData} (e:h.get? f=some o) (d:o.data= .func fd):PySem.W.FnAt f h:=by
 obtain⟨oc,od,dt,sl⟩:=o;have d':dt= .func fd:=d;subst d';exact⟨oc,od,fd,sl,e⟩
theorem TH (k:Nat)(i:Nat)(hr:Room k' X.A)(ha:PA X (e::es) t)(hk:k<=k':=by decide)(hN:X.N[i]? =some x:=by rfl)(hv:Vis X.env.scope x:=by first|exact Or.inl rfl|exact Or.inr (Or.inl rfl)|exact Or.inr (Or.inr rfl))
  (hdb:(x==("__debug__" :Str))=false:=by decide)(hcd:(x==("__classdict__" :Str))=false:=by decide)(he:starEach (e::es) X.env=(false,eval e X.env)::starEach es X.env:=by rfl)(hpl:(backTo pos (starEach es X.env)).any (·.1)=false:=by rfl) :
  PE X (.Call (.Name x p) (e::es) [] pos) (aA5 (fun f fd ps sp=>FnOk X.prog X.w X.K X.mg X.base CX0 k f fd ps sp) X.K i t):=by
 intro pins s σ H Q I h;obtain⟨f,o,fd,hi,hf,hd,h⟩:=h;refine wpAny_Call_Name_kw (thn (O9 (i:=i) hN hv hdb hcd pins s σ H (fun v' H'=>v'= .ref f/\H' f=some (kn o)/\t σ H' fun vs H1=>∃ps sp,H1 f=some (kn o)/\Binds X.K fd ps []/\FnOk X.prog X.w X.K X.mg X.base CX0 k f fd ps sp/\sp vs H1 Q E0) I ⟨_,hi,rfl,hf,h⟩) fun u s1 ⟨v1,H1,I1,rv,e1,hf1,q1⟩=> ?_);subst e1;obtain rfl:u=Value.ref f:=rv;refine PySem.W.callWith_F (KI (u9 I1.hok hf1) hd) (thn (ha pos pins s1 σ H1 _ I1 q1) fun us s2 ⟨vs,H2,I2,r,ps,sp,hf2,hb,F,q⟩=>⟨KI (u9 I2.hok hf2) hd,?_⟩) he hpl;have q':sp (vs++[]) H2 Q E0:=by rw[List.append_nil];exact q
 exact sN (us:=us) (vs:=vs) F (hr.mono hk) hb .nil rH I2 r q'
end
section
variable {X:Cx}{args:Arguments}{body:Expr}{lsc:Scope}{pos:Pos}{y:Str}{c cL PL:Addr}
end
end L2
namespace L2
open PySem PySem.Spec PyProof.Rows
section
variable {P:Program}{w:World}{K:PySem.W.Frag}{mg:Str->Option Value}{base:Heap}
end
theorem OS {P:Program}{w:World}{K:PySem.W.Frag}{mg mb:Str->Option Value}{CX:CXT}{k:Nat}{fa a cL PL:Addr}{fd:FuncData}{x:Str}{sp:Sp}{s₁:Shared}{vs:List Value}{ns:List Int}
  (KX:K.In s₁.heap)(hns:s₁.heap.Ns mainGlobals mg)(hb:s₁.heap.Ns builtinsNs mb)(hbb:∀x:Str,x≠ "__name__" ->mb x=bootBuiltins x)(hlim:s₁.heap.NoLimit)(hg:s₁.gens= #[])
  (C:PySem.W.CodeHd s₁.heap cL PL)(hP:s₁.heap.get? PL=some (PySem.W.tabObj #[]))(hKP:K.lookup PL=none)
  (hbm:∃bm ob,mg "__builtins__" =some (.ref bm)/\bm≠builtinsNs/\s₁.heap.get? bm=some ob/\ob.cls= .type "module" /\ob.dict=some builtinsNs/\ob.data= .plain)
  (ha:s₁.heap.get? a=some { cls:= .type "list",data:= .seq vs.toArray })(hi:IntsAre vs ns)(hl:ns.length<=sizeLine)(hr:Room k callerA)
  (F:∀base:Heap,PySem.W.CodeHd base cL PL->base.BuiltinsAt mg PL->FnOk P w K mg base CX k fa fd [x] sp)(hbind:∀(s:Shared) (u:Value),BindsTo s fd ⟨[u],[]⟩ [(x,u)])
  (hsp:∀H:Hp,SqL K H a (ns.map V.int)->H PL=some (.tbl #[])->sp [.ref a] H (fun v _=>v= .bl true) fun _ _ _=>False)
  (hCX:∀H e s',CX [] H s₁ (fun _ _ _=>False) e s'->False) :
  codeAny (model P w) callerA (.call (.ref fa) ⟨[.ref a],[]⟩) (fun r s'=>r= .ok (.ret (.bool true))/\OldK s₁.heap s'.heap/\s'.os=s₁.os/\AllBare s'.gens) s₁:=by
 have rv:=DQ hi;have lenV:=hi.length;have naP:a≠PL:=fun z=>by rw[z,hP]at ha;cases ha
 have core:∀H:Hp,H PL=some (.tbl #[])->SqL K H a (ns.map V.int)->HOk P w H s₁.heap->(∀b,H b≠none->b=a∨b=PL)->(H a≠none->K.lookup a=none)->(∀u,H a=some u->∃o xs,u= .frz o (.lst xs)) →
   codeAny (model P w) callerA (.call (.ref fa) ⟨[.ref a],[]⟩) (fun r s'=>r= .ok (.ret (.bool true))/\OldK s₁.heap s'.heap/\s'.os=s₁.os/\AllBare s'.gens) s₁:=by
  intro H hHP hS hok hA hK hfz;have base_of:∀{b:Addr}{o:Obj},s₁.heap.get? b=some o->H b=none->(o8 s₁.heap H).get? b=some o:=fun e n=>SS e n;have noT:∀{b:Addr}{o:Obj},s₁.heap.get? b=some o->o.cls≠ .none->o.cls≠ .type "list" ->H b=none:=fun {b o} e n1 n2=>by
   cases q:H b with
   | none=>rfl
   | some u =>
    rcases hA b (by rw[q];simp) with z|z
    ·rw[z,ha]at e;cases e;exact absurd rfl n2
    ·rw[z,hP]at e;cases e;exact absurd rfl n1
  have noA:∀{b:Addr}{o:Obj}{es:Array DictEntry}{ep:Nat},s₁.heap.get? b=some o->o.data= .dict es ep->H b=none:=fun {b o es ep} e d=>by
   cases q:H b with
   | none=>rfl
   | some u =>
    rcases hA b (by rw[q];simp) with z|z
    ·rw[z,ha]at e;cases e;have d':Data.seq vs.toArray _=Data.dict es ep:=d;cases d'
    ·rw[z,hP]at e;cases e;have d':Data.fields #[]=Data.dict es ep:=d;cases d'
  have nsK:∀{b:Addr}{m:Str->Option Value},s₁.heap.Ns b m->(o8 s₁.heap H).Ns b m:=fun {b m} ⟨o,es,ep,e,d,r⟩=>⟨o,es,ep,base_of e (noA e d),d,r⟩
  have hKb:K.In (o8 s₁.heap H):=fun b o e=>base_of (KX b o e) (by
   cases q:H b with
   | none=>rfl
   | some u =>
    rcases hA b (by rw[q];simp) with z|z
    ·subst z;rw[hK (by rw[q];simp)]at e;cases e
    ·rw[z,hKP]at e;cases e)
  have hM:Mod K mg (o8 s₁.heap H):=⟨hKb,nsK hns,⟨mb,nsK hb,hbb⟩,let ⟨mc,h1,h2⟩:=hlim;⟨mc,nsK h1,h2⟩⟩
  have e0:Env0 P w K mg (o8 s₁.heap H) callerA [] s₁ H:=⟨rfl,hM,fun b o e=>XZ e,Nat.le_of_eq (O6 _ _),trivial,fun b hb=>absurd (show b∈([]:List Addr) from hb) (by simp),hok,.of_eq hg⟩
  have hC:PySem.W.CodeHd (o8 s₁.heap H) cL PL:=by
   obtain⟨o,fv,file,tf,flags,tg,inF,text,tt,e1,e2,r⟩:=C;exact⟨o,fv,file,tf,flags,tg,inF,text,tt,base_of e1 (noT e1 (by rw[e2];intro z;cases z) (by rw[e2];decide)),e2,r⟩
  have hB:(o8 s₁.heap H).BuiltinsAt mg PL:=by
   obtain⟨bm,ob,b1,b2,b3,b4,b5,b6⟩:=hbm;refine⟨bm,ob,b1,b2,fun z=> ?_,fun z=> ?_,base_of b3 (noT b3 (by rw[b4];intro z;cases z) (by rw[b4];decide)),b4,b5,b6⟩
   ·obtain⟨o,es,ep,e,hd,_⟩:=hns;rw[z,e]at b3;cases b3;rw[hd]at b6;cases b6
   ·rw[z,hP]at b3;cases b3;cases b4
  refine codeAny_mono ((F _ hC hB).run callerA [] s₁ H ⟨[.ref a],[]⟩ [.ref a] [.ref a] _ _ hr e0 (hbind s₁ (.ref a)) (.cons rfl .nil) (hsp H hS hHP)) fun r s' h=> ?_;cases r with
  | error e=>exact(hCX H e s' h).elim
  | ok fl =>
   cases fl with
   | next=>exact False.elim h
   | brk=>exact False.elim h
   | cont=>exact False.elim h
   | ret u =>
    obtain⟨v,H',os,bare,un,hok',r',q⟩:=h;have q':v= .bl true:=q;subst q';obtain rfl:u=Value.bool true:=r';have kept:∀b o,b≠PL->s₁.heap.get? b=some o->s'.heap.get? b=some o:=fun b o nb e=>by
     cases q:H b with
     | none=>exact un.keep b o e q (by intro z;exact absurd (show b∈([]:List Addr) from z) (by simp)) (by simp)
     | some u =>
      rcases hA b (by rw[q];simp) with z|z
      ·subst z;obtain⟨ob,xs,rfl⟩:=hfz u q;have z2:=un.frzs b ob _ q;obtain⟨e1,_⟩:=hok b _ q;obtain⟨e2,_⟩:=hok' b _ z2;rw[e]at e1;cases e1;exact e2
      ·exact absurd z nb
    obtain⟨more,hm⟩:=un.tbls PL #[] hHP;have gP':s'.heap.get? PL=some (PySem.W.tabObj (#[]++more)):=hok' PL _ hm;refine⟨rfl,⟨fun b o e=> ?_,fun b o e=> ?_⟩,os,bare⟩
    ·by_cases hb:b=PL
     ·subst hb;rw[hP]at e;cases e;exact .inr (.inl ⟨(C.tab hP).isCodeTable,rfl,#[],more,rfl,gP'⟩)
     ·exact .inl (kept b o hb e)
    ·by_cases hb:b=PL
     ·subst hb;exact⟨_,gP'⟩
     ·exact⟨o,kept b o hb e⟩
 cases hk:K.lookup a with
 | some o =>
  have e:=KX a o hk;rw[ha]at e;cases e;refine core (fun b=>if b=PL then some (.tbl #[]) else none) (if_pos rfl) (.inr ⟨_,vs.toArray,_,hk,rfl,rfl,rfl,by rw[List.size_toArray,lenV];exact hl,by simpa using rv⟩) (fun b u z=> ?_) (fun b z=> ?_) (fun z=>absurd (if_neg naP) z) (fun u z=> ?_)
  ·by_cases hb:b=PL
   ·have z':=(if_pos hb).symm.trans z;cases z';subst hb;exact hP
   ·have z':=(if_neg hb).symm.trans z;cases z'
  ·by_cases hb:b=PL
   ·exact .inr hb
   ·exact absurd (if_neg hb) z
  ·have z':=(if_neg naP).symm.trans z;cases z'
 | none =>
  have eP:(if PL=a then some (HO.frz { cls:= .type "list",data:= .seq vs.toArray } (.lst (ns.map V.int))) else if PL=PL then some (.tbl #[]) else none)=some (.tbl #[]):=by rw[if_neg (Ne.symm naP),if_pos rfl]
  refine core (fun b=>if b=a then some (.frz { cls:= .type "list",data:= .seq vs.toArray } (.lst (ns.map V.int))) else if b=PL then some (.tbl #[]) else none) eP (.inl (.inr ⟨{ cls:= .type "list",data:= .seq vs.toArray },if_pos rfl⟩)) (fun b u z=> ?_) (fun b z=> ?_) (fun _=>hk) (fun u z=> ?_)
  ·by_cases hb:b=a
   ·have z':=(if_pos hb).symm.trans z;cases z';subst hb;exact⟨ha,by rw[List.length_map];exact hl,vs,_,rv,ha⟩
   ·have z1:=(if_neg hb).symm.trans z
    by_cases hb2:b=PL
    ·have z':=(if_pos hb2).symm.trans z1;cases z';subst hb2;exact hP
    ·have z':=(if_neg hb2).symm.trans z1;cases z'
  ·by_cases hb:b=a
   ·exact .inl hb
   ·by_cases hb2:b=PL
    ·exact .inr hb2
    ·exact absurd ((if_neg hb).trans (if_neg hb2)) z
  ·have z':=(if_pos rfl).symm.trans z;cases z';exact⟨_,_,rfl⟩
section
variable {X:Cx}{o:Expr}{to:TE}{ap pos:Pos}
theorem xV:∀{xs:List V}{us:List Value},xs.length=us.length->(∀(i:Nat) x u,xs[i]? =some x->us[i]? =some u->RelV x u)->Vals xs us
 | [],[],_,_=> .nil
 | [],_::_,h,_=>by simp at h
 | _::_,[],h,_=>by simp at h
 | x::xs,u::us,h,k=> .cons (k 0 x u rfl rfl) (xV (by simpa using h) fun i y w e1 e2=>k (i+1) y w (by simpa using e1) (by simpa using e2))
end
structure DcD (P:Program)(w:World)(K:PySem.W.Frag)(mg:Str->Option Value)(base:Heap)(x m:Str)(k:Nat)(dvs:List V)(sp:Sp):Prop where
 ex:∃C f fd ps ds,mg x=some (.ref C)/\PySem.W.specialIn K (.ref C) "__getattribute__" =some (some (.builtin "type.__getattribute__"))/\PySem.W.readsIn K C (.type "type")=true/\PySem.W.findCls K (.ref C) (.type "type") m=some (.val (.ref f)) ∧
  PySem.W.keepIn K (.ref f)=true/\Vals dvs ds/\Binds K fd ps ds/\FnOk P w K mg base CX0 k f fd ps sp
section
variable {X:Cx}{k k':Nat}{sp:Sp}{x m:Str}{p pos apos:Pos}{e:Expr}{es:List Expr}{t:TA}{dvs:List V}
theorem aAb {pl:Sem Bool}(F:DcD X.prog X.w X.K X.mg X.base x m k dvs sp)(hr:Room k' X.A)(ha:PA X (e::es) t)(hk:k<=k':=by decide)(hg:Gl X x:=by rfl)(hdb:(x==("__debug__" :Str))=false:=by decide)
  (hst:starEach (e::es) X.env=(false,eval e X.env)::starEach es X.env:=by rfl)(hpl:(backTo pos (starEach es X.env)).any (·.1)=false:=by rfl)
  (ht:eval (.Call (.Attribute (.Name x p) m apos) (e::es) [] pos) X.env=(do
   let ov ←eval (.Name x p) X.env
   standAt apos.atName
   let (f,first) ←holding [ov] (getMethod ov m pl)
   callWith pos f first (backTo pos (starEach (e::es) X.env)) (backToKw pos (keywordEach [] X.env))):=by rfl) :
  PE X (.Call (.Attribute (.Name x p) m apos) (e::es) [] pos) (rE sp dvs E0 t):=by
 intro pins s σ H Q I h;obtain⟨C,f,fd,ps,ds,hm,hga,hrd,hfc,kp,hd,hb,G⟩:=F.ex;refine PySem.W.methodCall_KW (pl:=pl) (sQ I hg hm ?_ hdb) ht;refine PySem.W.method_cls I.kIn hga (PySem.W.cls_value I.kIn hrd hfc (u4 (v:= .ref f) rfl) ?_);have I1:=I.tok (s.toks+1);refine PySem.W.callWith_K (first:=[]) (h₀:=X.base) I.ok.mod.kin kp (thn (ha pos pins _ σ H _ I1 h) fun us s2 ⟨vs,H2,I2,r,q2⟩=>⟨I2.kIn,?_⟩) hst hpl;exact sN G (hr.mono hk) hb hd rH I2 r q2
theorem t5 {E:XK}{σ:St}{H:Hp}{Q:VK} (h:t σ H fun vs H1=>sp (vs++dvs) H1 Q E):rE sp dvs E t σ H Q:=h
end
end L2
namespace L2
open PySem PySem.Spec PyProof.Rows
def aBG (H:Hp)(c:Addr)(v:V):Prop:=∃o u,H c=some (kn o)/\o.data= .cell (some u)/\RelV v u
def off (H:Hp)(c:Addr):Hp:=fun b=>if b=c then none else H b
theorem FO {H:Hp}{c:Addr}:off H c c=none:=by unfold off;rw[if_pos rfl]
theorem fS {H:Hp}{c b:Addr} (h:b≠c):off H c b=H b:=by unfold off;rw[if_neg h]
theorem RO {H:Hp}{c b:Addr}{u:HO} (h:off H c b=some u):b≠c/\H b=some u:=by
 by_cases hb:b=c
 ·subst hb;rw[FO]at h;cases h
 ·rw[fS hb]at h;exact⟨hb,h⟩
theorem TL {H:Hp}{c:Addr}{u:HO} (h:H c=some u):upd (off H c) c u=H:=by
 funext b
 by_cases hb:b=c
 ·subst hb;rw[bC,h]
 ·rw[aL hb,fS hb]
section
variable {P:Program}{w:World}
theorem YC {H:Hp}{h:Heap}{c:Addr}{o:Obj} (x:HOk P w H h) (e:H c=some (kn o)):HOk P w (off H c) h:=fun b u q=>by
 obtain⟨hb,q'⟩:=RO q;refine(x b u q').stay (fun _ _ _ z=>z) (fun d z=> ?_) fun d xs z=> ?_
 ·rw[fS (by rintro rfl;rw[e]at z;cases z)];exact z
 ·rw[fS (by rintro rfl;rw[e]at z;cases z)];exact z
theorem aAf {H:Hp}{h:Heap}{c:Addr}{o:Obj} (x:HOk P w H h) (n:H c=none) (g:h.get? c=some o):HOk P w (upd H c (kn o)) h:=fun b u q=>by
 by_cases hb:b=c
 ·subst hb;rw[bC]at q;cases q;exact EW g
 ·rw[aL hb]at q;exact(x b u q).stay (fun _ _ _ z=>z) (fun d z=>by rw[aL (bG z n)];exact z) fun d xs z=>by rw[aL (bG z n)];exact z
theorem ZR {fs:List Addr}{H H':Hp}{h h':Heap}{c:Addr}{o:Obj} (e:H c=some (kn o)) (g:h.get? c=some o) (hf:c∉fs) (x:Un fs [] (off H c) H' h h'):Un fs [] H (upd H' c (kn o)) h h' where
 keep:=fun b ob q n hb hx=>x.keep b ob q (by rw[fS (by rintro rfl;rw[e]at n;cases n)];exact n) hb hx
 slot:=fun b ob q n hb hx=>x.slot b ob q (by rw[fS (by rintro rfl;rw[e]at n;cases n)];exact n) hb hx
 free:=fun b ob q n hx=>by
  have hb:b≠c:=by rintro rfl;rw[e]at n;cases n
  rw[aL hb];exact x.free b ob q (by rw[fS hb];exact n) hx
 there:=x.there
 tups:=fun b xs q=>by
  have hb:b≠c:=by rintro rfl;rw[e]at q;cases q
  rw[aL hb];exact x.tups b xs (by rw[fS hb];exact q)
 frzs:=fun b ob u q=>by
  by_cases hb:b=c
  ·subst hb;rw[e]at q;cases q;exact bC
  ·rw[aL hb];exact x.frzs b ob u (by rw[fS hb];exact q)
 tbls:=fun b ps q=>by
  have hb:b≠c:=by rintro rfl;rw[e]at q;cases q
  obtain⟨m,z⟩:=x.tbls b ps (by rw[fS hb];exact q);exact⟨m,by rw[aL hb];exact z⟩
end
section
variable {P:Program}{w:World}{K:PySem.W.Frag}{mg:Str->Option Value}{base:Heap}
end
def SPr (X:Cx)(pins:List (Addr×Obj))(D:gU)(R:St->V->Hp->Prop)(f:Flow)(s':Shared):Prop :=
 match f with
 | .ret u=>∃v σ' H',Inv X pins σ' H' s'/\RelV v u/\(D.rt v H'∨R σ' v H')
 | f=>SP X pins D f s'
def PRs (X:Cx)(st:List Stmt)(t:gU->(St->V->Hp->Prop)->St->Hp->Prop):Prop :=
 ∀(pins:List (Addr×Obj)) (s:Shared) (σ:St) (H:Hp) (D:gU) (R:St->V->Hp->Prop),Inv X pins σ H s->t D R σ H->wpAny (model X.prog X.w) X.A (execs st X.env) (SPr X pins D R) X.xe s
section
variable {X:Cx}{st:Stmt}{rest:List Stmt}{t:TS}{u:gU->(St->V->Hp->Prop)->St->Hp->Prop}{e:Expr}{te:TE}{pos:Pos}
def VQ (te:TE):gU->(St->V->Hp->Prop)->St->Hp->Prop:=fun _ R σ H=>te σ H (R σ)
theorem WR {D:gU}{R:St->V->Hp->Prop}{σ:St}{H:Hp} (h:te σ H (R σ)):VQ te D R σ H:=h
theorem WD (he:PE X e te):PRs X [.Return (some e) pos] (VQ te):=by
 intro pins s σ H D R I h;refine wpAny_execs_cons ?_;exact wpAny_Return_some (thn (he pins s σ H _ I h) fun v s1 ⟨x,H1,I1,r1,q1⟩=>⟨x,σ,H1,I1,r1,.inr q1⟩)
end
theorem aBU {fs:List Addr}{H H':Hp}{h h':Heap}{c:Addr}{u:HO} (n:H' c=none) (hc:h.objs.size<=c) (x:Un fs [] H H' h h'):Un fs [] H (upd H' c u) h h' where
 keep:=x.keep
 slot:=x.slot
 free:=fun b ob q n' hx=>by
  rw[aL (Nat.ne_of_lt (Nat.lt_of_lt_of_le (Heap.lt_size q) hc))];exact x.free b ob q n' hx
 there:=x.there
 tups:=fun b xs q=>by rw[aL (bG (x.tups b xs q) n)];exact x.tups b xs q
 frzs:=fun b ob u' q=>by rw[aL (bG (x.frzs b ob u' q) n)];exact x.frzs b ob u' q
 tbls:=fun b ps q=>by
  obtain⟨m,z⟩:=x.tbls b ps q;exact⟨m,by rw[aL (bG z n)];exact z⟩
section
variable {P:Program}{w:World}{K:PySem.W.Frag}{mg:Str->Option Value}{base:Heap}
end
section
open PySem.W
variable {X:Cx}{i j:Nat}{n x y:Str}{T:Addr}{np yp hpos pos epos:Pos}{e:Expr}{tc:XK->TE}{b₀:Stmt}{suite:List Stmt}{ts:TS}
end
end L2
namespace L2
open PySem PySem.Spec PyProof.Rows
theorem P1 {t:gU->(St->V->Hp->Prop)->St->Hp->Prop}{D:gU}{R:St->V->Hp->Prop}{N:List Str}{vs:List V}{σ:St}{H:Hp} (e:start N vs=σ) (h:t D R σ H):t D R (start N vs) H:=e▸h
theorem walk_ofT2 {l:PySem.W.OpenLaw}{n k:Nat}{q:Program}{loose:List Str}{XP:(Str->Option Value)->Heap->Prop}{YP:World->Heap->Prop}{d d2:DefRec}{K:Params->PySem.W.Frag}{CX:World->CXT}{sp:World->Addr->Sp}{x:Str}
  (hn:l.most=some n)(hn2:n<=sizeLine)(hdf:d.params.defaults=[])(hr:Room k callerA)(hrec:d2∈recsOf q)(hnt:∀w:World,PySem.W.noTabs (K w.params)=true)
  (hY:∀(w:World) (h:Heap),YP w h->(K w.params).In h)
  (F:∀(w:World) (mg:Str->Option Value) (fa:Addr) (h:Heap),(K w.params).In h->h.Ns mainGlobals mg->mg d.name=some (.ref fa) →
   ∃(fd:FuncData) (f2:Addr) (fd2:FuncData),mg d2.name=some (.ref f2)/\(∃oc od osl,(K w.params).lookup f2=some ⟨oc,od,.func fd2,osl⟩)/\(∀(s:Shared) (u:Value),BindsTo s fd ⟨[u],[]⟩ [(x,u)]) ∧
    ∀(base:Heap) (cL PL:Addr),fd2.code= .ref cL->PySem.W.CodeHd base cL PL->base.BuiltinsAt mg PL->FnOk l.prog w (K w.params) mg base (CX w) k fa fd [x] (sp w PL))
  (hsp:∀(w:World) (PL:Addr) (H:Hp) (a:Addr) (ns:List Int),ns.length<=n->SqL (K w.params) H a (ns.map V.int)->H PL=some (.tbl #[])->sp w PL [.ref a] H (fun v _=>v= .bl true) fun _ _ _=>False)
  (hCX:∀(w:World) (H:Hp) (s:Shared) (e:Value) (s':Shared),CX w [] H s (fun _ _ _=>False) e s'->False) :
  PySem.W.WalkO q loose XP YP l.row.toRowW d [] (fun f vs=>PySem.call f vs):=by
 refine Att.attach_call hn hdf fun w s₀ s₁ mg mb fa o pm cd doc a vs ns G Y ho hd hcd hmg hobj hints hlen hg=> ?_;have KX:=hY w _ Y;obtain⟨fd,f2,fd2,hm2,⟨oc,od,osl,lk⟩,hb,hF⟩:=F w mg fa _ KX G.T.g hmg;obtain⟨a',o',fd',c,PL,h1,h2,h3,h4,h5,h6⟩:=G.T.tab d2 hrec;rw[hm2]at h1;cases h1;have e1:=KX _ _ lk;rw[h2]at e1;cases e1;have h3':fd2=fd':=by injection h3
 subst h3';have C:=PySem.W.CodeHd.of h5 h6;have hKP:(K w.params).lookup PL=none:=by
  cases q:(K w.params).lookup PL with
  | none=>rfl
  | some o2 =>
   have e2:=KX _ _ q;rw[h6.2]at e2;cases e2;have z:=List.all_eq_true.mp (hnt w) (PL,_) (PySem.W.mem_of_lookupK q);exact absurd (show false=true from z) Bool.false_ne_true
 exact OS KX G.T.g G.T.b G.T.builtins G.T.nolimit hg C h6.2 hKP G.T.bmain hobj hints (Nat.le_trans hlen hn2) hr (fun base hc hB=>hF base c PL h4 hc hB) hb (fun H hS hP=>hsp w PL H a ns hlen hS hP) fun H e s'=>hCX w H s₁ e s'
end L2
namespace L2
open PySem PySem.Spec PyProof.Rows
section
variable {X:Cx}
def Y8 (K:PySem.W.Frag):R2:=fun x y H Q=>∃a b xs,x= .ref a/\y= .ref b/\SqL K H a xs/\SqL K H b []/\Q (.bl (!xs.isEmpty)) H
theorem aAT (hu:X.A.units<cLine):OpR X (compareOp .NotEq) (Y8 X.K):=by
 intro pins s σ H x y v u Q I rx ry h;obtain⟨a,b,xs,rfl,rfl,ha,hb,q⟩:=h;cases rx;cases ry;obtain⟨its,r,pl,hz⟩:=I.list ha;obtain⟨its2,r2,pl2,_⟩:=I.list hb;cases r2;cases xs with
 | nil =>
  cases r;refine SeqAt.RcNeAt.lists (e:=fun _=>true) pl.isList pl2.isList rfl hu (fun j h1=>absurd h1 (Nat.not_lt_zero _)) X.prog X.w X.xe _ ⟨.bl false,H,I,rfl,q⟩
 | cons x xs =>
  cases r with
  | cons r1 r2 =>
   exact SeqAt.RcNeAt.lists_lengths pl.isList pl2.isList (by simp) hu X.prog X.w X.xe _ ⟨.bl true,H,I,rfl,q⟩
theorem ZM {K:PySem.W.Frag}{H:Hp}{Q:VK}{a b:Addr}{xs:List V} (ha:SqL K H a xs) (hb:SqL K H b []) (h:Q (.bl (!xs.isEmpty)) H):Y8 K (.ref a) (.ref b) H Q:=⟨a,b,xs,rfl,rfl,ha,hb,h⟩
end
end L2
namespace L2
open PySem PySem.Spec PyProof.Rows
section
variable {κ:Type}[DecidableEq κ]
def bD (kvs:List (κ×V))(k:κ):Option V:=(kvs.find? fun kv=>decide (kv.1=k)).map (·.2)
def cC (kvs:List (κ×V))(k:κ)(v:V):List (κ×V) :=
 if (kvs.any fun kv=>decide (kv.1=k))=true then kvs.map (fun kv=>if kv.1=k then (kv.1,v) else kv) else kvs++[(k,v)]
theorem dE {p:κ×V}{r:List (κ×V)}{k:κ} (e:p.1=k):bD (p::r) k=some p.2:=by simp[bD,List.find?_cons,e]
theorem cU {p:κ×V}{r:List (κ×V)}{k:κ} (e:¬p.1=k):bD (p::r) k=bD r k:=by simp[bD,List.find?_cons,e]
theorem lN (k:κ):∀kvs:List (κ×V),(kvs.any fun kv=>decide (kv.1=k))=(bD kvs k).isSome
 | []=>rfl
 | p::r=>by
  rw[List.any_cons]
  by_cases e:p.1=k
  ·simp only[dE e,decide_eq_true e,Bool.true_or,Option.isSome_some]
  ·rw[cU e,decide_eq_false e,Bool.false_or];exact lN k r
theorem FT (k j:κ)(y:V):∀kvs:List (κ×V),bD (kvs.map fun kv=>if kv.1=k then (kv.1,y) else kv) j=(bD kvs j).map fun x=>if j=k then y else x
 | []=>rfl
 | p::r=>by
  have ih:=FT k j y r;rw[List.map_cons]
  by_cases h:p.1=k
  ·rw[if_pos h]
   by_cases e:p.1=j
   ·rw[dE (p:=(p.1,y)) e,dE e,Option.map_some,if_pos (e.symm.trans h)]
   ·rw[cU (p:=(p.1,y)) e,cU e,ih]
  ·rw[if_neg h]
   by_cases e:p.1=j
   ·rw[dE (p:=p) e,dE e,Option.map_some,if_neg (fun z=>h (e.trans z))]
   ·rw[cU (p:=p) e,cU e,ih]
theorem DL (k j:κ)(y:V):∀kvs:List (κ×V),bD kvs k=none->bD (kvs++[(k,y)]) j=if j=k then some y else bD kvs j
 | [],_=>by
  by_cases e:k=j
  ·rw[if_pos e.symm];exact dE (p:=(k,y)) e
  ·rw[if_neg (fun z=>e z.symm)];exact cU (p:=(k,y)) e
 | p::r,hn=>by
  rw[List.cons_append];have hk:¬p.1=k:=fun z=>by rw[dE z]at hn;cases hn
  rw[cU hk]at hn;have ih:=DL k j y r hn
  by_cases e:p.1=j
  ·rw[dE e,dE e,if_neg (fun z=>hk (e.trans z))]
  ·rw[cU e,cU e,ih]
theorem tL (kvs:List (κ×V))(k j:κ)(y:V):bD (cC kvs k y) j=if j=k then some y else bD kvs j:=by
 unfold cC
 by_cases a:(kvs.any fun kv=>decide (kv.1=k))=true
 ·rw[if_pos a,FT];rw[lN]at a
  by_cases e:j=k
  ·obtain⟨x,hx⟩:=Option.isSome_iff_exists.mp a;rw[if_pos e,e,hx,Option.map_some,if_pos rfl]
  ·rw[if_neg e];cases bD kvs j with
   | none=>rfl
   | some x=>rw[Option.map_some,if_neg e]
 ·rw[if_neg a];refine DL k j y kvs ?_;rw[lN]at a;cases q:bD kvs k with
  | none=>rfl
  | some x=>rw[q]at a;exact(a rfl).elim
theorem fY (kvs:List (κ×V))(k:κ)(v:V):(cC kvs k v).length<=kvs.length+1:=by
 unfold cC
 split
 ·rw[List.length_map];lia
 ·rw[List.length_append,List.length_cons,List.length_nil];lia
theorem o9 {kvs:List (κ×V)}{k:κ} (v:V) (h:bD kvs k=none):cC kvs k v=kvs++[(k,v)]:=by
 unfold cC;rw[lN,h];exact if_neg (by decide)
theorem RelO.isSome_eq {o:Option V}{u:Option Value} (r:RelO o u):o.isSome=u.isSome:=by
 cases o with
 | none=>cases u with
  | none=>rfl
  | some _=>exact(show False from r).elim
 | some _=>cases u with
  | none=>exact(show False from r).elim
  | some _=>rfl
theorem RelO.getD {o:Option V}{u:Option Value}{d:V}{d':Value} (r:RelO o u) (rd:RelV d d'):RelV (o.getD d) (u.getD d'):=by
 cases o with
 | none=>cases u with
  | none=>exact rd
  | some _=>exact(show False from r).elim
 | some _=>cases u with
  | none=>exact(show False from r).elim
  | some _=>exact r
theorem KV.val {kvs:List (κ×V)}{vs:List (κ×Value)} (r:KV kvs vs) (k:κ):RelO (bD kvs k) (valueAt vs k):=by
 unfold KV at r
 induction r with
 | nil=>exact True.intro
 | @cons p q ps qs h t ih =>
  obtain⟨h1,h2⟩:=h
  by_cases e:p.1=k
  ·have e':q.1=k:=h1.symm.trans e;have b:valueAt (q::qs) k=some q.2:=by simp[valueAt,List.find?_cons,e']
   rw[dE e,b];exact h2
  ·have e':¬q.1=k:=fun z=>e (h1.trans z);have b:valueAt (q::qs) k=valueAt qs k:=by simp[valueAt,List.find?_cons,e']
   rw[cU e,b];exact ih
theorem KV.any {kvs:List (κ×V)}{vs:List (κ×Value)} (r:KV kvs vs) (k:κ):(kvs.any fun kv=>decide (kv.1=k))=vs.any fun kv=>decide (kv.1=k):=by
 unfold KV at r
 induction r with
 | nil=>rfl
 | cons h t ih=>rw[List.any_cons,List.any_cons,ih,h.1]
theorem KV.repl {kvs:List (κ×V)}{vs:List (κ×Value)} (r:KV kvs vs) (k:κ) {y:V}{u:Value} (ry:RelV y u) :
  KV (kvs.map fun kv=>if kv.1=k then (kv.1,y) else kv) (vs.map fun kv=>if kv.1=k then (kv.1,u) else kv):=by
 unfold KV at r ⊢
 induction r with
 | nil=>exact .nil
 | @cons p q ps qs h t ih =>
  rw[List.map_cons,List.map_cons];refine .cons ?_ ih;obtain⟨h1,h2⟩:=h
  by_cases e:p.1=k
  ·rw[if_pos e,if_pos (h1.symm.trans e)];exact⟨h1,ry⟩
  ·rw[if_neg e,if_neg (fun z=>e (h1.trans z))];exact⟨h1,h2⟩
theorem KV.put {kvs:List (κ×V)}{vs:List (κ×Value)} (r:KV kvs vs) (k:κ) {y:V}{u:Value} (ry:RelV y u):KV (cC kvs k y) (stored vs k u):=by
 unfold cC stored;rw[r.any k]
 by_cases e:(vs.any fun kv=>decide (kv.1=k))=true
 ·rw[if_pos e,if_pos e];exact r.repl k ry
 ·rw[if_neg e,if_neg e];exact Paired.snoc r ⟨rfl,ry⟩
theorem KV.length {kvs:List (κ×V)}{vs:List (κ×Value)} (r:KV kvs vs):kvs.length=vs.length:=Paired.length r
end
theorem tT {P:Program}{w:World}{k:Key}{u:Value} (r:RelV (kV k) u):(bQ P w).is k u=true:=by
 cases k with
 | inl i=>obtain⟨t,e⟩:=(show ∃t,u=Value.int i t from r);subst e;exact I0 P w i t
 | inr x=>obtain⟨t,e⟩:=(show ∃t,u=Value.str x t from r);subst e;exact IU P w x t
theorem CU {P:Program}{w:World}:∀{ks:List Key}{us:List Value},Vals (ks.map kV) us->ItemsAre (bQ P w) ks us
 | [],_,r=>by rw[List.map_nil]at r;cases r;exact .nil
 | k::ks,_,r=>by
  rw[List.map_cons]at r;cases r with
  | cons h t=>exact .cons (tT h) (CU t)
abbrev KT (H:Hp):List (List Key×V)->List (List Key×Addr×Value)->Prop:=Paired fun p q=>p.1=q.1/\H q.2.1=some (.tup (p.1.map kV))/\RelV p.2 q.2.2
theorem KT.val {H:Hp}{kvs:List (List Key×V)}{xs:List (List Key×Addr×Value)} (r:KT H kvs xs) (k:List Key):RelO (bD kvs k) ((atKey xs k).map (·.2)):=by
 induction r with
 | nil=>exact True.intro
 | @cons p q ps qs h t ih =>
  obtain⟨h1,_,h2⟩:=h
  by_cases e:p.1=k
  ·have e':q.1=k:=h1.symm.trans e;have b:atKey (q::qs) k=some q.2:=by simp[atKey,List.find?_cons,e']
   rw[dE e,b];exact h2
  ·have e':¬q.1=k:=fun z=>e (h1.trans z);have b:atKey (q::qs) k=atKey qs k:=by simp[atKey,List.find?_cons,e']
   rw[cU e,b];exact ih
theorem KT.repl {H:Hp}{kvs:List (List Key×V)}{xs:List (List Key×Addr×Value)} (r:KT H kvs xs) (k:List Key) {y:V}{u:Value} (ry:RelV y u) :
  KT H (kvs.map fun kv=>if kv.1=k then (kv.1,y) else kv) (xs.map (putAt k u)):=by
 induction r with
 | nil=>exact .nil
 | @cons p q ps qs h t ih =>
  rw[List.map_cons,List.map_cons];refine .cons ?_ ih;obtain⟨h1,h2,h3⟩:=h;unfold putAt
  by_cases e:p.1=k
  ·rw[if_pos e,if_pos (h1.symm.trans e)];exact⟨h1,h2,ry⟩
  ·rw[if_neg e,if_neg (fun z=>e (h1.trans z))];exact⟨h1,h2,h3⟩
theorem KT.put {H:Hp}{kvs:List (List Key×V)}{xs:List (List Key×Addr×Value)} (r:KT H kvs xs) (k:List Key) {b:Addr}{y:V}{u:Value} (hb:H b=some (.tup (k.map kV))) (ry:RelV y u) :
  KT H (cC kvs k y) (storedH xs k b u):=by
 have e:(kvs.any fun kv=>decide (kv.1=k))=(atKey xs k).isSome:=by
  rw[lN,(r.val k).isSome_eq,Option.isSome_map]
 unfold cC storedH;rw[e]
 by_cases q:(atKey xs k).isSome=true
 ·rw[if_pos q,if_pos q];exact r.repl k ry
 ·rw[if_neg q,if_neg q];exact Paired.snoc r ⟨rfl,hb,ry⟩
theorem KT.keeps {H H':Hp}{kvs:List (List Key×V)}{xs:List (List Key×Addr×Value)} (r:KT H kvs xs) (ht:∀b ys,H b=some (.tup ys)->H' b=some (.tup ys)):KT H' kvs xs :=
 Paired.mapP r fun _ _ z=>⟨z.1,ht _ _ z.2.1,z.2.2⟩
section
variable {P:Program}{w:World}{H:Hp}{h:Heap}{a:Addr}
theorem VF {u:HO}(ok:HOk P w H h)(e:Rd H a u):ObjOk P w H h a u:=e.ok ok
theorem q9 {kvs:List (Key×V)}(ok:HOk P w H h)(e:Rd H a (.dK kvs)):kvs.length<=sizeLine/\(a==sysModules)=false/\∃vs,KV kvs vs/\h.DictOf (bQ P w) a vs :=
 show ObjOk P w H h a (.dK kvs) from VF ok e
theorem VL {kvs:List (Key×V)}(ok:HOk P w H h)(e:H a=some (.dK kvs)):kvs.length<=sizeLine/\(a==sysModules)=false/\∃vs,KV kvs vs/\h.DictOf (bQ P w) a vs:=q9 ok (.inl e)
theorem sP {ks:List Key}(ok:HOk P w H h)(e:H a=some (.tup (ks.map kV))):(tupleKind (bQ P w)).is h ks a:=by
 obtain⟨_,its,r,o,h1,h2,n,h3⟩:=(show ObjOk P w H h a (.tup (ks.map kV)) from ok a _ e)
 exact⟨o,its.toArray,n,h1,h2,h3,by simpa using CU r⟩
theorem tX {kvs:List (List Key×V)}(ok:HOk P w H h)(e:Rd H a (.dT kvs)):kvs.length<=sizeLine/\(a==sysModules)=false ∧
  ∃xs,KT H kvs xs/\h.DictOfH (tupleKind (bQ P w)) a xs:=by
 obtain⟨z,y,xs,r,o,es,ep,h1,h2,h3,h4,h5⟩:=(show ObjOk P w H h a (.dT kvs) from VF ok e)
 refine⟨z,y,xs,r,o,es,ep,h1,h2,h3,h4,fun x hx=> ?_,h5⟩;have all:∀{l:List (List Key×V)}{m:List (List Key×Addr×Value)},KT H l m->∀x∈m,(tupleKind (bQ P w)).is h x.1 x.2.1:=by
  intro l m q
  induction q with
  | nil=>intro x hx;exact nomatch hx
  | @cons p q ps qs hq t ih =>
   intro x hx;rcases List.mem_cons.mp hx with e|hx
   ·subst e;exact sP ok (by rw[←hq.1];exact hq.2.1)
   ·exact ih x hx
 exact all r x hx
theorem aBJ {kvs:List (List Key×V)}(ok:HOk P w H h)(e:H a=some (.dT kvs)):kvs.length<=sizeLine/\(a==sysModules)=false ∧
  ∃xs,KT H kvs xs/\h.DictOfH (tupleKind (bQ P w)) a xs:=tX ok (.inl e)
end
def DGet (H:Hp)(a:Addr)(y:V)(r:Option V):Prop :=
 (∃kvs k,Rd H a (.dK kvs)/\y=kV k/\r=bD kvs k)∨∃kvs k b,Rd H a (.dT kvs)/\y= .ref b/\H b=some (.tup (k.map kV))/\r=bD kvs k
def DPut (H:Hp)(a:Addr)(y v:V)(H':Hp):Prop :=
 (∃kvs k,H a=some (.dK kvs)/\y=kV k/\kvs.length<sizeLine/\H'=upd H a (.dK (cC kvs k v))) ∨
 ∃kvs k b,H a=some (.dT kvs)/\y= .ref b/\H b=some (.tup (k.map kV))/\kvs.length<sizeLine/\H'=upd H a (.dT (cC kvs k v))
theorem DGet.t {H:Hp}{a b:Addr}{kvs:List (List Key×V)}{k:List Key} (e:H a=some (.dT kvs)) (eb:H b=some (.tup (k.map kV))):DGet H a (.ref b) (bD kvs k):= .inr ⟨kvs,k,b,.inl e,rfl,eb,rfl⟩
theorem DPut.k {H:Hp}{a:Addr}{kvs:List (Key×V)}{k:Key}{v:V} (e:H a=some (.dK kvs)) (hl:kvs.length<sizeLine):DPut H a (kV k) v (upd H a (.dK (cC kvs k v))):= .inl ⟨kvs,k,e,rfl,hl,rfl⟩
theorem DPut.t {H:Hp}{a b:Addr}{kvs:List (List Key×V)}{k:List Key}{v:V} (e:H a=some (.dT kvs)) (eb:H b=some (.tup (k.map kV))) (hl:kvs.length<sizeLine) :
  DPut H a (.ref b) v (upd H a (.dT (cC kvs k v))):= .inr ⟨kvs,k,b,e,rfl,eb,hl,rfl⟩
section
variable {X:Cx}{pins:List (Addr×Obj)}{σ:St}{H:Hp}{s:Shared}{a:Addr}{y v:V}{u r:Value}{o:Option V}{A:Around}{E:Value->Shared->Prop}
theorem Inv.big (I:Inv X pins σ H s):sysModules<s.heap.objs.size:=by
 have h:mainGlobals<s.heap.objs.size:=(I.mod.glob.keeps I.bk).lt;exact Nat.lt_trans (by decide) h
theorem C3 {Q:Value->Shared->Prop}(hu:A.units+1<cLine)(I:Inv X pins σ H s)(g:DGet H a y (some v))(ry:RelV y u)(h:∀w' s',Inv X pins σ H s'->RelV v w'->Q w' s') :
  wpAny (model X.prog X.w) A (getItem (.ref a) u) Q E s:=by
 rcases g with⟨kvs,k,e,ey,l⟩|⟨kvs,k,b,e,ey,eb,l⟩
 ·subst ey;obtain⟨z,hd,vs,rel,dd⟩:=q9 I.hok e;obtain⟨w',hw,rw'⟩:=RelO.some_of (v:=v) (o:=valueAt vs k) (by rw[l];exact rel.val k);exact wpAny_getItem_of (tT ry) dd.mapOf hw (h w' _ (I.tok _) rw')
 ·subst ey;cases (show u=Value.ref b from ry);obtain⟨z,hd,xs,rel,dd⟩:=tX I.hok e;obtain⟨w',hw,rw'⟩:=RelO.some_of (v:=v) (o:=(atKey xs k).map (·.2)) (by rw[l];exact rel.val k);obtain⟨p,hp,hp2⟩:=Option.map_eq_some_iff.mp hw;refine wpAny_getItem_heap (tupleKind_room_in1 hu) (sP I.hok eb) dd hp ?_;rw[hp2];exact h w' _ (I.tok _) rw'
theorem aCz {Q:Value->Shared->Prop}(hu:A.units+1<cLine)(I:Inv X pins σ H s)(g:DGet H a y o)(ry:RelV y u)(h:∀s',Inv X pins σ H s'->Q (.bool o.isSome) s') :
  wpAny (model X.prog X.w) A (compareOp .In u (.ref a)) Q E s:=by
 rcases g with⟨kvs,k,e,ey,l⟩|⟨kvs,k,b,e,ey,eb,l⟩
 ·subst ey;obtain⟨z,hd,vs,rel,dd⟩:=q9 I.hok e;refine wpAny_in_of (tT ry) hd dd.mapOf ?_;rw[←(rel.val k).isSome_eq,←l];exact h _ (I.tok _)
 ·subst ey;cases (show u=Value.ref b from ry);obtain⟨z,hd,xs,rel,dd⟩:=tX I.hok e;refine wpAny_in_heap (tupleKind_room_in1 hu) (sP I.hok eb) hd dd ?_;have q:=(rel.val k).isSome_eq;rw[Option.isSome_map]at q;rw[←q,←l];exact h _ (I.tok _)
theorem X5 {Q:Value->Shared->Prop}(hu:A.units+1<cLine)(I:Inv X pins σ H s)(g:DGet H a y o)(ry:RelV y u)(h:∀s',Inv X pins σ H s'->Q (.bool (!o.isSome)) s') :
  wpAny (model X.prog X.w) A (compareOp .NotIn u (.ref a)) Q E s:=by
 rcases g with⟨kvs,k,e,ey,l⟩|⟨kvs,k,b,e,ey,eb,l⟩
 ·subst ey;obtain⟨z,hd,vs,rel,dd⟩:=q9 I.hok e;refine wpAny_notIn_of (tT ry) hd dd.mapOf ?_;rw[←(rel.val k).isSome_eq,←l];exact h _ (I.tok _)
 ·subst ey;cases (show u=Value.ref b from ry);obtain⟨z,hd,xs,rel,dd⟩:=tX I.hok e;refine wpAny_notIn_heap (tupleKind_room_in1 hu) (sP I.hok eb) hd dd ?_;have q:=(rel.val k).isSome_eq;rw[Option.isSome_map]at q;rw[←q,←l];exact h _ (I.tok _)
theorem JR {h':Heap}{t':Nat}{ob:HO} (I:Inv X pins σ H s) (mu:Mut (H a)) (hs:Heap.SameBut a s.heap h') (he:∃q,h'.get? a=some q) (new:ObjOk X.prog X.w (upd H a ob) h' a ob) :
  Inv X pins σ (upd H a ob) { s with heap:=h',toks:=t' } :=
 I.write (x:=a) (e:=a) mu (.inl rfl) (fun b q hb z=>(hs.2 b hb).trans z) he new
theorem O1 {P:Program}{w:World}{H':Hp}{h':Heap}{kvs:List (Key×V)}{vs:List (Key×Value)} (z:kvs.length<=sizeLine) (hd:(a==sysModules)=false) (rel:KV kvs vs) (dd:h'.DictOf (bQ P w) a vs) :
  ObjOk P w H' h' a (.dK kvs):=⟨z,hd,vs,rel,dd⟩
theorem C1 {H':Hp}{Q:Unit->Shared->Prop} (hu:A.units+1<cLine) (I:Inv X pins σ H s) (g:DPut H a y v H') (ry:RelV y u) (rv:RelV v r) (h:∀s',Inv X pins σ H' s'->Q () s') :
  wpAny (model X.prog X.w) A (setItem (.ref a) u r) Q E s:=by
 rcases g with⟨kvs,k,e,ey,l,eH⟩|⟨kvs,k,b,e,ey,eb,l,eH⟩
 ·subst ey eH;obtain⟨z,hd,vs,rel,dd⟩:=VL I.hok e;have hz:vs.length<=sizeLine:=by rw[←rel.length];exact z
  have hl:(cC kvs k v).length<=sizeLine:=by have:=fY kvs k v;lia
  refine wpAny_setItem_pairs (hsz:=hz) (tT ry) dd fun h' dd' hs=>h _ ?_;have he:∃q,h'.get? a=some q:=let ⟨q,_,_,hq,_⟩:=dd';⟨q,hq⟩;exact JR I (by rw[e];exact True.intro) hs he (O1 hl hd (rel.put k rv) dd')
 ·subst ey eH;cases (show u=Value.ref b from ry);obtain⟨z,hd,xs,rel,dd⟩:=aBJ I.hok e;have hz:xs.length<=sizeLine:=by rw[←Paired.length rel];exact z
  have hl:(cC kvs k v).length<=sizeLine:=by have:=fY kvs k v;lia
  refine wpAny_setItem_heap (hsz:=hz) (tupleKind_room_in1 hu) (sP I.hok eb) dd fun h' dd' hs=>h _ ?_;obtain⟨q,es,ep,hq,h2,h3,h4,_,h5⟩:=dd';refine JR I (by rw[e];exact True.intro) hs ⟨q,hq⟩ ⟨hl,hd,_,(rel.put k eb rv).keeps fun c ys ec=> ?_,q,es,ep,hq,h2,h3,h4,h5⟩;rw[aL (aBP ec e (fun z=>nomatch z))];exact ec
end
section
variable {X:Cx}{pins:List (Addr×Obj)}{σ:St}{H:Hp}{s:Shared}{a:Addr}{kvs:List (Key×V)}{k:Key}{u:Value}{A:Around}{E:Value->Shared->Prop}
end
def aA9 (i:Expr):Prop:=∀ov iv,subscripted i false ov iv=operate [ov,iv] (getItem ov iv)
theorem XF {prog:Program}{w:World}{A:Around}{E:Value->Shared->Prop}{s:Shared}{env:Env}{value slice:Expr}{pos:Pos}{T id:String}{Q:Value->Shared->Prop}
  (hl:typeLookup (.type T) "__getitem__" =pure (some (.builtin id)))(hs:aA9 slice)
  (h:wpAny (model prog w) A (eval value env) (fun o s₁=>wpAny (model prog w) A (eval slice env) (fun i s₂=>s₂.TypeIs o T/\wpAny (model prog w) A (getItem o i) Q E s₂) E s₁) E s) :
  wpAny (model prog w) A (eval (.Subscript value slice pos) env) Q E s:=by
 refine Subscript_ (wpAny_mono h (fun o s₁ h₁=>wpAny_mono h₁ (fun i s₂ h₂=> ?_) fun _ _ x=>x) fun _ _ x=>x);obtain⟨hT,h₂⟩:=h₂;unfold subscriptTail;refine wpAny_bind ?_;rw[getitemInPython_of_ne hT.not_modules];refine wpAny_bind (wpAny_specialOf hT hl ?_);have fin:wpAny (model prog w) A (subscripted slice false o i) (fun r s₃=>wpAny (model prog w) A (letTemporaryGo value o r >>= fun _=>pure r) Q E s₃) E s₂:=by
  rw[hs o i];exact wpAny_operating (wpAny_mono h₂ (fun r s₃ h₃=>wpAny_bind (wpAny_letTemporaryGo (wpAny_pure h₃))) fun _ _ x=>x)
 first
  | exact wpAny_pure (wpAny_bind fin)
  | exact wpAny_bind (wpAny_pure (wpAny_bind fin))
  | exact wpAny_bind fin
theorem IY {X:Cx}{pins:List (Addr×Obj)}{σ:St}{H:Hp}{s:Shared}{a:Addr}{y:V}{o:Option V} (I:Inv X pins σ H s) (g:DGet H a y o):s.TypeIs (.ref a) "dict" :=by
 rcases g with⟨kvs,k,e,_,_⟩|⟨kvs,k,b,e,_,_,_⟩
 ·obtain⟨_,_,vs,_,dd⟩:=q9 I.hok e;exact dd.typeIs
 ·obtain⟨_,_,xs,_,dd⟩:=tX I.hok e;exact dd.typeIs
def VZ (td ty:TE):TE:=fun σ H Q=>td σ H fun x H1=>ty σ H1 fun y H2=>∃a v,x= .ref a/\DGet H2 a y (some v)/\Q v H2
def aBd (ty td:TE):TE:=fun σ H Q=>ty σ H fun y H1=>td σ H1 fun x H2=>∃a o,x= .ref a/\DGet H2 a y o/\Q (.bl o.isSome) H2
def JU (ty td:TE):TE:=fun σ H Q=>ty σ H fun y H1=>td σ H1 fun x H2=>∃a o,x= .ref a/\DGet H2 a y o/\Q (.bl (!o.isSome)) H2
def VN (td ty tv:TE):TS:=fun D σ H=>tv σ H fun v H1=>td σ H1 fun x H2=>ty σ H2 fun y H3=>∃a H4,x= .ref a/\DPut H3 a y v H4/\D.nx σ H4
def VI (td ty tv:TE)(rd:V->V->Hp->VK->Prop):TS:=fun D σ H=>td σ H fun x H1=>ty σ H1 fun y H2=>∃a v,x= .ref a/\DGet H2 a y (some v) ∧
 tv σ H2 fun y2 H3=>rd v y2 H3 fun z H4=>∃H5,DPut H4 a y z H5/\D.nx σ H5
section
variable {X:Cx}{o i e value:Expr}{pos pos' tpos:Pos}{td ty tv:TE}
theorem bK (hu:X.A.units+1<cLine)(ho:PE X o td)(hi:PE X i ty)(hs:aA9 i):PE X (.Subscript o i pos) (VZ td ty):=by
 intro pins s σ H Q I h;refine XF PySem.F.slot_dict_getitem.lookup hs (thn (ho pins s σ H _ I h) fun u s1 ⟨x,H1,I1,rx,q1⟩=>thn (hi pins s1 σ H1 _ I1 q1) fun iv s2 ⟨y,H2,I2,ry,a,v,ex,g,q2⟩=> ?_);subst ex;obtain rfl:u=Value.ref a:=rx;exact⟨IY I2 g,C3 hu I2 g ry fun w' s3 I3 rw'=>⟨v,H2,I3,rw',q2⟩⟩
theorem aA8 (hu:X.A.units+1<cLine)(hi:PE X i ty)(ho:PE X o td):PC X .In i o (aBd ty td):=by
 intro pins s σ H Q I h;refine thn (hi pins s σ H _ I h) fun iv s1 ⟨y,H1,I1,ry,q1⟩=>thn (ho pins s1 σ H1 _ I1 q1) fun u s2 ⟨x,H2,I2,rx,a,ov,ex,g,q2⟩=> ?_;subst ex;obtain rfl:u=Value.ref a:=rx;exact aCz hu I2 g ry fun s3 I3=>⟨.bl ov.isSome,H2,I3,rfl,q2⟩
theorem DT (hu:X.A.units+1<cLine)(hi:PE X i ty)(ho:PE X o td):PC X .NotIn i o (JU ty td):=by
 intro pins s σ H Q I h;refine thn (hi pins s σ H _ I h) fun iv s1 ⟨y,H1,I1,ry,q1⟩=>thn (ho pins s1 σ H1 _ I1 q1) fun u s2 ⟨x,H2,I2,rx,a,ov,ex,g,q2⟩=> ?_;subst ex;obtain rfl:u=Value.ref a:=rx;exact X5 hu I2 g ry fun s3 I3=>⟨.bl (!ov.isSome),H2,I3,rfl,q2⟩
theorem dU (hu:X.A.units+1<cLine)(ho:PE X o td)(hi:PE X i ty)(hv:PE X value tv)(hs:swapsWith value (some (.Subscript o i pos')) pos.line X.env=pure false) :
  PS X (.Assign [.Subscript o i pos'] value pos) (VN td ty tv):=by
 intro pins s σ H D I h;refine wpAny_Assign_Subscript (thn (hv pins s σ H _ I h) fun r s1 ⟨v,H1,I1,rv,q1⟩=>thn (ho pins s1 σ H1 _ I1 q1) fun u s2 ⟨x,H2,I2,rx,q2⟩=>thn (hi pins s2 σ H2 _ I2 q2) fun iv s3 ⟨y,H3,I3,ry,a,H4,ex,g,q3⟩=> ?_) hs;subst ex;obtain rfl:u=Value.ref a:=rx;exact C1 hu I3 g ry rv fun s4 I4=>⟨σ,H4,I4,q3⟩
theorem V7 {op:Operator}{rd:V->V->Hp->VK->Prop} (hu:X.A.units+1<cLine) (ho:PE X o td) (hi:PE X i ty) (hv:PE X value tv) (hop:aAg X op rd)
  (ha:∀ov iv new,augStore i ov iv new=(do holding [new,ov,iv] (setItem ov iv new);release [new,ov,iv] [];pure .next)):PS X (.AugAssign (.Subscript o i tpos) op value pos) (VI td ty tv rd):=by
 intro pins s σ H D I h;refine wpAny_AugAssign_SubscriptAny (thn (ho pins s σ H _ I h) fun u s1 ⟨x,H1,I1,rx,q1⟩=>thn (hi pins s1 σ H1 _ I1 q1) fun iv s2 ⟨y,H2,I2,ry,a,v,ex,g,q2⟩=> ?_) ha;subst ex;obtain rfl:u=Value.ref a:=rx;refine C3 hu I2 g ry fun w' s3 I3 rw'=>thn (hv pins s3 σ H2 _ I3 q2) fun w2 s4 ⟨y2,H3,I4,ry2,q3⟩=>thn (hop pins s4 σ H3 v y2 w' w2 _ I4 rw' ry2 q3) fun w3 s5 ⟨z,H4,I5,rz,H5,g5,q4⟩=> ?_;exact C1 hu I5 g5 ry rz fun s6 I6=>⟨σ,H5,I6,q4⟩
end
theorem R3 {P:Program}{w:World}{H:Hp} (h:Heap) (hb:sysModules<h.objs.size):ObjOk P w H (h.push { cls:= .type "dict",data:= .dict #[] }) h.objs.size (.dK []) :=
 ⟨Nat.zero_le _,beq_eq_false_iff_ne.mpr (Ne.symm (Nat.ne_of_lt hb)),[],.nil,Heap.DictOf.new h⟩
theorem R8 {P:Program}{w:World}{H:Hp} (h:Heap) (hb:sysModules<h.objs.size):ObjOk P w H (h.push { cls:= .type "dict",data:= .dict #[] }) h.objs.size (.dT []) :=
 ⟨Nat.zero_le _,beq_eq_false_iff_ne.mpr (Ne.symm (Nat.ne_of_lt hb)),[],.nil,_,#[],0,Heap.get?_push_size _ rfl,⟨rfl,rfl,rfl⟩,rfl,rfl,List.nodup_nil⟩
def PZ:TE:=fun _ H Q=>∀p,H p=none->Q (.ref p) (upd H p (.dK []))
def P6:TE:=fun _ H Q=>∀p,H p=none->Q (.ref p) (upd H p (.dT []))
section
variable {X:Cx}{pos:Pos}
theorem oZ:PE X (.Dict [] [] pos) PZ:=fun pins s σ H Q I h =>
 wpAny_Dict_empty ⟨.ref s.heap.objs.size,_,I.laid (a:=s.heap.objs.size) (o:= .dK []) (t':=s.toks) (fun _ _ q=>Heap.get?_push_of_some _ q) (Nat.le_refl _) (R3 s.heap I.big),rfl,h _ (I.hok.fresh (Nat.le_refl _))⟩
theorem tY:PE X (.Dict [] [] pos) P6:=fun pins s σ H Q I h =>
 wpAny_Dict_empty ⟨.ref s.heap.objs.size,_,I.laid (a:=s.heap.objs.size) (o:= .dT []) (t':=s.toks) (fun _ _ q=>Heap.get?_push_of_some _ q) (Nat.le_refl _) (R8 s.heap I.big),rfl,h _ (I.hok.fresh (Nat.le_refl _))⟩
end
def iX (kvs more:List (Key×V)):List (Key×V):=more.foldl (fun acc kv=>cC acc kv.1 kv.2) kvs
theorem KV.merge:∀{more:List (Key×V)}{rs:List (Key×Value)}{kvs:List (Key×V)}{vs:List (Key×Value)},KV more rs->KV kvs vs->KV (iX kvs more) (merged vs rs):=by
 intro more rs kvs vs r;unfold KV at r
 induction r generalizing kvs vs with
 | nil=>intro q;exact q
 | @cons p q ps qs h t ih =>
  intro r0;have e:KV (cC kvs p.1 p.2) (stored vs q.1 q.2):=by
   have:=r0.put p.1 h.2;rw[←h.1];exact this
  exact ih e
theorem uV:∀(more kvs:List (Key×V)),(iX kvs more).length<=kvs.length+more.length
 | [],kvs=>by show kvs.length<=kvs.length+0;lia
 | p::r,kvs=>by
  have h1:=uV r (cC kvs p.1 p.2);have h2:=fY kvs p.1 p.2;show (iX (cC kvs p.1 p.2) r).length<=_;rw[List.length_cons];lia
structure M2 (X:Cx)(o:Expr)(m:Str)(apos:Pos)(e f:Expr)(cpos:Pos):Prop where
 base:attributeBase o m X.env (eval o X.env)=eval o X.env
 few:((backTo cpos (starEach [e,f] X.env)).all (fun x=> !x.1)&&(backToKw cpos (keywordEach [] X.env)).all (fun x=>x.1.isSome)
  && decide (([e,f]:List Expr).length+([]:List Keyword).length+(if ([]:List Keyword).isEmpty then 0 else 1)<30))=true
 line:(apos.endLine==cpos.line)=true
 trees:backTo cpos (starEach [e,f] X.env)=[(false,eval e X.env),(false,eval f X.env)]
def IsD (H:Hp)(a:Addr):Prop:=(∃kvs,Rd H a (.dK kvs))∨∃kvs,Rd H a (.dT kvs)
theorem ON {X:Cx}{pins:List (Addr×Obj)}{σ:St}{H:Hp}{s:Shared}{a:Addr} (I:Inv X pins σ H s) (d:IsD H a) :
  s.TypeIs (.ref a) "dict" /\(∀b,Value.ref a= .ref b->∃ob,s.heap.get? b=some ob/\ob.dict=none)/\(a==sysModules)=false:=by
 rcases d with⟨kvs,e⟩|⟨kvs,e⟩
 ·obtain⟨_,hd,vs,_,dd⟩:=q9 I.hok e;refine⟨dd.typeIs,fun b q=> ?_,hd⟩;cases q;obtain⟨ob,_,_,h1,h2,_⟩:=dd;exact⟨ob,h1,h2.2.1⟩
 ·obtain⟨_,hd,xs,_,dd⟩:=tX I.hok e;refine⟨dd.typeIs,fun b q=> ?_,hd⟩;cases q;obtain⟨ob,_,_,h1,h2,_⟩:=dd;exact⟨ob,h1,h2.2.1⟩
section
variable {X:Cx}{pins:List (Addr×Obj)}{σ:St}{H:Hp}{s:Shared}{a:Addr}{y d:V}{u r:Value}{o:Option V}{A:Around}{E:Value->Shared->Prop}
theorem aAj {Q:Value->Shared->Prop}(hu:A.units+1<cLine)(I:Inv X pins σ H s)(g:DGet H a y o)(ry:RelV y u)(rd:RelV d r)(h:∀w' s',Inv X pins σ H s'->RelV (o.getD d) w'->Q w' s') :
  wpAny (model X.prog X.w) A (call (.builtin "dict.get") [.ref a,u,r]) Q E s:=by
 rcases g with⟨kvs,k,e,ey,l⟩|⟨kvs,k,b,e,ey,eb,l⟩
 ·subst ey;obtain⟨z,hd,vs,rel,dd⟩:=q9 I.hok e;refine call_meetsIn PySem.F.slot_dict_get dd.typeIs PySem.F.entry_dict_get (PySem.F.args_dict_get_3 _ _ _) (meets_dict_get_default (bQ X.prog X.w) a (tT ry) hd r) ⟨_,dd.mapOf,h _ _ (I.tok _) ?_⟩;rw[l];exact(rel.val k).getD rd
 ·subst ey;cases (show u=Value.ref b from ry);obtain⟨z,hd,xs,rel,dd⟩:=tX I.hok e;refine call_meetsIn PySem.F.slot_dict_get dd.typeIs PySem.F.entry_dict_get (PySem.F.args_dict_get_3 _ _ _) (meetsH_dict_get_default (tupleKind (bQ X.prog X.w)) a b hd r) ⟨tupleKind_room_in1 hu,k,xs,sP I.hok eb,dd,h _ _ (I.tok _) ?_⟩;rw[l];exact(rel.val k).getD rd
end
def OQ (td ty tx:TE):TE:=fun σ H Q=>td σ H fun x H1=>∃a,x= .ref a/\IsD H1 a/\ty σ H1 fun y H2=>tx σ H2 fun z H3=>∃o,DGet H3 a y o/\Q (o.getD z) H3
section
variable {X:Cx}{o e f:Expr}{apos cpos:Pos}{td ty tx:TE}
theorem k7 (hu:X.A.units+1<cLine)(ho:PE X o td)(he:PE X e ty)(hf:PE X f tx)(m:M2 X o "get" apos e f cpos):PE X (.Call (.Attribute o "get" apos) [e,f] [] cpos) (OQ td ty tx):=by
 intro pins s σ H Q I h;refine wpAny_Call_method m.base m.few m.line PySem.F.plainAttrs_dict PySem.F.slot_dict_get PySem.F.type_dict_get (thn (ho pins s σ H _ I h) fun u s1 ⟨x,H1,I1,rx,a,ex,d,q1⟩=> ?_);subst ex;obtain rfl:u=Value.ref a:=rx;obtain⟨t1,t2,_⟩:=ON I1 d;refine⟨t1,t2,?_⟩;rw[m.trees];refine Calls.callWith_builtin rfl (Calls.evalArgs_plain (Calls.spliced_cons (thn (he pins s1 σ H1 _ I1 q1) fun iv s2 ⟨y,H2,I2,ry,q2⟩ =>
  Calls.spliced_cons (thn (hf pins s2 σ H2 _ I2 q2) fun fv s3 ⟨z,H3,I3,rz,ov,g,q3⟩=>Calls.spliced_nil ?_))))
 exact aAj hu I3 g ry rz fun w' s4 I4 rw'=>⟨_,H3,I4,rw',q3⟩
end
section
variable {X:Cx}{pins:List (Addr×Obj)}{σ:St}{H:Hp}{s:Shared}{a:Addr}{kvs:List (Key×V)}{A:Around}{E:Value->Shared->Prop}
end
section
variable {X:Cx}{pins:List (Addr×Obj)}{σ:St}{H:Hp}{s:Shared}{a:Addr}{y:V}{u:Value}{A:Around}{E:Value->Shared->Prop}
end
end L2
namespace L2
open PySem PySem.Spec PyProof.Rows
section
variable {κ:Type}[DecidableEq κ]
theorem KJ:∀{l:List κ}{k:κ},l.Nodup->¬k∈l->(l++[k]).Nodup
 | [],k,_,_=>by simp
 | a::r,k,h,hk=>by
  obtain⟨h1,h2⟩:=List.nodup_cons.mp h;show (a::(r++[k])).Nodup;refine List.nodup_cons.mpr ⟨fun m=> ?_,KJ h2 fun m=>hk (List.mem_cons.mpr (Or.inr m))⟩;rcases List.mem_append.mp m with q|q
  ·exact h1 q
  ·exact hk (List.mem_cons.mpr (Or.inl (List.mem_singleton.mp q).symm))
end
end L2
namespace L2
open PySem PySem.W PyProof.Rows
def aZ {α:Type}(c:Nat->Nat->Bool):KasT α->α
 | .ret a=>a
 | .ask i j k=>aZ c (k (c i j))
def KasIn {α:Type}(n:Nat)(R:α->Prop):KasT α->Prop
 | .ret a=>R a
 | .ask i j k=>i<n/\j<n/\∀b,KasIn n R (k b)
theorem KasIn.bind {α β:Type}{n:Nat}{R:α->Prop}{S:β->Prop}{f:α->KasT β} (hf:∀a,R a->KasIn n S (f a)):∀{t:KasT α},KasIn n R t->KasIn n S (t.bind f)
 | .ret _,h=>hf _ h
 | .ask _ _ _,h=>⟨h.1,h.2.1,fun b=>KasIn.bind hf (h.2.2 b)⟩
theorem KasIn.val {α:Type}{n:Nat}{R:α->Prop} (c:Nat->Nat->Bool):∀{t:KasT α},KasIn n R t->R (aZ c t)
 | .ret _,h=>h
 | .ask i j k,h=>KasIn.val c (t:=k (c i j)) (h.2.2 (c i j))
theorem KasIn.wp {α:Type}{n:Nat}{R:α->Prop}{c:Nat->Nat->Bool}{cmp:Nat->Nat->(Bool->Shared->Prop)->Shared->Prop}{s:Shared} (hc:∀i j,i<n->j<n->∀C,C (c i j) s->cmp i j C s) {Q:α->Shared->Prop} :
  ∀{t:KasT α},KasIn n R t->Q (aZ c t) s->t.kasWp cmp Q s
 | .ret _,_,q=>q
 | .ask i j k,h,q=>hc i j h.1 h.2.1 _ (KasIn.wp hc (t:=k (c i j)) (h.2.2 (c i j)) q)
abbrev Places (n:Nat)(p:Array Nat):Prop:=p.Perm (List.range n).toArray
theorem Places.lt {n:Nat}{p:Array Nat} (h:Places n p) (h0:0<n) (i:Nat):p.getD i 0<n:=by
 by_cases hi:i<p.size
 ·have e:p.getD i 0=p[i]:=by simp[Array.getD,hi]
  rw[e];have:=h.mem_iff.mp (Array.getElem_mem hi)
  simpa using this
 ·have e:p.getD i 0=0:=by simp[Array.getD,hi]
  rw[e];exact h0
theorem kG {n:Nat}{p:Array Nat} (h:Places n p) (i j:Nat):Places n (kas_rev p i j):=(mirror_perm _ _ _ _).trans h
theorem HN {n:Nat}{p:Array Nat} (h0:0<n) (hp:Places n p):∀(f k:Nat),KasIn n (fun _=>True) (kas_asc p f k)
 | 0,_=>trivial
 | f+1,k=>⟨hp.lt h0 _,hp.lt h0 _,fun b=>by cases b with|true=>exact trivial|false=>exact HN h0 hp f (k+1)⟩
theorem wG {n:Nat}(h0:0<n):∀(f:Nat) {p:Array Nat},Places n p->∀k q,KasIn n (fun r:Array Nat×Nat×Nat=>Places n r.1) (kas_desc f p k q)
 | 0,_,hp,_,_=>hp
 | f+1,p,hp,k,q=>by
  refine⟨hp.lt h0 _,hp.lt h0 _,fun b=> ?_⟩;cases b with
  | true =>
   show KasIn n _ (if q>0 then _ else _)
   split
   ·exact wG h0 f (kG hp _ _) _ _
   ·exact wG h0 f hp _ _
  | false =>
   refine⟨hp.lt h0 _,hp.lt h0 _,fun b=> ?_⟩;cases b with
   | true=>exact hp
   | false=>exact wG h0 f hp _ _
theorem F8 {n k m:Nat}{p:Array Nat} (h0:0<n) (hp:Places n p):KasIn n (fun r:Nat×Array Nat=>Places n r.2) (kas_tail3 k m p) :=
 KasIn.bind (R:=fun _=>True) (S:=fun r:Nat×Array Nat=>Places n r.2) (f:=fun j=> .ret (j,kas_rev p 0 k)) (fun _ _=>kG hp 0 k) (HN h0 (kG hp 0 k) (m - k) k)
theorem xJ {n k m:Nat}{p:Array Nat} (h0:0<n) (hp:Places n p):KasIn n (fun r:Nat×Array Nat=>Places n r.2) (kas_descPart k m p) :=
 KasIn.bind (fun r hr=>by
  split
  ·exact F8 h0 (kG hr _ _)
  ·exact F8 h0 hr) (wG h0 _ hp _ _)
theorem RY {n m:Nat}{p:Array Nat} (h0:0<n) (hp:Places n p):KasIn n (fun r:Nat×Array Nat=>Places n r.2) (kas_count m p) :=
 KasIn.bind (fun k _=>by
  split
  ·exact hp
  ·split
   ·refine⟨hp.lt h0 _,hp.lt h0 _,fun b=> ?_⟩;cases b with
    | true=>exact hp
    | false=>exact xJ h0 (kG hp _ _)
   ·exact xJ h0 hp) (HN h0 hp _ _)
theorem xU {n k:Nat}{p:Array Nat} (h0:0<n) (hp:Places n p):∀(f l r:Nat),KasIn n (fun _=>True) (kas_place p k f l r)
 | 0,_,_=>trivial
 | f+1,l,r=>by
  unfold kas_place
  split
  ·exact trivial
  ·refine⟨hp.lt h0 _,hp.lt h0 _,fun b=> ?_⟩;cases b with
   | true=>exact xU h0 hp f _ _
   | false=>exact xU h0 hp f _ _
theorem NK {n:Nat}(h0:0<n):∀(f:Nat) {p:Array Nat} (k:Nat),Places n p->KasIn n (Places n) (kas_bin f p k)
 | 0,_,_,hp=>hp
 | f+1,_,k,hp=>KasIn.bind (fun _ _=>NK h0 f (k+1) ((bubble_perm _ _ _).trans hp)) (xU h0 hp _ _ _)
theorem BD {n:Nat}(h0:0<n):KasIn n (Places n) (kas_sort n) :=
 KasIn.bind (fun r hr=>by
  split
  ·exact NK h0 _ _ hr
  ·exact hr) (RY h0 (Array.Perm.refl _))
def cE {α:Type}(d:α)(c:Nat->Nat->Bool)(l:List α):List α:=if l.length<2 then l else (aZ c (kas_sort l.length)).toList.map fun i=>l.getD i d
theorem dR {n:Nat}(c:Nat->Nat->Bool)(h:0<n):Places n (aZ c (kas_sort n)):=(BD h).val c
theorem sW {α:Type}(d:α)(c:Nat->Nat->Bool)(l:List α):(cE d c l).length=l.length:=by
 unfold cE
 split
 ·rfl
 ·have h:=(dR (n:=l.length) c (by lia)).size_eq;rw[List.length_map,Array.length_toList,h];simp
end L2
namespace L2
open PySem PySem.W PyProof.Rows PySem.Calls
section
variable {prog:Program}{w:World}{A:Around}{E:Value->Shared->Prop}{s:Shared}
abbrev fK (a:Addr)(h h':Heap):Prop:=∀b o,b≠a->h.get? b=some o->h'.get? b=some o
theorem KU {a:Addr}{vs:List Value}{n:Nat}{P:PySem.Fin->Shared->Prop} (c:Nat->Nat->Bool) (κ:SortKind) (ho:s.heap.get? a=some (seqObj "list" vs.toArray n)) (h64:vs.length<64)
  (hk:2<=vs.length->∀h',fK a s.heap h'->∀R:SortKind->Shared->Prop,R κ { s with heap:=h' }->wpAny (model prog w) A (keyKind' vs.toArray) R (fun _ _=>False) { s with heap:=h' })
  (hc:2<=vs.length->∀h',fK a s.heap h'->∀i j,i<vs.length->j<vs.length->∀C,C (c i j) { s with heap:=h' }->kas_ask prog w A κ vs i j C { s with heap:=h' })
  (h:∀h' e,fK a s.heap h'->h'.get? a=some (seqObj "list" (cE Value.none c vs).toArray e)->P (.done (.ret .none)) { s with heap:=h' }) :
  wpAny (model prog w) A (Builtin.«list.sort» ⟨[.ref a],[]⟩) P E s:=by
 have lt:a<s.heap.objs.size:=Heap.lt_size ho;generalize hg1:s.heap.update a (Obj.mapSeq fun _=>(#[]:Array Value))=g1;have sb1:Heap.SameBut a s.heap g1:=hg1▸Heap.SameBut.update s.heap a (Obj.mapSeq fun _=>(#[]:Array Value));obtain⟨e1,o1⟩:∃e1,g1.get? a=some (seqObj "list" #[] e1):=hg1▸⟨_,get?_update_seq ho fun _=> #[]⟩;have lt1:a<g1.objs.size:=Heap.lt_size o1;have kp:fK a s.heap ((g1.push (seqObj "tuple" vs.toArray 0)).push (seqObj "list" #[] 0)):=fun b o hb q =>
  Heap.get?_push_of_some _ (Heap.get?_push_of_some _ ((sb1.2 b hb).trans q))
 have o3:((g1.push (seqObj "tuple" vs.toArray 0)).push (seqObj "list" #[] 0)).get? a=some (seqObj "list" #[] e1):=Heap.get?_push_of_some _ (Heap.get?_push_of_some _ o1);generalize hg3:(g1.push (seqObj "tuple" vs.toArray 0)).push (seqObj "list" #[] 0)=g3 at kp o3;have fin:∀out:List Value,out.length=vs.length->out=cE Value.none c vs->wpAny (model prog w) A (do
   let touched:=(←seqEpoch a) !=e1
   Builtin.List.listUpdate (.ref a) fun _=>out.toArray
   if let some e:=(none:Option Value) then rule "list.sort.comparison-raised";throw e
   if touched then rule "list.sort.modified";raiseError "ValueError" "list modified during sort"
   ret .none) P E { s with heap:=g3 }:=by
  intro out hl ho';obtain⟨e2,o4⟩:∃e2,(g3.update a (Obj.mapSeq fun _=>out.toArray)).get? a=some (seqObj "list" out.toArray e2):=⟨_,get?_update_seq o3 fun _=>out.toArray⟩
  refine wpAny_bind (seqEpoch_at (s:={ s with heap:=g3 }) o3 rfl ?_);refine wpAny_bind (listUpdate_at (s:={ s with heap:=g3 }) o3 rfl ?_ (Nat.zero_le _) (by rw[List.size_toArray,sizeLine_eq];lia));simp only[bne_self_eq_false,Bool.false_eq_true,if_false];refine wpAny_pure (h _ e2 (fun b o hb q=> ?_) (ho'▸o4));exact((Heap.SameBut.update g3 a (Obj.mapSeq fun _=>out.toArray)).2 b hb).trans (kp b o hb q)
 rw[list_sort_plain];refine wpAny_bind (listItems_at ho rfl (wpAny_bind (listUpdate_at ho rfl ?_ (by rw[List.size_toArray,sizeLine_eq];lia) (Nat.zero_le _))));rw[hg1];refine wpAny_bind (seqEpoch_at (s:={ s with heap:=g1 }) o1 rfl ?_);refine wpAny_bind (wpAny_newTuple ?_ (by show vs.length<=_;rw[sizeLine_eq];lia));refine wpAny_bind (wpAny_newList ?_ (Nat.zero_le _));refine wpAny_holding ?_;show wpAny (model prog w) A _ P E { s with heap:=(g1.push (seqObj "tuple" vs.toArray 0)).push (seqObj "list" #[] 0) };rw[hg3]
 dsimp only
 by_cases h2:vs.toArray.size<2
 ·rw[if_pos h2,if_pos h2];have h2':vs.length<2:=by rwa [List.size_toArray]at h2
  refine wpAny_bind (wpAny_pure ?_);rw[StateT.run_pure];refine wpAny_bind (wpAny_pure ?_)
  dsimp only
  have ez:(arrOf (SortSt.mk' general' (vs.toArray.zip vs.toArray) #[] 7 none)).map (·.2)=vs.toArray:=by
   show (vs.toArray.zip vs.toArray).map (·.2)=_
   apply Array.toList_inj.mp
   rw[Array.toList_map,Array.toList_zip,List.map_snd_zip];exact Nat.le_refl _
  rw[ez];exact fin vs rfl (by unfold cE;rw[if_pos h2'])
 ·rw[if_neg h2,if_neg h2];have h2':2<=vs.length:=by rw[List.size_toArray]at h2;lia
  refine wpAny_bind (wpAny_mono (hk h2' _ kp (fun κ' s'=>κ'=κ/\s'={ s with heap:=g3 }) ⟨rfl,rfl⟩) ?_ fun _ _ x=>x.elim);rintro _ _ ⟨rfl,rfl⟩;refine wpAny_bind (wpAny_mono (kat_run (Q:=fun st' s'=>∃p:Array Nat,p=aZ c (kas_sort vs.length)/\arrOf st'=p.map (kas_item (vs.toArray.zip vs.toArray))/\failedOf st'=none/\s'={ s with heap:=g3 }) (G:=fun p s'=>p=aZ c (kas_sort vs.length)/\s'={ s with heap:=g3 })
   rfl h2' h64 (fun p st' s' _ a2 a3 a4=>⟨p,a4.1,a2,a3,a4.2⟩) ((BD (by lia)).wp (hc h2' _ kp) ⟨rfl,rfl⟩)) ?_ fun _ _ e=>e)
  rintro ⟨⟨⟩,st'⟩ _ ⟨p,rfl,har,hf,rfl⟩
  dsimp only
  rw[kat_snds rfl har,hf];have hz:=(dR (n:=vs.length) c (by lia)).size_eq;exact fin _ (by rw[List.length_map,Array.length_toList,hz];simp) (by unfold cE;rw[if_neg (by lia)])
theorem NQ {l:Addr}{vs:List Value}{Q:Value->Shared->Prop} (c:Nat->Nat->Bool) (κ:SortKind) (hl:s.heap.IsList l vs.toArray) (h64:vs.length<64)
  (hk:2<=vs.length->∀h',(∀b o,s.heap.get? b=some o->h'.get? b=some o)->∀R:SortKind->Shared->Prop,R κ { s with heap:=h' }->wpAny (model prog w) A.in1.in1 (keyKind' vs.toArray) R (fun _ _=>False) { s with heap:=h' })
  (hc:2<=vs.length->∀h',(∀b o,s.heap.get? b=some o->h'.get? b=some o)->∀i j,i<vs.length->j<vs.length->∀C,C (c i j) { s with heap:=h' }->kas_ask prog w A.in1.in1 κ vs i j C { s with heap:=h' })
  (h:∀D h' e,s.heap.objs.size<=D->(∀b o,s.heap.get? b=some o->h'.get? b=some o)->h'.get? D=some (seqObj "list" (cE Value.none c vs).toArray e)->Q (.ref D) { s with heap:=h' }) :
  wpAny (model prog w) A (call (.builtin "sorted") [.ref l]) Q E s:=by
 have hz64:vs.length<=sizeLine:=by rw[sizeLine_eq];lia
 refine Calls.call_function_entry kind_sorted plain_sorted entry_sorted (args_sorted1 _) ?_;unfold Builtin.«sorted»;refine wpAny_bind (m:=checkCount "sorted" 1 1 _) (wpAny_pure (wpAny_bind (collect_list hl ?_ hz64)));refine wpAny_bind (wpAny_newList ?_ hz64);generalize hq:(s.heap.push (seqObj "list" #[] 0)).update s.heap.objs.size (Obj.mapSeq (·++vs.toArray))=q;have qs:q.objs.size=s.heap.objs.size+1:=by rw[←hq,Heap.size_update,size_push']
 have qk:∀b o,s.heap.get? b=some o->q.get? b=some o:=fun b o e=>by
  have bl:b<s.heap.objs.size:=Heap.lt_size e;rw[←hq,Heap.get?_update_ne _ _ _ _ (Nat.ne_of_lt bl),Heap.get?_push_ne _ _ _ (Nat.ne_of_lt bl)];exact e
 have oD:(q.push (seqObj "list" vs.toArray 0)).get? q.objs.size=some (seqObj "list" vs.toArray 0):=Heap.get?_push_size _ rfl;have kD:∀h',fK q.objs.size (q.push (seqObj "list" vs.toArray 0)) h'->∀b o,s.heap.get? b=some o->h'.get? b=some o:=fun h' k b o e =>
  k b o (Nat.ne_of_lt (by rw[qs];exact Nat.lt_succ_of_lt (Heap.lt_size e))) (Heap.get?_push_of_some _ (qk b o e))
 refine wpAny_bind (wpAny_holding (wpAny_call_entry slot_list_sort ⟨_,oD,rfl⟩ entry_list_sort ?body (args_list_sort _)))
 case body =>
  refine KU (s:={ s with heap:=q.push (seqObj "list" vs.toArray 0) }) c κ oD h64 (fun h2 h' k=>hk h2 h' (kD h' k)) (fun h2 h' k=>hc h2 h' (kD h' k)) fun h' e k o'=> ?_;exact⟨_,rfl,wpAny_pure ⟨_,rfl,h _ h' e (by show s.heap.objs.size<=q.objs.size;rw[qs];exact Nat.le_succ _) (kD h' k) o'⟩⟩
end
end L2
namespace L2
open PySem PySem.W PyProof.Rows
def c6:Key->Bool
 | .inl _=>true
 | .inr _=>false
def d9:Key->Key->Bool
 | .inl i,.inl j=>decide (i<j)
 | .inr x,.inr y=>decide (x.cps.toList<y.cps.toList)
 | _,_=>false
def cO:List Key->List Key->Bool
 | a::as,b::bs=>if a=b then cO as bs else d9 a b
 | _,_=>false
section
variable {prog:Program}{w:World}{A:Around}{s:Shared}
theorem ZP {a b:Key}{u v:Value}{Q:Bool->Shared->Prop}{E:Value->Shared->Prop} (k:c6 a=c6 b) (ru:RelV (kV a) u) (rv:RelV (kV b) v) (q:Q (decide (a=b)) s):wpAny (model prog w) A (eqBool u v) Q E s:=by
 cases a<;>cases b<;>first|(cases k;done)|skip
 ·obtain⟨t,rfl⟩:=ru;obtain⟨t',rfl⟩:=rv;refine wpAny_eqBool_int ?_;rename_i i j;have e:(i==j)=decide ((Sum.inl i:Key)=Sum.inl j):=by
   by_cases z:i=j
   ·subst z;simp
   ·rw[beq_false_of_ne z,decide_eq_false (fun y=>z (Sum.inl.inj y))]
  rw[e];exact q
 ·obtain⟨t,rfl⟩:=ru;obtain⟨t',rfl⟩:=rv;refine wpAny_eqBool_str ?_;rename_i i j;have e:decide (i=j)=decide ((Sum.inr i:Key)=Sum.inr j):=by
   by_cases z:i=j
   ·subst z;simp
   ·rw[decide_eq_false z,decide_eq_false (fun y=>z (Sum.inr.inj y))]
  rw[e];exact q
theorem ZO {a b:Key}{u v:Value}{Q:Bool->Shared->Prop}{E:Value->Shared->Prop} (k:c6 a=c6 b) (ru:RelV (kV a) u) (rv:RelV (kV b) v) (q:Q (d9 a b) s) (t:Bool):wpAny (model prog w) A (oneLt' t u v) Q E s:=by
 cases a<;>cases b<;>first|(cases k;done)|skip
 ·obtain⟨t1,rfl⟩:=ru;obtain⟨t2,rfl⟩:=rv;cases t with
  | true=>exact oneLt_int q
  | false=>exact kat_one _ _ (lt_int q)
 ·obtain⟨t1,rfl⟩:=ru;obtain⟨t2,rfl⟩:=rv;cases t with
  | true=>exact oneLt_str q
  | false=>exact kat_one _ _ (lt_str q)
theorem GN {Q:Bool->Shared->Prop}:∀{as bs:List Key}{us vs:List Value} (i:Nat),as.map c6=bs.map c6->Vals (as.map kV) us->Vals (bs.map kV) vs->Q (cO as bs) s->KatLex prog w A true false Q (us.zip vs) i s
 | [],[],_,_,_,_,.nil,.nil,q=>kat_nil q
 | [],_::_,_,_,_,k,_,_,_=>by cases k
 | _::_,[],_,_,_,k,_,_,_=>by cases k
 | a::as,b::bs,_,_,i,k,.cons ra rs,.cons rb rt,q=>by
  have k1:c6 a=c6 b:=(List.cons.inj k).1;refine kat_cons (ZP k1 ra rb ?_);have q':Q (if a=b then cO as bs else d9 a b) s:=q
  by_cases z:a=b
  ·rw[if_pos z]at q';rw[decide_eq_true z];exact kat_yes (GN (i+1) (List.cons.inj k).2 rs rt q')
  ·rw[if_neg z]at q';rw[decide_eq_false z];exact kat_no (ZO k1 ra rb q' _)
end
abbrev KRows (H:Hp):List V->List (List Key)->Prop:=Paired fun v r=>∃p,v= .ref p/\H p=some (.tup (r.map kV))
theorem KRows.map {H H':Hp}(f:∀p xs,H p=some (.tup xs)->H' p=some (.tup xs)):∀{vs:List V}{rs:List (List Key)},KRows H vs rs->KRows H' vs rs
 | _,_,.nil=> .nil
 | _,_,.cons ⟨p,e,h⟩ r=> .cons ⟨p,e,f _ _ h⟩ (KRows.map f r)
theorem KRows.same {H H':Hp}{vs:List V}{rs:List (List Key)} (x:KRows H vs rs) (s:Same H H'):KRows H' vs rs:=x.map fun p xs h=>s _ _ h
theorem KRows.get {H:Hp}:∀{vs:List V}{rs:List (List Key)}{i:Nat}{v:V},KRows H vs rs->vs[i]? =some v->∃p r,v= .ref p/\rs[i]? =some r/\H p=some (.tup (r.map kV))
 | _,_,0,_,.cons ⟨p,e,h⟩ _,z=>by cases z;exact⟨p,_,e,rfl,h⟩
 | _,_,i+1,_,.cons _ t,z=>KRows.get (i:=i) t (by simpa using z)
 | _,_,_,_,.nil,z=>by simp at z
def lZ (rs:List (List Key))(i j:Nat):Bool:=cO (rs.getD i []) (rs.getD j [])
def K0 (rs:List (List Key))(vs:List V):List V:=cE .non (lZ rs) vs
section
variable {X:Cx}{pins:List (Addr×Obj)}{σ:St}{H:Hp}{s:Shared}
theorem sO (I:Inv X pins σ H s){p:Addr}{r:List Key} (e:H p=some (.tup (r.map kV))):∃(o:Obj) (us:List Value) (n:Nat),s.heap.get? p=some o/\o.cls= .type "tuple" /\o.data= .seq us.toArray n/\Vals (r.map kV) us:=by
 obtain⟨_,its,r',o,h1,h2,n,h3⟩:=(show ObjOk X.prog X.w H s.heap p (.tup (r.map kV)) from I.hok p _ e)
 exact⟨o,its,n,h1,h2,h3,r'⟩
theorem vN (I:Inv X pins σ H s){sh:List Bool}{T:Value}{h':Heap} (kp:∀b o,s.heap.get? b=some o->h'.get? b=some o) (hT:∀(k:Key) (u:Value),sh.head? =some (c6 k)->RelV (kV k) u->Looks (model X.prog X.w) h' (typeOf u) T) :
  ∀{vs:List V}{rs:List (List Key)}{us:List Value},KRows H vs rs->Vals vs us->(∀r∈rs,r.map c6=sh)->sh≠[]->∃fs,KatTups h' us fs/\fs.length=us.length/\∀v∈fs,Looks (model X.prog X.w) h' (typeOf v) T
 | _,_,_,.nil,.nil,_,_=>⟨[],trivial,rfl,fun _ z=>nomatch z⟩
 | _::_,r::_,_::_,.cons ⟨p,hv,e⟩ q,.cons rv rt,hs,hn=>by
  obtain⟨fs,f1,f2,f3⟩:=vN I kp hT q rt (fun r hr=>hs r (List.mem_cons_of_mem _ hr)) hn;subst hv;cases rv;have hr:=hs r (.head _);cases r with
  | nil=>exact absurd hr.symm hn
  | cons k ks =>
   obtain⟨o,us,n,o1,o2,o3,o4⟩:=sO I e;cases o4 with
   | cons r1 r2 =>
    rename_i u us;refine⟨u::fs,KatTups.cons (kp _ _ o1) o2 o3 (by simp) f1,by simp[f2],fun v hv=> ?_⟩;rcases List.mem_cons.mp hv with rfl|hv
    ·exact hT k _ (by rw[←hr];rfl) r1
    ·exact f3 v hv
def KA (K:PySem.W.Frag):List V->Hp->VK->Prop:=fun xs H Q=>∃p vs rs sh,xs=[.ref p]/\SqL K H p vs/\KRows H vs rs/\vs.length<64/\(∀r∈rs,r.map c6=sh)/\sh≠[]/\∀l,H l=none->Q (.ref l) (upd H l (.lst (K0 rs vs)))
theorem vI {xs:List V}{us:List Value} (c:Nat->Nat->Bool) (r:Vals xs us):Vals (cE .non c xs) (cE Value.none c us):=by
 have hl:=r.length;unfold cE;rw[hl]
 split
 ·exact r
 ·have hp:=dR (n:=us.length) c (by lia);have hm:∀i∈(aZ c (kas_sort us.length)).toList,i<us.length:=fun i hi=>by
   have h:=hp.mem_iff.mp (Array.mem_toList_iff.mp hi)
   simpa using h
  revert hm;generalize (aZ c (kas_sort us.length)).toList=l;intro hm
  induction l with
  | nil=>exact .nil
  | cons i l ih =>
   refine .cons ?_ (ih fun j hj=>hm j (List.mem_cons_of_mem _ hj));have hi:=hm i (.head _);have hx:xs[i]? =some (xs[i]'(by lia)):=List.getElem?_eq_getElem _;obtain⟨u,hu,ru⟩:=r.get hx;show RelV (xs.getD i .non) (us.getD i Value.none);rw[List.getD_eq_getElem?_getD,List.getD_eq_getElem?_getD,hx,hu];exact ru
theorem E6:c7 X (.builtin "sorted") (KA X.K):=by
 intro pins s σ H xs us Q I r h;obtain⟨p,vs,rs,sh,rfl,hq,kr,h64,hs,hn,q⟩:=h;obtain⟨u,rfl,rx⟩:=iY r;cases rx;obtain⟨its,rv,pl,hz⟩:=I.list hq;have hl:=rv.length;have hT:∃T:Value,(T==T)=true/\(T !=Value.type "tuple")=true/\∀(h':Heap) (k:Key) (u:Value),sh.head? =some (c6 k)->RelV (kV k) u->Looks (model X.prog X.w) h' (typeOf u) T:=by
  cases sh with
  | nil=>exact absurd rfl hn
  | cons b sh =>
   cases b with
   | true =>
    refine⟨.type "int",rfl,by decide,fun h' k u hk ru=> ?_⟩;cases k with
    | inl i=>obtain⟨t,rfl⟩:=ru;exact Looks.of_pure rfl
    | inr x=>cases hk
   | false =>
    refine⟨.type "str",rfl,by decide,fun h' k u hk ru=> ?_⟩;cases k with
    | inl i=>cases hk
    | inr x=>obtain⟨t,rfl⟩:=ru;exact Looks.of_pure rfl
 obtain⟨T,t1,t2,t3⟩:=hT;refine NQ (lZ rs) (tuples' true) pl.isList (by lia) (fun h2 h' kp R hR=> ?_) (fun h2 h' kp i j hi hj C hC=> ?_) fun D h' e hD kp o'=> ?_
 ·obtain⟨fs,f1,f2,f3⟩:=vN I kp (fun k u=>t3 h' k u) kr rv hs hn;refine kat_kind (s:={ s with heap:=h' }) f1 (by lia) f3 t1 ?_;rw[t2];exact hR
 ·obtain⟨p1,r1,x1,y1,z1⟩:=kr.get (i:=i) (List.getElem?_eq_getElem (by lia));obtain⟨p2,r2,x2,y2,z2⟩:=kr.get (i:=j) (List.getElem?_eq_getElem (by lia));obtain⟨u1,v1,w1⟩:=rv.get (List.getElem?_eq_getElem (show i<vs.length by lia));obtain⟨u2,v2,w2⟩:=rv.get (List.getElem?_eq_getElem (show j<vs.length by lia));rw[x1]at w1;rw[x2]at w2;cases w1;cases w2;obtain⟨o1,us1,n1,g1,c1,d1,l1⟩:=sO I z1;obtain⟨o2,us2,n2,g2,c2,d2,l2⟩:=sO I z2;have s1:=hs r1 (List.mem_of_getElem? y1);have s2:=hs r2 (List.mem_of_getElem? y2);have e1:=l1.length;have e2:=l2.length;rw[List.length_map]at e1 e2;have e3:r1.length=r2.length:=by rw[←List.length_map (f:=c6),s1,←s2,List.length_map]
  unfold kas_ask;rw[List.getD_eq_getElem?_getD,List.getD_eq_getElem?_getD,v1,v2];refine kat_lt (s:={ s with heap:=h' }) (kp _ _ g1) d1 (kp _ _ g2) d2 ?_;rw[show decide (us1.toArray.size<us2.toArray.size)=false from decide_eq_false (by rw[List.size_toArray,List.size_toArray];lia)];refine GN 0 (s1.trans s2.symm) l1 l2 ?_;have ec:lZ rs i j=cO r1 r2:=by
   unfold lZ;rw[List.getD_eq_getElem?_getD,List.getD_eq_getElem?_getD,y1,y2];rfl
  rw[ec]at hC;exact hC
 ·exact⟨.ref D,_,I.laid (t':=s.toks) kp hD (show ObjOk X.prog X.w _ h' _ (.lst _) from⟨by rw[sW];exact hz,_,e,vI _ rv,o'⟩),rfl,q _ (I.hok.fresh hD)⟩
end
end L2
namespace L2
open PySem PySem.W PyProof.Rows
section
variable {prog:Program}{w:World}{A:Around}{E:Value->Shared->Prop}{s:Shared}{d it:Addr}{o:Obj}{es:Array DictEntry}{ep i:Nat}
theorem yK {Q:Value->Shared->Prop}(hd:(d==sysModules)=false)(ho:s.heap.get? d=some o)(hc:o.ExactDict)(hq:o.data= .dict es ep)
  (k:Q (.ref s.heap.objs.size) { s with heap:=s.heap.push { cls:= .type "dict_keyiterator",data:= .fields #[.ref d,.int 0 0,.int es.size 0,.int ep 0] } }):wpAny (model prog w) A (pyIter (.ref d)) Q E s:=by
 have T:s.TypeIs (.ref d) "dict" :=⟨o,ho,hc.1⟩
 refine wpAny_pyIter_slot T F.slot_dict_iter (wpAny_call_entry F.slot_dict_iter T F.entry_dict_iter ?_ (F.args_dict_iter_1 _));unfold Builtin.«dict.__iter__» Builtin.Dict.dictSlotNone;refine wpAny_bind (wpAny_bind (wpAny_notOrdered_dict T (wpAny_pure ?_)));show wpAny _ A.in1 (Builtin.Dict.showsAll d >>= _) _ _ s;unfold Builtin.Dict.showsAll;rw[if_neg (fun z=>by rw[hd]at z;cases z)];refine wpAny_bind (wpAny_pure (wpAny_bind (wpAny_dictEntries ho hq (wpAny_bind (wpAny_dictEpoch ho hq ?_)))));exact wpAny_bind (wpAny_newObj_type (wpAny_pure ⟨_,rfl,"dict_keyiterator",_,⟨_,Heap.get?_push_size _ rfl,rfl⟩,F.slot_dict_keyiterator_next.lookup,k⟩))
theorem HP {Q:Option Value->Shared->Prop}{e:DictEntry} (hit:s.heap.IsKeyIter it d i es.size ep) (ho:s.heap.get? d=some o) (hq:o.data= .dict es ep) (hx:es[i]? =some e)
  (k:∀h',h'.IsKeyIter it d (i+1) es.size ep->Heap.SameBut it s.heap h'->Q (some e.key) { s with heap:=h' }):wpAny (model prog w) A (pyNext (.ref it)) Q E s:=by
 obtain⟨oi,hi,ci,di⟩:=id hit;have T:=hit.typeIs;unfold pyNext;refine wpAny_bind (wpAny_attempt (wpAny_callSpecial?_slot (name:=Str.ofString "__next__") T F.slot_dict_keyiterator_next (wpAny_call_entry F.slot_dict_keyiterator_next T F.entry_dict_keyiterator_next ?_ (F.args_dict_keyiterator_next_1 _))));refine wpAny_bind (wpAny_pure (wpAny_bind (wpAny_bind ?_)))
 first|refine wpAny_bind (wpAny_typeNameOfWhole_keyiter T (wpAny_pure (wpAny_bind (wpAny_fieldsOf hi di ?_))))|refine wpAny_bind (wpAny_typeNameOf_keyiter T (wpAny_pure (wpAny_bind (wpAny_fieldsOf hi di ?_))))
 simp only[show Builtin.Dict_items.ownsTuple "dict_keyiterator" =false by decide,Bool.false_eq_true,if_false];show wpAny _ A.in1 (if (Value.ref d==Value.none)=true then _ else _) _ _ s;rw[if_neg (show ¬(Value.ref d==Value.none)=true from Bool.false_ne_true)];refine wpAny_bind (wpAny_pure (wpAny_bind (wpAny_dictEntries ho hq ?_)));rw[if_neg (by simp)];refine wpAny_bind (wpAny_pure (wpAny_bind (wpAny_dictEpoch ho hq ?_)));rw[if_neg (by simp)];refine wpAny_pure ?_;simp only[show ¬((i:Int)<0) from by lia,if_false,Int.toNat_natCast,hx];refine wpAny_bind ?_
 first|refine wpAny_bind (wpAny_typeNameOfWhole_keyiter T (wpAny_pure (wpAny_bind (wpAny_isOneOf_keyiter T ?_))))|refine wpAny_bind (wpAny_typeNameOf_keyiter T (wpAny_pure (wpAny_bind (wpAny_isOneOf_keyiter T ?_))))
 show wpAny _ A.in1 (setField (.ref it) 1 (rawInt ((i:Int)+1)) >>= _) _ _ s;refine wpAny_bind (wpAny_setField hi di (by simp) ?_);have H2:(s.heap.update it (Obj.mapFields (·.setIfInBounds 1 (rawInt ((i:Int)+1))))).IsKeyIter it d (i+1) es.size ep :=
  ⟨_,Heap.get?_update_self _ hi (Obj.isFreed_of_fields (Obj.data_mapFields di _)),(Obj.cls_mapFields ..).trans ci,(Obj.data_mapFields di _).trans (by simp[rawInt])⟩
 refine wpAny_bind (wpAny_holding (wpAny_bind (wpAny_isOneOf_keyiter (s:={ s with heap:=s.heap.update it (Obj.mapFields (·.setIfInBounds 1 (rawInt ((i:Int)+1)))) }) H2.typeIs ?_)));show wpAny _ A.in1 (pure e.key) _ _ _;exact wpAny_pure (wpAny_pure ⟨_,rfl,wpAny_pure (k _ H2 (Heap.SameBut.update ..))⟩)
theorem JK {Q:Option Value->Shared->Prop}(hh:A.handled=none)(hit:s.heap.IsKeyIter it d i es.size ep)(ho:s.heap.get? d=some o)(hq:o.data= .dict es ep)(hx:es.size<=i)
  (k:∀h',Heap.ExtBut it s.heap h'->Q none { s with heap:=h' }):wpAny (model prog w) A (pyNext (.ref it)) Q E s:=by
 obtain⟨oi,hi,ci,di⟩:=id hit;have T:=hit.typeIs;unfold pyNext;refine wpAny_bind (wpAny_attempt (wpAny_callSpecial?_slot (name:=Str.ofString "__next__") T F.slot_dict_keyiterator_next (wpAny_call_entry F.slot_dict_keyiterator_next T F.entry_dict_keyiterator_next ?_ (F.args_dict_keyiterator_next_1 _))));refine wpAny_bind (wpAny_pure (wpAny_bind (wpAny_bind ?_)))
 first|refine wpAny_bind (wpAny_typeNameOfWhole_keyiter T (wpAny_pure (wpAny_bind (wpAny_fieldsOf hi di ?_))))|refine wpAny_bind (wpAny_typeNameOf_keyiter T (wpAny_pure (wpAny_bind (wpAny_fieldsOf hi di ?_))))
 simp only[show Builtin.Dict_items.ownsTuple "dict_keyiterator" =false by decide,Bool.false_eq_true,if_false];show wpAny _ A.in1 (if (Value.ref d==Value.none)=true then _ else _) _ _ s;rw[if_neg (show ¬(Value.ref d==Value.none)=true from Bool.false_ne_true)];refine wpAny_bind (wpAny_pure (wpAny_bind (wpAny_dictEntries ho hq ?_)));rw[if_neg (by simp)];refine wpAny_bind (wpAny_pure (wpAny_bind (wpAny_dictEpoch ho hq ?_)));rw[if_neg (by simp)];refine wpAny_pure ?_;simp only[show ¬((i:Int)<0) from by lia,if_false,Int.toNat_natCast,Array.getElem?_eq_none hx];refine wpAny_bind ?_
 first|refine wpAny_bind (wpAny_typeNameOfWhole_keyiter T (wpAny_pure ?_))|refine wpAny_bind (wpAny_typeNameOf_keyiter T (wpAny_pure ?_))
 show wpAny _ A.in1 (setField (.ref it) 0 .none >>= _) _ _ s;refine wpAny_bind (wpAny_setField hi di (by simp) ?_);show wpAny _ A.in1 (newExc (.type "StopIteration") [] >>= _) _ _ _;refine wpAny_bind ?_;simp only[newExc,newTuple];refine wpAny_bind (wpAny_newObj_type (wpAny_bind (m:=firstArgMember _ _) (wpAny_of_eq (a:=Value.none) (by first|rfl|(simp only[firstArgMember];rfl)) (wpAny_newObj_type ?_ (by size_fits)))) (by size_fits));simp only[raiseNew];refine wpAny_bind (wpAny_handled ?_);rw[show A.in1.handled=none from hh];refine wpAny_bind (wpAny_pure (wpAny_throw ?_));refine wpAny_bind (wpAny_isInstance (b:=true) (T:= "StopIteration") ⟨_,Heap.get?_push_size _ rfl,rfl⟩ isSubtype_stop ?_);exact wpAny_pure (k _ (((Heap.SameBut.update ..).extBut.push _).push _))
end
end L2
namespace L2
open PySem PySem.W PyProof.Rows
def Itk (a:Addr)(o:Obj)(kvs:List (Key×V)):It :=
 ⟨fun i H=>H a=some (.frz o (.dK kvs))/\i<kvs.length,fun i H x H'=>H'=H/\∃k v,kvs[i]? =some (k,v)/\x=kV k,fun i H=>H a=some (.frz o (.dK kvs))/\kvs.length<=i⟩
def Itq (a:Addr)(o:Obj)(kvs:List (List Key×V)):It :=
 ⟨fun i H=>H a=some (.frz o (.dT kvs))/\i<kvs.length,fun i H x H'=>H'=H/\∃k v q,kvs[i]? =some (k,v)/\x= .ref q/\H q=some (.tup (k.map kV)),fun i H=>H a=some (.frz o (.dT kvs))/\kvs.length<=i⟩
theorem KT.get {H:Hp}:∀{kvs:List (List Key×V)}{xs:List (List Key×Addr×Value)}{i:Nat},KT H kvs xs->i<kvs.length->∃k v b u,kvs[i]? =some (k,v)/\xs[i]? =some (k,b,u)/\H b=some (.tup (k.map kV))
 | _,_,0,.cons h _,_=>⟨_,_,_,_,rfl,by rw[h.1];rfl,h.2.1⟩
 | _,_,i+1,.cons _ t,hi=>by
  obtain⟨k,v,b,u,e1,e2,e3⟩:=KT.get (i:=i) t (by simpa using hi);exact⟨k,v,b,u,by simpa using e1,by simpa using e2,e3⟩
 | _,_,_,.nil,hi=>by simp at hi
theorem KT.len {H:Hp}{kvs:List (List Key×V)}{xs:List (List Key×Addr×Value)} (r:KT H kvs xs):kvs.length=xs.length:=Paired.length r
theorem LX {P:Program}{w:World}{K:PySem.W.Frag}{tg:Expr} (a it:Addr) {o:Obj}{es:Array DictEntry}{ep:Nat} (kvs:List (List Key×V)) (hd:o.data= .dict es ep) (hz:es.size=kvs.length) :
  u5 P w K tg (Itq a o kvs) [it] it (fun i h=>h.IsKeyIter it a i es.size ep) where
 mem:=by simp
 obj:=fun i h st b hb=>by
  have e:b=it:=by simpa using hb
  subst e;obtain⟨ob,e,c,d⟩:=st;exact⟨ob,e,fun v z=>by rw[d]at z;cases z⟩
 keep:=fun i h h' st k=>st.at fun ob e=>k it (by simp) ob e
 item:=by
  intro X hP hw hK hc i pins s σ H E I hf st hg;subst hP hw hK;obtain⟨ha,hi⟩:=hg;obtain⟨ho,hok⟩:=(show ObjOk X.prog X.w H s.heap a (.frz o (.dT kvs)) from I.hok a _ ha)
  obtain⟨z,y,xs,r,o',es',ep',h1,h2,h3,h4,h5⟩:=hok;rw[ho]at h1;cases h1;rw[hd]at h3;cases h3;obtain⟨k,v,b,u,e1,e2,e3⟩:=KT.get r hi;have e4:=entry_at h4 i;rw[e2]at e4;obtain⟨f0,f1,f2,f3,f4,f5⟩:=hf it (by simp);refine HP st ho hd e4 fun h' st' sb=> ?_;have I1:Inv X pins σ H { s with heap:=h' }:=I.turned (t':=s.toks) (fun b o hb e=>(sb.2 b hb).trans e) f0 f1 f3 f4 f5;exact⟨_,rfl,letGo_keyiter (s':={ s with heap:=h' }) st' ⟨.ref b,H,I1,rfl,⟨rfl,k,v,b,e1,rfl,e3⟩,st',fun b hb=>(hf b hb).1⟩⟩
 done:=by
  intro X hP hw hK hc i pins s σ H E I hf st hg;subst hP hw hK;obtain⟨ha,hi⟩:=hg;obtain⟨ho,hok⟩:=(show ObjOk X.prog X.w H s.heap a (.frz o (.dT kvs)) from I.hok a _ ha)
  obtain⟨f0,f1,f2,f3,f4,f5⟩:=hf it (by simp);exact JK (I.ok.hd hc) st ho hd (by lia) fun h' eb=>⟨rfl,I.turned (t':=s.toks) (fun b o hb e=>eb b o hb e) f0 f1 f3 f4 f5⟩
 self:=fun _ _ _ _ _ st h=>wpAny_pyIter_keyiter st h
def PN (td:TE):TI:=fun σ H R=>td σ H fun x H1=>∃a kvs,x= .ref a/\H1 a=some (.dT kvs)/\∀o,R (Itq a o kvs) (upd H1 a (.frz o (.dT kvs)))
section
variable {X:Cx}{tg:Expr}
theorem Inv.freeze {pins:List (Addr×Obj)}{σ:St}{H:Hp}{s:Shared}{a:Addr}{u:HO}{o:Obj} (I:Inv X pins σ H s) (mu:Mut (some u)) (e:H a=some u) (ho:s.heap.get? a=some o) (new:ObjOk X.prog X.w (upd H a (.frz o u)) s.heap a (.frz o u)):Inv X pins σ (upd H a (.frz o u)) s :=
 I.write (t':=s.toks) (h':=s.heap) (by rw[e];exact mu) (.inl rfl) (fun b u _ z=>z) ⟨_,ho⟩ new
theorem Q5 {l:Expr}{td:TE} (hl:PE X l td):PI X tg l (PN td):=by
 intro pins s σ H R I h;refine thn (hl pins s σ H _ I h) fun v s1 ⟨x,H1,I1,r1,q1⟩=> ?_;obtain⟨a,kvs,rfl,hq,q⟩:=q1;cases r1;obtain⟨z,y,xs,r,o,es,ep,h1,h2,h3,h4,h5⟩:=(show ObjOk X.prog X.w H1 s1.heap a (.dT kvs) from I1.hok a _ hq)
 have hz:es.size=kvs.length:=by rw[size_of_entries h4,KT.len r]
 have hne:∀b ys,H1 b=some (.tup ys)->upd H1 a (.frz o (.dT kvs)) b=some (.tup ys):=fun b ys e=>by
  have hb:b≠a:=fun z=>by rw[z,hq]at e;cases e
  rw[aL hb];exact e
 have new:ObjOk X.prog X.w (upd H1 a (.frz o (.dT kvs))) s1.heap a (.frz o (.dT kvs)):=⟨h1,z,y,xs,KT.keeps r hne,o,es,ep,h1,h2,h3,h4,h5⟩
 have I2:Inv X pins σ (upd H1 a (.frz o (.dT kvs))) s1:=I1.freeze trivial hq h1 new;refine yK y h1 h2 h3 ?_;refine⟨s1.heap.objs.size,[s1.heap.objs.size],_,_,upd H1 a (.frz o (.dT kvs)),rfl,I2.kept (t':=s1.toks) fun b o e=>Heap.get?_push_of_some _ e,LX a _ kvs h3 hz,⟨_,Heap.get?_push_size _ rfl,rfl,rfl⟩,fun b hb=> ?_,q o⟩;have e:b=s1.heap.objs.size:=by simpa using hb
 subst e;exact I2.fpOk (Nat.le_refl _) (I2.hok.fresh (Nat.le_refl _))
end
end L2
namespace L2
open PySem PySem.W PyProof.Rows
section
variable {X:Cx}{e c:Expr}{te:TE}{lo hi:Option Expr}{tl th ts:TO}{pos p2:Pos}
end
def zJ:V->Bool
 | .ref _=>true
 | x=>j3 x
section
variable {X:Cx}
end
section
variable {X:Cx}{pins:List (Addr×Obj)}{σ:St}{H:Hp}{s:Shared}
end
section
variable {X:Cx}
end
end L2
namespace L2
open PySem PySem.W PyProof.Rows
section
variable {K:PySem.W.Frag}{ti:TT}{te:TE}{σ:St}{ci:List Nat}{rest:St}{fin:List V->Hp->Prop}{H:Hp}{a:Addr}
end
end L2
namespace L2
open PySem PySem.W PyProof.Rows
theorem vQ:bootBuiltins "sorted" =some (.builtin "sorted"):=by decide +kernel
theorem Room.units1 {k:Nat}{A:Around} (r:Room k A):A.units+1<cLine:=by have:=r.un;lia
section
variable {K:PySem.W.Frag}{H:Hp}{Q:VK}
end
section
variable {H:Hp}{Q:VK}{σ:St}
theorem RH (h:∀p H',H p=none->Same H H'->H' p=some (.dT [])->Q (.ref p) H'):P6 σ H Q:=fH h
theorem GC {κ:Type}[DecidableEq κ]{kvs:List (κ×V)}{k:κ}{v:V}{e:κ×V} (h:e∈cC kvs k v):e∈kvs∨e.1=k/\e.2=v:=by
 unfold cC at h
 split at h
 ·obtain⟨p,hp,e1⟩:=List.mem_map.mp h
  by_cases z:p.1=k
  ·rw[if_pos z]at e1;subst e1;exact .inr ⟨z,rfl⟩
  ·rw[if_neg z]at e1;subst e1;exact .inl hp
 ·rcases List.mem_append.mp h with h|h
  ·exact .inl h
  ·cases List.mem_singleton.mp h;exact .inr ⟨rfl,rfl⟩
end
end L2
namespace L2
open PySem PySem.W PyProof.Rows
section
variable {X:Cx}{K:PySem.W.Frag}
theorem g9 {es:List Expr}{k:Nat}{t:TGs}{n:Nat}{pos:Pos} (hc:X.calm=true) (h:PGs X es t) (hK:X.K=K:=by rfl)
  (hn:(assignEach es X.env).length=n:=by rfl)(hst:(assignEach es X.env).findIdx? (·.1)=none:=by rfl):PG X (.Tuple es k pos) (xY K n t):=by
 subst hK;exact j4 hc h hn hst
theorem k8 (hK:X.K=K:=by rfl):IxR X (aBk K):=by
 subst hK;exact GB
end
def LO (nx:St->Hp->Prop)(σ:St)(x v:V):VK:=fun y H3=>∃a H4,x= .ref a/\DPut H3 a y v H4/\nx σ H4
def LR (Q:VK)(x:V):VK:=fun y H2=>∃a v,x= .ref a/\DGet H2 a y (some v)/\Q v H2
def VR (R:It->Hp->Prop):VK:=fun x H1=>∃a kvs,x= .ref a/\H1 a=some (.dT kvs)/\∀o,R (Itq a o kvs) (upd H1 a (.frz o (.dT kvs)))
section
variable {K:PySem.W.Frag}{H:Hp}{Q:VK}{σ:St}{nx rt bk ct:St->Hp->Prop}
theorem YH {td ty tv:TE}{nx:St->Hp->Prop}{rt:VK}{bk ct:St->Hp->Prop} (h:tv σ H fun v H1=>td σ H1 fun x H2=>ty σ H2 (LO nx σ x v)):VN td ty tv ⟨nx,rt,bk,ct⟩ σ H:=h
theorem oW {p b:Addr}{v:V}{kvs:List (List Key×V)} (k:List Key) (e:H p=some (.dT kvs)) (eb:H b=some (.tup (k.map kV))) (hl:kvs.length<sizeLine)
  (h:∀H',SameBut p H H'->H' p=some (.dT (cC kvs k v))->nx σ H'):LO nx σ (.ref p) v (.ref b) H :=
 ⟨p,_,rfl,DPut.t e eb hl,h _ SameBut.upd bC⟩
theorem W3 {td ty:TE}(h:td σ H fun x H1=>ty σ H1 (LR Q x)):VZ td ty σ H Q:=h
theorem fM {p b:Addr}{v:V}{kvs:List (List Key×V)} (k:List Key) (e:Rd H p (.dT kvs)) (eb:H b=some (.tup (k.map kV))) (hv:bD kvs k=some v) (h:Q v H):LR Q (.ref p) (.ref b) H :=
 ⟨p,v,rfl,.inr ⟨kvs,k,b,e,rfl,eb,hv.symm⟩,h⟩
theorem TW {td:TE}{R:It->Hp->Prop} (h:td σ H (VR R)):PN td σ H R:=h
theorem R9 {p:Addr}{kvs:List (List Key×V)}{R:It->Hp->Prop} (e:H p=some (.dT kvs)) (h:∀o H',SameBut p H H'->H' p=some (.frz o (.dT kvs))->R (Itq p o kvs) H'):VR R (.ref p) H :=
 ⟨p,kvs,rfl,e,fun o=>h o _ SameBut.upd bC⟩
theorem FE {p:Addr}{xs:List V}{i:Int} (e:SqL K H p xs) (h0:0<=i) (h1:i<xs.length) (h:∀v∈xs,Q v H):E7 K (.ref p) (.int i) H Q:=by
 have hl:i.toNat<xs.length:=by lia
 have e1:=wR (xs:=xs) (j:=i.toNat) (v:=xs[i.toNat]) (List.getElem?_eq_getElem hl);rw[show ((i.toNat:Nat):Int)=i by lia]at e1;exact⟨p,xs,i,_,rfl,rfl,e,e1,h _ (List.getElem_mem hl)⟩
end
end L2
namespace L2
open PySem PySem.W PyProof.Rows
theorem uW:entryFor table "dict_itemiterator.__iter__" =some Builtin.«dict_keyiterator.__iter__»:=entryFor_alias (id':= "dict_keyiterator.__iter__") (by kernel_rfl) rfl (by decide +kernel) (by kernel_rfl)
theorem wK {P:Program}{w:World}{k:Key}{u:Value} (h:(bQ P w).is k u=true):RelV (kV k) u:=by
 rcases c4 h with⟨i,t,rfl,rfl⟩|⟨x,t,rfl,rfl⟩
 ·exact⟨t,rfl⟩
 ·exact⟨t,rfl⟩
theorem EY {κ:Type}{kvs:List (κ×V)}{vs:List (κ×Value)}{i:Nat} (h:KV kvs vs) (hi:i<kvs.length):∃k v u,kvs[i]? =some (k,v)/\vs[i]? =some (k,u)/\RelV v u:=by
 induction h generalizing i with
 | nil=>exact absurd hi (Nat.not_lt_zero _)
 | @cons x y l m h t ih =>
  cases i with
  | zero=>exact⟨x.1,x.2,y.2,rfl,by rw[h.1];rfl,h.2⟩
  | succ i=>exact ih (Nat.lt_of_succ_lt_succ hi)
theorem C7 {P:Program}{w:World}{κ:Type} [DecidableEq κ] {knd:KeyKind P w κ}:∀{es:List DictEntry}{kvs:List (κ×Value)}{i:Nat}{k:κ}{u:Value},Pairs knd es kvs->kvs[i]? =some (k,u)->∃e,es[i]? =some e/\knd.is k e.key=true/\e.val=u
 | _,_,0,_,_,.cons h1 h2 _,z=>by cases z;exact⟨_,rfl,h1,h2⟩
 | _,_,i+1,_,_,.cons _ _ t,z=>by
  obtain⟨e,e1,e2⟩:=C7 (i:=i) t (by simpa using z);exact⟨e,by simpa using e1,e2⟩
 | _,_,_,_,_,.nil,z=>by simp at z
theorem K8 {P:Program}{w:World}{K:PySem.W.Frag}{tg:Expr} (a it:Addr) {o:Obj}{es:Array DictEntry}{ep:Nat} (kvs:List (Key×V)) (hd:o.data= .dict es ep) (hz:es.size=kvs.length) :
  u5 P w K tg (Itk a o kvs) [it] it (fun i h=>h.IsKeyIter it a i es.size ep) where
 mem:=by simp
 obj:=fun i h st b hb=>by
  have e:b=it:=by simpa using hb
  subst e;obtain⟨ob,e,c,d⟩:=st;exact⟨ob,e,fun v z=>by rw[d]at z;cases z⟩
 keep:=fun i h h' st k=>st.at fun ob e=>k it (by simp) ob e
 item:=by
  intro X hP hw hK hc i pins s σ H E I hf st hg;subst hP hw hK;obtain⟨ha,hi⟩:=hg;obtain⟨ho,z,y,vs,r,o',es',ep',h1,h2,h3,h4,h5,h6⟩:=(show ObjOk X.prog X.w H s.heap a (.frz o (.dK kvs)) from I.hok a _ ha)
  rw[ho]at h1;cases h1;rw[hd]at h3;cases h3;obtain⟨k,v,u,e1,e2,e3⟩:=EY r hi;obtain⟨e,f6,f7,f8⟩:=C7 h5 e2;obtain⟨f0,f1,f2,f3,f4,f5⟩:=hf it (by simp);refine HP st ho hd (e:=e) (by simpa using f6) fun h' st' sb=> ?_;have I1:Inv X pins σ H { s with heap:=h' }:=I.turned (t':=s.toks) (fun b o hb e=>(sb.2 b hb).trans e) f0 f1 f3 f4 f5;exact⟨_,rfl,letGo_keyiter (s':={ s with heap:=h' }) st' ⟨kV k,H,I1,wK f7,⟨rfl,k,v,e1,rfl⟩,st',fun b hb=>(hf b hb).1⟩⟩
 done:=by
  intro X hP hw hK hc i pins s σ H E I hf st hg;subst hP hw hK;obtain⟨ha,hi⟩:=hg;obtain⟨ho,hok⟩:=(show ObjOk X.prog X.w H s.heap a (.frz o (.dK kvs)) from I.hok a _ ha)
  obtain⟨f0,f1,f2,f3,f4,f5⟩:=hf it (by simp);exact JK (I.ok.hd hc) st ho hd (by lia) fun h' eb=>⟨rfl,I.turned (t':=s.toks) (fun b o hb e=>eb b o hb e) f0 f1 f3 f4 f5⟩
 self:=fun _ _ _ _ _ st h=>wpAny_pyIter_keyiter st h
def NU (td:TE):TI:=fun σ H R=>td σ H fun x H1=>∃a kvs,x= .ref a/\H1 a=some (.dK kvs)/\∀o,R (Itk a o kvs) (upd H1 a (.frz o (.dK kvs)))
section
variable {X:Cx}{tg:Expr}
theorem yR {l:Expr}{td:TE} (hl:PE X l td):PI X tg l (NU td):=by
 intro pins s σ H R I h;refine thn (hl pins s σ H _ I h) fun v s1 ⟨x,H1,I1,r1,q1⟩=> ?_;obtain⟨a,kvs,rfl,hq,q⟩:=q1;cases r1;obtain⟨z,y,vs,r,o,es,ep,h1,h2,h3,h4,h5,h6⟩:=(show ObjOk X.prog X.w H1 s1.heap a (.dK kvs) from I1.hok a _ hq)
 have hz:es.size=kvs.length:=by rw[r.length,←h5.length];simp
 have new:ObjOk X.prog X.w (upd H1 a (.frz o (.dK kvs))) s1.heap a (.frz o (.dK kvs)):=⟨h1,z,y,vs,r,o,es,ep,h1,h2,h3,h4,h5,h6⟩
 have I2:Inv X pins σ (upd H1 a (.frz o (.dK kvs))) s1:=I1.freeze trivial hq h1 new;refine yK y h1 h2 h3 ?_;refine⟨s1.heap.objs.size,[s1.heap.objs.size],_,_,upd H1 a (.frz o (.dK kvs)),rfl,I2.kept (t':=s1.toks) fun b o e=>Heap.get?_push_of_some _ e,K8 a _ kvs h3 hz,⟨_,Heap.get?_push_size _ rfl,rfl,rfl⟩,fun b hb=> ?_,q o⟩;have e:b=s1.heap.objs.size:=by simpa using hb
 subst e;exact I2.fpOk (Nat.le_refl _) (I2.hok.fresh (Nat.le_refl _))
end
def Iti (a:Addr)(o:Obj)(kvs:List (Key×V)):It :=
 ⟨fun i H=>H a=some (.frz o (.dK kvs))/\i<kvs.length,fun i H x H'=>∃k v q,kvs[i]? =some (k,v)/\x= .ref q/\H q=none/\H'=upd H q (.tup [kV k,v]),fun i H=>H a=some (.frz o (.dK kvs))/\kvs.length<=i⟩
theorem IO {P:Program}{w:World}{K:PySem.W.Frag}{elts:List Expr}{x1:Nat}{tpos:Pos} (a it:Addr) {o:Obj}{es:Array DictEntry}{ep:Nat} (kvs:List (Key×V)) (hd:o.data= .dict es ep) :
  u5 P w K (.Tuple elts x1 tpos) (Iti a o kvs) [it] it (fun i h=>∃ok ov,IsItemIter h it a i kvs.length ep ok ov) where
 mem:=by simp
 obj:=fun i h st b hb=>by
  have e:b=it:=by simpa using hb
  subst e;obtain⟨ok,ov,e⟩:=st;exact⟨_,e,fun v z=>by cases z⟩
 keep:=fun i h h' st k=>let ⟨ok,ov,e⟩:=st;⟨ok,ov,k it (by simp) _ e⟩
 item:=by
  intro X hP hw hK hc i pins s σ H E I hf st hg;subst hP hw hK;obtain⟨ha,hi⟩:=hg;obtain⟨ok,ov,st⟩:=st;obtain⟨ho,z,y,vs,r,o',es',ep',h1,h2,h3,h4,h5,h6⟩:=(show ObjOk X.prog X.w H s.heap a (.frz o (.dK kvs)) from I.hok a _ ha)
  rw[ho]at h1;cases h1;rw[hd]at h3;cases h3;obtain⟨k,v,u,e1,e2,e3⟩:=EY r hi;obtain⟨f0,f1,f2,f3,f4,f5⟩:=hf it (by simp);have hl:=r.length;refine wpAny_pyNext_items_item (knd:=bQ X.prog X.w) (kvs:=vs) (by rw[←hl];exact st) ⟨o,es,ho,h2,hd,h4,h5,h6⟩ e2 fun key h' kk st' ht hs kp=> ?_;refine⟨_,rfl,?_⟩;refine wpAny_letOwnedTupleGo_items (s:={ s with heap:=h' }) st' fun h'' st'' sb=> ?_;have hq:H s.heap.objs.size=none:=I.hok.fresh (Nat.le_refl _);have hne:s.heap.objs.size≠it:=fun z=>by
   have:=Heap.lt_size (show s.heap.get? it=some _ from st);rw[z]at this;exact Nat.lt_irrefl _ this
  have tup:Vals [kV k,v] [key,u]:= .cons (wK kk) (.cons e3 .nil);have I1:Inv X pins σ (upd H s.heap.objs.size (.tup [kV k,v])) { s with heap:=s.heap.push { cls:= .type "tuple",data:= .seq #[key,u] } } :=
   I.laid (t':=s.toks) (fun b u e=>Heap.get?_push_of_some _ e) (Nat.le_refl _) ⟨(show 2<=sizeLine by rw[sizeLine_eq];decide),[key,u],tup,⟨_,Heap.get?_push_size _ rfl,rfl,0,rfl⟩⟩
  have n0:upd H s.heap.objs.size (.tup [kV k,v]) it=none:=by rw[aL (Ne.symm hne)];exact f0
  have I2:Inv X pins σ (upd H s.heap.objs.size (.tup [kV k,v])) { s with heap:=h'' }:=Inv.turned (s:={ s with heap:=s.heap.push { cls:= .type "tuple",data:= .seq #[key,u] } }) (h':=h'') (t':=s.toks) (it:=it) I1 (fun b o hb e=>by
   rcases Heap.get?_push_cases e with⟨rfl,rfl⟩|e
   ·exact(sb.2 _ hb).trans ht
   ·exact(sb.2 b hb).trans (kp b o hb e)) n0 f1 f3 f4 f5
  exact⟨.ref s.heap.objs.size,_,I2,rfl,⟨k,v,_,e1,rfl,hq,rfl⟩,⟨key,u,by rw[hl];exact st''⟩,fun b hb=>by
   have e:b=it:=by simpa using hb
   rw[e];exact n0⟩
 done:=by
  intro X hP hw hK hc i pins s σ H E I hf st hg;subst hP hw hK;obtain⟨ha,hi⟩:=hg;obtain⟨ok,ov,st⟩:=st;obtain⟨ho,z,y,vs,r,o',es',ep',h1,h2,h3,h4,h5,h6⟩:=(show ObjOk X.prog X.w H s.heap a (.frz o (.dK kvs)) from I.hok a _ ha)
  rw[ho]at h1;cases h1;rw[hd]at h3;cases h3;have hl:=r.length;obtain⟨f0,f1,f2,f3,f4,f5⟩:=hf it (by simp);exact wpAny_pyNext_items_end (knd:=bQ X.prog X.w) (kvs:=vs) (I.ok.hd hc) (by rw[←hl];exact st) ⟨o,es,ho,h2,hd,h4,h5,h6⟩ (List.getElem?_eq_none (by lia)) fun h' eb=>⟨rfl,I.turned (t':=s.toks) (fun b o hb e=>eb b o hb e) f0 f1 f3 f4 f5⟩
 self:=fun A i s Q E st h=>by
  obtain⟨ok,ov,st⟩:=st;have T:s.TypeIs (.ref it) "dict_itemiterator" :=⟨_,st,rfl⟩
  refine wpAny_pyIter_slot T F.slot_dict_itemiterator_iter (wpAny_call_entry F.slot_dict_itemiterator_iter T uW ?_ (F.args_dict_itemiterator_iter_1 _));show wpAny _ _ (ret (.ref it)) _ _ s;exact wpAny_pure ⟨_,rfl,"dict_itemiterator",_,T,F.slot_dict_itemiterator_next.lookup,h⟩
def JO (td:TE):TI:=fun σ H R=>td σ H fun x H1=>∃a kvs,x= .ref a/\H1 a=some (.dK kvs)/\∀o,R (Iti a o kvs) (upd H1 a (.frz o (.dK kvs)))
section
variable {X:Cx}
theorem DC {l:Expr}{td:TE}{elts:List Expr}{x1:Nat}{tpos apos cpos:Pos} (hl:PE X l td) (hbase:attributeBase l "items" X.env (eval l X.env)=eval l X.env:=by rfl) (hline:(apos.endLine==cpos.line)=true:=by rfl) :
  PI X (.Tuple elts x1 tpos) (.Call (.Attribute l "items" apos) [] [] cpos) (JO td):=by
 intro pins s σ H R I h;refine wpAny_Call_method0_late hbase hline (thn (hl pins s σ H _ I h) fun v s1 ⟨x,H1,I1,r1,q1⟩=> ?_);obtain⟨a,kvs,rfl,hq,q⟩:=q1;cases r1;obtain⟨t1,t2,_⟩:=ON I1 (.inl ⟨kvs,.inl hq⟩);refine⟨"dict","dict.items",F.plainAttrs_dict,F.slot_dict_items,F.type_dict_items,t1,t2,Calls.callWith_builtin rfl (PySem.evalArgs_none ?_)⟩;obtain⟨z,y,vs,r,o,es,ep,h1,h2,h3,h4,h5,h6⟩:=(show ObjOk X.prog X.w H1 s1.heap a (.dK kvs) from I1.hok a _ hq)
 have hL:=r.length;refine call_meetsIn F.slot_dict_items t1 F.entry_dict_items (F.args_dict_items_1 _) (meets_dict_items (bQ X.prog X.w) a y) ⟨⟨vs,o,es,ep,h1,h2,h3,h4,h5,h6⟩,?_⟩;have new:ObjOk X.prog X.w (upd H1 a (.frz o (.dK kvs))) s1.heap a (.frz o (.dK kvs)):=⟨h1,z,y,vs,r,o,es,ep,h1,h2,h3,h4,h5,h6⟩
 have I2:Inv X pins σ (upd H1 a (.frz o (.dK kvs))) s1:=I1.freeze trivial hq h1 new;have I3:Inv X pins σ (upd H1 a (.frz o (.dK kvs))) { s1 with heap:=s1.heap.push { cls:= .type "dict_items",data:= .fields #[.ref a] } }:=I2.kept (t':=s1.toks) fun b o e=>Heap.get?_push_of_some _ e;refine wpAny_pyIter_items (knd:=bQ X.prog X.w) (kvs:=vs) (ep:=ep) ⟨_,Heap.get?_push_size _ rfl,rfl,rfl⟩ ⟨o,es,Heap.get?_push_of_some _ h1,h2,h3,h4,h5,h6⟩ ?_;refine⟨_,[_],_,_,upd H1 a (.frz o (.dK kvs)),rfl,I3.kept (t':=s1.toks) fun b o e=>Heap.get?_push_of_some _ e,IO a _ kvs h3,⟨.none,.none,by rw[hL];exact Heap.get?_push_size _ rfl⟩,fun b hb=> ?_,q o⟩;obtain rfl:=List.mem_singleton.mp hb;exact I3.fpOk (Nat.le_refl _) (I3.hok.fresh (Nat.le_refl _))
end
end L2
namespace L2
open PySem PySem.W PyProof.Rows
section
variable {X:Cx}{pins:List (Addr×Obj)}{σ:St}{H:Hp}{s:Shared}{a:Addr}{o:Obj}{u:HO}
theorem Inv.thaw (I:Inv X pins σ H s)(h0:∀o u,X.H₀ a≠some (.frz o u))(e:H a=some (.frz o u)):Inv X pins σ (upd H a u) s:=by
 have nn:∀b,H b=none->b≠a:=fun b n z=>by rw[z,e]at n;cases n
 have no:∀b c,H b=some (.own c)->b≠a:=fun b c n z=>by rw[z,e]at n;cases n
 have nt:∀b xs,H b=some (.tup xs)->b≠a:=fun b c n z=>by rw[z,e]at n;cases n
 refine⟨I.ok,I.os,I.bare,⟨I.base.keep,I.base.slot,fun b ob q n hx=> ?_,I.base.there,fun b xs q=> ?_,fun b ob xs q=> ?_,fun b ps q=> ?_⟩,I.loc,I.cell,?_,fun x c ec=> ?_,fun p hp=> ?_,fun b v q=> ?_,I.len⟩
 ·have z:=I.base.free b ob q n hx;rw[aL (nn b z)];exact z
 ·have z:=I.base.tups b xs q;rw[aL (nt b xs z)];exact z
 ·have z:=I.base.frzs b ob xs q;have hb:b≠a:=fun y=>h0 ob xs (by rw[←y];exact q);rw[aL hb];exact z
 ·obtain⟨more,z⟩:=I.base.tbls b ps q;refine⟨more,?_⟩;rw[aL (fun y=>by rw[y,e]at z;cases z)];exact z
 ·rw[aL (nn _ I.free)];exact I.free
 ·rw[aL (nn _ (I.freeC x c ec))];exact I.freeC x c ec
 ·obtain⟨p1,p2,p3⟩:=I.pin p hp;exact⟨p1,by rw[aL (nn _ p2)];exact p2,p3⟩
 ·have so:∀b c,H b=some (.own c)->upd H a u b=some (.own c):=fun b c z=>by rw[aL (no b c z)];exact z
  have st:∀b xs,H b=some (.tup xs)->upd H a u b=some (.tup xs):=fun b c z=>by rw[aL (nt b c z)];exact z
  by_cases hb:b=a
  ·subst hb;rw[bC]at q;cases q;obtain⟨_,z⟩:=(show ObjOk X.prog X.w H s.heap b (.frz o u) from I.hok b _ e)
   exact z.stay (fun _ _ _ q=>q) (fun c z=>so c b z) st
  ·rw[aL hb]at q;exact(I.hok b v q).stay (fun _ _ _ q=>q) (fun c z=>so c b z) st
theorem Inv.wasFree (I:Inv X pins σ H s)(h:∀o u,H a≠some (.frz o u)):∀o u,X.H₀ a≠some (.frz o u):=fun o u z=>h o u (I.base.frzs a o u z)
end
def gY (a:Addr)(R:Hp->Prop):Hp->Prop:=fun H=>∃o u,H a=some (.frz o u)/\R (upd H a u)
def VG (te:TE):TE:=fun σ H Q=>∃a,(∀o u,H a≠some (.frz o u))/\te σ H fun x=>gY a (Q x)
def VU (ts:TS):TS:=fun D σ H=>∃a,(∀o u,H a≠some (.frz o u))/\ts ⟨fun σ'=>gY a (D.nx σ'),fun v=>gY a (D.rt v),fun σ'=>gY a (D.bk σ'),fun σ'=>gY a (D.ct σ')⟩ σ H
section
variable {X:Cx}
theorem tD {e:Expr}{te:TE} (he:PE X e te):PE X e (VG te):=by
 intro pins s σ H Q I h;obtain⟨a,h0,h⟩:=h;refine thn (he pins s σ H _ I h) fun v s1 ⟨x,H1,I1,r1,o,u,e,q⟩=> ?_;exact⟨x,_,I1.thaw (I.wasFree h0) e,r1,q⟩
theorem WN {st:Stmt}{ts:TS} (he:PS X st ts):PS X st (VU ts):=by
 intro pins s σ H D I h;obtain⟨a,h0,h⟩:=h;refine thn (he pins s σ H _ I h) fun f s1 z=> ?_;cases f with
 | next=>obtain⟨σ1,H1,I1,o,u,e,q⟩:=z;exact⟨σ1,_,I1.thaw (I.wasFree h0) e,q⟩
 | brk=>obtain⟨σ1,H1,I1,o,u,e,q⟩:=z;exact⟨σ1,_,I1.thaw (I.wasFree h0) e,q⟩
 | cont=>obtain⟨σ1,H1,I1,o,u,e,q⟩:=z;exact⟨σ1,_,I1.thaw (I.wasFree h0) e,q⟩
 | ret v=>obtain⟨x,σ1,H1,I1,r,o,u,e,q⟩:=z;exact⟨x,σ1,_,I1.thaw (I.wasFree h0) e,r,q⟩
end
end L2
namespace L2
open PySem PySem.W PyProof.Rows
theorem FI:∀bs:List Bool,((List.range bs.length).any fun i=>bs.getD i false)=bs.any id
 | []=>rfl
 | b::bs=>by
  rw[List.length_cons,List.range_succ_eq_map,List.any_cons,List.any_map,List.any_cons,←FI bs];rfl
theorem zM:∀{ns:List Int}{us:List Value},Vals (ns.map V.int) us->∃xs:List (Int×Tok),us=xs.map (fun p=>Value.int p.1 p.2)/\ns=xs.map (·.1)
 | [],_,.nil=>⟨[],rfl,rfl⟩
 | n::ns,_,.cons r t=>by
  obtain⟨xs,rfl,rfl⟩:=zM t;obtain⟨tk,rfl⟩:=r;exact⟨(n,tk)::xs,rfl,rfl⟩
section
variable {X:Cx}
def Z3 (K:PySem.W.Frag):List V->Hp->VK->Prop:=fun xs H Q=>∃(p:Addr) (bs:List Bool),xs=[.ref p]/\SqL K H p (bs.map V.bl)/\Q (.bl (bs.any id)) H
theorem DK (hc:X.calm=true):c7 X (.builtin "any") (Z3 X.K):=by
 intro pins s σ H xs us Q I r h;obtain⟨p,bs,rfl,hq,q⟩:=h;obtain⟨u,rfl,rx⟩:=iY r;cases rx;obtain⟨its,r',pl,hz⟩:=I.list hq;have hl:=pl.isList;have hlt:p<s.heap.objs.size:=by obtain⟨_,e,_⟩:=hl;exact Heap.lt_size e
 have hlen:bs.length=its.length:=by have:=r'.length;rw[List.length_map]at this;exact this
 refine call_any_walk (wpAny_pyIter_list hl ?_);refine⟨s.heap.objs.size,_,_,its.toArray.size,_,_,fun i=>bs.getD i false,rfl,Walks.list (show X.A.in1.handled=none from I.ok.hd hc) s.heap.objs.size p (Nat.ne_of_lt hlt) its.toArray,⟨⟨_,Heap.get?_push_size _ rfl,rfl,rfl⟩,hl.push _⟩,?_,?_⟩
 ·intro i v s' Q' E' hi hQ;have hi':its[i]? =some v:=by simpa using hi
  have hib:i<bs.length:=by rw[hlen];exact(List.getElem?_eq_some_iff.mp hi').1
  obtain⟨u,hu,ru⟩:=r'.get (i:=i) (x:=V.bl bs[i]) (by rw[List.getElem?_map,List.getElem?_eq_getElem hib];rfl);rw[hi']at hu;cases hu;have:v=Value.bool bs[i]:=ru;subst this;refine wpAny_truthy_bool ?_;have eb:bs.getD i false=bs[i]:=by rw[List.getD_eq_getElem?_getD,List.getElem?_eq_getElem hib];rfl
  have hQ':Q' (bs.getD i false) s':=hQ;rw[eb]at hQ';exact hQ'
 ·intro h' tk hk;have eany:(List.range its.toArray.size).any (fun i=>bs.getD i false)=bs.any id:=by
   rw[List.size_toArray,←hlen];exact FI bs
  rw[eany];refine⟨.bl (bs.any id),H,?_,rfl,q⟩;have I1:Inv X pins σ H { s with heap:=s.heap.push { cls:= .type "list_iterator",data:= .fields #[.ref p,.int 0 0] },toks:=s.toks }:=I.kept fun b u e=>Heap.get?_push_of_some _ e;obtain⟨f0,f1,f2,f3,f4,f5⟩:=I.fpOk (Nat.le_refl _) (I.hok.fresh (Nat.le_refl _));exact I1.turned (fun b o hb e=>hk b o (by simpa using hb) e) f0 f1 f3 f4 f5
def ZW (K:PySem.W.Frag):List V->Hp->VK->Prop:=fun xs H Q=>∃(p:Addr) (ns:List Int),xs=[.ref p]/\SqL K H p (ns.map V.int)/\Q (.int ns.sum) H
theorem vS (hc:X.calm=true):c7 X (.builtin "sum") (ZW X.K):=by
 intro pins s σ H xs us Q I r h;obtain⟨p,ns,rfl,hq,q⟩:=h;obtain⟨u,rfl,rx⟩:=iY r;cases rx;obtain⟨its,r',pl,hz⟩:=I.list hq;obtain⟨zs,rfl,rfl⟩:=zM r';have hl:s.heap.IsList p (intItems zs.toArray):=by
  have:=pl.isList
  simpa [intItems] using this
 refine sum_intListG (I.ok.hd hc) hl fun h' tk t' hk=> ?_;have e2:preSum (numAt zs.toArray) zs.toArray.size=(zs.map (·.1)).sum:=by
  rw[preSum_eq,List.take_of_length_le (by simp)]
 rw[e2];exact⟨.int (zs.map (·.1)).sum,H,I.kept hk,⟨t',rfl⟩,q⟩
end
section
variable {K:PySem.W.Frag}{H:Hp}{Q:VK}
theorem P9 {p:Addr}{bs:List Bool} (e:SqL K H p (bs.map V.bl)) (h:Q (.bl (bs.any id)) H):Z3 K [.ref p] H Q:=⟨p,bs,rfl,e,h⟩
theorem GL {p:Addr}{ns:List Int} (e:SqL K H p (ns.map V.int)) (h:Q (.int ns.sum) H):ZW K [.ref p] H Q:=⟨p,ns,rfl,e,h⟩
end
theorem NZ:bootBuiltins "any" =some (.builtin "any"):=by decide +kernel
theorem HK:bootBuiltins "sum" =some (.builtin "sum"):=by decide +kernel
end L2
namespace L2
open PySem PySem.W PyProof.Rows
theorem V5:typeLookup (.type "list") "keys" =pure none:=by rw[typeLookup_type,builtinLookup_eq_fast];kernel_rfl
theorem W5:typeLookup (.type "list") "__getattr__" =pure none:=by rw[typeLookup_type,builtinLookup_eq_fast];kernel_rfl
theorem G0:isSubtype (.type "AttributeError") (.type "AttributeError")=pure true:=by rw[isSubtype_type];kernel_rfl
theorem Q3:((Manifest.find? "AttributeError").elim false fun t=>t.mro.contains "StopIteration" ||t.mro.contains "SystemExit")=false:=by decide +kernel
section
variable {prog:Program}{w:World}{A:Around}{E:Value->Shared->Prop}{s:Shared}
theorem UQ {α:Type}{v:Value}{a:Addr}{Q:α->Shared->Prop} (hh:A.handled=none)
  (k:∀e h' tk' o,h'.get? e=some o->o.cls= .type "AttributeError" ->(∀b o,s.heap.get? b=some o->h'.get? b=some o)->E (.ref e) { s with heap:=h',toks:=tk' }) :
  wpAny (model prog w) A (do
   let e ←newExc (.type "AttributeError") [v];let l ←mkText "keys"
   noteAttr e (.ref a) l
   raiseNew e) Q E s:=by
 unfold newExc newTuple;refine wpAny_bind (wpAny_bind (wpAny_newObj_type (wpAny_bind (m:=firstArgMember _ _) (wpAny_of_eq (a:=Value.none) (by simp only[firstArgMember,Q3];rfl) (wpAny_newObj_type ?_ (by size_fits)))) (by size_fits)));refine wpAny_bind (wpAny_mkText ?_);refine wpAny_bind ?_;unfold noteAttr;refine wpAny_bind ?_;unfold lacksNameAndObj;have e1:(#[Value.ref s.heap.objs.size,.none,.none,.none,.bool false,.none]++ownMembersOf (.type "AttributeError") [v]:Array Value)= #[Value.ref s.heap.objs.size,.none,.none,.none,.bool false,.none,unsetMember,unsetMember]:=rfl;rw[e1];generalize hs:s.heap.push { cls:=Value.type "tuple",data:=Data.seq #[v] }=h1;have ho:(h1.push { cls:= .type "AttributeError",data:= .fields #[Value.ref s.heap.objs.size,.none,.none,.none,.bool false,.none,unsetMember,unsetMember] }).get? h1.objs.size=some { cls:= .type "AttributeError",data:= .fields #[Value.ref s.heap.objs.size,.none,.none,.none,.bool false,.none,unsetMember,unsetMember] }:=Heap.get?_push_size _ rfl;refine wpAny_bind (wpAny_isInstance (b:=true) (T:= "AttributeError") ⟨_,ho,rfl⟩ G0 ?_);refine wpAny_bind (wpAny_load ho ?_);refine wpAny_pure ?_;refine wpAny_bind (wpAny_rule ?_);refine wpAny_bind (wpAny_typeOf (T:= "AttributeError") ⟨_,ho,rfl⟩ ?_);unfold layMembers;refine wpAny_bind (wpAny_load ho ?_);refine wpAny_update ho ?_;simp only[raiseNew];refine wpAny_bind (wpAny_handled ?_);rw[hh];refine wpAny_bind (wpAny_pure (wpAny_throw ?_));refine k h1.objs.size _ _ _ (Heap.get?_update_self _ ho (Obj.isFreed_of_fields (Obj.data_mapFields rfl _))) (Obj.cls_mapFields ..) fun b o e=> ?_;have hb:b≠h1.objs.size:=fun z=>by
  have h2:h1.objs.size=s.heap.objs.size+1:=by rw[←hs];simp[Heap.push]
  have h3:=Heap.lt_size e;rw[z,h2]at h3;exact absurd h3 (Nat.not_lt.mpr (Nat.le_succ _))
 exact(Heap.get?_update_other _ _ (Ne.symm hb)).trans (Heap.get?_push_of_some _ (by rw[←hs];exact Heap.get?_push_of_some _ e))
theorem LB {a:Addr}{its:Array Value}{n:Nat}{tk:Tok}{Q:Fin->Shared->Prop} (hh:A.handled=none) (hx:s.heap.get? a=some { cls:= .type "list",data:= .seq its n })
  (k:∀e h' tk' o,h'.get? e=some o->o.cls= .type "AttributeError" ->(∀b o,s.heap.get? b=some o->h'.get? b=some o)->E (.ref e) { s with heap:=h',toks:=tk' }) :
  wpAny (model prog w) A (Builtin.«object.__getattribute__» ⟨[.ref a,.str "keys" tk],[]⟩) Q E s:=by
 obtain⟨h,g,d,t,os⟩:=s;have hT:(⟨h,g,d,t,os⟩:Shared).TypeIs (.ref a) "list" :=⟨_,hx,rfl⟩
 have f4:=V5
 repeat (any_goals (first|assumption|wp_step))
 refine wpAny_bind (wpAny_mkStr ?_ (by rw[sizeLine_eq];decide +kernel));exact UQ hh fun e h' tk' o e1 e2 e3=>k e h' tk' o e1 e2 e3
theorem QA {a:Addr}{its:Array Value}{n:Nat}{tk:Tok}{R:Result->Shared->Prop} (hh:A.handled=none) (hx:s.heap.get? a=some { cls:= .type "list",data:= .seq its n })
  (k:∀e h' tk' o,h'.get? e=some o->o.cls= .type "AttributeError" ->(∀b o,s.heap.get? b=some o->h'.get? b=some o)->R (.error (.ref e)) { s with heap:=h',toks:=tk' }) :
  codeAny (model prog w) A (.call (.builtin "list.__getattribute__") ⟨[.ref a,.str "keys" tk],[]⟩) R s:=by
 obtain⟨h,g,d,t,os⟩:=s;exact codeAny_call_builtin F.slot_list_getattribute.plain F.entry_list_ga (F.slot_list_getattribute.check _ _ _ _ _ _ _ _ (show (⟨h,g,d,t,os⟩:Shared).TypeIs (.ref a) "list" from⟨_,hx,rfl⟩) (F.args_list_getattribute_2 _ _) (LB hh hx k))
theorem WB {a:Addr}{its:Array Value}{n:Nat}{Q:Option Value->Shared->Prop} (hh:A.handled=none) (hx:s.heap.get? a=some { cls:= .type "list",data:= .seq its n })
  (k:∀h' tk',(∀b o,s.heap.get? b=some o->h'.get? b=some o)->Q none { s with heap:=h',toks:=tk' }):wpAny (model prog w) A (getAttr? (.ref a) "keys") Q E s:=by
 obtain⟨h,g,d,t,os⟩:=s;have hT:(⟨h,g,d,t,os⟩:Shared).TypeIs (.ref a) "list" :=⟨_,hx,rfl⟩
 have f2:=F.slot_list_getattribute.lookup;have f3:=F.slot_list_getattribute.bind (.ref a);unfold getAttr? getAttrBy?
 repeat (any_goals (first|assumption|wp_step))
 refine QA hh hx fun e h' tk' o e1 e2 e3=> ?_;have hE:(⟨h',g,d,tk',os⟩:Shared).TypeIs (.ref e) "AttributeError" :=⟨_,e1,e2⟩
 show wpAny (model prog w) A (getattributeRaised (Value.ref a) (Value.str (Str.ofString "keys") t) (.type "list") (.ref e) none false false) _ _ (⟨h',g,d,tk',os⟩:Shared);unfold getattributeRaised;refine wpAny_bind (wpAny_isInstance (b:=true) hE G0 ?_);show wpAny (model prog w) A (typeLookup (.type "list") "__getattr__" >>= fun x=>hookOrError (Value.ref a) (Value.str (Str.ofString "keys") t) (.ref e) false false x) _ _ (⟨h',g,d,tk',os⟩:Shared);rw[W5];refine wpAny_bind (wpAny_pure ?_);refine wpAny_throw ?_;refine wpAny_bind (wpAny_isInstance (b:=true) hE G0 ?_);exact wpAny_pure (k h' tk' e3)
end
end L2
namespace L2
open PySem PySem.W PyProof.Rows
theorem sR:entryFor table "dict.update.loop" =some Builtin.«dict.update.loop»:=entryFor_of_tree (by kernel_rfl)
theorem g8:plainId "dict.update.loop" =true:=by decide +kernel
def O0 {κ:Type}[DecidableEq κ](kvs ps:List (κ×Value)):List (κ×Value):=ps.foldl (fun acc p=>stored acc p.1 p.2) kvs
theorem LM {κ:Type}[DecidableEq κ](kvs:List (κ×Value))(k:κ)(v:Value):(stored kvs k v).length<=kvs.length+1:=by
 unfold stored
 split
 ·rw[List.length_map];exact Nat.le_succ _
 ·rw[List.length_append];exact Nat.le_refl _
section
variable {prog:Program}{w:World}{A:Around}{E:Value->Shared->Prop}{κ:Type} [DecidableEq κ] {knd:KeyKind prog w κ}{I d:Addr}{fp wr:List Addr}{n:Nat}{P:Nat->Value->Prop}{St:Nat->Heap->Prop}{R:Result->Shared->Prop}
def aCf (knd:KeyKind prog w κ)(d:Addr)(wr:List Addr)(P:Nat->Value->Prop)(ps:List (κ×Value))(h:Heap):Prop :=
 ∀i v,P i v->∃(q:Addr) (o:Obj) (key:Value) (k:κ) (u:Value) (c:Nat),v= .ref q/\q∉wr/\q≠d/\h.get? q=some o/\o.cls= .type "tuple" /\o.data= .seq #[key,u] c/\knd.is k key=true/\ps[i]? =some (k,u)
theorem TV (W:Walks prog w A.in1 I fp wr n P St)(hdf:d∉fp)(ps:List (κ×Value))(hn:ps.length=n)(hsz:n<=sizeLine) :
  ∀(k i:Nat) (s:Shared) (kvs:List (κ×Value)),n - i=k->i<=n->St i s.heap->kvs.length<=i->s.heap.DictOf knd d kvs->aCf knd d wr P ps s.heap →
  (∀h' tk,h'.DictOf knd d (O0 kvs (ps.drop i))->(∀b o,b∉wr->b≠d->s.heap.get? b=some o->h'.get? b=some o)->R (.ok (.ret .none)) { s with heap:=h',toks:=tk }) →
  codeAny (model prog w) A (.builtin "dict.update.loop" ⟨[.ref d,.ref I,rawInt i,.none],[]⟩) R s:=by
 have hdw:d∉wr:=fun h=>hdf (W.sub _ h);intro k
 induction k with
 | zero =>
  intro i s kvs hk hi hst hl hd hrow hR;have hin:i=n:=by lia
  subst hin;refine codeAny_builtin sR ?_;rw[Around.under_plainId g8 _];show wpAny _ A.in1 (pyNext (.ref I) >>= _) _ _ s;refine wpAny_bind (W.done s _ _ hst fun h' tk hk'=> ?_);show wpAny _ _ (Builtin.Dict.addKeywords d [] >>= _) _ _ _;refine wpAny_bind (wpAny_pure (wpAny_pure (hR h' tk ?_ fun b o hb _ e=>hk' b o hb e)));rw[List.drop_of_length_le (by lia)];exact hd.at fun o e=>hk' d o hdw e
 | succ k ih =>
  intro i s kvs hk hi hst hl hd hrow hR;have hlt:i<n:=by lia
  refine codeAny_builtin sR ?_;rw[Around.under_plainId g8 _];show wpAny _ A.in1 (pyNext (.ref I) >>= _) _ _ s;refine wpAny_bind (W.item i s _ _ hlt hst fun v h' tk hP hst' hk'=> ?_);obtain⟨q,o,key,kk,u,c,rfl,hqw,hqd,ho,hc,hdt,his,hps⟩:=hrow i v hP;have ho':=hk' q o hqw ho;refine wpAny_bind (wpAny_holding (wpAny_bind (wpAny_tryCatch ?_)));unfold Builtin.Dict.pairItems;refine wpAny_bind (wpAny_typeOf (T:= "tuple") ⟨o,ho',hc⟩ ?_);rw[if_pos (by rfl)];refine wpAny_bind (wpAny_seqItems ho' hdt (wpAny_pure ?_));have hd':h'.DictOf knd d kvs:=hd.at fun o e=>hk' d o hdw e;refine wpAny_holding (wpAny_dictSet_pairs his hd' (fun h2 hd2 sb=> ?_) (by lia));have keep:∀b o,b∉wr->b≠d->s.heap.get? b=some o->h2.get? b=some o:=fun b o hb hbd e=>(sb.2 b hbd).trans (hk' b o hb e);refine wpAny_pure ⟨plainId_quiet g8 _,ih (i+1) _ (stored kvs kk u) (by lia) hlt (W.frame _ _ _ hst' fun b hb o e=>(sb.2 b (fun z=>hdf (z▸hb))).trans e) (Nat.le_trans (LM ..) (by lia)) hd2 (fun j v hj=> ?_) fun h3 tk3 hd3 hk3=> ?_⟩
  ·obtain⟨q,o,key,kk,u,c,e1,e2,e3,e4,e5⟩:=hrow j v hj;exact⟨q,o,key,kk,u,c,e1,e2,e3,keep q o e2 e3 e4,e5⟩
  ·refine hR h3 tk3 ?_ fun b o hb hbd e=>hk3 b o hb hbd (keep b o hb hbd e);have ed:ps.drop i=(kk,u)::ps.drop (i+1):=by
    have hi2:i<ps.length:=by lia
    rw[List.drop_eq_getElem_cons hi2];have:=(List.getElem?_eq_some_iff.mp hps).2;rw[this]
   rw[ed];exact hd3
end
end L2
namespace L2
open PySem PySem.W PyProof.Rows
section
variable {prog:Program}{w:World}{A:Around}{E:Value->Shared->Prop}{κ:Type} [DecidableEq κ] {knd:KeyKind prog w κ}{s:Shared}{l:Addr}{its:Array Value}{c:Nat}
theorem NJ {ps:List (κ×Value)}{Q:Value->Shared->Prop} (hh:A.handled=none) (hl:s.heap.get? l=some { cls:= .type "list",data:= .seq its c }) (hsz:its.size<=sizeLine) (hlen:ps.length=its.size)
  (hrow:∀(i:Nat) (v:Value),its[i]? =some v->∃(q:Addr) (o:Obj) (key:Value) (k:κ) (u:Value) (c:Nat),v= .ref q/\s.heap.get? q=some o/\o.cls= .type "tuple" /\o.data= .seq #[key,u] c/\knd.is k key=true/\ps[i]? =some (k,u))
  (h:∀h' tk,h'.DictOf knd s.heap.objs.size (O0 [] ps)->(∀b o,s.heap.get? b=some o->h'.get? b=some o)->Q (.ref s.heap.objs.size) { s with heap:=h',toks:=tk }) :
  wpAny (model prog w) A (call (.type "dict") [.ref l]) Q E s:=by
 refine callType_codes (Q₁:=fun obj s₁=>obj= .ref s.heap.objs.size/\s₁={ s with heap:=s.heap.push { cls:= .type "dict",data:= .dict #[] } }) F.kt_called_dict (F.kt_typeCall_dict_1 _) F.entry_dict_init (kt_code_dict_new _ ⟨rfl,rfl⟩) ?_;rintro obj s₁ ⟨rfl,rfl⟩;have hnew:(s.heap.push { cls:= .type "dict",data:= .dict #[] }).DictOf knd s.heap.objs.size []:=Heap.DictOf.new s.heap;have hl':(s.heap.push { cls:= .type "dict",data:= .dict #[] }).get? l=some { cls:= .type "list",data:= .seq its c }:=Heap.get?_push_of_some _ hl;refine⟨hnew.typeIs,F.args_dict_init_2 _ _,?_⟩;unfold Builtin.«dict.__init__»;refine wpAny_bind ?_;unfold Builtin.Dict.selfAndRest;refine wpAny_bind (wpAny_notOrdered_dict hnew.typeIs ?_);show wpAny _ _ (pure (s.heap.objs.size,[Value.ref l])) _ _ _;refine wpAny_pure ?_;show wpAny _ _ (Builtin.Dict.updateFrom "dict.__init__" s.heap.objs.size (.ref l) [] .none) _ _ _;unfold Builtin.Dict.updateFrom;refine wpAny_bind (wpAny_typeOf (T:= "list") ⟨_,hl',rfl⟩ ?_);rw[if_pos (by decide)];refine wpAny_bind (WB hh hl' fun h1 t1 kp1=> ?_);rw[if_pos (show (none:Option Value).isNone=true from rfl)];refine wpAny_bind (wpAny_rule ?_);have hl1:=kp1 _ _ hl';have isl:h1.IsList l its:=⟨_,hl1,rfl,_,rfl⟩
 have lt1:∀b o,s.heap.get? b=some o->b≠h1.objs.size:=fun b o e z=>by
  have:=Heap.lt_size (kp1 b o (Heap.get?_push_of_some _ e));rw[z]at this;exact Nat.lt_irrefl _ this
 have hdI:s.heap.objs.size≠h1.objs.size:=fun z=>by
  have:=Heap.lt_size (kp1 _ _ (Heap.get?_push_size s.heap (o:={ cls:= .type "dict",data:= .dict #[] }) rfl));rw[z]at this;exact Nat.lt_irrefl _ this
 have hdl:∀b o,s.heap.get? b=some o->b≠s.heap.objs.size:=fun b o e z=>by
  have:=Heap.lt_size e;rw[z]at this;exact Nat.lt_irrefl _ this
 refine wpAny_bind (wpAny_pyIter_list isl ?_);refine wpAny_pure ⟨plainId_quiet g8 _,?_⟩;have W:=Walks.list (prog:=prog) (w:=w) (A:=A.in1.in1) hh h1.objs.size l (lt1 _ _ hl) its;refine TV (knd:=knd) W (by simp only[List.mem_cons,List.not_mem_nil,or_false,not_or];exact⟨hdI,Ne.symm (hdl _ _ hl)⟩) ps hlen hsz its.size 0 _ [] (Nat.sub_zero _) (Nat.zero_le _) ⟨⟨_,Heap.get?_push_size _ rfl,rfl,rfl⟩,isl.push _⟩ (Nat.le_refl _) ((hnew.at fun o e=>kp1 _ o e).push _) (fun i v hi=> ?_) fun h' tk hd hk=> ?_
 ·obtain⟨q,o,key,k,u,c',e1,e2,e3,e4,e5,e6⟩:=hrow i v hi;refine⟨q,o,key,k,u,c',e1,?_,hdl _ _ e2,Heap.get?_push_of_some _ (kp1 _ _ (Heap.get?_push_of_some _ e2)),e3,e4,e5,e6⟩;simp only[List.mem_cons,List.not_mem_nil,or_false];exact lt1 _ _ e2
 ·refine⟨rfl,h h' tk hd fun b o e=>hk b o ?_ (hdl _ _ e) (Heap.get?_push_of_some _ (kp1 _ _ (Heap.get?_push_of_some _ e)))⟩;simp only[List.mem_cons,List.not_mem_nil,or_false];exact lt1 _ _ e
end
end L2
namespace L2
open PySem PySem.W PyProof.Rows
abbrev wQ (H:Hp):List V->List (Key×V)->Prop:=Paired fun v p=>∃q,v= .ref q/\H q=some (.tup [kV p.1,p.2])
section
variable {X:Cx}{pins:List (Addr×Obj)}{σ:St}{H:Hp}{s:Shared}
theorem RB (I:Inv X pins σ H s){q:Addr}{k:Key}{x:V} (e:H q=some (.tup [kV k,x])):∃(o:Obj) (key u:Value) (n:Nat),s.heap.get? q=some o/\o.cls= .type "tuple" /\o.data= .seq #[key,u] n/\(bQ X.prog X.w).is k key=true/\RelV x u:=by
 obtain⟨_,us,r,o,h1,h2,n,h3⟩:=(show ObjOk X.prog X.w H s.heap q (.tup [kV k,x]) from I.hok q _ e)
 cases r with
 | @cons _ key _ _ r1 r =>
  cases r with
  | @cons _ u _ _ r2 r =>
   cases r;exact⟨o,key,u,n,h1,h2,h3,tT r1,r2⟩
theorem AR (I:Inv X pins σ H s):∀{vs:List V}{ps:List (Key×V)}{us:List Value},wQ H vs ps->Vals vs us →
  ∃rs:List (Key×Value),KV ps rs/\rs.length=us.length/\∀(i:Nat) (v:Value),us[i]? =some v->∃(q:Addr) (o:Obj) (key:Value) (k:Key) (u:Value) (c:Nat),v= .ref q/\s.heap.get? q=some o/\o.cls= .type "tuple" /\o.data= .seq #[key,u] c/\(bQ X.prog X.w).is k key=true/\rs[i]? =some (k,u)
 | _,_,_,.nil,.nil=>⟨[],.nil,rfl,fun i v z=>by simp at z⟩
 | _::_,(k,x)::_,_::us,.cons ⟨q,e,hq⟩ t,.cons r rt=>by
  obtain⟨rs,h1,h2,h3⟩:=AR I t rt;obtain⟨o,key,u,n,o1,o2,o3,o4,o5⟩:=RB I hq;subst e;cases r;refine⟨(k,u)::rs,.cons ⟨rfl,o5⟩ h1,by simp[h2],fun i v z=> ?_⟩;cases i with
  | zero=>cases z;exact⟨q,o,key,k,u,n,rfl,o1,o2,o3,o4,rfl⟩
  | succ i =>
   obtain⟨q,o,key,k,u,c,w1⟩:=h3 i v (by simpa using z);exact⟨q,o,key,k,u,c,by simpa using w1⟩
def N9:List V->Hp->VK->Prop:=fun xs H Q=>∃p vs ps,xs=[.ref p]/\Rd H p (.lst vs)/\wQ H vs ps/\∀l,H l=none->Q (.ref l) (upd H l (.dK (iX [] ps)))
theorem zU (hc:X.calm=true):c7 X (.type "dict") N9:=by
 intro pins s σ H xs us Q I r h;obtain⟨p,vs,ps,rfl,hq,pr,q⟩:=h;obtain⟨u,rfl,rx⟩:=iY r;cases rx;obtain⟨z,its,n,rv,e⟩:=(show ObjOk X.prog X.w H s.heap p (.lst vs) from hq.ok I.hok)
 obtain⟨rs,h1,h2,h3⟩:=AR I pr rv;have hl:=rv.length;have hlp:=h1.length;refine NJ (knd:=bQ X.prog X.w) (ps:=rs) (I.ok.hd hc) e (by rw[List.size_toArray];lia) (by rw[List.size_toArray];exact h2) (fun i v hv=>h3 i v (by simpa using hv)) fun h' tk hd kp=> ?_;have lm:(iX [] ps).length<=sizeLine:=Nat.le_trans (uV ps []) (by simp;lia);have nm:(s.heap.objs.size==sysModules)=false:=by
  have:=I.big;simp only[beq_eq_false_iff_ne];exact fun z=>by rw[z]at this;exact Nat.lt_irrefl _ this
 exact⟨.ref _,_,I.laid (t':=tk) kp (Nat.le_refl _) (O1 lm nm (KV.merge h1 .nil) hd),rfl,q _ (I.hok.fresh (Nat.le_refl _))⟩
end
end L2
namespace L2
open PySem PySem.W PyProof.Rows
section
variable {prog:Program}{w:World}{A:Around}{E:Value->Shared->Prop}{s:Shared}{d it:Addr}{o:Obj}{es:Array DictEntry}{ep i:Nat}{k0 v0:Value}
end
end L2
namespace L2
open PySem PySem.W PyProof.Rows
section
variable {prog:Program}{w:World}{A:Around}{E:Value->Shared->Prop}{s:Shared}{d it:Addr}{o:Obj}{es:Array DictEntry}{ep i:Nat}
end
section
variable {X:Cx}
end
end L2
namespace L2
open PySem PySem.W PyProof.Rows
section
variable (r:Nat->Int)
def rk (p:Array Nat)(i:Nat):Int:=r (p.getD i 0)
def Asc (p:Array Nat)(m:Nat):Prop:=∀i j,i<=j->j<m->rk r p i<=rk r p j
def cR (i j:Nat):Bool:=decide (r i<r j)
variable {r}{p:Array Nat}
theorem oQ {p q:Array Nat}{i j:Nat} (h:p[i]? =q[j]?):rk r p i=rk r q j:=by
 unfold rk;rw[Array.getD_eq_getD_getElem?,Array.getD_eq_getD_getElem?,h]
theorem DD {src d:Nat}(hs:src<p.size)(hd:d<=src)(k:Nat):rk r (bubble p src d) k=if k=src - d then rk r p src else if src - d<k/\k<=src then rk r p (k - 1) else rk r p k:=by
 have e:=getElem?_bubble hs d hd k
 split
 ·rename_i h;rw[if_pos h]at e;exact oQ e
 ·rename_i h;rw[if_neg h]at e
  split
  ·rename_i h2;rw[if_pos h2]at e;exact oQ e
  ·rename_i h2;rw[if_neg h2]at e;exact oQ e
theorem lA {α β:Type}(c:Nat->Nat->Bool)(f:α->KasT β):∀t:KasT α,aZ c (t.bind f)=aZ c (f (aZ c t))
 | .ret _=>rfl
 | .ask i j k=>lA c f (k (c i j))
theorem yM {k:Nat}(hk:Asc r p k):∀(f a b:Nat),a<=b->b<=k->b - a<=f->(∀i,i<a->rk r p i<=rk r p k)->(∀i,b<=i->i<k->rk r p k<rk r p i) →
  aZ (cR r) (kas_place p k f a b)<=k/\(∀i,i<aZ (cR r) (kas_place p k f a b)->rk r p i<=rk r p k)/\∀i,aZ (cR r) (kas_place p k f a b)<=i->i<k->rk r p k<rk r p i
 | 0,a,b,h1,h2,h3,h4,h5=>by
  have e:aZ (cR r) (kas_place p k 0 a b)=a:=rfl;rw[e];exact⟨by lia,h4,fun i hi=>h5 i (by lia)⟩
 | f+1,a,b,h1,h2,h3,h4,h5=>by
  unfold kas_place
  by_cases hab:a≥b
  ·rw[if_pos hab];show a<=k/\(∀i,i<a->_)/\∀i,a<=i->i<k->_;exact⟨by lia,h4,fun i hi=>h5 i (by lia)⟩
  ·rw[if_neg hab];have ea:aZ (cR r) (KasT.ask (p.getD k 0) (p.getD ((a+b)/2) 0) fun c=>if c=true then kas_place p k f a ((a+b)/2) else kas_place p k f ((a+b)/2+1) b) =
    aZ (cR r) (if cR r (p.getD k 0) (p.getD ((a+b)/2) 0)=true then kas_place p k f a ((a+b)/2) else kas_place p k f ((a+b)/2+1) b):=rfl
   rw[ea]
   by_cases hc:cR r (p.getD k 0) (p.getD ((a+b)/2) 0)=true
   ·rw[if_pos hc];have hc':rk r p k<rk r p ((a+b)/2):=of_decide_eq_true hc;refine yM hk f a ((a+b)/2) (by lia) (by lia) (by lia) h4 fun i hi hik=> ?_;have:=hk ((a+b)/2) i hi hik
    lia
   ·rw[if_neg hc];have hc':¬rk r p k<rk r p ((a+b)/2):=fun z=>hc (decide_eq_true z);refine yM hk f ((a+b)/2+1) b (by lia) h2 (by lia) (fun i hi=> ?_) h5;have:=hk i ((a+b)/2) (by lia) (by lia)
    lia
theorem K4 {k l:Nat}(hs:k<p.size)(hk:Asc r p k)(hl:l<=k)(h1:∀i,i<l->rk r p i<=rk r p k)(h2:∀i,l<=i->i<k->rk r p k<rk r p i):Asc r (bubble p k (k - l)) (k+1):=by
 intro i j hij hj;rw[DD hs (by lia),DD hs (by lia),show k - (k - l)=l by lia]
 by_cases e1:i=l
 ·rw[if_pos e1]
  by_cases e2:j=l
  ·rw[if_pos e2];exact Int.le_refl _
  ·rw[if_neg e2];rw[if_pos (by lia)];have:=h2 (j - 1) (by lia) (by lia)
   lia
 ·rw[if_neg e1]
  by_cases e2:j=l
  ·rw[if_pos e2,if_neg (by lia)];exact h1 i (by lia)
  ·rw[if_neg e2]
   by_cases e3:l<i
   ·rw[if_pos (by lia),if_pos (by lia)];exact hk (i - 1) (j - 1) (by lia) (by lia)
   ·rw[if_neg (by lia)]
    by_cases e4:l<j
    ·rw[if_pos (by lia)];exact hk i (j - 1) (by lia) (by lia)
    ·rw[if_neg (by lia)];exact hk i j hij (by lia)
theorem N2 {n:Nat}:∀(f:Nat) {p:Array Nat} (k:Nat),p.size=n->k+f=n->Asc r p k->Asc r (aZ (cR r) (kas_bin f p k)) n
 | 0,p,k,hs,hk,h=>by
  have e:k=n:=by lia
  rw[←e];exact h
 | f+1,p,k,hs,hk,h=>by
  unfold kas_bin;rw[lA];obtain⟨h1,h2,h3⟩:=yM h k 0 k (Nat.zero_le _) (Nat.le_refl _) (by lia) (fun i hi=>by lia) (fun i h1 h2=>by lia);exact N2 f (k+1) ((bubble_size _ _ _).trans hs) (by lia) (K4 (by lia) h h1 h2 h3)
theorem GY:∀(f k:Nat),1<=k->Asc r p k->k<=aZ (cR r) (kas_asc p f k)/\aZ (cR r) (kas_asc p f k)<=k+f/\Asc r p (aZ (cR r) (kas_asc p f k))/\(aZ (cR r) (kas_asc p f k)<k+f->rk r p (aZ (cR r) (kas_asc p f k))<rk r p (aZ (cR r) (kas_asc p f k) - 1))
 | 0,k,h0,h=>by
  show k<=k/\k<=k+0/\Asc r p k/\(k<k+0->_);exact⟨Nat.le_refl _,Nat.le_refl _,h,fun z=>by lia⟩
 | f+1,k,h0,h=>by
  unfold kas_asc;have ea:aZ (cR r) (KasT.ask (p.getD k 0) (p.getD (k - 1) 0) fun c=>if c=true then .ret k else kas_asc p f (k+1))=aZ (cR r) (if cR r (p.getD k 0) (p.getD (k - 1) 0)=true then .ret k else kas_asc p f (k+1)):=rfl;rw[ea]
  by_cases hc:cR r (p.getD k 0) (p.getD (k - 1) 0)=true
  ·rw[if_pos hc];show k<=k/\k<=k+(f+1)/\Asc r p k/\(k<k+(f+1)->rk r p k<rk r p (k - 1));exact⟨Nat.le_refl _,by lia,h,fun _=>of_decide_eq_true hc⟩
  ·rw[if_neg hc];have hc':¬rk r p k<rk r p (k - 1):=fun z=>hc (decide_eq_true z);have h':Asc r p (k+1):=fun i j hij hj=>by
    by_cases e:j=k
    ·subst e
     by_cases e2:i=j
     ·subst e2;exact Int.le_refl _
     ·have:=h i (j - 1) (by lia) (by lia)
      lia
    ·exact h i j hij (by lia)
   obtain⟨a1,a2,a3,a4⟩:=GY f (k+1) (by lia) h';exact⟨by lia,by lia,a3,fun z=>a4 (by lia)⟩
end
end L2
namespace L2
open PySem PySem.W PyProof.Rows
section
variable {r:Nat->Int}{p:Array Nat}
def Dif (r:Nat->Int)(p:Array Nat):Prop:=∀i j,i<p.size->j<p.size->rk r p i=rk r p j->i=j
def Dsc (r:Nat->Int)(p:Array Nat)(m:Nat):Prop:=∀i j,i<j->j<m->rk r p j<rk r p i
theorem OF {m:Nat}(hm:m<=p.size)(k:Nat):rk r (kas_rev p 0 m) k=if k<m then rk r p (m - 1 - k) else rk r p k:=by
 have e:=getElem?_mirror_all (i:=0) hm k
 split
 ·rename_i h;rw[if_pos ⟨Nat.zero_le _,h⟩,Nat.zero_add]at e;exact oQ e
 ·rename_i h;rw[if_neg (by lia)]at e;exact oQ e
theorem KZ (hd:Dif r p):∀(f k:Nat),1<=k->k+f<=p.size->Dsc r p k->∃m,aZ (cR r) (kas_desc f p k 0)=(p,m,0)/\k<=m/\m<=k+f/\Dsc r p m
 | 0,k,h0,h1,h=>⟨k,rfl,Nat.le_refl _,Nat.le_refl _,h⟩
 | f+1,k,h0,h1,h=>by
  unfold kas_desc
  by_cases hc:cR r (p.getD k 0) (p.getD (k - 1) 0)=true
  ·have hc':rk r p k<rk r p (k - 1):=of_decide_eq_true hc;have h':Dsc r p (k+1):=fun i j hij hj=>by
    by_cases e:j=k
    ·subst e
     by_cases e2:i=j - 1
     ·subst e2;exact hc'
     ·have:=h i (j - 1) (by lia) (by lia)
      lia
    ·exact h i j hij (by lia)
   obtain⟨m,e,a1,a2,a3⟩:=KZ hd f (k+1) (by lia) (by lia) h';refine⟨m,?_,by lia,by lia,a3⟩;rw[←e];show aZ (cR r) (if cR r (p.getD k 0) (p.getD (k - 1) 0)=true then _ else _)=_;rw[if_pos hc];rfl
  ·have hc':¬rk r p k<rk r p (k - 1):=fun z=>hc (decide_eq_true z);have hn:rk r p (k - 1)<rk r p k:=by
    have h2:rk r p (k - 1)≠rk r p k:=fun z=>by
     have:=hd (k - 1) k (by lia) (by lia) z
     lia
    lia
   refine⟨k,?_,Nat.le_refl _,by lia,h⟩;show aZ (cR r) (if cR r (p.getD k 0) (p.getD (k - 1) 0)=true then _ else _)=_;rw[if_neg hc];show aZ (cR r) (if cR r (p.getD (k - 1) 0) (p.getD k 0)=true then _ else _)=_;rw[if_pos (show cR r (p.getD (k - 1) 0) (p.getD k 0)=true from decide_eq_true hn)];rfl
theorem RC {m n:Nat}(h1:1<=m)(hm:m<=n)(hs:p.size=n)(h:Dsc r p m):∃a q,aZ (cR r) (kas_tail3 m n p)=(a,q)/\a<=n/\q.size=n/\Asc r q a:=by
 have hasc:Asc r (kas_rev p 0 m) m:=fun i j hij hj=>by
  rw[OF (by lia),OF (by lia),if_pos (by lia),if_pos hj]
  by_cases e:i=j
  ·subst e;exact Int.le_refl _
  ·exact Int.le_of_lt (h (m - 1 - j) (m - 1 - i) (by lia) (by lia))
 obtain⟨a1,a2,a3,_⟩:=GY (n - m) m h1 hasc;refine⟨_,kas_rev p 0 m,by unfold kas_tail3;rw[lA];rfl,by lia,(mirror_size _ _ _ _).trans hs,a3⟩
theorem TF {n:Nat}(hn:1<=n)(hs:p.size=n)(hd:Dif r p):∃a q,aZ (cR r) (kas_count n p)=(a,q)/\a<=n/\q.size=n/\Asc r q a:=by
 have h0:Asc r p 1:=fun i j hij hj=>by
  have:i=j:=by lia
  subst this;exact Int.le_refl _
 obtain⟨a1,a2,a3,a4⟩:=GY (n - 1) 1 (Nat.le_refl _) h0;unfold kas_count;rw[lA];generalize aZ (cR r) (kas_asc p (n - 1) 1)=k at a1 a2 a3 a4 ⊢
 by_cases e1:k=n
 ·rw[if_pos (by rw[e1];exact beq_self_eq_true _)];exact⟨k,p,rfl,by lia,hs,a3⟩
 ·rw[if_neg (by rw[beq_iff_eq];exact e1)]
  by_cases e2:k>1
  ·rw[if_pos e2];have hlt:rk r p 0<rk r p (k - 1):=by
    have h2:=a3 0 (k - 1) (Nat.zero_le _) (by lia);have h3:rk r p 0≠rk r p (k - 1):=fun z=>by
     have:=hd 0 (k - 1) (by lia) (by lia) z
     lia
    lia
   refine⟨k,p,?_,by lia,hs,a3⟩;show aZ (cR r) (if cR r (p.getD 0 0) (p.getD (k - 1) 0)=true then _ else _)=_;rw[if_pos (show cR r (p.getD 0 0) (p.getD (k - 1) 0)=true from decide_eq_true hlt)];rfl
  ·rw[if_neg e2];have ek:k=1:=by lia
   subst ek;have h10:rk r p 1<rk r p 0:=a4 (by lia);unfold kas_descPart;rw[lA];obtain⟨m,e,b1,b2,b3⟩:=KZ hd (n - (1+1)) (1+1) (by lia) (by lia) (fun i j hij hj=>by
    have:i=0/\j=1:=by lia
    rw[this.1,this.2];exact h10)
   rw[e];have hmn:m<=n:=by
    have:2<=n:=by lia
    lia
   exact RC (p:=p) (m:=m) (n:=n) (by lia) hmn hs b3
theorem RA {n:Nat}(hn:1<=n)(hr:∀i j,i<n->j<n->r i=r j->i=j):Asc r (aZ (cR r) (kas_sort n)) n:=by
 unfold kas_sort;rw[lA];have hs:(List.range n).toArray.size=n:=by simp
 have eg:∀i,i<n->(List.range n).toArray.getD i 0=i:=fun i hi=>by simp[Array.getD,hi]
 obtain⟨a,q,e,h1,h2,h3⟩:=TF (r:=r) hn hs (fun i j hi hj z=>by
  unfold rk at z;rw[hs]at hi hj;rw[eg i hi,eg j hj]at z;exact hr i j hi hj z)
 rw[e]
 by_cases hlt:a<n
 ·show Asc r (aZ (cR r) (if a<n then _ else _)) n;rw[if_pos hlt];refine N2 _ _ h2 (by lia) fun i j hij hj=> ?_
  by_cases ha:a=0
  ·have:i=j:=by lia
   subst this;exact Int.le_refl _
  ·exact h3 i j hij (by lia)
 ·show Asc r (aZ (cR r) (if a<n then _ else _)) n;rw[if_neg hlt];have:a=n:=by lia
  rw[←this];exact h3
end
end L2
namespace L2
open PySem PySem.W PyProof.Rows
theorem CQ {α:Type}{n:Nat}{R:α->Prop}{c c':Nat->Nat->Bool} (h:∀i j,i<n->j<n->c i j=c' i j):∀{t:KasT α},KasIn n R t->aZ c t=aZ c' t
 | .ret _,_=>rfl
 | .ask i j k,q=>by
  show aZ c (k (c i j))=aZ c' (k (c' i j));rw[h i j q.1 q.2.1];exact CQ h (q.2.2 _)
theorem uX {α:Type}{p q:α->Bool}:∀{l:List α},(∀y∈l,p y=true->q y=true)->(∃x∈l,q x=true/\p x=false)->l.countP p<l.countP q
 | [],_,⟨x,hx,_⟩=>nomatch hx
 | a::l,h,⟨x,hx,h1,h2⟩=>by
  have hl:l.countP p<=l.countP q:=List.countP_mono_left fun y hy=>h y (List.mem_cons_of_mem _ hy);rcases List.mem_cons.mp hx with e|hx
  ·subst e;rw[List.countP_cons_of_pos h1,List.countP_cons_of_neg (by rw[h2];exact Bool.false_ne_true)]
   lia
  ·have ih:=uX (fun y hy=>h y (List.mem_cons_of_mem _ hy)) ⟨x,hx,h1,h2⟩;cases hp:p a with
   | true =>
    rw[List.countP_cons_of_pos hp,List.countP_cons_of_pos (h a (.head _) hp)]
    lia
   | false =>
    rw[List.countP_cons_of_neg (by rw[hp];exact Bool.false_ne_true)];cases hq:q a with
    | true=>rw[List.countP_cons_of_pos hq];lia
    | false=>rw[List.countP_cons_of_neg (by rw[hq];exact Bool.false_ne_true)];exact ih
structure Ord {α:Type}(lt:α->α->Bool)(l:List α):Prop where
 irr:∀x∈l,lt x x=false
 tr:∀x∈l,∀y∈l,∀z∈l,lt x y=true->lt y z=true->lt x z=true
 tot:∀x∈l,∀y∈l,x≠y->lt x y=true∨lt y x=true
section
variable {α:Type}{lt:α->α->Bool}{l:List α}{d:α}
theorem dS {i:Nat}(h:i<l.length):l.getD i d∈l:=by
 rw[List.getD_eq_getElem?_getD,List.getElem?_eq_getElem h];exact List.getElem_mem h
theorem tK (nd:l.Nodup){i j:Nat}(hi:i<l.length)(hj:j<l.length)(e:l.getD i d=l.getD j d):i=j:=by
 rw[List.getD_eq_getElem?_getD,List.getElem?_eq_getElem hi,List.getD_eq_getElem?_getD,List.getElem?_eq_getElem hj]at e;have hp:=List.pairwise_iff_getElem.mp nd;rcases Nat.lt_trichotomy i j with h|h|h
 ·exact absurd e (hp i j hi hj h)
 ·exact h
 ·exact absurd e.symm (hp j i hj hi h)
theorem OY (o:Ord lt l)(nd:l.Nodup)(h2:2<=l.length):∀i j,i<j->j<l.length->lt (l.getD ((aZ (fun i j=>lt (l.getD i d) (l.getD j d)) (kas_sort l.length)).getD i 0) d) (l.getD ((aZ (fun i j=>lt (l.getD i d) (l.getD j d)) (kas_sort l.length)).getD j 0) d)=true:=by
 let r:Nat->Int:=fun i=>((l.countP fun y=>lt y (l.getD i d):Nat):Int)
 have hlt:∀i j,i<l.length->j<l.length->lt (l.getD i d) (l.getD j d)=true->r i<r j:=fun i j hi hj h=>by
  have:=uX (l:=l) (p:=fun y=>lt y (l.getD i d)) (q:=fun y=>lt y (l.getD j d)) (fun y hy h'=>o.tr y hy _ (dS hi) _ (dS hj) h' h) ⟨l.getD i d,dS hi,h,o.irr _ (dS hi)⟩;exact Int.ofNat_lt.mpr this
 have hrc:∀i j,i<l.length->j<l.length->(fun i j=>lt (l.getD i d) (l.getD j d)) i j=cR r i j:=fun i j hi hj=>by
  show lt (l.getD i d) (l.getD j d)=decide (r i<r j);cases e:lt (l.getD i d) (l.getD j d) with
  | true=>rw[decide_eq_true (hlt i j hi hj e)]
  | false =>
   rw[decide_eq_false];intro z
   by_cases e2:l.getD i d=l.getD j d
   ·rw[tK nd hi hj e2]at z;exact absurd z (Int.lt_irrefl _)
   ·rcases o.tot _ (dS hi) _ (dS hj) e2 with h|h
    ·rw[h]at e;cases e
    ·have:=hlt j i hj hi h
     lia
 have hinj:∀i j,i<l.length->j<l.length->r i=r j->i=j:=fun i j hi hj e=>by
  by_cases e2:l.getD i d=l.getD j d
  ·exact tK nd hi hj e2
  ·rcases o.tot _ (dS hi) _ (dS hj) e2 with h|h
   ·have:=hlt i j hi hj h;lia
   ·have:=hlt j i hj hi h;lia
 rw[CQ hrc (BD (by lia))];have hs:=RA (n:=l.length) (by lia) hinj;have hp:=dR (n:=l.length) (cR r) (by lia);generalize aZ (cR r) (kas_sort l.length)=q at hs hp;intro i j hij hj;have hqs:q.size=l.length:=by have:=hp.size_eq;simpa using this
 have li:=hp.lt (by lia) i;have lj:=hp.lt (by lia) j;have hne:q.getD i 0≠q.getD j 0:=fun z=>by
  have hnd:q.toList.Nodup:=by
   have h1:=Array.perm_iff_toList_perm.mp hp;exact h1.nodup_iff.mpr (by simpa using List.nodup_range)
  have ei:q.getD i 0=q.toList.getD i 0:=by simp[Array.getD,List.getD_eq_getElem?_getD,show i<q.size by lia]
  have ej:q.getD j 0=q.toList.getD j 0:=by simp[Array.getD,List.getD_eq_getElem?_getD,show j<q.size by lia]
  rw[ei,ej]at z;have:=tK hnd (by rw[Array.length_toList];lia) (by rw[Array.length_toList];lia) z
  lia
 have hle:=hs i j (by lia) (by lia);have e3:l.getD (q.getD i 0) d≠l.getD (q.getD j 0) d:=fun z=>hne (tK nd li lj z);rcases o.tot _ (dS li) _ (dS lj) e3 with h|h
 ·exact h
 ·have:=hlt _ _ lj li h;unfold rk at hle
  lia
theorem HS (c:Nat->Nat->Bool):(cE d c l).Perm l:=by
 unfold cE
 split
 ·exact List.Perm.refl _
 ·have h:=Array.perm_iff_toList_perm.mp (dR (n:=l.length) c (by lia));refine(h.map fun i=>l.getD i d).trans ?_;have e:((List.range l.length).toArray.toList.map fun i=>l.getD i d)=l:=by
   apply List.ext_getElem?
   intro i
   by_cases hi:i<l.length
   ·simp[hi,List.getD_eq_getElem?_getD]
   ·simp[hi]
  rw[e]
theorem K7 (o:Ord lt l)(nd:l.Nodup):(cE d (fun i j=>lt (l.getD i d) (l.getD j d)) l).Pairwise fun x y=>lt x y=true:=by
 unfold cE
 split
 ·rename_i h
  match l,h with
  | [],_=>exact .nil
  | [x],_=>exact List.pairwise_singleton _ _
 ·rename_i h;have ha:=OY (d:=d) o nd (by lia);have hp:=dR (n:=l.length) (fun i j=>lt (l.getD i d) (l.getD j d)) (by lia);generalize aZ (fun i j=>lt (l.getD i d) (l.getD j d)) (kas_sort l.length)=q at ha hp;have hqs:q.size=l.length:=by have:=hp.size_eq;simpa using this
  rw[List.pairwise_iff_getElem];intro i j hi hj hij;rw[List.length_map,Array.length_toList]at hi hj;have:=ha i j hij (by lia)
  simpa [Array.getD,hi,hj] using this
end
end L2
namespace L2
open PySem PySem.W PyProof.Rows
def ltS (x y:Str):Bool:=decide (x.cps.toList<y.cps.toList)
theorem RJ {x y:Str}(h:x.cps.toList=y.cps.toList):x=y:=by
 cases x;cases y
 congr 1
 exact Array.toList_inj.mp h
theorem BM (x:Str):ltS x x=false:=decide_eq_false (List.lt_irrefl _)
theorem NR {x y z:Str}(h1:ltS x y=true)(h2:ltS y z=true):ltS x z=true:=decide_eq_true (List.lt_trans (of_decide_eq_true h1) (of_decide_eq_true h2))
theorem KN {x y:Str}(h:x≠y):ltS x y=true∨ltS y x=true:=by
 by_cases h1:x.cps.toList<y.cps.toList
 ·exact .inl (decide_eq_true h1)
 ·by_cases h2:y.cps.toList<x.cps.toList
  ·exact .inr (decide_eq_true h2)
  ·exact absurd (RJ (List.le_antisymm (List.not_lt.mp h2) (List.not_lt.mp h1))) h
theorem X1 (l:List Str):Ord ltS l:=⟨fun x _=>BM x,fun _ _ _ _ _ _ h1 h2=>NR h1 h2,fun _ _ _ _ h=>KN h⟩
def tJ (ss:List Str):List Str:=cE Str.empty (fun i j=>ltS (ss.getD i Str.empty) (ss.getD j Str.empty)) ss
theorem K6 (ss:List Str):(tJ ss).Perm ss:=HS _
theorem RD {ss:List Str}(nd:ss.Nodup):(tJ ss).Pairwise fun x y=>ltS x y=true:=K7 (X1 ss) nd
theorem JB {α β:Type}(f:α->β)(d:α)(e:β)(c:Nat->Nat->Bool)(l:List α):cE e c (l.map f)=(cE d c l).map f:=by
 unfold cE;rw[List.length_map]
 split
 ·rfl
 ·rename_i h;rw[List.map_map]
  apply List.map_congr_left
  intro i hi;have h':=(dR (n:=l.length) c (by lia)).mem_iff.mp (Array.mem_toList_iff.mp hi);have hl:i<l.length:=by simpa using h'
  show (l.map f).getD i e=f (l.getD i d);rw[List.getD_eq_getElem?_getD,List.getD_eq_getElem?_getD,List.getElem?_map,List.getElem?_eq_getElem hl];rfl
section
variable {X:Cx}
end
def ZN (rs:List (List Key)):Prop:=∃sh,∀r∈rs,r.map c6=sh
theorem NT (a:Key):d9 a a=false:=by
 cases a with
 | inl i=>exact decide_eq_false (Int.lt_irrefl _)
 | inr x=>exact BM x
theorem RU {a b c:Key}(h1:d9 a b=true)(h2:d9 b c=true):d9 a c=true:=by
 cases a<;>cases b<;>cases c<;>first|(cases h1;done)|(cases h2;done)|skip
 ·exact decide_eq_true (Int.lt_trans (of_decide_eq_true h1) (of_decide_eq_true h2))
 ·exact NR h1 h2
theorem NP {a b:Key}(k:c6 a=c6 b)(h:a≠b):d9 a b=true∨d9 b a=true:=by
 cases a<;>cases b<;>first|(cases k;done)|skip
 ·rename_i i j;have hij:i≠j:=fun z=>h (by rw[z]);rcases Int.lt_or_gt_of_ne hij with z|z
  ·exact .inl (decide_eq_true z)
  ·exact .inr (decide_eq_true z)
 ·rename_i x y;exact KN fun z=>h (by rw[z])
theorem FS:∀a:List Key,cO a a=false
 | []=>rfl
 | a::as=>by
  show (if a=a then cO as as else d9 a a)=false;rw[if_pos rfl];exact FS as
theorem E2:∀{a b:List Key},a.map c6=b.map c6->a≠b->cO a b=true∨cO b a=true
 | [],[],_,h=>absurd rfl h
 | [],_::_,k,_=>by cases k
 | _::_,[],k,_=>by cases k
 | a::as,b::bs,k,h=>by
  show (if a=b then cO as bs else d9 a b)=true∨(if b=a then cO bs as else d9 b a)=true
  by_cases e:a=b
  ·subst e;rw[if_pos rfl,if_pos rfl];exact E2 (List.cons.inj k).2 fun z=>h (by rw[z])
  ·rw[if_neg e,if_neg (fun z=>e z.symm)];exact NP (List.cons.inj k).1 e
theorem KQ:∀{a b c:List Key},cO a b=true->cO b c=true->cO a c=true
 | [],_,_,h,_=>by cases h
 | _::_,[],_,h,_=>by cases h
 | _::_,_::_,[],_,h=>by cases h
 | a::as,b::bs,c::cs,h1,h2=>by
  have h1':(if a=b then cO as bs else d9 a b)=true:=h1;have h2':(if b=c then cO bs cs else d9 b c)=true:=h2;show (if a=c then cO as cs else d9 a c)=true
  by_cases e1:a=b
  ·subst e1;rw[if_pos rfl]at h1'
   by_cases e2:a=c
   ·subst e2;rw[if_pos rfl]at h2' ⊢;exact KQ h1' h2'
   ·rw[if_neg e2]at h2' ⊢;exact h2'
  ·rw[if_neg e1]at h1'
   by_cases e2:b=c
   ·subst e2;rw[if_neg e1];exact h1'
   ·rw[if_neg e2]at h2';have h3:=RU h1' h2'
    by_cases e3:a=c
    ·subst e3;rw[NT]at h3;cases h3
    ·rw[if_neg e3];exact h3
theorem Q7 {rs:List (List Key)}(h:ZN rs):Ord cO rs:=⟨fun x _=>FS x,fun _ _ _ _ _ _ h1 h2=>KQ h1 h2,fun x hx y hy e=>by
 obtain⟨sh,h⟩:=h;exact E2 ((h x hx).trans (h y hy).symm) e⟩
def EX (rs:List (List Key)):List (List Key):=cE [] (lZ rs) rs
theorem LY {H:Hp}{vs:List V}{rs:List (List Key)} (k:KRows H vs rs):KRows H (K0 rs vs) (EX rs):=by
 have hl:vs.length=rs.length:=Paired.length k;unfold K0 EX cE;rw[hl]
 split
 ·exact k
 ·have hp:=dR (n:=rs.length) (lZ rs) (by lia);have hm:∀i∈(aZ (lZ rs) (kas_sort rs.length)).toList,i<rs.length:=fun i hi=>by
   have h:=hp.mem_iff.mp (Array.mem_toList_iff.mp hi)
   simpa using h
  revert hm;generalize (aZ (lZ rs) (kas_sort rs.length)).toList=l;intro hm
  induction l with
  | nil=>exact .nil
  | cons i l ih =>
   refine .cons ?_ (ih fun j hj=>hm j (List.mem_cons_of_mem _ hj));have hi:=hm i (.head _);obtain⟨p,r,e1,e2,e3⟩:=k.get (i:=i) (v:=vs.getD i .non) (by rw[List.getD_eq_getElem?_getD,List.getElem?_eq_getElem (by lia)];rfl);refine⟨p,e1,?_⟩;show H p=some (.tup ((rs.getD i []).map kV));rw[List.getD_eq_getElem?_getD,e2];exact e3
end L2
namespace L2
open PySem PySem.W PyProof.Rows
section
variable {X:Cx}{pins:List (Addr×Obj)}{σ:St}{H:Hp}{s:Shared}
end
end L2
namespace L2
open PySem PySem.W PyProof.Rows
section
variable {X:Cx}
end
end L2
namespace L2
open PySem PySem.W PyProof.Rows
theorem Paired.snoc {α β:Type}{F:α->β->Prop}:∀{l:List α}{m:List β}{a:α}{b:β},Paired F l m->F a b->Paired F (l++[a]) (m++[b])
 | _,_,_,_,.nil,h=> .cons h .nil
 | _,_,_,_,.cons r t,h=> .cons r (Paired.snoc t h)
theorem Paired.at2 {α β:Type}{F:α->β->Prop}:∀{l:List α}{m:List β}{i:Nat}{a:α}{b:β},Paired F l m->l[i]? =some a->m[i]? =some b->F a b
 | _,_,0,_,_,.cons r _,h1,h2=>by cases h1;cases h2;exact r
 | _,_,i+1,_,_,.cons _ t,h1,h2=>Paired.at2 (i:=i) t (by simpa using h1) (by simpa using h2)
 | _,_,_,_,_,.nil,h1,_=>by simp at h1
theorem jJ {α:Type}{J:It}{g:TG}{ti:TT}{te:TE}{σ0:St}{fin:List V->Hp->Prop}{H:Hp} (xs:List α) (c:α->Bool) (P:α->V->Hp->Prop) (hm:∀x y H1 H2,P x y H1->Same H1 H2->P x y H2) (hn:xs.length<=sizeLine)
  (hgo:∀i H1,Same H H1->i<xs.length->J.go i H1)(hst:∀H1,Same H H1->J.stop xs.length H1)
  (hb:∀i x H1,xs[i]? =some x->Same H H1->∀v H',J.yld i H1 v H'->Same H1 H'/\∃σ2:St,σ2.length=σ0.length/\(∀(j:Nat) v,σ0[j]? =some (some v)->σ2[j]? =some (some v))/\(∀R:St->Hp->Prop,R σ2 H'->g v σ0 H' R) ∧
   (∀R:Bool->Hp->Prop,(∀H2,Same H' H2->R (c x) H2)->ti σ2 H' R)/\(c x=true->∀H2,Same H' H2->∀R:VK,(∀y H3,P x y H3->Same H2 H3->R y H3)->te σ2 H2 R))
  (hf:∀ys H1,Same H H1->Paired (fun x y=>P x y H1) (xs.filter c) ys->fin ys H1):dP J g ti te σ0 fin H:=by
 refine⟨fun i m ys H1=>i+m=xs.length/\Same H H1/\Paired (fun x y=>P x y H1) ((xs.take i).filter c) ys,⟨xs.length,by lia,Same.refl _,.nil⟩,?_⟩;rintro i m ys H1 ⟨e1,s1,pr⟩;cases m with
 | zero =>
  have ei:i=xs.length:=by lia
  subst ei;rw[List.take_length]at pr;exact .inl ⟨hst H1 s1,hf ys H1 s1 pr⟩
 | succ m =>
  have hi:i<xs.length:=by lia
  refine .inr ⟨hgo i H1 s1 hi,fun v H' y=> ?_⟩;have ex:xs[i]? =some xs[i]:=List.getElem?_eq_getElem hi;have etake:xs.take (i+1)=xs.take i++[xs[i]]:=by rw[List.take_succ,ex];rfl
  have hlen:ys.length<=i:=by
   rw[←Paired.length pr];exact Nat.le_trans (List.length_filter_le _ _) (by rw[List.length_take];lia)
  obtain⟨s2,σ2,l2,c2,hg,ht,he⟩:=hb i xs[i] H1 ex s1 v H' y;refine hg _ ⟨⟨l2,c2⟩,ht _ fun H2 s3=> ?_⟩;cases hc:c xs[i] with
  | true =>
   show te σ2 H2 _;refine he hc H2 s3 _ fun y H3 py s4=>⟨by lia,m,by lia,by lia,((s1.trans s2).trans s3).trans s4,?_⟩
   rw[etake,List.filter_append,List.filter_cons_of_pos hc];exact Paired.snoc (Paired.imp' (fun a b h=>hm a b _ _ h ((s2.trans s3).trans s4)) pr) py
  | false =>
   show ∃m',_;refine⟨m,by lia,by lia,(s1.trans s2).trans s3,?_⟩;rw[etake,List.filter_append,List.filter_cons_of_neg (by rw[hc];exact Bool.false_ne_true),List.filter_nil,List.append_nil];exact Paired.imp' (fun a b h=>hm a b _ _ h (s2.trans s3)) pr
section
variable {K:PySem.W.Frag}{ti:TT}{te:TE}{σ:St}{ci:List Nat}{rest:St}{fin:List V->Hp->Prop}{H:Hp}{a:Addr}
theorem LP {n:Nat}(hr:ci.map (fun i=>(σ[i]?).join)=rest):bY n ci σ=List.replicate n none++rest:=by unfold bY;rw[hr]
theorem sY {α:Type}{vs:List V}{xs:List α} (f1 f2:α->V) (c:α->Bool) (P:α->V->Hp->Prop) (hm:∀x y H1 H2,P x y H1->Same H1 H2->P x y H2) (hn:xs.length<=sizeLine) (hr:ci.map (fun i=>(σ[i]?).join)=rest) (hl:SqL K H a vs)
  (hv:Paired (fun v x=>∃q,v= .ref q/\H q=some (.tup [f1 x,f2 x])) vs xs)
  (ht:∀x H1,x∈xs->Same H H1->∀R:Bool->Hp->Prop,(∀H2,Same H1 H2->R (c x) H2)->ti (some (f1 x)::some (f2 x)::rest) H1 R)
  (he:∀x H1,x∈xs->c x=true->Same H H1->∀R:VK,(∀y H2,P x y H2->Same H1 H2->R y H2)->te (some (f1 x)::some (f2 x)::rest) H1 R)
  (hf:∀ys H1,Same H H1->Paired (fun x y=>P x y H1) (xs.filter c) ys->fin ys H1):dP (Itl K a) (xY K 2 (j7 (bZ 0) (j7 (bZ 1) BV))) ti te (bY 2 ci σ) fin H:=by
 have e0:bY 2 ci σ=none::none::rest:=LP hr;rw[e0];have hlen:vs.length=xs.length:=Paired.length hv;refine jJ xs c P hm hn (fun i H1 s hi=>⟨vs,vs[i],s.seq hl,List.getElem?_eq_getElem (by lia)⟩) (fun H1 s=>⟨vs,s.seq hl,by lia⟩) (fun i x H1 hx s1 v H' y=> ?_) hf;obtain⟨rfl,e2⟩:=y;have ev:=e2 vs (s1.seq hl);obtain⟨q,rfl,hq⟩:∃q,v= .ref q/\H q=some (.tup [f1 x,f2 x]):=Paired.at2 hv ev hx;have hmem:=List.mem_of_getElem? hx;refine⟨Same.refl _,some (f1 x)::some (f2 x)::rest,rfl,fun j v hv=> ?_,fun R h=>⟨q,[f1 x,f2 x],rfl,.inl (.inl (s1 _ _ hq)),rfl,f1 x,[f2 x],rfl,f2 x,[],rfl,rfl,h⟩,fun R h=>ht x _ hmem s1 R h,fun hc H2 s2 R h=>he x H2 hmem hc (s1.trans s2) R h⟩
 match j,hv with
 | 0,hv=>cases hv
 | 1,hv=>cases hv
 | j+2,hv=>exact hv
end
end L2
namespace L2
open PySem PySem.W PyProof.Rows
section
variable {K:PySem.W.Frag}{ti:TT}{te:TE}{σ:St}{ci:List Nat}{rest:St}{fin:List V->Hp->Prop}{H:Hp}{a:Addr}
theorem FR {H:Hp}{q:Addr}{o:HO} (h:H q=none):Same H (upd H q o):=fun b u e=>by
 have:b≠q:=fun z=>by rw[z,h]at e;cases e
 rw[aL this];exact e
theorem WQ {α:Type}{vs:List V}{xs:List α} (f1 f2 f3:α->V) (c:α->Bool) (P:α->V->Hp->Prop) (hm:∀x y H1 H2,P x y H1->Same H1 H2->P x y H2) (hn:xs.length<=sizeLine) (hr:ci.map (fun i=>(σ[i]?).join)=rest) (hl:SqL K H a vs)
  (hv:Paired (fun v x=>∃q,v= .ref q/\H q=some (.tup [f1 x,f2 x,f3 x])) vs xs)
  (ht:∀x H1,x∈xs->Same H H1->∀R:Bool->Hp->Prop,(∀H2,Same H1 H2->R (c x) H2)->ti (some (f1 x)::some (f2 x)::some (f3 x)::rest) H1 R)
  (he:∀x H1,x∈xs->c x=true->Same H H1->∀R:VK,(∀y H2,P x y H2->Same H1 H2->R y H2)->te (some (f1 x)::some (f2 x)::some (f3 x)::rest) H1 R)
  (hf:∀ys H1,Same H H1->Paired (fun x y=>P x y H1) (xs.filter c) ys->fin ys H1):dP (Itl K a) (xY K 3 (j7 (bZ 0) (j7 (bZ 1) (j7 (bZ 2) BV)))) ti te (bY 3 ci σ) fin H:=by
 have e0:bY 3 ci σ=none::none::none::rest:=LP hr;rw[e0];have hlen:vs.length=xs.length:=Paired.length hv;refine jJ xs c P hm hn (fun i H1 s hi=>⟨vs,vs[i],s.seq hl,List.getElem?_eq_getElem (by lia)⟩) (fun H1 s=>⟨vs,s.seq hl,by lia⟩) (fun i x H1 hx s1 v H' y=> ?_) hf;obtain⟨rfl,e2⟩:=y;have ev:=e2 vs (s1.seq hl);obtain⟨q,rfl,hq⟩:∃q,v= .ref q/\H q=some (.tup [f1 x,f2 x,f3 x]):=Paired.at2 hv ev hx;have hmem:=List.mem_of_getElem? hx;refine⟨Same.refl _,some (f1 x)::some (f2 x)::some (f3 x)::rest,rfl,fun j v hv=> ?_,fun R h=>⟨q,[f1 x,f2 x,f3 x],rfl,.inl (.inl (s1 _ _ hq)),rfl,f1 x,[f2 x,f3 x],rfl,f2 x,[f3 x],rfl,f3 x,[],rfl,rfl,h⟩,fun R h=>ht x _ hmem s1 R h,fun hc H2 s2 R h=>he x H2 hmem hc (s1.trans s2) R h⟩
 match j,hv with
 | 0,hv=>cases hv
 | 1,hv=>cases hv
 | 2,hv=>cases hv
 | j+3,hv=>exact hv
theorem PD {kvs:List (Key×V)}{o:Obj} (c:Key×V->Bool) (P:Key×V->V->Hp->Prop) (hm:∀x y H1 H2,P x y H1->Same H1 H2->P x y H2) (hn:kvs.length<=sizeLine) (hr:ci.map (fun i=>(σ[i]?).join)=rest) (h0:H a=some (.frz o (.dK kvs)))
  (ht:∀x H1,x∈kvs->Same H H1->∀R:Bool->Hp->Prop,(∀H2,Same H1 H2->R (c x) H2)->ti (some (kV x.1)::rest) H1 R)
  (he:∀x H1,x∈kvs->c x=true->Same H H1->∀R:VK,(∀y H2,P x y H2->Same H1 H2->R y H2)->te (some (kV x.1)::rest) H1 R)
  (hf:∀ys H1,Same H H1->Paired (fun x y=>P x y H1) (kvs.filter c) ys->fin ys H1):dP (Itk a o kvs) (bZ 0) ti te (bY 1 ci σ) fin H:=by
 rw[AU hr];refine jJ kvs c P hm hn (fun i H1 s hi=>⟨s _ _ h0,hi⟩) (fun H1 s=>⟨s _ _ h0,Nat.le_refl _⟩) (fun i x H1 hx s1 v H' y=> ?_) hf;obtain⟨rfl,k,u,e2,rfl⟩:=y;rw[hx]at e2;cases e2;have hmem:=List.mem_of_getElem? hx;refine⟨Same.refl _,some (kV k)::rest,rfl,fun j v hv=> ?_,fun R h=>h,fun R h=>ht _ _ hmem s1 R h,fun hc H2 s2 R h=>he _ H2 hmem hc (s1.trans s2) R h⟩;cases j with
 | zero=>cases hv
 | succ j=>exact hv
end
section
variable {σ:St}{H:Hp}{g:TG}{tb:TS}{nx bk ct:St->Hp->Prop}{rt:VK}
theorem ST {p:Addr}{o:Obj} (kvs:List (Key×V)) (Pv:Nat->St->Hp->Prop) (h0:Pv 0 σ H) (hl:∀i σ H,Pv i σ H->H p=some (.frz o (.dK kvs)))
  (hs:∀i k v σ H,kvs[i]? =some (k,v)->Pv i σ H->g (kV k) σ H fun σ2 H2=>tb ⟨Pv (i+1),rt,nx,Pv (i+1)⟩ σ2 H2)(hd:∀σ H,Pv kvs.length σ H->nx σ H):L7 (Itk p o kvs) g tb ⟨nx,rt,bk,ct⟩ σ H:=by
 refine⟨fun i m σ H=>m=kvs.length - i/\i<=kvs.length/\Pv i σ H,⟨kvs.length,by simp,Nat.zero_le _,h0⟩,?_⟩;rintro i m σ H ⟨rfl,hi,q⟩
 by_cases hlt:i<kvs.length
 ·refine .inr ⟨⟨hl i σ H q,hlt⟩,Pv (i+1),fun σ' H' p'=>⟨kvs.length - (i+1),by lia,rfl,hlt,p'⟩,fun x H' y=> ?_⟩;obtain⟨rfl,k,v,e,rfl⟩:=y;exact hs i k v σ _ e q
 ·have e:i=kvs.length:=by lia
  subst e;exact .inl ⟨⟨hl _ σ H q,Nat.le_refl _⟩,hd σ H q⟩
end
def N7 (R:It->Hp->Prop):VK:=fun x H1=>∃a kvs,x= .ref a/\H1 a=some (.dK kvs)/\∀o,R (Itk a o kvs) (upd H1 a (.frz o (.dK kvs)))
def JY (R:It->Hp->Prop):VK:=fun x H1=>∃a kvs,x= .ref a/\H1 a=some (.dK kvs)/\∀o,R (Iti a o kvs) (upd H1 a (.frz o (.dK kvs)))
def aAI (Q:VK)(y:V):VK:=fun x H2=>∃a o,x= .ref a/\DGet H2 a y o/\Q (.bl o.isSome) H2
def JS (Q:VK)(y:V):VK:=fun x H2=>∃a o,x= .ref a/\DGet H2 a y o/\Q (.bl (!o.isSome)) H2
def NN (σ:St)(ty tx:TE)(Q:VK):VK:=fun x H1=>∃a,x= .ref a/\IsD H1 a/\ty σ H1 fun y H2=>tx σ H2 fun z H3=>∃o,DGet H3 a y o/\Q (o.getD z) H3
def aAq (a:Addr)(Q:VK)(y:V):VK:=fun z H3=>∃o,DGet H3 a y o/\Q (o.getD z) H3
section
variable {K:PySem.W.Frag}{H:Hp}{Q:VK}{σ:St}{nx:St->Hp->Prop}{R:It->Hp->Prop}{td ty tx:TE}
theorem OX (h:td σ H (N7 R)):NU td σ H R:=h
theorem L5 (h:td σ H (JY R)):JO td σ H R:=h
theorem yA {p:Addr}{kvs:List (Key×V)} (e:H p=some (.dK kvs)) (h:∀o H',SameBut p H H'->H' p=some (.frz o (.dK kvs))->R (Itk p o kvs) H'):N7 R (.ref p) H:=⟨p,kvs,rfl,e,fun o=>h o _ SameBut.upd bC⟩
theorem DR {p:Addr}{kvs:List (Key×V)} (e:H p=some (.dK kvs)) (h:∀o H',SameBut p H H'->H' p=some (.frz o (.dK kvs))->R (Iti p o kvs) H'):JY R (.ref p) H:=⟨p,kvs,rfl,e,fun o=>h o _ SameBut.upd bC⟩
theorem aAK (h:ty σ H fun y H1=>td σ H1 (aAI Q y)):aBd ty td σ H Q:=h
theorem PQ (h:ty σ H fun y H1=>td σ H1 (JS Q y)):JU ty td σ H Q:=h
theorem XV {p:Addr}{z:Str}{kvs:List (Key×V)} (e:Rd H p (.dK kvs)) (h:Q (.bl (bD kvs (.inr z)).isSome) H):aAI Q (.str z) (.ref p) H:=⟨p,_,rfl,.inl ⟨kvs,.inr z,e,rfl,rfl⟩,h⟩
theorem AN {p:Addr}{z:Str}{kvs:List (Key×V)} (e:Rd H p (.dK kvs)) (h:Q (.bl (!(bD kvs (.inr z)).isSome)) H):JS Q (.str z) (.ref p) H:=⟨p,_,rfl,.inl ⟨kvs,.inr z,e,rfl,rfl⟩,h⟩
theorem gM {p:Addr}{v:V}{z:Str}{kvs:List (Key×V)} (e:H p=some (.dK kvs)) (hl:kvs.length<sizeLine) (h:∀H',SameBut p H H'->H' p=some (.dK (cC kvs (.inr z) v))->nx σ H'):LO nx σ (.ref p) v (.str z) H :=
 ⟨p,_,rfl,DPut.k (k:= .inr z) e hl,h _ SameBut.upd bC⟩
theorem bN {p:Addr}{v:V}{z:Str}{kvs:List (Key×V)} (e:Rd H p (.dK kvs)) (hv:bD kvs (.inr z)=some v) (h:Q v H):LR Q (.ref p) (.str z) H:=⟨p,v,rfl,.inl ⟨kvs,.inr z,e,rfl,hv.symm⟩,h⟩
theorem TX (h:∀p H',H p=none->Same H H'->H' p=some (.dK [])->Q (.ref p) H'):PZ σ H Q:=fH h
theorem SX (h:td σ H (NN σ ty tx Q)):OQ td ty tx σ H Q:=h
theorem jT {p:Addr}{kvs:List (List Key×V)} (e:H p=some (.dT kvs)) (h:ty σ H fun y H2=>tx σ H2 (aAq p Q y)):NN σ ty tx Q (.ref p) H:=⟨p,rfl,.inr ⟨kvs,.inl e⟩,h⟩
theorem lL {p b:Addr}{z:V}{kvs:List (List Key×V)} (k:List Key) (e:H p=some (.dT kvs)) (eb:H b=some (.tup (k.map kV))) (h:Q ((bD kvs k).getD z) H):aAq p Q (.ref b) z H:=⟨_,DGet.t e eb,h⟩
theorem HR {p:Addr}{vs:List V}{ps:List (Key×V)} (e:H p=some (.lst vs)) (r:wQ H vs ps) (h:∀l H',H l=none->Same H H'->H' l=some (.dK (iX [] ps))->Q (.ref l) H'):N9 [.ref p] H Q:=⟨p,vs,ps,rfl,.inl e,r,fH h⟩
theorem Q9 {p:Addr}{vs:List V}{rs:List (List Key)}{sh:List Bool} (e:SqL K H p vs) (kr:KRows H vs rs) (hl:vs.length<64) (hs:∀r∈rs,r.map c6=sh) (hn:sh≠[]) (h:∀l ws H',H l=none->Same H H'->H' l=some (.lst ws)->KRows H' ws (EX rs)->Q (.ref l) H'):KA K [.ref p] H Q :=
 ⟨p,vs,rs,sh,rfl,e,kr,hl,hs,hn,fH fun l H' n S e=>h l _ H' n S e ((LY kr).same S)⟩
theorem pJ {te:TE}{p:Addr}{u:HO} (e:H p=some u) (nf:∀o x,u≠ .frz o x) (h:te σ H fun x=>gY p (Q x)):VG te σ H Q:=⟨p,fun o x z=>nf o x (by rw[e]at z;exact Option.some.inj z),h⟩
theorem UN {ts:TS}{bk ct:St->Hp->Prop}{rt:VK}{p:Addr}{u:HO} (e:H p=some u) (nf:∀o x,u≠ .frz o x) (h:ts ⟨fun σ'=>gY p (nx σ'),fun v=>gY p (rt v),fun σ'=>gY p (bk σ'),fun σ'=>gY p (ct σ')⟩ σ H):VU ts ⟨nx,rt,bk,ct⟩ σ H :=
 ⟨p,fun o x z=>nf o x (by rw[e]at z;exact Option.some.inj z),h⟩
theorem jR {p:Addr}{o:Obj}{u:HO}{R:Hp->Prop} (e:H p=some (.frz o u)) (h:∀H',SameBut p H H'->H' p=some u->R H'):gY p R H:=⟨o,u,e,h _ SameBut.upd bC⟩
theorem rA {H Hf H1 H2:Hp}{p:Addr}{u:HO} (e:H p=some u) (a:SameBut p H Hf) (b:SameBut p Hf H1) (c:SameBut p H1 H2) (e2:H2 p=some u):Same H H2:=fun x o z=>by
 by_cases hx:x=p
 ·subst hx;rw[e]at z;cases z;exact e2
 ·exact c x o (b x o (a x o z hx) hx) hx
end
section
variable {X:Cx}{K:PySem.W.Frag}
theorem oN {e:Expr}{ta:TE}{f:Str}{pos:Pos} (he:PE X e ta) (hb:attributeBase e f X.env (eval e X.env)=eval e X.env) (hK:X.K=K:=by rfl):PE X (.Attribute e f pos) (R5 K ta f):=by
 subst hK;exact bB he hb
theorem L3 (hK:X.K=K:=by rfl):OpR X (compareOp .In) (rIn K false):=by
 subst hK;exact PV
end
end L2
namespace L2
open PySem PySem.W PyProof.Rows
section
variable {K:PySem.W.Frag}{ti:TT}{te:TE}{σ:St}{ci:List Nat}{rest:St}{fin:List V->Hp->Prop}{H:Hp}{a:Addr}{α:Type}
theorem dC {vs:List V}{xs:List α} (F:V->α->Prop) (c:α->Bool) (P:α->V->Hp->Prop) (hm:∀x y H1 H2,P x y H1->Same H1 H2->P x y H2) (hn:xs.length<=sizeLine) (hr:ci.map (fun i=>(σ[i]?).join)=rest) (hl:SqL K H a vs) (hv:Paired F vs xs)
  (ht:∀v x H1,F v x->x∈xs->Same H H1->∀R:Bool->Hp->Prop,(∀H2,Same H1 H2->R (c x) H2)->ti (some v::rest) H1 R)
  (he:∀v x H1,F v x->x∈xs->c x=true->Same H H1->∀R:VK,(∀y H2,P x y H2->Same H1 H2->R y H2)->te (some v::rest) H1 R)
  (hf:∀ys H1,Same H H1->Paired (fun x y=>P x y H1) (xs.filter c) ys->fin ys H1):dP (Itl K a) (bZ 0) ti te (bY 1 ci σ) fin H:=by
 rw[AU hr];have hlen:vs.length=xs.length:=Paired.length hv;refine jJ xs c P hm hn (fun i H1 s hi=>⟨vs,vs[i],s.seq hl,List.getElem?_eq_getElem (by lia)⟩) (fun H1 s=>⟨vs,s.seq hl,by lia⟩) (fun i x H1 hx s1 v H' y=> ?_) hf;obtain⟨rfl,e2⟩:=y;have ev:=e2 vs (s1.seq hl);have hF:=Paired.at2 hv ev hx;have hmem:=List.mem_of_getElem? hx;refine⟨Same.refl _,some v::rest,rfl,fun j v hv=> ?_,fun R h=>h,fun R h=>ht v x _ hF hmem s1 R h,fun hc H2 s2 R h=>he v x H2 hF hmem hc (s1.trans s2) R h⟩;cases j with
 | zero=>cases hv
 | succ j=>exact hv
theorem JT {kvs:List (Key×V)}{o:Obj}{xs:List α} (F:Key×V->α->Prop) (c:α->Bool) (P:α->V->Hp->Prop) (hm:∀x y H1 H2,P x y H1->Same H1 H2->P x y H2) (hn:xs.length<=sizeLine) (hr:ci.map (fun i=>(σ[i]?).join)=rest) (h0:H a=some (.frz o (.dK kvs))) (hv:Paired F kvs xs)
  (ht:∀e x H1,F e x->x∈xs->Same H H1->∀R:Bool->Hp->Prop,(∀H2,Same H1 H2->R (c x) H2)->ti (some (kV e.1)::some e.2::rest) H1 R)
  (he:∀e x H1,F e x->x∈xs->c x=true->Same H H1->∀R:VK,(∀y H2,P x y H2->Same H1 H2->R y H2)->te (some (kV e.1)::some e.2::rest) H1 R)
  (hf:∀ys H1,Same H H1->Paired (fun x y=>P x y H1) (xs.filter c) ys->fin ys H1):dP (Iti a o kvs) (xY K 2 (j7 (bZ 0) (j7 (bZ 1) BV))) ti te (bY 2 ci σ) fin H:=by
 have e0:bY 2 ci σ=none::none::rest:=LP hr;rw[e0];have hlen:kvs.length=xs.length:=Paired.length hv;refine jJ xs c P hm hn (fun i H1 s hi=>⟨s _ _ h0,by lia⟩) (fun H1 s=>⟨s _ _ h0,by lia⟩) (fun i x H1 hx s1 v H' y=> ?_) hf;obtain⟨k,u,q,e2,rfl,hq,rfl⟩:=y;have hF:=Paired.at2 hv e2 hx;have hmem:=List.mem_of_getElem? hx;have sq:Same H1 (upd H1 q (.tup [kV k,u])):=FR hq;refine⟨sq,some (kV k)::some u::rest,rfl,fun j v hv=> ?_,fun R h=>⟨q,[kV k,u],rfl,.inl (.inl bC),rfl,kV k,[u],rfl,u,[],rfl,rfl,h⟩,fun R h=>ht _ x _ hF hmem (s1.trans sq) R h,fun hc H2 s2 R h=>he _ x H2 hF hmem hc ((s1.trans sq).trans s2) R h⟩
 match j,hv with
 | 0,hv=>cases hv
 | 1,hv=>cases hv
 | j+2,hv=>exact hv
end
theorem cY {α:Type}{f:α->V}:∀{l:List α}{ys:List V},Paired (fun x y=>y=f x) l ys->ys=l.map f
 | _,_,.nil=>rfl
 | _,_,.cons h t=>by rw[h,cY t];rfl
theorem cT {α:Type}(l:List α):l.filter (fun _=>true)=l:=by simp
theorem QB {K:PySem.W.Frag}{H:Hp}{Q:VK}{p:Addr}{z:Str}{ss:List Str} (e:SqL K H p (ss.map V.str)) (h:Q (.bl (decide (z∈ss))) H):rIn K false (.str z) (.ref p) H Q:=by
 refine⟨p,_,rfl,.inl e,rfl,?_,?_⟩
 ·rw[List.all_eq_true];intro x hx;obtain⟨y,_,rfl⟩:=List.mem_map.mp hx;rfl
 ·have e2:inV (.str z) (ss.map V.str)=decide (z∈ss):=by
   rw[Bool.eq_iff_iff,decide_eq_true_eq];unfold inV;rw[List.any_eq_true]
   constructor
   ·rintro ⟨x,hx,h⟩;obtain⟨y,hy,rfl⟩:=List.mem_map.mp hx;have:y=z:=by simpa [eqV] using h
    rw[←this];exact hy
   ·intro h;exact⟨.str z,List.mem_map.mpr ⟨z,h,rfl⟩,by simp[eqV]⟩
  show Q (.bl (inV (.str z) (ss.map V.str))) H;rw[e2];exact h
end L2
namespace L2
open PySem PySem.W PyProof.Rows
abbrev aJ:=Int×Str×Int
def gN (t:Int)(n:Str):List Key:=[.inl t,.inr n]
def k4 (r:aJ):List Key:=[.inl r.1,.inr r.2.1,.inl r.2.2]
def tQ:V->Int
 | .int i=>i
 | _=>0
def LI (kvs:List (List Key×V))(r:aJ):List (List Key×V):=cC kvs (gN r.1 r.2.1) (.int (tQ ((bD kvs (gN r.1 r.2.1)).getD (.int 0))+r.2.2))
def mS (rows:List aJ):List (List Key×V):=rows.foldl LI []
theorem qW (rows:List aJ)(r:aJ):mS (rows++[r])=LI (mS rows) r:=by unfold mS;rw[List.foldl_append];rfl
def cH (rows:List aJ)(t:Int)(n:Str):Int:=((rows.filter fun r=>decide (r.1=t)&&decide (r.2.1=n)).map (·.2.2)).sum
theorem MH (rows:List aJ)(r:aJ)(t:Int)(n:Str):cH (rows++[r]) t n=cH rows t n+if r.1=t/\r.2.1=n then r.2.2 else 0:=by
 unfold cH;rw[List.filter_append,List.map_append,List.sum_append]
 congr 1
 by_cases h:r.1=t/\r.2.1=n
 ·rw[if_pos h,List.filter_cons_of_pos (by simp[h])];simp
 ·rw[if_neg h,List.filter_cons_of_neg (by simpa using h)];simp
theorem UL {t t':Int}{n n':Str} (h:gN t n=gN t' n'):t=t'/\n=n':=by
 unfold gN at h;injection h with h1 h2;injection h2 with h2;exact⟨Sum.inl.inj h1,Sum.inr.inj h2⟩
theorem oO {α:Type}{P:List α->Prop} (h0:P []) (hs:∀l a,P l->P (l++[a])) (l:List α):P l:=by
 have:∀m:List α,P m.reverse:=fun m=>by
  induction m with
  | nil=>exact h0
  | cons a m ih=>rw[List.reverse_cons];exact hs _ _ ih
 rw[←List.reverse_reverse l];exact this _
theorem SZ (t:Int)(n:Str)(rows:List aJ):tQ ((bD (mS rows) (gN t n)).getD (.int 0))=cH rows t n:=by
 induction rows using oO with
 | h0=>rfl
 | hs l r ih =>
  rw[qW,MH];unfold LI;rw[tL]
  by_cases e:gN t n=gN r.1 r.2.1
  ·obtain⟨rfl,rfl⟩:=UL e;rw[if_pos rfl,if_pos ⟨rfl,rfl⟩,←ih];rfl
  ·rw[if_neg e,if_neg (fun h=>e (by rw[h.1,h.2])),ih];lia
theorem NG {κ:Type}[DecidableEq κ]{kvs:List (κ×V)}{k:κ}{v:V} (nd:(kvs.map (·.1)).Nodup):((cC kvs k v).map (·.1)).Nodup:=by
 unfold cC
 split
 ·have e:(kvs.map fun kv=>if kv.1=k then (kv.1,v) else kv).map (·.1)=kvs.map (·.1):=by
   rw[List.map_map]
   apply List.map_congr_left
   intro x _;show (if x.1=k then (x.1,v) else x).1=x.1
   split<;>rfl
  rw[e];exact nd
 ·rename_i h;rw[List.map_append];refine KJ nd fun hk=>h ?_;obtain⟨x,hx,e⟩:=List.mem_map.mp hk;rw[List.any_eq_true];exact⟨x,hx,decide_eq_true e⟩
theorem oK {κ:Type}[DecidableEq κ]:∀{kvs:List (κ×V)}{e:κ×V},(kvs.map (·.1)).Nodup->e∈kvs->bD kvs e.1=some e.2
 | a::l,e,nd,h=>by
  have nd':=List.pairwise_cons.mp nd;rcases List.mem_cons.mp h with rfl|h
  ·exact dE rfl
  ·rw[cU (nd'.1 e.1 (List.mem_map.mpr ⟨e,h,rfl⟩))];exact oK nd'.2 h
theorem C4 {κ:Type}[DecidableEq κ]{kvs:List (κ×V)}{k:κ}{v:V} (h:bD kvs k=some v):(k,v)∈kvs:=by
 unfold bD at h;obtain⟨x,hx,e⟩:=Option.map_eq_some_iff.mp h;have h1:=List.find?_some hx;have h2:=List.mem_of_find?_eq_some hx;have h3:x.1=k:=of_decide_eq_true h1;rw[←h3,←e];exact h2
def aCx (kvs:List (List Key×V)):Prop:=(kvs.map (·.1)).Nodup/\∀e∈kvs,∃t n i,e=(gN t n,.int i)
theorem C5 (rows:List aJ):aCx (mS rows):=by
 induction rows using oO with
 | h0=>exact⟨List.nodup_nil,fun e h=>nomatch h⟩
 | hs l r ih =>
  rw[qW];refine⟨NG ih.1,fun e he=> ?_⟩;rcases GC he with h|⟨h1,h2⟩
  ·exact ih.2 e h
  ·exact⟨_,_,_,Prod.ext h1 h2⟩
theorem UU (rows:List aJ)(t:Int)(n:Str):∃i,(bD (mS rows) (gN t n)).getD (.int 0)= .int i:=by
 cases h:bD (mS rows) (gN t n) with
 | none=>exact⟨0,rfl⟩
 | some v =>
  obtain⟨t',n',i,e⟩:=(C5 rows).2 _ (C4 h);cases e;exact⟨i,rfl⟩
theorem E4 (rows:List aJ):(mS rows).length<=rows.length:=by
 induction rows using oO with
 | h0=>exact Nat.le_refl _
 | hs l r ih =>
  rw[qW,List.length_append];exact Nat.le_trans (fY _ _ _) (by simp;lia)
end L2
namespace L2
open PySem PySem.W PyProof.Rows
theorem W0:typeLookup (.type "dict") "__len__" =pure (some (.builtin "dict.__len__")):=by rw[typeLookup_type,builtinLookup_eq_fast];kernel_rfl
section
variable {prog:Program}{w:World}{A:Around}{E:Value->Shared->Prop}{s:Shared}{d:Addr}{κ:Type} [DecidableEq κ] {knd:KeyKind prog w κ}{ps:List (κ×Value)}{ep:Nat}
theorem NV (T:s.TypeIs (.ref d) "dict"){Q:Bool->Shared->Prop}(h:Q false s):wpAny (model prog w) A (Builtin.List.listLengthHint (.ref d)) Q E s:=by
 unfold Builtin.List.listLengthHint;refine wpAny_bind (wpAny_specialOf T W0 ?_);generalize q:("dict.__len__" :String)=i0
 wp_delta
 rw[show splitId i0=some ("dict","__len__") from by subst q;decide +kernel];subst q;refine wpAny_bind (wpAny_isInstance (T:= "dict") (b:=true) T (by rw[isSubtype_type];kernel_rfl) (wpAny_ite_split (fun z=>absurd z (by decide)) (fun _=>wpAny_ite_split (fun _=> ?_) (fun z=>absurd (by decide +kernel) z))));exact wpAny_bind (wpAny_typeOf T (wpAny_pure h))
theorem IR {R:Result->Shared->Prop}(hh:A.handled=none)(hm:s.heap.DictAt knd d ps ep)(hd0:(d==sysModules)=false)(S:Addr)(hSd:S≠d)(c0:Nat)(hS:s.heap.get? S=some { cls:= .type "list",data:= .seq #[] c0 })(hn:ps.length<=sizeLine)
  (k:∀h' tk acc c,(∀b o,b≠S->s.heap.get? b=some o->h'.get? b=some o)->h'.get? S=some { cls:= .type "list",dict:=none,data:= .seq acc c,slots:= #[] }->ItemsOf (fun i v=>∃k x,ps[i]? =some (k,x)/\knd.is k v=true) acc ps.length->R (.ok (.ret .none)) { s with heap:=h',toks:=tk }) :
  wpAny (model prog w) A.in1 (Builtin.List.listExtendWith (.ref S) (.ref d) .none) (fun fin s'=>match fin with| .done f=>R (.ok f) s'| .again c'=>c'.quiet=true/\codeAny (model prog w) A c' R s') (fun e s'=>R (.error e) s') s:=by
 obtain⟨o,es,ho,hc,hq,hk,hp,hnd⟩:=id hm;have T:s.TypeIs (.ref d) "dict" :=⟨o,ho,hc.1⟩
 have lS:S<s.heap.objs.size:=Heap.lt_size hS;have ld:d<s.heap.objs.size:=Heap.lt_size ho;have hsz:es.size=ps.length:=by rw[←hp.length];simp
 have W:=(Walks.dictKeys (prog:=prog) (w:=w) (knd:=knd) (A:=A.in1) hh s.heap.objs.size d (Nat.ne_of_lt ld) ps ep).toS;have run:∀(h:Heap) (c1 tk:Nat),h.IsKeyIter s.heap.objs.size d 0 ps.length ep->(∀b u,b≠S->s.heap.get? b=some u->h.get? b=some u)->h.get? S=some { cls:= .type "list",data:= .seq #[] c1 } →
   codeAny (model prog w) A (.builtin "list.extend.loop" ⟨[.ref S,.ref s.heap.objs.size,.none],[]⟩) R { s with heap:=h,toks:=tk }:=by
  intro h c1 tk hit kp hS1;refine codeAny_extend_loopS W hn S (by simp only[List.mem_cons,List.not_mem_nil,or_false,not_or];exact⟨Nat.ne_of_lt lS,hSd⟩) .none ps.length 0 _ #[] c1 rfl (Nat.zero_le _) ⟨hit,o,es,kp d o (Ne.symm hSd) ho,hc,hq,hk,hp,hnd⟩ hS1 (ItemsOf.nil _) fun s' acc c' mv hS2 hacc=> ?_;rw[Moved.eq_with mv];refine k s'.heap s'.toks acc c' (fun b u hb e=>mv.heap b u (fun z=> ?_) (kp b u hb e)) hS2 hacc;rcases List.mem_cons.mp z with z|z
  ·exact hb z
  ·have:=Heap.lt_size e;rw[List.mem_singleton.mp z]at this;exact Nat.lt_irrefl _ this
 unfold Builtin.List.listExtendWith;refine wpAny_bind (wpAny_typeOf (T:= "dict") T ?_);simp only[show Builtin.List.listSameRef (.ref S) (.ref d)=false by simp[Builtin.List.listSameRef,hSd],show (Value.type "dict" ==Value.type "list")=false by decide,show (Value.type "dict" ==Value.type "tuple")=false by decide,Bool.or_false,Bool.false_eq_true,if_false];refine wpAny_bind (yK hd0 ho hc hq ?_);have hS1:=Heap.get?_push_of_some { cls:= .type "dict_keyiterator",data:= .fields #[.ref d,.int 0 0,.int es.size 0,.int ep 0] } hS;refine wpAny_bind (wpAny_holding (NV ⟨o,Heap.get?_push_of_some _ ho,hc.1⟩ ?_));have hit:(s.heap.push { cls:= .type "dict_keyiterator",data:= .fields #[.ref d,.int 0 0,.int es.size 0,.int ep 0] }).IsKeyIter s.heap.objs.size d 0 ps.length ep:=⟨_,Heap.get?_push_size _ rfl,rfl,by rw[hsz];rfl⟩
 refine wpAny_ite_split (fun z=> ?_) (fun _=>wpAny_pure ⟨plainId_quiet F.plain_extend_loop _,run _ c0 _ hit (fun b u _ e=>Heap.get?_push_of_some _ e) hS1⟩);refine wpAny_bind (wpAny_rule (wpAny_bind ?_));show wpAny _ A.in1 (updateSeq S (·.push .none) >>= fun _=>updateSeq S (·.pop)) _ _ _;have u1:=Heap.get?_update_self (Obj.mapSeq (·.push Value.none)) hS1 rfl;have u2:=Heap.get?_update_self (Obj.mapSeq (·.pop)) u1 rfl;refine wpAny_bind (wpAny_updateSeq hS1 rfl (wpAny_updateSeq (hz:=by seq_fits) u1 rfl (wpAny_pure ⟨plainId_quiet F.plain_extend_loop _,run _ _ _ ?_ (fun b u hb e=> ?_) u2⟩)))
 ·exact hit.at fun u e=>(Heap.get?_update_other _ _ (Nat.ne_of_lt lS)).trans ((Heap.get?_update_other _ _ (Nat.ne_of_lt lS)).trans e)
 ·exact(Heap.get?_update_other _ _ (Ne.symm hb)).trans ((Heap.get?_update_other _ _ (Ne.symm hb)).trans (Heap.get?_push_of_some _ e))
theorem PJ {Q:Value->Shared->Prop}(hh:A.handled=none)(hm:s.heap.DictAt knd d ps ep)(hd0:(d==sysModules)=false)(hn:ps.length<=sizeLine)
  (k:∀h' tk acc c,(∀b o,s.heap.get? b=some o->h'.get? b=some o)->h'.get? s.heap.objs.size=some { cls:= .type "list",dict:=none,data:= .seq acc c,slots:= #[] }->ItemsOf (fun i v=>∃k x,ps[i]? =some (k,x)/\knd.is k v=true) acc ps.length->Q (.ref s.heap.objs.size) { s with heap:=h',toks:=tk }) :
  wpAny (model prog w) A (call (.type "list") [.ref d]) Q E s:=by
 refine callType_codes (Q₁:=fun x s1=>x= .ref s.heap.objs.size/\s1={ s with heap:=s.heap.push { cls:= .type "list",data:= .seq #[] } }) F.called_list (F.typeCall_list_1 _) F.entry_list_init (code_list_new _ ⟨rfl,rfl⟩) ?_;rintro x s1 ⟨rfl,rfl⟩;have hS:(s.heap.push { cls:= .type "list",data:= .seq #[] }).get? s.heap.objs.size=some { cls:= .type "list",data:= .seq #[] }:=Heap.get?_push_size _ rfl;have hm1:(s.heap.push { cls:= .type "list",data:= .seq #[] }).DictAt knd d ps ep:=hm.at' fun o e=>Heap.get?_push_of_some _ e;have hdS:s.heap.objs.size≠d:=fun z=>by
  obtain⟨o,_,ho,_⟩:=hm;have:=Heap.lt_size ho;rw[←z]at this;exact Nat.lt_irrefl _ this
 refine⟨⟨_,hS,rfl⟩,F.args_list_init_2 _ _,?_⟩;show wpAny _ A.in1.in1 (Builtin.List.listItems (.ref s.heap.objs.size) >>= fun old=>Builtin.List.listUpdate (.ref s.heap.objs.size) (fun _=> #[]) >>= fun _=>letGo old.toList.reverse >>= fun _=>Builtin.List.listExtendWith (.ref s.heap.objs.size) (.ref d) .none) _ _ _;refine wpAny_bind ?_;unfold Builtin.List.listItems;refine wpAny_bind (wpAny_seqItems hS rfl (wpAny_pure ?_));show wpAny _ A.in1.in1 (updateSeq s.heap.objs.size (fun _=> #[]) >>= fun _=>letGo (#[]:Array Value).toList.reverse >>= fun _=>Builtin.List.listExtendWith (.ref s.heap.objs.size) (.ref d) .none) _ _ _;have u1:=Heap.get?_update_self (Obj.mapSeq (fun _=>(#[]:Array Value))) hS rfl;have kp:∀b o,b≠s.heap.objs.size->(s.heap.push { cls:= .type "list",data:= .seq #[] }).get? b=some o->((s.heap.push { cls:= .type "list",data:= .seq #[] }).update s.heap.objs.size (Obj.mapSeq (fun _=>(#[]:Array Value)))).get? b=some o:=fun b o hb e=>(Heap.get?_update_other _ _ (Ne.symm hb)).trans e;refine wpAny_bind (wpAny_updateSeq hS rfl (wpAny_bind (wpAny_letGo ?_)));refine IR (A:=A.in1) hh (hm1.at' fun o e=>kp d o (Ne.symm hdS) e) hd0 _ hdS _ u1 hn fun h' tk acc c kk hS' hacc=> ?_;exact⟨rfl,k h' tk acc c (fun b o e=>kk b o (Nat.ne_of_lt (Heap.lt_size e)) (kp b o (Nat.ne_of_lt (Heap.lt_size e)) (Heap.get?_push_of_some _ e))) hS' hacc⟩
end
section
variable {X:Cx}
def QL:List V->Hp->VK->Prop:=fun xs H Q=>∃p kvs,xs=[.ref p]/\Rd H p (.dK kvs)/\∀l,H l=none->Q (.ref l) (upd H l (.lst (kvs.map fun e=>kV e.1)))
theorem D8 {P:Program}{w:World}{kvs:List (Key×V)}{rs:List (Key×Value)} (r:KV kvs rs) {acc:Array Value} (h:ItemsOf (fun i v=>∃k x,rs[i]? =some (k,x)/\(bQ P w).is k v=true) acc rs.length):Vals (kvs.map fun e=>kV e.1) acc.toList:=by
 have e0:acc.toList.length=rs.length:=by rw[Array.length_toList];exact h.1
 refine xV (by rw[List.length_map,e0];exact r.length) fun i x u h1 h2=> ?_;obtain⟨k,y,e1,e2⟩:=h.2 i u (by simpa using h2);rw[List.getElem?_map]at h1;obtain⟨e,he,rfl⟩:=Option.map_eq_some_iff.mp h1;have hi:i<kvs.length:=(List.getElem?_eq_some_iff.mp he).1;obtain⟨k',v',u',f1,f2,f3⟩:=EY r hi;rw[he]at f1;cases f1;rw[e1]at f2;cases f2;exact wK e2
theorem AB (hc:X.calm=true):c7 X (.type "list") QL:=by
 intro pins s σ H xs us Q I r h;obtain⟨p,kvs,rfl,hq,q⟩:=h;obtain⟨u,rfl,rx⟩:=iY r;cases rx;obtain⟨z,y,rs,kv,o,es,ep,h1,h2,h3,h4,h5,h6⟩:=q9 I.hok hq;have hl:=kv.length;refine PJ (knd:=bQ X.prog X.w) (ps:=rs) (ep:=ep) (I.ok.hd hc) ⟨o,es,h1,h2,h3,h4,h5,h6⟩ y (by lia) fun h' tk acc c kp hS hacc=> ?_;exact⟨.ref _,_,I.laid (t':=tk) kp (Nat.le_refl _) (show ObjOk X.prog X.w _ h' _ (.lst (kvs.map fun e=>kV e.1)) from⟨by rw[List.length_map];exact z,acc.toList,c,D8 kv hacc,by rw[Array.toArray_toList];exact hS⟩),rfl,q _ (I.hok.fresh (Nat.le_refl _))⟩
end
end L2
namespace L2
open PySem PySem.W PyProof.Rows
section
variable {X:Cx}
end
end L2
namespace L2
open PySem PySem.W PyProof.Rows
section
variable {X:Cx}{pins:List (Addr×Obj)}{σ:St}{H:Hp}{s:Shared}{h':Heap}
end
section
variable {X:Cx}
end
end L2
namespace L2
open PySem PySem.W PyProof.Rows
def ZZ (σ:St)(tv:TE)(rd:V->V->Hp->VK->Prop)(nx:St->Hp->Prop)(x:V):VK:=fun y H2=>∃a v,x= .ref a/\DGet H2 a y (some v)/\tv σ H2 fun y2 H3=>rd v y2 H3 fun z H4=>∃H5,DPut H4 a y z H5/\nx σ H5
def aAG (σ:St)(p:Addr)(k:V)(nx:St->Hp->Prop):VK:=fun z H4=>∃H5,DPut H4 p k z H5/\nx σ H5
section
variable {K:PySem.W.Frag}{H:Hp}{Q:VK}{σ:St}{nx:St->Hp->Prop}{td ty tv:TE}{rd:V->V->Hp->VK->Prop}{rt:VK}{bk ct:St->Hp->Prop}{R:It->Hp->Prop}
theorem YL (h:td σ H fun x H1=>ty σ H1 (ZZ σ tv rd nx x)):VI td ty tv rd ⟨nx,rt,bk,ct⟩ σ H:=h
theorem RN {p:Addr}{z:Str}{kvs:List (Key×V)}{v:V} (e:Rd H p (.dK kvs)) (hv:bD kvs (.inr z)=some v) (h:tv σ H fun y2 H3=>rd v y2 H3 (aAG σ p (.str z) nx)):ZZ σ tv rd nx (.ref p) (.str z) H:=⟨p,v,rfl,.inl ⟨kvs,.inr z,e,rfl,hv.symm⟩,h⟩
theorem W6 {p:Addr}{z:Str}{kvs:List (Key×V)}{v:V} (e:H p=some (.dK kvs)) (hl:kvs.length<sizeLine) (h:∀H',SameBut p H H'->H' p=some (.dK (cC kvs (.inr z) v))->nx σ H'):aAG σ p (.str z) nx v H:=⟨_,DPut.k (k:= .inr z) e hl,h _ SameBut.upd bC⟩
theorem GE {p:Addr}{kvs:List (Key×V)} (e:Rd H p (.dK kvs)) (h:∀l H',H l=none->Same H H'->H' l=some (.lst (kvs.map fun e=>kV e.1))->Q (.ref l) H'):QL [.ref p] H Q:=⟨p,kvs,rfl,e,fH h⟩
theorem P8 {l b:Addr}{xs zs:List V} (e:H l=some (.lst xs)) (e2:H b=some (.lst zs)) (hz:xs.length+zs.length<=sizeLine) (h:∀H',SameBut l H H'->H' l=some (.lst (xs++zs))->Q .non H'):KC (.ref l) [.ref b] H Q:=⟨l,b,xs,zs,rfl,rfl,e,e2,hz,h _ SameBut.upd bC⟩
end
def dJ (ps:List (Str×Int))(z:Str):Int:=((ps.filter fun p=>decide (p.1=z)).map (·.2)).sum
theorem QQ (ps:List (Str×Int))(p:Str×Int)(z:Str):dJ (ps++[p]) z=dJ ps z+if p.1=z then p.2 else 0:=by
 unfold dJ;rw[List.filter_append,List.map_append,List.sum_append]
 congr 1
 by_cases h:p.1=z
 ·rw[if_pos h];simp[h]
 ·rw[if_neg h];simp[h]
end L2
namespace L2
open PySem PySem.W PyProof.Rows
theorem aAO {te:TE}{σ:St}{ci:List Nat}{rest:St}{fin:List V->Hp->Prop}{H:Hp}{lo:Int}{n:Nat} (P:Nat->V->Hp->Prop) (hm:∀x y H1 H2,P x y H1->Same H1 H2->P x y H2) (hn:n<=sizeLine) (hr:ci.map (fun i=>(σ[i]?).join)=rest)
  (he:∀(i:Nat) H1,i<n->Same H H1->∀R:VK,(∀y H2,P i y H2->Same H1 H2->R y H2)->te (some (.int (lo+i))::rest) H1 R)
  (hf:∀ys H1,Same H H1->Paired (fun x y=>P x y H1) (List.range n) ys->fin ys H1):dP (Itr lo n) (bZ 0) yH te (bY 1 ci σ) fin H:=by
 rw[AU hr];refine jJ (List.range n) (fun _=>true) P hm (by rw[List.length_range];exact hn) (fun i H1 s hi=>by rw[List.length_range]at hi;exact hi) (fun H1 s=>by rw[List.length_range];exact Nat.le_refl _) (fun i x H1 hx s1 v H' y=> ?_) (fun ys H1 s1 h=>hf ys H1 s1 (by rw[cT]at h;exact h));obtain⟨rfl,rfl⟩:=y;obtain⟨hi,e⟩:=List.getElem?_eq_some_iff.mp hx;rw[List.length_range]at hi;rw[List.getElem_range]at e;subst e;refine⟨Same.refl _,some (.int (lo+(i:Nat)))::rest,rfl,fun j v hv=> ?_,fun R h=>h,fun R h=>h _ (Same.refl _),fun hc H2 s2 R h=>he i H2 hi (s1.trans s2) R h⟩;cases j with
 | zero=>cases hv
 | succ j=>exact hv
end L2
namespace L2
open PySem PySem.W PyProof.Rows PySem.Calls
section
variable {prog:Program}{w:World}{A:Around}{E:Value->Shared->Prop}{s:Shared}{d v:Addr}{o:Obj}{es:Array DictEntry}{ep:Nat}
theorem IT {T:String}{r:Addr}{n:Nat}{P:Nat->Value->Prop}{OK:Heap->Prop}{F:List Value->Shared->Prop} (S:KdlSrc prog w T r d n P OK) (hh:A.handled=none) (hok:OK s.heap) (hn:n<=sizeLine)
  (fin:∀(g:Heap) (t:Nat) (xs:Array Value),(∀b u,s.heap.get? b=some u->g.get? b=some u)->s.heap.objs.size<g.objs.size->ItemsOf P xs n->F xs.toList { s with heap:=g,toks:=t }):wpAny (model prog w) A (collect (.ref r)) F E s:=by
 obtain⟨lr,ld⟩:=S.there _ hok;unfold collect;refine wpAny_bind (wpAny_runValue (codeAny_builtin entry_proto_collect' ?_));rw[Around.under_plainId PySem.F.plain_proto_collect _];show wpAny _ A.in1 (newList [] >>= fun x=>again (.builtin "list.__iadd__" ⟨[x,.ref r],[]⟩)) _ _ s;refine wpAny_bind (wpAny_newObj_type (wpAny_pure ⟨plainId_quiet PySem.F.plain_list_iadd _,codeAny_builtin entry_list_iadd' ?_⟩));rw[Around.under_plainId PySem.F.plain_list_iadd _];have e0:(s.heap.push { cls:= .type "list",data:= .seq ([]:List Value).toArray }).get? s.heap.objs.size=some { cls:= .type "list",data:= .seq #[] }:=Heap.get?_push_size _ rfl;have go:=kdl_extend (A:=A) (s:={ s with heap:=s.heap.push { cls:= .type "list",data:= .seq ([]:List Value).toArray } }) (R:=fun (z:Result) (s2:Shared)=>∃(g:Heap) (t:Nat) (xs:Array Value) (c:Nat),z= .ok (.ret (.ref s.heap.objs.size))/\s2={ s with heap:=g,toks:=t }/\(∀b u,s.heap.get? b=some u->g.get? b=some u)/\g.get? s.heap.objs.size=some { cls:= .type "list",dict:=none,data:= .seq xs c,slots:= #[] }/\ItemsOf P xs n)
  S hh (S.keep _ _ hok fun b _ u q=>Heap.get?_push_of_some _ q) s.heap.objs.size (Nat.ne_of_gt lr) (Nat.ne_of_gt ld) (.ref s.heap.objs.size) 0 e0 (fun g t xs c kp hx hi=>⟨g,t,xs,c,rfl,rfl,fun b u q=>kp b u (Nat.ne_of_lt (Heap.lt_size q)) (Heap.get?_push_of_some _ q),hx,hi⟩) hn
 have last:∀(g:Heap) (t:Nat) (xs:Array Value) (c:Nat),(∀b u,s.heap.get? b=some u->g.get? b=some u)->g.get? s.heap.objs.size=some { cls:= .type "list",dict:=none,data:= .seq xs c,slots:= #[] }->ItemsOf P xs n->wpAny (model prog w) A (load s.heap.objs.size >>= fun o=>match o.data with| .seq ys _=>pure ys.toList|_=>unsupported "internal:collect") F E { s with heap:=g,toks:=t }:=fun g t xs c kp hx hi =>
  wpAny_bind (wpAny_load hx (wpAny_pure (fin g t xs kp (Heap.lt_size hx) hi)))
 refine wpAny_mono go (fun z s2 y=> ?_) (fun z s2 y=>by obtain⟨_,_,_,_,y,_⟩:=y;cases y);cases z with
 | done f=>obtain⟨g,t,xs,c,y,rfl,kp,hx,hi⟩:=y;cases y;exact last g t xs c kp hx hi
 | again c1=>exact⟨y.1,codeAny_mono y.2 fun q s3 y=>by obtain⟨g,t,xs,c,rfl,rfl,kp,hx,hi⟩:=y;exact last g t xs c kp hx hi⟩
theorem MK {T:String}{r:Addr}{n:Nat}{P:Nat->Value->Prop}{OK:Heap->Prop}{Q:Value->Shared->Prop} (S:KdlSrc prog w T r d n P OK) (hh:A.handled=none) (hok:OK s.heap) (h64:n<64) (c:Nat->Nat->Bool) (κ:SortKind)
  (hk:∀vs:List Value,vs.length=n->(∀j v,vs[j]? =some v->P j v)->2<=vs.length->∀h' tk,(∀b o,s.heap.get? b=some o->h'.get? b=some o)->∀R:SortKind->Shared->Prop,R κ { s with heap:=h',toks:=tk }->wpAny (model prog w) A.in1.in1 (keyKind' vs.toArray) R (fun _ _=>False) { s with heap:=h',toks:=tk })
  (hc:∀vs:List Value,vs.length=n->(∀j v,vs[j]? =some v->P j v)->2<=vs.length->∀h' tk,(∀b o,s.heap.get? b=some o->h'.get? b=some o)->∀i j,i<vs.length->j<vs.length->∀C,C (c i j) { s with heap:=h',toks:=tk }->kas_ask prog w A.in1.in1 κ vs i j C { s with heap:=h',toks:=tk })
  (h:∀(vs:List Value) D h' tk e,vs.length=n->(∀j v,vs[j]? =some v->P j v)->s.heap.objs.size<=D->(∀b o,s.heap.get? b=some o->h'.get? b=some o)->h'.get? D=some (seqObj "list" (cE Value.none c vs).toArray e)->Q (.ref D) { s with heap:=h',toks:=tk }) :
  wpAny (model prog w) A (call (.builtin "sorted") [.ref r]) Q E s:=by
 refine Calls.call_function_entry kind_sorted plain_sorted entry_sorted (args_sorted1 _) ?_;unfold Builtin.«sorted»;refine wpAny_bind (m:=checkCount "sorted" 1 1 _) (wpAny_pure (wpAny_bind (IT S hh hok (by rw[sizeLine_eq];lia) fun q tk acc qk qz hacc=> ?_)));have hl:acc.toList.length=n:=by rw[Array.length_toList];exact hacc.1
 have hP:∀j v,acc.toList[j]? =some v->P j v:=fun j v e=>hacc.2 j v (by rw[←Array.getElem?_toList];exact e);generalize acc.toList=vs at hl hP;have hz64:vs.length<=sizeLine:=by rw[sizeLine_eq];lia
 refine wpAny_bind (wpAny_newList ?_ hz64);have oD:(q.push (seqObj "list" vs.toArray 0)).get? q.objs.size=some (seqObj "list" vs.toArray 0):=Heap.get?_push_size _ rfl;have kD:∀h',fK q.objs.size (q.push (seqObj "list" vs.toArray 0)) h'->∀b o,s.heap.get? b=some o->h'.get? b=some o:=fun h' k b o e =>
  k b o (Nat.ne_of_lt (Heap.lt_size (qk b o e))) (Heap.get?_push_of_some _ (qk b o e))
 refine wpAny_bind (wpAny_holding (wpAny_call_entry slot_list_sort ⟨_,oD,rfl⟩ entry_list_sort ?body (args_list_sort _)))
 case body =>
  refine KU (s:={ s with heap:=q.push (seqObj "list" vs.toArray 0),toks:=tk }) c κ oD (by lia) (fun h2 h' k=>hk vs hl hP h2 h' tk (kD h' k)) (fun h2 h' k=>hc vs hl hP h2 h' tk (kD h' k)) fun h' e k o'=> ?_;exact⟨_,rfl,wpAny_pure ⟨_,rfl,h vs _ h' tk e hl hP (Nat.le_of_lt qz) (kD h' k) o'⟩⟩
end
section
variable {X:Cx}
theorem UV {K:PySem.W.Frag}(h:X.K=K:=by rfl):IxR X (E7 K):=by subst h;exact fI
end
section
variable {K:PySem.W.Frag}{H:Hp}{Q:VK}{σ:St}{td:TE}
end
end L2
namespace L2
open PySem PySem.W PyProof.Rows
section
variable {X:Cx}
end
def aBl (K:PySem.W.Frag):R2:=fun x y H Q=>∃a b xs,x= .ref a/\y= .ref b/\SqL K H a xs/\SqL K H b []/\Q (.bl xs.isEmpty) H
theorem aAV {X:Cx}(hu:X.A.units<cLine):OpR X (compareOp .Eq) (aBl X.K):=by
 intro pins s σ H x y v u Q I rx ry h;obtain⟨a,b,xs,rfl,rfl,ha,hb,q⟩:=h;cases rx;cases ry;obtain⟨its,r,pl,hz⟩:=I.list ha;obtain⟨its2,r2,pl2,_⟩:=I.list hb;cases r2;cases xs with
 | nil=>cases r;exact SeqAt.RcAt.lists (e:=fun _=>true) pl.isList pl2.isList rfl hu (fun j h1=>absurd h1 (Nat.not_lt_zero _)) X.prog X.w X.xe _ ⟨.bl true,H,I,rfl,q⟩
 | cons x xs=>cases r with|cons r1 r2=>exact SeqAt.RcAt.lists_lengths pl.isList pl2.isList (by simp) hu X.prog X.w X.xe _ ⟨.bl false,H,I,rfl,q⟩
theorem Z8 {K:PySem.W.Frag}{H:Hp}{Q:VK}{a b:Addr}{xs:List V} (ha:SqL K H a xs) (hb:SqL K H b []) (h:Q (.bl xs.isEmpty) H):aBl K (.ref a) (.ref b) H Q:=⟨a,b,xs,rfl,rfl,ha,hb,h⟩
section
variable {X:Cx}{P:Program}{w:World}{K:PySem.W.Frag}{mg:Str->Option Value}{base:Heap}{k':Nat}{o e:Expr}{es:List Expr}{m:Str}{ta:TE}{t:TA}{apos pos:Pos}
theorem oS (k:Nat){pl:Sem Bool}(hr:Room k' X.A)(ho:PE X o ta)(ha:PA X (e::es) t)(hk:k<=k':=by decide)(hst:starEach (e::es) X.env=(false,eval e X.env)::starEach es X.env:=by rfl)(hpl:(backTo pos (starEach es X.env)).any (·.1)=false:=by rfl)
  (ht:eval (.Call (.Attribute o m apos) (e::es) [] pos) X.env=(do let ov ←eval o X.env;standAt apos.atName;let (f,first) ←holding [ov] (getMethod ov m pl);callWith pos f first (backTo pos (starEach (e::es) X.env)) (backToKw pos (keywordEach [] X.env))):=by rfl)
  (h1:X.prog=P:=by rfl)(h2:X.w=w:=by rfl)(h3:X.K=K:=by rfl)(h4:X.mg=mg:=by rfl)(h5:X.base=base:=by rfl):PE X (.Call (.Attribute o m apos) (e::es) [] pos) (tMD (fun C sp=>Mc P w K mg base C m k sp) m ta t):=by
 subst h1 h2 h3 h4 h5;exact d5 k hr ho ha hk hst hpl ht
theorem X9 (k:Nat){pl:Sem Bool}(hr:Room k' X.A)(ho:PE X o ta)(hk:k<=k':=by decide)
  (ht:eval (.Call (.Attribute o m apos) [] [] pos) X.env=(do let ov ←eval o X.env;standAt apos.atName;let (f,first) ←holding [ov] (getMethod ov m pl);callWith pos f first (backTo pos (starEach [] X.env)) (backToKw pos (keywordEach [] X.env))):=by rfl)
  (h1:X.prog=P:=by rfl)(h2:X.w=w:=by rfl)(h3:X.K=K:=by rfl)(h4:X.mg=mg:=by rfl)(h5:X.base=base:=by rfl):PE X (.Call (.Attribute o m apos) [] [] pos) (tMD (fun C sp=>Mc P w K mg base C m k sp) m ta LW):=by
 subst h1 h2 h3 h4 h5;exact dA k hr ho hk ht
end
theorem aA2 {v:V}{H:Hp}{Q:VK}{a0 a1 a2 a3 a4 a5 a6 a7 a8 a9 a10 a11 a12:Option V}{l:St} (h:Q v H):gQ 13 (a0::a1::a2::a3::a4::a5::a6::a7::a8::a9::a10::a11::a12::some v::l) H Q:=⟨v,rfl,h⟩
theorem aAR {v:V}{H:Hp}{q:St->Hp->Prop}{a0 a1 a2 a3 a4 a5 a6 a7 a8 a9 a10 a11 a12 a:Option V}{l:St} (h:q (a0::a1::a2::a3::a4::a5::a6::a7::a8::a9::a10::a11::a12::some v::l) H):bZ 13 v (a0::a1::a2::a3::a4::a5::a6::a7::a8::a9::a10::a11::a12::a::l) H q:=h
theorem aAu {v:V}{H:Hp}{Q:VK}{a0 a1 a2 a3 a4 a5 a6 a7 a8 a9 a10 a11 a12 a13:Option V}{l:St} (h:Q v H):gQ 14 (a0::a1::a2::a3::a4::a5::a6::a7::a8::a9::a10::a11::a12::a13::some v::l) H Q:=⟨v,rfl,h⟩
theorem Y9 {v:V}{H:Hp}{q:St->Hp->Prop}{a0 a1 a2 a3 a4 a5 a6 a7 a8 a9 a10 a11 a12 a13 a:Option V}{l:St} (h:q (a0::a1::a2::a3::a4::a5::a6::a7::a8::a9::a10::a11::a12::a13::some v::l) H):bZ 14 v (a0::a1::a2::a3::a4::a5::a6::a7::a8::a9::a10::a11::a12::a13::a::l) H q:=h
end L2
namespace L2
open PySem PySem.W PyProof.Rows
theorem Room.units9 {k:Nat}{A:Around} (r:Room k A):A.units+9<cLine:=by have:=r.un;have:cLine=9900:=rfl;lia
def DeepEq (K:PySem.W.Frag)(H:Hp):Nat->V->V->Prop
 | 0,x,y=>x=y/\zJ x=true
 | n+1,x,y=>(x=y/\zJ x=true)∨(∃a b xs ys,x= .ref a/\y= .ref b/\SqL K H a xs/\SqL K H b ys/\Paired (DeepEq K H n) xs ys)∨(∃a b xs ys,x= .ref a/\y= .ref b/\H a=some (.tup xs)/\H b=some (.tup ys)/\Paired (DeepEq K H n) xs ys)
theorem DI {A:Around}{s:Shared}{x:V}{u v:Value} (h:zJ x=true) (ru:RelV x u) (rv:RelV x v):SeqAt.EqAt A s u v true:=by
 have base:j3 x=true->SeqAt.EqAt A s u v true:=fun hx=>by
  have:=NF (A:=A) (s:=s) ru rv hx hx;rw[RX hx]at this;exact this
 cases x<;>first|(cases ru;cases rv;exact SeqAt.EqAt.same _)|exact base h
theorem tO {A:Around}{s:Shared}{F:V->V->Prop} (hF:∀x y u v,F x y->RelV x u->RelV y v->SeqAt.EqAt A s u v true):∀{xs ys:List V}{us ws:List Value},Paired F xs ys->Vals xs us->Vals ys ws->∀j (h1:j<us.length) (h2:j<ws.length),SeqAt.EqAt A s us[j] ws[j] true
 | _,_,_,_,.nil,.nil,.nil,j,h1,_=>absurd h1 (Nat.not_lt_zero _)
 | _,_,_,_,.cons h _,.cons r1 _,.cons r2 _,0,_,_=>hF _ _ _ _ h r1 r2
 | _,_,_,_,.cons _ t,.cons _ t1,.cons _ t2,j+1,h1,h2=>tO hF t t1 t2 j (Nat.lt_of_succ_lt_succ h1) (Nat.lt_of_succ_lt_succ h2)
section
variable {X:Cx}{pins:List (Addr×Obj)}{σ:St}{H:Hp}{s:Shared}
theorem BS (I:Inv X pins σ H s):∀(n:Nat) (A:Around),A.units+n<cLine->∀x y u v,DeepEq X.K H n x y->RelV x u->RelV y v->SeqAt.EqAt A s u v true
 | 0,A,hu,x,y,u,v,h,ru,rv=>by obtain⟨rfl,h⟩:=h;exact DI h ru rv
 | n+1,A,hu,x,y,u,v,h,ru,rv=>by
  rcases h with⟨rfl,h⟩|⟨a,b,xs,ys,rfl,rfl,ha,hb,pr⟩|⟨a,b,xs,ys,rfl,rfl,ha,hb,pr⟩
  ·exact DI h ru rv
  ·cases ru;cases rv
   by_cases hab:a=b
   ·subst hab;exact SeqAt.EqAt.same _
   ·obtain⟨its,r,pl,hz⟩:=I.list ha;obtain⟨its2,r2,pl2,_⟩:=I.list hb;have hl:its.length=its2.length:=by rw[←r.length,←r2.length];exact Paired.length pr
    have:=SeqAt.EqAt.of_refs hab (SeqAt.RcAt.lists (A:=A) (e:=fun _=>true) pl.isList pl2.isList (by simpa using hl) (by lia) fun j h1 h2=>by
     have h1':j<its.length:=by simpa using h1
     have h2':j<its2.length:=by simpa using h2
     have:=tO (A:=A.in1) (BS I n A.in1 (by show A.units+1+n<cLine;lia)) pr r r2 j h1' h2'
     simpa using this)
    rw[xX]at this;exact this
  ·cases ru;cases rv
   by_cases hab:a=b
   ·subst hab;exact SeqAt.EqAt.same _
   ·obtain⟨_,its,r,o1,g1,c1,n1,d1⟩:=(show ObjOk X.prog X.w H s.heap a (.tup xs) from I.hok a _ ha)
    obtain⟨_,its2,r2,o2,g2,c2,n2,d2⟩:=(show ObjOk X.prog X.w H s.heap b (.tup ys) from I.hok b _ hb)
    have hl:its.length=its2.length:=by rw[←r.length,←r2.length];exact Paired.length pr
    have:=SeqAt.EqAt.of_refs hab (SeqAt.RcAt.tuples (A:=A) (e:=fun _=>true) ⟨o1,g1,c1,n1,d1⟩ ⟨o2,g2,c2,n2,d2⟩ (by lia) fun j h1 h2=>by
     have h1':j<its.length:=by simpa using h1
     have h2':j<its2.length:=by simpa using h2
     have:=tO (A:=A.in1) (BS I n A.in1 (by show A.units+1+n<cLine;lia)) pr r r2 j h1' h2'
     simpa using this)
    simpa [xX,hl] using this
end
section
variable {X:Cx}
def N5 (K:PySem.W.Frag)(r:Bool):R2:=fun x y H Q=>∃a b xs ys,x= .ref a/\y= .ref b/\SqL K H a xs/\SqL K H b ys/\Paired (DeepEq K H 4) xs ys/\Q (.bl r) H
theorem aAi (hu:X.A.units+9<cLine):OpR X (compareOp .Eq) (N5 X.K true):=by
 intro pins s σ H x y v u Q I rx ry h;obtain⟨a,b,xs,ys,rfl,rfl,ha,hb,pr,q⟩:=h;cases rx;cases ry;obtain⟨its,r,pl,hz⟩:=I.list ha;obtain⟨its2,r2,pl2,_⟩:=I.list hb;have hl:its.length=its2.length:=by rw[←r.length,←r2.length];exact Paired.length pr
 refine SeqAt.eq_listAt (e:=fun _=>true) pl.isList pl2.isList (by simpa using hl) (by lia) (fun j h1 h2=> ?_) ⟨.bl true,H,I,by rw[xX];rfl,q⟩;have:=tO (A:=X.A.in1) (BS I 4 X.A.in1 (by show X.A.units+1+4<cLine;lia)) pr r r2 j (by simpa using h1) (by simpa using h2)
 simpa using this
end
section
variable {K:PySem.W.Frag}{H H':Hp}{Q:VK}
theorem RP {a b:Addr}{xs ys:List V}{r:Bool} (ha:SqL K H a xs) (hb:SqL K H b ys) (pr:Paired (DeepEq K H 4) xs ys) (h:Q (.bl r) H):N5 K r (.ref a) (.ref b) H Q:=⟨a,b,xs,ys,rfl,rfl,ha,hb,pr,h⟩
theorem DeepEq.self {n:Nat}{x:V} (h:zJ x=true):DeepEq K H n x x:=by cases n with|zero=>exact⟨rfl,h⟩|succ n=>exact .inl ⟨rfl,h⟩
theorem AK {n:Nat}:∀{xs:List V},xs.all zJ=true->Paired (DeepEq K H n) xs xs
 | [],_=> .nil
 | x::xs,h=>by
  rw[List.all_cons,Bool.and_eq_true]at h;exact .cons (DeepEq.self h.1) (AK h.2)
end
section
variable {H:Hp}{Q:VK}{σ:St}{ty tx:TE}
end
end L2
namespace L2
open PySem PySem.W PyProof.Rows
section
variable {H:Hp}{Q:VK}
end
end L2
namespace L2
open PySem PySem.Spec PyProof.Rows
def SameT (H H':Hp):Prop:=∀b u,H b=some u->(∀ps,u≠ .tbl ps)->H' b=some u
theorem Same.t {H H':Hp}(s:Same H H'):SameT H H':=fun b u e _=>s b u e
theorem SameT.snoc {H H1 H2:Hp}(s:SameT H H1)(a:Same H1 H2):SameT H H2:=fun b u e n=>a b u (s b u e n)
theorem SameT.seq {K:PySem.W.Frag}{H H':Hp}{a:Addr}{xs:List V} (T:SameT H H') (h:SqL K H a xs):SqL K H' a xs:=by
 rcases h with (h|⟨o,h⟩)|h
 ·exact .inl (.inl (T _ _ h fun ps z=>by cases z))
 ·exact .inl (.inr ⟨o,T _ _ h fun ps z=>by cases z⟩)
 ·exact .inr h
def TabS (H:Hp)(PL:Addr)(pos:Pos)(qual:Str):Prop:=H PL=some (.tbl #[])∨∃(c':Addr) (oc:Obj) (fv:Array Value) (t:Tok),H PL=some (.tbl #[rawInt pos.line,rawInt pos.col,.ref c'])/\H c'=some (kn oc)/\oc.data= .fields fv/\fv[1]? =some (.str qual t)
theorem TabS.same {H H':Hp}{PL:Addr}{pos:Pos}{qual:Str} (x:TabS H PL pos qual) (s:Same H H'):TabS H' PL pos qual:=by
 rcases x with h|⟨c',oc,fv,t,h1,h2,h3⟩
 ·exact .inl (s _ _ h)
 ·exact .inr ⟨c',oc,fv,t,s _ _ h1,s _ _ h2,h3⟩
section
variable {X:Cx}{args:Arguments}{body:Expr}{lsc:Scope}{pos:Pos}{y:Str}{c cL PL:Addr}
end
section
variable {K:PySem.W.Frag}{ti:TT}{te:TE}{σ:St}{ci:List Nat}{rest:St}{fin:List V->Hp->Prop}{H:Hp}{a:Addr}{α:Type}
end
end L2
namespace L2
open PySem PySem.W PyProof.Rows
section
variable {X:Cx}{pins:List (Addr×Obj)}{σ:St}{H:Hp}{s:Shared}
end
open Classical in
section
variable {X:Cx}{K:PySem.W.Frag}
open Classical in
open Classical in
open Classical in
end
end L2
namespace L2
open PySem PySem.W PyProof.Rows
section
variable {K:PySem.W.Frag}{ti:TT}{te:TE}{σ:St}{ci:List Nat}{rest:St}{fin:List V->Hp->Prop}{H:Hp}{a:Addr}
theorem ZH {kvs:List (List Key×V)}{o:Obj} (c:List Key×V->Bool) (P:List Key×V->V->Hp->Prop) (hm:∀x y H1 H2,P x y H1->Same H1 H2->P x y H2) (hk:∀e∈kvs,e.1.length=2) (hn:kvs.length<=sizeLine) (hr:ci.map (fun i=>(σ[i]?).join)=rest) (h0:H a=some (.frz o (.dT kvs)))
  (ht:∀k1 k2 v H1,([k1,k2],v)∈kvs->Same H H1->∀R:Bool->Hp->Prop,(∀H2,Same H1 H2->R (c ([k1,k2],v)) H2)->ti (some (kV k1)::some (kV k2)::rest) H1 R)
  (he:∀k1 k2 v H1,([k1,k2],v)∈kvs->c ([k1,k2],v)=true->Same H H1->∀R:VK,(∀y H2,P ([k1,k2],v) y H2->Same H1 H2->R y H2)->te (some (kV k1)::some (kV k2)::rest) H1 R)
  (hf:∀ys H1,Same H H1->Paired (fun x y=>P x y H1) (kvs.filter c) ys->fin ys H1):dP (Itq a o kvs) (xY K 2 (j7 (bZ 0) (j7 (bZ 1) BV))) ti te (bY 2 ci σ) fin H:=by
 have e0:bY 2 ci σ=none::none::rest:=LP hr;rw[e0];refine jJ kvs c P hm hn (fun i H1 s hi=>⟨s _ _ h0,hi⟩) (fun H1 s=>⟨s _ _ h0,Nat.le_refl _⟩) (fun i x H1 hx s1 v H' y=> ?_) hf;obtain⟨rfl,k,u,q,e2,rfl,hq⟩:=y;rw[hx]at e2;cases e2;have hmem:=List.mem_of_getElem? hx;have hl2:=hk _ hmem;obtain⟨k1,k2,rfl⟩:∃k1 k2,k=[k1,k2]:=by
  match k,hl2 with
  | [k1,k2],_=>exact⟨k1,k2,rfl⟩
 refine⟨Same.refl _,some (kV k1)::some (kV k2)::rest,rfl,fun j v hv=> ?_,fun R h=>⟨q,[kV k1,kV k2],rfl,.inl (.inl hq),rfl,kV k1,[kV k2],rfl,kV k2,[],rfl,rfl,h⟩,fun R h=>ht _ _ _ _ hmem s1 R h,fun hc H2 s2 R h=>he _ _ _ H2 hmem hc (s1.trans s2) R h⟩
 match j,hv with
 | 0,hv=>cases hv
 | 1,hv=>cases hv
 | j+2,hv=>exact hv
end
end L2
namespace L2
open PySem PySem.W PyProof.Rows
section
variable {X:Cx}
end
end L2
namespace L2
open PySem PySem.W PyProof.Rows
section
variable {X:Cx}{ek ev:Expr}{tk tv:TE}{pos:Pos}
end
end L2
namespace L2
open PySem PySem.W PyProof.Rows
structure FX (K:Frag)(nm qual:Str)(st:Stmt)(ps:List Str)(a:Addr) where
 d:FuncData
 F:FunV K nm qual st a d
 b:Binds K d ps []
inductive FnL (K:Frag)(nm qual:Str)(st:Stmt)(f:Addr):Prop
 | mk {oc:Value}{od an:Option Addr}{osl:Array (Option Value)}{kV doc pm cdv ct:Value} (l:K.lookup f=some ⟨oc,od,.func (fnOf nm qual (dB st) (cZ st) (aG st) .none kV doc pm an cdv ct),osl⟩) (c:codeIn K cdv qual=true) (k:keepIn K (.ref f)=true):FnL K nm qual st f
section
variable {K:Frag}{x qual:Str}{st:Stmt}{f:Addr}
abbrev fnB (x qual:Str)(st:Stmt)(kV doc pm cdv ct:Value)(an:Option Addr)(us:List Value):Sem (List (Str×Value)):=bindArgs (fnOf x qual (dB st) (cZ st) (aG st) .none kV doc pm an cdv ct) ⟨us,[]⟩
theorem FnL.ne {ps:List Str}(L:FnL K x qual st f)(h:∀kV doc pm cdv ct an (us:List Value),us.length=ps.length->fnB x qual st kV doc pm cdv ct an us=pure (ps.zip us)):Nonempty (FX K x qual st ps f):=by
 cases L with
 | mk l c k=>exact⟨⟨_,lG l c k,.all fun us hl=>h _ _ _ _ _ _ us hl⟩⟩
noncomputable def FnL.xn {ps:List Str} (L:FnL K x qual st f) (h:∀kV doc pm cdv ct an (us:List Value),us.length=ps.length->fnB x qual st kV doc pm cdv ct an us=pure (ps.zip us)):FX K x qual st ps f:=Classical.choice (L.ne h)
noncomputable def FnL.x1 {p1:Str} (L:FnL K x qual st f) (h:∀kV doc pm cdv ct an a,fnB x qual st kV doc pm cdv ct an [a]=pure [(p1,a)]):FX K x qual st [p1] f:=L.xn fun kV doc pm cdv ct an us hl=>by
 obtain _|⟨a,_|⟨b,us⟩⟩:=us
 ·cases hl
 ·exact h ..
 ·cases hl
noncomputable def FnL.x2 {p1 p2:Str} (L:FnL K x qual st f) (h:∀kV doc pm cdv ct an a b,fnB x qual st kV doc pm cdv ct an [a,b]=pure [(p1,a),(p2,b)]):FX K x qual st [p1,p2] f:=L.xn fun kV doc pm cdv ct an us hl=>by
 obtain _|⟨a,_|⟨b,_|⟨c,us⟩⟩⟩:=us
 ·cases hl
 ·cases hl
 ·exact h ..
 ·cases hl
noncomputable def FnL.x3 {p1 p2 p3:Str} (L:FnL K x qual st f) (h:∀kV doc pm cdv ct an a b c,fnB x qual st kV doc pm cdv ct an [a,b,c]=pure [(p1,a),(p2,b),(p3,c)]):FX K x qual st [p1,p2,p3] f:=L.xn fun kV doc pm cdv ct an us hl=>by
 obtain _|⟨a,_|⟨b,_|⟨c,_|⟨d,us⟩⟩⟩⟩:=us
 ·cases hl
 ·cases hl
 ·cases hl
 ·exact h ..
 ·cases hl
noncomputable def FnL.x4 {p1 p2 p3 p4:Str} (L:FnL K x qual st f) (h:∀kV doc pm cdv ct an a b c d,fnB x qual st kV doc pm cdv ct an [a,b,c,d]=pure [(p1,a),(p2,b),(p3,c),(p4,d)]):FX K x qual st [p1,p2,p3,p4] f:=L.xn fun kV doc pm cdv ct an us hl=>by
 obtain _|⟨a,_|⟨b,_|⟨c,_|⟨d,_|⟨e,us⟩⟩⟩⟩⟩:=us
 ·cases hl
 ·cases hl
 ·cases hl
 ·cases hl
 ·exact h ..
 ·cases hl
noncomputable def FnL.x5 {p1 p2 p3 p4 p5:Str} (L:FnL K x qual st f) (h:∀kV doc pm cdv ct an a b c d e,fnB x qual st kV doc pm cdv ct an [a,b,c,d,e]=pure [(p1,a),(p2,b),(p3,c),(p4,d),(p5,e)]):FX K x qual st [p1,p2,p3,p4,p5] f:=L.xn fun kV doc pm cdv ct an us hl=>by
 obtain _|⟨a,_|⟨b,_|⟨c,_|⟨d,_|⟨e,_|⟨g,us⟩⟩⟩⟩⟩⟩:=us
 ·cases hl
 ·cases hl
 ·cases hl
 ·cases hl
 ·cases hl
 ·exact h ..
 ·cases hl
noncomputable def FnL.x6 {p1 p2 p3 p4 p5 p6:Str} (L:FnL K x qual st f) (h:∀kV doc pm cdv ct an a b c d e g,fnB x qual st kV doc pm cdv ct an [a,b,c,d,e,g]=pure [(p1,a),(p2,b),(p3,c),(p4,d),(p5,e),(p6,g)]):FX K x qual st [p1,p2,p3,p4,p5,p6] f:=L.xn fun kV doc pm cdv ct an us hl=>by
 obtain _|⟨a,_|⟨b,_|⟨c,_|⟨d,_|⟨e,_|⟨g,_|⟨i,us⟩⟩⟩⟩⟩⟩⟩:=us
 ·cases hl
 ·cases hl
 ·cases hl
 ·cases hl
 ·cases hl
 ·cases hl
 ·exact h ..
 ·cases hl
def noF (K:Frag)(C:Addr)(fs:List Str):Bool:=fs.all fun x=>(findIn K (.ref C) x).any (·.isNone)
theorem fF {C:Addr}{fs:List Str} (h:noF K C fs=true) (i:Nat) {x:Str} (e:fs[i]? =some x):NoAttr K C x:=by
 have h2:=List.all_eq_true.mp h x (List.mem_of_getElem? e);unfold NoAttr;cases h3:findIn K (.ref C) x with
 | none=>rw[h3]at h2;cases h2
 | some o =>
  rw[h3]at h2;cases o with
  | none=>rfl
  | some v=>cases h2
end
end L2
namespace L2
open PySem PySem.W PyProof.Rows
def rnk (ρ:Keyed->Int)(a:Array Keyed)(i:Nat):Int:=ρ (a.getD i (.none,.none))
def Up (ρ:Keyed->Int)(a:Array Keyed)(lo hi:Nat):Prop:=∀i j,lo<=i->i<j->j<hi->rnk ρ a i<rnk ρ a j
structure MC (prog:Program)(w:World)(A:Around)(E:Value->Shared->Prop)(s:Shared)(κ:SortKind)(D:Keyed->Prop)(ρ:Keyed->Int):Prop where
 lt:∀{x y:Keyed}{st:SortSt}{Q:Option Bool->SortSt->Prop},D x->D y->kindOf st=κ->Q (some (decide (ρ x<ρ y))) st->wpS (model prog w) A E s (lt' x y) Q st
section
variable {prog:Program}{w:World}{A:Around}{E:Value->Shared->Prop}{s:Shared}{κ:SortKind}{D:Keyed->Prop}{ρ:Keyed->Int}{st:SortSt}
theorem J2 {a:Array Keyed}{i:Nat}{Q:Keyed->SortSt->Prop} (hi:i<a.size) (h:Q (a.getD i (.none,.none)) st):wpS (model prog w) A E s (elem' a i) Q st:=by
 rw[elem'_eq];have e:a[i]? =some (a.getD i (.none,.none)):=by simp[Array.getD,hi]
 rw[e];exact wpS_pure h
theorem FJ {a:Array Keyed}{i:Nat} (hi:i<a.size):a.getD i (.none,.none)∈a.toList:=by simp[Array.getD,hi]
end
end L2
namespace L2
open PySem PySem.W PyProof.Rows
section
variable {ρ:Keyed->Int}
variable {all o p ra rb:List Keyed}
end
end L2
namespace L2
open PySem PySem.W PyProof.Rows
section
variable {prog:Program}{w:World}{A:Around}{E:Value->Shared->Prop}{s:Shared}{κ:SortKind}{D:Keyed->Prop}{ρ:Keyed->Int}{st:SortSt}
end
end L2
namespace L2
open PySem PySem.W PyProof.Rows
section
variable {prog:Program}{w:World}{A:Around}{E:Value->Shared->Prop}{s:Shared}{κ:SortKind}{D:Keyed->Prop}{ρ:Keyed->Int}{st:SortSt}
end
end L2
namespace L2
open PySem PySem.W PyProof.Rows
section
variable {prog:Program}{w:World}{A:Around}{E:Value->Shared->Prop}{s:Shared}{κ:SortKind}{D:Keyed->Prop}{ρ:Keyed->Int}{st:SortSt}
end
end L2
namespace L2
open PySem PySem.W PyProof.Rows
section
variable {prog:Program}{w:World}{A:Around}{E:Value->Shared->Prop}{s:Shared}{κ:SortKind}{D:Keyed->Prop}{ρ:Keyed->Int}{st:SortSt}
theorem WT (C:MC prog w A E s κ D ρ)(hk:kindOf st=κ)(dD:∀x∈(arrOf st).toList,D x){i j:Nat}(hi:i<(arrOf st).size)(hj:j<(arrOf st).size){Q:Option Bool->SortSt->Prop}(h:Q (some (decide (rnk ρ (arrOf st) i<rnk ρ (arrOf st) j))) st):wpS (model prog w) A E s (ltAt' i j) Q st:=by
 rw[ltAt'_eq];refine wpS_bind (wpS_get ?_);exact wpS_bind (J2 (a:=arrOf st) hi (wpS_bind (J2 (a:=arrOf st) hj (C.lt (dD _ (FJ hi)) (dD _ (FJ hj)) hk h))))
end
end L2
namespace L2
open PySem PySem.W PyProof.Rows
section
variable {prog:Program}{w:World}{A:Around}{E:Value->Shared->Prop}{s:Shared}{κ:SortKind}{D:Keyed->Prop}{ρ:Keyed->Int}{st:SortSt}
end
end L2
namespace L2
open PySem PySem.W PyProof.Rows
section
variable {prog:Program}{w:World}{A:Around}{E:Value->Shared->Prop}{s:Shared}{κ:SortKind}{D:Keyed->Prop}{ρ:Keyed->Int}{st:SortSt}{a₀:Array Keyed}
end
end L2
namespace L2
open PySem PySem.W PyProof.Rows
section
variable {prog:Program}{w:World}{A:Around}{E:Value->Shared->Prop}{s:Shared}{κ:SortKind}{D:Keyed->Prop}{ρ:Keyed->Int}{st:SortSt}{a₀:Array Keyed}
end
end L2
namespace L2
open PySem PySem.W PyProof.Rows PySem.Calls
section
variable {prog:Program}{w:World}{A:Around}{E:Value->Shared->Prop}{s:Shared}{α:Type}{f:Value->α}{lt:α->α->Bool}{d:α}{l:List α}
def p8 (f:Value->α)(lt:α->α->Bool)(l:List α)(v:Value):Int:=((l.countP fun y=>lt y (f v):Nat):Int)
theorem MV (o:Ord lt l){x y:Value}(hx:f x∈l)(hy:f y∈l)(h:lt (f x) (f y)=true):p8 f lt l x<p8 f lt l y :=
 Int.ofNat_lt.mpr (uX (l:=l) (p:=fun z=>lt z (f x)) (q:=fun z=>lt z (f y)) (fun z hz h'=>o.tr z hz _ hx _ hy h' h) ⟨f x,hx,h,o.irr _ hx⟩)
theorem aB1 (o:Ord lt l){x y:Value}(hx:f x∈l)(hy:f y∈l):decide (p8 f lt l x<p8 f lt l y)=lt (f x) (f y):=by
 cases h:lt (f x) (f y) with
 | true=>exact decide_eq_true (MV o hx hy h)
 | false =>
  refine decide_eq_false fun h1=> ?_
  by_cases e:f x=f y
  ·unfold p8 at h1;rw[e]at h1;exact Int.lt_irrefl _ h1
  ·rcases o.tot _ hx _ hy e with h2|h2
   ·rw[h]at h2;cases h2
   ·have:=MV (f:=f) o hy hx h2
    lia
theorem O4 {vs:List Value}{x:Keyed} (h:x∈(vs.toArray.zip vs.toArray).toList):x.1∈vs/\x.2=x.1:=by
 rw[Array.toList_zip]at h;rw[List.zip_eq_zipWith]at h;have:∀l:List Value,x∈List.zipWith Prod.mk l l->x.1∈l/\x.2=x.1:=by
  intro l
  induction l with
  | nil=>intro h;cases h
  | cons a l ih =>
   intro h;rw[List.zipWith_cons_cons]at h;rcases List.mem_cons.mp h with rfl|h
   ·exact⟨.head _,rfl⟩
   ·exact⟨.tail _ (ih h).1,(ih h).2⟩
 exact this _ h
end
end L2
namespace L2
open PySem PySem.W PyProof.Rows PySem.Calls
section
variable {X:Cx}{H:Hp}
def vK:V->Key
 | .int i=> .inl i
 | .str x=> .inr x
 | _=> .inl 0
theorem aBY:∀k:Key,vK (kV k)=k
 | .inl _=>rfl
 | .inr _=>rfl
def MB (H:Hp):Value->List Key
 | .ref p=>match H p with|some (.tup xs)=>xs.map vK|_=>[]
 | _=>[]
theorem SJ {p:Addr}{r:List Key} (e:H p=some (.tup (r.map kV))):MB H (.ref p)=r:=by
 show (match H p with|some (.tup xs)=>xs.map vK|_=>[])=r;rw[e];show (r.map kV).map vK=r;rw[List.map_map];exact(List.map_congr_left fun k _=>aBY k).trans (List.map_id _)
theorem GX:∀{vs:List V}{rs:List (List Key)}{us:List Value},KRows H vs rs->Vals vs us->us.map (MB H)=rs
 | _,_,_,.nil,.nil=>rfl
 | _::_,r::_,_::_,.cons ⟨p,hv,e⟩ q,.cons rv rt=>by
  subst hv;cases rv;rw[List.map_cons,SJ e,GX q rt]
end
end L2
namespace L2
open PySem PySem.W PyProof.Rows
section
variable {prog:Program}{w:World}{A:Around}{E:Value->Shared->Prop}{s:Shared}
end
open Sem (wp) in
open AutoSeq1 (wpAny_loadPart') in
section
variable {prog:Program}{w:World}{A:Around}{E:Value->Shared->Prop}{s:Shared}
end
end L2
namespace L2
open PySem PySem.W PyProof.Rows
section
variable {prog:Program}{w:World}{A:Around}{E:Value->Shared->Prop}{s:Shared}
end
section
variable {X:Cx}
end
end L2
namespace L2
open PySem PySem.W PyProof.Rows
section
variable {K:PySem.W.Frag}{H:Hp}{σ:St}{Q:VK}{R:It->Hp->Prop}{nx bk ct:St->Hp->Prop}{rt:VK}
end
end L2
namespace L2
open PySem PySem.W PyProof.Rows
section
variable {prog:Program}{w:World}{A:Around}{E:Value->Shared->Prop}{s:Shared}
variable {κ:Type}[DecidableEq κ]{knd:HeapKind prog w κ}
end
section
variable {A:Around}{s:Shared}
end
section
variable {prog:Program}{w:World}{A:Around}{E:Value->Shared->Prop}{s:Shared}
variable {κ:Type}[DecidableEq κ]{knd:HeapKind prog w κ}
end
section
variable {X:Cx}{pins:List (Addr×Obj)}{σ:St}{H:Hp}{s:Shared}
end
section
variable {X:Cx}
end
section
variable {X:Cx}
end
end L2
namespace L2
open PySem PySem.W PyProof.Rows
section
variable {X:Cx}
end
end L2
set_option autoImplicit false
namespace L2
open PySem PySem.Spec PyProof.Rows
section
variable {σ:St}{H:Hp}{nx bk ct:St->Hp->Prop}{rt:VK}
def WhT (W:Nat->St->Hp->Prop)(m:Nat)(tb:TS)(nx:St->Hp->Prop)(rt:VK)(σ:St)(H:Hp):Prop :=
 ∃N:St->Hp->Prop,(∀σ' H',N σ' H'->∃m',m'<m/\W m' σ' H')/\tb ⟨N,rt,nx,N⟩ σ H
theorem TQ {c:TT}{tb:TS} (W:Nat->St->Hp->Prop) (m0:Nat) (h0:W m0 σ H)
  (hs:∀m σ H,W m σ H->c σ H fun b H1=>if b=true then WhT W m tb nx rt σ H1 else nx σ H1):OD c tb ⟨nx,rt,bk,ct⟩ σ H :=
 ⟨W,⟨m0,h0⟩,hs⟩
theorem aA0 {W:Nat->St->Hp->Prop}{m:Nat}{tb:TS}
  (h:tb ⟨fun σ' H'=>∃m',m'<m/\W m' σ' H',rt,nx,fun σ' H'=>∃m',m'<m/\W m' σ' H'⟩ σ H):WhT W m tb nx rt σ H :=
 ⟨_,fun _ _ h=>h,h⟩
end
end L2
namespace L2
open PySem PySem.W PyProof.Rows PySem.Calls
section
variable {X:Cx}
def JX:List V->Hp->VK->Prop:=fun xs H Q=>∃d kvs ss,xs=[.ref d]/\H d=some (.dK kvs)/\kvs.map (·.1)=ss.map (Sum.inr:Str->Key)/\ss.length<64/\∀l,H l=none->Q (.ref l) (upd H l (.lst ((tJ ss).map V.str)))
theorem DV (hc:X.calm=true):c7 X (.builtin "sorted") JX:=by
 intro pins s σ H xs us Q I r h;obtain⟨d,kvs,ss,rfl,hd,hk,nd,q⟩:=h;obtain⟨u,rfl,rx⟩:=iY r;cases rx;obtain⟨hz,lo,ws,kv,dd⟩:=VL I.hok hd;obtain⟨o,es,ep,g1,g2,g3,g4,g5,g6⟩:=dd;have hl:ws.length=ss.length:=by
  have h1:kvs.length=ws.length:=Paired.length kv;have h2:=congrArg List.length hk;rw[List.length_map,List.length_map]at h2
  lia
 have hkl:kvs.length=ss.length:=by have h1:kvs.length=ws.length:=Paired.length kv;lia
 have key:∀(j:Nat) (v:Value),(∃k x,ws[j]? =some (k,x)/\(bQ X.prog X.w).is k v=true)->∃z,ss[j]? =some z/\RelV (V.str z) v:=fun j v ⟨k,x,e,hi⟩=>by
  have hj:j<ss.length:=by
   have:=(List.getElem?_eq_some_iff.mp e).1
   lia
  have e1:kvs[j]? =some kvs[j]:=List.getElem?_eq_getElem (by lia);have e2:=(Paired.at2 kv e1 e).1;have e3:(kvs.map (·.1))[j]? =some k:=by rw[List.getElem?_map,e1,Option.map_some,e2]
  rw[hk,List.getElem?_map,List.getElem?_eq_getElem hj,Option.map_some]at e3;have e3:=Option.some.inj e3;have e4:=wK hi;rw[←e3]at e4;exact⟨_,List.getElem?_eq_getElem hj,e4⟩
 have rvs:∀vs:List Value,vs.length=ws.length->(∀j v,vs[j]? =some v->∃k x,ws[j]? =some (k,x)/\(bQ X.prog X.w).is k v=true)->Vals (ss.map V.str) vs:=fun vs h1 hP=>by
  refine xV (by rw[List.length_map];lia) fun i x u g1 g2=> ?_;obtain⟨z,hz,rz⟩:=key i u (hP i u g2);rw[List.getElem?_map,hz]at g1;cases g1;exact rz
 have hat:∀{vs:List Value},Vals (ss.map V.str) vs->∀i,i<vs.length->∃t,vs[i]? =some (.str (ss.getD i Str.empty) t):=fun {vs} rv i hi=>by
  have hl2:=rv.length;rw[List.length_map]at hl2;have hi':i<ss.length:=by lia
  obtain⟨u,e,t,rfl⟩:=rv.get (i:=i) (x:=V.str (ss.getD i Str.empty)) (by rw[List.getElem?_map,List.getD_eq_getElem?_getD,List.getElem?_eq_getElem hi'];rfl);exact⟨t,e⟩
 refine MK (kdl_dict (knd:=bQ X.prog X.w) (kvs:=ws) (ep:=ep) lo) (I.ok.hd hc) ⟨o,es,g1,g2,g3,g4,g5,g6⟩ (by lia) (fun i j=>ltS (ss.getD i Str.empty) (ss.getD j Str.empty)) oneType' (fun vs h1 hP h2 h' tk kp R hR=> ?_) (fun vs h1 hP h2 h' tk kp i j hi hj C hC=> ?_) fun vs D h' tk e h1 hP hD kp o'=> ?_
 ·refine kas_kind (s:={ s with heap:=h',toks:=tk }) (T:= .type "str") h2 (fun v hv=> ?_) (by decide) rfl hR;obtain⟨i,hi,e⟩:=List.getElem_of_mem hv;obtain⟨t,e2⟩:=hat (rvs vs h1 hP) i hi;rw[List.getElem?_eq_getElem hi,e]at e2;cases e2;exact Looks.of_pure rfl
 ·obtain⟨t1,e1⟩:=hat (rvs vs h1 hP) i hi;obtain⟨t2,e2⟩:=hat (rvs vs h1 hP) j hj;unfold kas_ask;rw[List.getD_eq_getElem?_getD,List.getD_eq_getElem?_getD,e1,e2,keyLt'_oneType];exact oneLt_str hC
 ·have ev:=vI (fun i j=>ltS (ss.getD i Str.empty) (ss.getD j Str.empty)) (rvs vs h1 hP);rw[JB V.str Str.empty V.non]at ev;exact⟨.ref D,_,I.laid (t':=tk) kp hD (show ObjOk X.prog X.w _ h' _ (.lst ((tJ ss).map V.str)) from⟨by rw[List.length_map];unfold tJ;rw[sW];lia,_,e,ev,o'⟩),rfl,q _ (I.hok.fresh hD)⟩
variable {H:Hp}{Q:VK}
theorem NY {d:Addr}{kvs:List (Key×V)}{ss:List Str} (e:H d=some (.dK kvs)) (hk:kvs.map (·.1)=ss.map (Sum.inr:Str->Key)) (nd:ss.length<64) (h:∀l H',H l=none->Same H H'->H' l=some (.lst ((tJ ss).map V.str))->Q (.ref l) H'):JX [.ref d] H Q :=
 ⟨d,kvs,ss,rfl,e,hk,nd,fun l hn=>h l _ hn (FR hn) bC⟩
end
end L2
namespace L2
open PySem PySem.W PyProof.Rows PySem.Calls
section
variable {prog:Program}{w:World}{A:Around}{E:Value->Shared->Prop}{s:Shared}{κ:SortKind}{D:Keyed->Prop}{ρ:Keyed->Int}{st:SortSt}
theorem NE:∀(k n r:Nat),r<=1->minRun' k n r<=n+r
 | 0,_,_,_=>Nat.le_refl _
 | k+1,n,r,h=>by
  show (if n<64 then n+r else minRun' k (n/2) (max r (n%2)))<=n+r
  split
  ·exact Nat.le_refl _
  ·have:=NE k (n/2) (max r (n%2)) (by lia)
   lia
theorem OZ (C:MC prog w A E s κ D ρ)(hk:kindOf st=κ)(dD:∀x∈(arrOf st).toList,D x){n:Nat}(hn:n<=(arrOf st).size)(h1:1<=n)(up:Up ρ (arrOf st) 0 n){Q:Option Nat->SortSt->Prop}(h:Q (some n) st):wpS (model prog w) A E s (countRun' 0 n) Q st:=by
 unfold countRun';refine wpS_bind (wpS_mono (wpS_forRange (I:=fun x c st2=>st=st2/\c=(none,x)) (Q:=fun c st2=>st=st2/\c=(none,n)) ?_ ?_ ⟨rfl,rfl⟩) ?_)
 ·rintro x c _ hx1 hx ⟨rfl,rfl⟩
  try dsimp only
  refine wpS_bind (WT C hk dD (i:=0+x) (j:=0+x - 1) (by lia) (by lia) ?_)
  try dsimp only
  have:=up (0+x - 1) (0+x) (by lia) (by lia) (by lia);rw[decide_eq_false (show ¬rnk ρ (arrOf st) (0+x)<rnk ρ (arrOf st) (0+x - 1) by lia),if_neg Bool.false_ne_true];exact wpS_pure ⟨rfl,rfl⟩
 ·rintro c _ ⟨rfl,rfl⟩;rw[show max 1 n=n by lia];exact⟨rfl,rfl⟩
 rintro c _ ⟨rfl,rfl⟩
 try dsimp only
 rw[if_pos (by simp)];exact wpS_pure h
theorem TU (C:MC prog w A E s κ D ρ)(dD:∀x∈(arrOf st).toList,D x)(up:Up ρ (arrOf st) 0 (arrOf st).size)(h1:1<=(arrOf st).size)(hk:kindOf st=κ)(hp:pendingOf st= #[])(hf:failedOf st=none){Q:Unit->SortSt->Prop}
  (h:∀st2,arrOf st2=arrOf st->failedOf st2=none->Q () st2):wpS (model prog w) A E s sortRuns' Q st:=by
 have hmr:=NE (arrOf st).size (arrOf st).size 0 (Nat.zero_le _);rw[sortRuns'_eq];refine wpS_bind (wpS_get ?_)
 dsimp only
 generalize minRun' (arrOf st).size (arrOf st).size 0=mr at hmr;refine wpS_bind (wpS_mono (wpS_forRange
  (I:=fun x c st2=>(x=0/\c=(none,0)/\st2=st)∨(c=(none,(arrOf st).size)/\arrOf st2=arrOf st/\failedOf st2=none/\(pendingOf st2).size<=1))
  (Q:=fun c st2=>c=(none,(arrOf st).size)/\arrOf st2=arrOf st/\failedOf st2=none/\(pendingOf st2).size<=1) ?step ?fin (.inl ⟨rfl,rfl,rfl⟩)) ?post)
 case fin =>
  rintro c st2 (⟨hx,_⟩|h2)
  ·lia
  ·exact h2
 case step =>
  rintro x c st1 _ hx (⟨rfl,rfl,rfl⟩|⟨rfl,e1,e2,e3⟩)
  ·dsimp only
   rw[if_neg (by lia)];refine wpS_bind (OZ C hk dD (n:=(arrOf st1).size - 0) (by lia) (by lia) (by rw[Nat.sub_zero];exact up) ?_)
   dsimp only
   rw[if_neg (by lia)];refine wpS_bind (wpS_get ?_)
   try dsimp only
   rw[hp]
   try dsimp only
   refine wpS_bind (wpS_modify (wpS_pure ?_));refine .inr ⟨?_,rfl,hf,?_⟩
   ·rw[Nat.zero_add,Nat.sub_zero]
   ·show ((pendingOf st1).push _).size<=1;rw[hp];exact Nat.le_refl _
  ·dsimp only
   rw[if_pos (Nat.le_refl _)];exact wpS_pure ⟨rfl,e1,e2,e3⟩
 case post =>
  rintro c st2 ⟨rfl,e1,e2,e3⟩
  dsimp only
  refine wpS_bind (wpS_mono (wpS_forRange (I:=fun _ c st3=>c=(none,())/\st3=st2) (Q:=fun c st3=>c=(none,())/\st3=st2) ?_ (fun _ _ h=>h) ⟨rfl,rfl⟩) ?_)
  ·rintro x c st3 _ hx ⟨rfl,rfl⟩;refine wpS_bind (wpS_get ?_)
   try dsimp only
   rw[if_pos e3];exact wpS_pure ⟨rfl,rfl⟩
  ·rintro c st3 ⟨rfl,rfl⟩;exact wpS_pure (h _ e1 e2)
end
section
variable {prog:Program}{w:World}{A:Around}{E:Value->Shared->Prop}{s:Shared}{α:Type}{f:Value->α}{lt:α->α->Bool}{d:α}{l:List α}
theorem XG {vs:List Value}{κ:SortKind} (hf:vs.map f=l) (o:Ord lt l) (as:l.Pairwise fun x y=>lt x y=true) (h1:1<=vs.length)
  (hc:∀i j,i<vs.length->j<vs.length->∀C,C (lt (l.getD i d) (l.getD j d)) s->kas_ask prog w A κ vs i j C s){Q:SortSt->Shared->Prop}
  (h:∀st',(arrOf st').map (·.2)=vs.toArray->failedOf st'=none->Q st' s) :
  wpAny (model prog w) A ((sortRuns').run (SortSt.mk' κ (vs.toArray.zip vs.toArray) #[] 7 none)) (fun r s'=>Q r.2 s') E s:=by
 have hm:∀{x:Value},x∈vs->f x∈l:=fun h=>hf▸List.mem_map.mpr ⟨_,h,rfl⟩;have C:MC prog w A E s κ (fun x=>x.1∈vs/\x.2=x.1) (fun x=>p8 f lt l x.1):=by
  refine⟨fun {x y st Q} hx hy hk hQ=> ?_⟩;rw[lt'_eq];refine wpS_bind (wpS_get ?_);rw[hk];obtain⟨i,hi,ei⟩:=List.getElem_of_mem hx.1;obtain⟨j,hj,ej⟩:=List.getElem_of_mem hy.1;have e:∀(k:Nat) (hk:k<vs.length),l.getD k d=f vs[k]:=fun k hk=>by
   rw[←hf,List.getD_eq_getElem?_getD,List.getElem?_map,List.getElem?_eq_getElem hk];rfl
  have hcc:=hc i j hi hj (fun b s'=>s'=s/\b=decide (p8 f lt l x.1<p8 f lt l y.1)) ⟨rfl,by rw[aB1 o (hm hx.1) (hm hy.1),e i hi,e j hj,ei,ej]⟩;unfold kas_ask at hcc;have g:∀(k:Nat) (hk:k<vs.length),vs.getD k Value.none=vs[k]:=fun k hk=>by rw[List.getD_eq_getElem?_getD,List.getElem?_eq_getElem hk];rfl
  rw[g i hi,g j hj,ei,ej]at hcc;refine wpS_bind (wpS_lift (wpAny_attempt (wpAny_mono hcc (fun b s' hb=>⟨hb.1,?_⟩) fun _ _ z=>z.elim)));rw[hb.2];exact wpS_pure hQ
 have sz:(vs.toArray.zip vs.toArray).size=vs.length:=by simp
 have up:Up (fun x:Keyed=>p8 f lt l x.1) (vs.toArray.zip vs.toArray) 0 (vs.toArray.zip vs.toArray).size:=fun i j _ hij hj=>by
  have e:∀k,(hk:k<vs.length)->rnk (fun x:Keyed=>p8 f lt l x.1) (vs.toArray.zip vs.toArray) k=p8 f lt l vs[k]:=fun k hk=>by
   unfold rnk;simp[Array.getD,sz,hk]
  rw[e i (by lia),e j (by lia)];have pw:vs.Pairwise fun x y=>lt (f x) (f y)=true:=by rw[←hf]at as;exact List.pairwise_map.mp as
  exact MV (f:=f) o (hm (List.getElem_mem _)) (hm (List.getElem_mem _)) (List.pairwise_iff_getElem.mp pw i j (by lia) (by lia) hij)
 have:=TU (st:=SortSt.mk' κ (vs.toArray.zip vs.toArray) #[] 7 none) (Q:=fun _ st'=>Q st' s) C (fun x hx=>O4 hx) up (by show 1<=(vs.toArray.zip vs.toArray).size;lia) rfl rfl rfl fun st' p hfl=>by
  refine h st' ?_ hfl;rw[p];show (vs.toArray.zip vs.toArray).map (·.2)=_
  apply Array.toList_inj.mp
  rw[Array.toList_map,Array.toList_zip,List.map_snd_zip];exact Nat.le_refl _
 unfold wpS at this;refine wpAny_mono this (fun r s' hr=> ?_) fun _ _ e=>e;rw[hr.1];exact hr.2
theorem W7 {a:Addr}{vs:List Value}{n:Nat}{P:PySem.Fin->Shared->Prop} (f:Value->α) (lt:α->α->Bool) (d:α) {l:List α} (κ:SortKind) (hf:vs.map f=l) (o:Ord lt l) (as:l.Pairwise fun x y=>lt x y=true) (ho:s.heap.get? a=some (seqObj "list" vs.toArray n)) (hz:vs.length<=sizeLine)
  (hk:2<=vs.length->∀h',fK a s.heap h'->∀R:SortKind->Shared->Prop,R κ { s with heap:=h' }->wpAny (model prog w) A (keyKind' vs.toArray) R (fun _ _=>False) { s with heap:=h' })
  (hc:2<=vs.length->∀h',fK a s.heap h'->∀i j,i<vs.length->j<vs.length->∀C,C (lt (l.getD i d) (l.getD j d)) { s with heap:=h' }->kas_ask prog w A κ vs i j C { s with heap:=h' })
  (h:∀h' e,fK a s.heap h'->h'.get? a=some (seqObj "list" vs.toArray e)->P (.done (.ret .none)) { s with heap:=h' }) :
  wpAny (model prog w) A (Builtin.«list.sort» ⟨[.ref a],[]⟩) P E s:=by
 generalize hg1:s.heap.update a (Obj.mapSeq fun _=>(#[]:Array Value))=g1;have sb1:Heap.SameBut a s.heap g1:=hg1▸Heap.SameBut.update s.heap a (Obj.mapSeq fun _=>(#[]:Array Value));obtain⟨e1,o1⟩:∃e1,g1.get? a=some (seqObj "list" #[] e1):=hg1▸⟨_,get?_update_seq ho fun _=> #[]⟩;have lt1:a<g1.objs.size:=Heap.lt_size o1;have kp:fK a s.heap ((g1.push (seqObj "tuple" vs.toArray 0)).push (seqObj "list" #[] 0)):=fun b o hb q =>
  Heap.get?_push_of_some _ (Heap.get?_push_of_some _ ((sb1.2 b hb).trans q))
 have o3:((g1.push (seqObj "tuple" vs.toArray 0)).push (seqObj "list" #[] 0)).get? a=some (seqObj "list" #[] e1):=Heap.get?_push_of_some _ (Heap.get?_push_of_some _ o1);generalize hg3:(g1.push (seqObj "tuple" vs.toArray 0)).push (seqObj "list" #[] 0)=g3 at kp o3;have fin:∀out:List Value,out.length=vs.length->out=vs->wpAny (model prog w) A (do
   let touched:=(←seqEpoch a) !=e1
   Builtin.List.listUpdate (.ref a) fun _=>out.toArray
   if let some e:=(none:Option Value) then rule "list.sort.comparison-raised";throw e
   if touched then rule "list.sort.modified";raiseError "ValueError" "list modified during sort"
   ret .none) P E { s with heap:=g3 }:=by
  intro out hl ho';obtain⟨e2,o4⟩:∃e2,(g3.update a (Obj.mapSeq fun _=>out.toArray)).get? a=some (seqObj "list" out.toArray e2):=⟨_,get?_update_seq o3 fun _=>out.toArray⟩
  refine wpAny_bind (seqEpoch_at (s:={ s with heap:=g3 }) o3 rfl ?_);refine wpAny_bind (listUpdate_at (s:={ s with heap:=g3 }) o3 rfl ?_ (Nat.zero_le _) (by rw[List.size_toArray];lia));simp only[bne_self_eq_false,Bool.false_eq_true,if_false];refine wpAny_pure (h _ e2 (fun b o hb q=> ?_) (ho'▸o4));exact((Heap.SameBut.update g3 a (Obj.mapSeq fun _=>out.toArray)).2 b hb).trans (kp b o hb q)
 rw[list_sort_plain];refine wpAny_bind (listItems_at ho rfl (wpAny_bind (listUpdate_at ho rfl ?_ (by rw[List.size_toArray];lia) (Nat.zero_le _))));rw[hg1];refine wpAny_bind (seqEpoch_at (s:={ s with heap:=g1 }) o1 rfl ?_);refine wpAny_bind (wpAny_newTuple ?_ (by exact hz));refine wpAny_bind (wpAny_newList ?_ (Nat.zero_le _));refine wpAny_holding ?_;show wpAny (model prog w) A _ P E { s with heap:=(g1.push (seqObj "tuple" vs.toArray 0)).push (seqObj "list" #[] 0) };rw[hg3]
 dsimp only
 by_cases h2:vs.toArray.size<2
 ·rw[if_pos h2,if_pos h2];have h2':vs.length<2:=by rwa [List.size_toArray]at h2
  refine wpAny_bind (wpAny_pure ?_);rw[StateT.run_pure];refine wpAny_bind (wpAny_pure ?_)
  dsimp only
  have ez:(arrOf (SortSt.mk' general' (vs.toArray.zip vs.toArray) #[] 7 none)).map (·.2)=vs.toArray:=by
   show (vs.toArray.zip vs.toArray).map (·.2)=_
   apply Array.toList_inj.mp
   rw[Array.toList_map,Array.toList_zip,List.map_snd_zip];exact Nat.le_refl _
  rw[ez];exact fin vs rfl rfl
 ·rw[if_neg h2,if_neg h2];have h2':2<=vs.length:=by rw[List.size_toArray]at h2;lia
  refine wpAny_bind (wpAny_mono (hk h2' _ kp (fun κ' s'=>κ'=κ/\s'={ s with heap:=g3 }) ⟨rfl,rfl⟩) ?_ fun _ _ x=>x.elim);rintro _ _ ⟨rfl,rfl⟩;refine wpAny_bind (wpAny_mono (XG (d:=d) (Q:=fun st' s'=>(arrOf st').map (·.2)=vs.toArray/\failedOf st'=none/\s'={ s with heap:=g3 }) hf o as (by lia) (hc h2' _ kp) fun st' a1 a2=>⟨a1,a2,rfl⟩) ?_ fun _ _ e=>e);rintro ⟨⟨⟩,st'⟩ _ ⟨har,hfl,rfl⟩
  dsimp only
  rw[har,hfl];exact fin _ rfl rfl
theorem O8 {p:Addr}{vs:List Value}{Q:Value->Shared->Prop} (f:Value->α) (lt:α->α->Bool) (d:α) {l:List α} (κ:SortKind) (hf:vs.map f=l) (o:Ord lt l) (as:l.Pairwise fun x y=>lt x y=true) (hl:s.heap.IsList p vs.toArray) (hz64:vs.length<=sizeLine)
  (hk:2<=vs.length->∀h',(∀b o,s.heap.get? b=some o->h'.get? b=some o)->∀R:SortKind->Shared->Prop,R κ { s with heap:=h' }->wpAny (model prog w) A.in1.in1 (keyKind' vs.toArray) R (fun _ _=>False) { s with heap:=h' })
  (hc:2<=vs.length->∀h',(∀b o,s.heap.get? b=some o->h'.get? b=some o)->∀i j,i<vs.length->j<vs.length->∀C,C (lt (l.getD i d) (l.getD j d)) { s with heap:=h' }->kas_ask prog w A.in1.in1 κ vs i j C { s with heap:=h' })
  (h:∀D h' e,s.heap.objs.size<=D->(∀b o,s.heap.get? b=some o->h'.get? b=some o)->h'.get? D=some (seqObj "list" vs.toArray e)->Q (.ref D) { s with heap:=h' }) :
  wpAny (model prog w) A (call (.builtin "sorted") [.ref p]) Q E s:=by
 refine Calls.call_function_entry kind_sorted plain_sorted entry_sorted (args_sorted1 _) ?_;unfold Builtin.«sorted»;refine wpAny_bind (m:=checkCount "sorted" 1 1 _) (wpAny_pure (wpAny_bind (collect_list hl ?_ hz64)));refine wpAny_bind (wpAny_newList ?_ hz64);generalize hq:(s.heap.push (seqObj "list" #[] 0)).update s.heap.objs.size (Obj.mapSeq (·++vs.toArray))=q;have qs:q.objs.size=s.heap.objs.size+1:=by rw[←hq,Heap.size_update,size_push']
 have qk:∀b o,s.heap.get? b=some o->q.get? b=some o:=fun b o e=>by
  have bl:b<s.heap.objs.size:=Heap.lt_size e;rw[←hq,Heap.get?_update_ne _ _ _ _ (Nat.ne_of_lt bl),Heap.get?_push_ne _ _ _ (Nat.ne_of_lt bl)];exact e
 have oD:(q.push (seqObj "list" vs.toArray 0)).get? q.objs.size=some (seqObj "list" vs.toArray 0):=Heap.get?_push_size _ rfl;have kD:∀h',fK q.objs.size (q.push (seqObj "list" vs.toArray 0)) h'->∀b o,s.heap.get? b=some o->h'.get? b=some o:=fun h' k b o e =>
  k b o (Nat.ne_of_lt (by rw[qs];exact Nat.lt_succ_of_lt (Heap.lt_size e))) (Heap.get?_push_of_some _ (qk b o e))
 refine wpAny_bind (wpAny_holding (wpAny_call_entry slot_list_sort ⟨_,oD,rfl⟩ entry_list_sort ?body (args_list_sort _)))
 case body =>
  refine W7 (s:={ s with heap:=q.push (seqObj "list" vs.toArray 0) }) f lt d κ hf o as oD hz64 (fun h2 h' k=>hk h2 h' (kD h' k)) (fun h2 h' k=>hc h2 h' (kD h' k)) fun h' e k o'=> ?_;exact⟨_,rfl,wpAny_pure ⟨_,rfl,h _ h' e (by show s.heap.objs.size<=q.objs.size;rw[qs];exact Nat.le_succ _) (kD h' k) o'⟩⟩
end
section
variable {X:Cx}
def GS (K:PySem.W.Frag):List V->Hp->VK->Prop:=fun xs H Q=>∃p vs rs sh,xs=[.ref p]/\SqL K H p vs/\KRows H vs rs/\rs.Pairwise (fun a b=>cO a b=true)/\(∀r∈rs,r.map c6=sh)/\sh≠[]/\∀l,H l=none->Q (.ref l) (upd H l (.lst vs))
theorem D1:c7 X (.builtin "sorted") (GS X.K):=by
 intro pins s σ H xs us Q I r h;obtain⟨p,vs,rs,sh,rfl,hq,kr,nd,hs,hn,q⟩:=h;obtain⟨u,rfl,rx⟩:=iY r;cases rx;obtain⟨its,rv,pl,hz⟩:=I.list hq;have hl:=rv.length;have hT:∃T:Value,(T==T)=true/\(T !=Value.type "tuple")=true/\∀(h':Heap) (k:Key) (u:Value),sh.head? =some (c6 k)->RelV (kV k) u->Looks (model X.prog X.w) h' (typeOf u) T:=by
  cases sh with
  | nil=>exact absurd rfl hn
  | cons b sh =>
   cases b with
   | true =>
    refine⟨.type "int",rfl,by decide,fun h' k u hk ru=> ?_⟩;cases k with
    | inl i=>obtain⟨t,rfl⟩:=ru;exact Looks.of_pure rfl
    | inr x=>cases hk
   | false =>
    refine⟨.type "str",rfl,by decide,fun h' k u hk ru=> ?_⟩;cases k with
    | inl i=>cases hk
    | inr x=>obtain⟨t,rfl⟩:=ru;exact Looks.of_pure rfl
 obtain⟨T,t1,t2,t3⟩:=hT;refine O8 (MB H) cO [] (tuples' true) (GX kr rv) (Q7 ⟨sh,hs⟩) nd pl.isList (by lia) (fun h2 h' kp R hR=> ?_) (fun h2 h' kp i j hi hj C hC=> ?_) fun D h' e hD kp o'=> ?_
 ·obtain⟨fs,f1,f2,f3⟩:=vN I kp (fun k u=>t3 h' k u) kr rv hs hn;refine kat_kind (s:={ s with heap:=h' }) f1 (by lia) f3 t1 ?_;rw[t2];exact hR
 ·obtain⟨p1,r1,x1,y1,z1⟩:=kr.get (i:=i) (List.getElem?_eq_getElem (by lia));obtain⟨p2,r2,x2,y2,z2⟩:=kr.get (i:=j) (List.getElem?_eq_getElem (by lia));obtain⟨u1,v1,w1⟩:=rv.get (List.getElem?_eq_getElem (show i<vs.length by lia));obtain⟨u2,v2,w2⟩:=rv.get (List.getElem?_eq_getElem (show j<vs.length by lia));rw[x1]at w1;rw[x2]at w2;cases w1;cases w2;obtain⟨o1,us1,n1,g1,c1,d1,l1⟩:=sO I z1;obtain⟨o2,us2,n2,g2,c2,d2,l2⟩:=sO I z2;have s1:=hs r1 (List.mem_of_getElem? y1);have s2:=hs r2 (List.mem_of_getElem? y2);have e1:=l1.length;have e2:=l2.length;rw[List.length_map]at e1 e2;have e3:r1.length=r2.length:=by rw[←List.length_map (f:=c6),s1,←s2,List.length_map]
  unfold kas_ask;rw[List.getD_eq_getElem?_getD,List.getD_eq_getElem?_getD,v1,v2];refine kat_lt (s:={ s with heap:=h' }) (kp _ _ g1) d1 (kp _ _ g2) d2 ?_;rw[show decide (us1.toArray.size<us2.toArray.size)=false from decide_eq_false (by rw[List.size_toArray,List.size_toArray];lia)];refine GN 0 (s1.trans s2.symm) l1 l2 ?_;have ec:lZ rs i j=cO r1 r2:=by
   unfold lZ;rw[List.getD_eq_getElem?_getD,List.getD_eq_getElem?_getD,y1,y2];rfl
  rw[show cO (rs.getD i []) (rs.getD j [])=cO r1 r2 from ec]at hC;exact hC
 ·exact⟨.ref D,_,I.laid (t':=s.toks) kp hD (show ObjOk X.prog X.w _ h' _ (.lst _) from⟨hz,_,e,rv,o'⟩),rfl,q _ (I.hok.fresh hD)⟩
variable {K:PySem.W.Frag}{H:Hp}{Q:VK}
theorem OC {p:Addr}{vs:List V}{rs:List (List Key)}{sh:List Bool} (e:SqL K H p vs) (kr:KRows H vs rs) (as:rs.Pairwise (fun a b=>cO a b=true)) (hs:∀r∈rs,r.map c6=sh) (hn:sh≠[]) (h:∀l H',H l=none->Same H H'->H' l=some (.lst vs)->Q (.ref l) H'):GS K [.ref p] H Q :=
 ⟨p,vs,rs,sh,rfl,e,kr,as,hs,hn,fH h⟩
end
end L2
namespace L2
open PySem PySem.Spec PyProof.Rows
def fE (H:Hp):List Addr->Hp
 | []=>H
 | c::cs=>off (fE H cs) c
def ons (H:Hp):List (Addr×Obj)->Hp
 | []=>H
 | p::l=>ons (upd H p.1 (kn p.2)) l
theorem tE {H:Hp}:∀{cs:List Addr}{c:Addr},c∈cs->fE H cs c=none
 | a::cs,c,h=>by
  show off (fE H cs) a c=none
  by_cases e:c=a
  ·subst e;exact FO
  ·rw[fS e];exact tE ((List.mem_cons.mp h).resolve_left e)
theorem oI {H:Hp}:∀{cs:List Addr}{b:Addr},b∉cs->fE H cs b=H b
 | [],_,_=>rfl
 | a::cs,b,h=>by
  show off (fE H cs) a b=H b;rw[List.mem_cons,not_or]at h;rw[fS h.1];exact oI h.2
theorem FD {H:Hp}:∀{l:List (Addr×Obj)},(l.map (·.1)).Nodup->(∀p∈l,H p.1=some (kn p.2))->ons (fE H (l.map (·.1))) l=H
 | [],_,_=>rfl
 | p::l,nd,e=>by
  have nd':=List.nodup_cons.mp nd;show ons (upd (off (fE H (l.map (·.1))) p.1) p.1 (kn p.2)) l=H;rw[TL (by rw[oI nd'.1];exact e p (.head _))];exact FD nd'.2 fun q hq=>e q (List.mem_cons_of_mem _ hq)
section
variable {P:Program}{w:World}
theorem FV {H:Hp}{h:Heap} (x:HOk P w H h):∀{l:List (Addr×Obj)},(l.map (·.1)).Nodup->(∀p∈l,H p.1=some (kn p.2))->HOk P w (fE H (l.map (·.1))) h
 | [],_,_=>x
 | p::l,nd,e=>by
  have nd':=List.nodup_cons.mp nd;exact YC (FV x nd'.2 fun q hq=>e q (List.mem_cons_of_mem _ hq)) (by rw[oI nd'.1];exact e p (.head _))
theorem BQ {h:Heap}:∀{l:List (Addr×Obj)}{H:Hp},(l.map (·.1)).Nodup->(∀p∈l,H p.1=none/\h.get? p.1=some p.2)->HOk P w H h->HOk P w (ons H l) h
 | [],_,_,_,x=>x
 | p::l,H,nd,e,x=>by
  have nd':=List.nodup_cons.mp nd;refine BQ (H:=upd H p.1 (kn p.2)) nd'.2 (fun q hq=>⟨?_,(e q (List.mem_cons_of_mem _ hq)).2⟩) (aAf x (e p (.head _)).1 (e p (.head _)).2);rw[aL (fun z=>nd'.1 (by show p.1∈l.map (·.1);rw[←z];exact List.mem_map.mpr ⟨q,hq,rfl⟩))];exact(e q (List.mem_cons_of_mem _ hq)).1
theorem KR {fs:List Addr}{H:Hp}{h h':Heap}:∀{l:List (Addr×Obj)}{H':Hp},(l.map (·.1)).Nodup->(∀p∈l,H p.1=some (kn p.2)/\h.get? p.1=some p.2/\p.1∉fs)->Un fs [] (fE H (l.map (·.1))) H' h h'->Un fs [] H (ons H' l) h h'
 | [],_,_,_,x=>x
 | p::l,H',nd,e,x=>by
  have nd':=List.nodup_cons.mp nd;obtain⟨e1,e2,e3⟩:=e p (.head _);exact KR (H':=upd H' p.1 (kn p.2)) nd'.2 (fun q hq=>e q (List.mem_cons_of_mem _ hq)) (ZR (by rw[oI nd'.1];exact e1) e2 e3 x)
theorem QH {fs:List Addr}{H:Hp}{h h':Heap}:∀{l:List (Addr×Obj)}{H':Hp},(l.map (·.1)).Nodup->(∀p∈l,H' p.1=none/\h.objs.size<=p.1)->Un fs [] H H' h h'->Un fs [] H (ons H' l) h h'
 | [],_,_,_,x=>x
 | p::l,H',nd,e,x=>by
  have nd':=List.nodup_cons.mp nd;refine QH (H':=upd H' p.1 (kn p.2)) nd'.2 (fun q hq=>⟨?_,(e q (List.mem_cons_of_mem _ hq)).2⟩) (aBU (e p (.head _)).1 (e p (.head _)).2 x);rw[aL (fun z=>nd'.1 (by show p.1∈l.map (·.1);rw[←z];exact List.mem_map.mpr ⟨q,hq,rfl⟩))];exact(e q (List.mem_cons_of_mem _ hq)).1
end
theorem uZ:∀{l:List (Addr×Obj)}{H:Hp}{b:Addr},b∉l.map (·.1)->ons H l b=H b
 | [],_,_,_=>rfl
 | p::l,H,b,h=>by
  rw[List.map_cons,List.mem_cons,not_or]at h;show ons (upd H p.1 (kn p.2)) l b=H b;rw[uZ h.2,aL h.1]
theorem Q4 {l:List (Addr×Obj)}{H:Hp} (e:∀p∈l,H p.1=none):Same H (ons H l):=fun b u h=>by
 have hn:b∉l.map (·.1):=fun z=>by
  obtain⟨p,hp,e'⟩:=List.mem_map.mp z;have h':=e p hp;rw[show p.1=b from e',h]at h';exact nomatch h'
 exact(uZ (l:=l) (H:=H) hn).trans h
theorem ZY {l:List (Addr×Obj)}{H:Hp} (nd:(l.map (·.1)).Nodup) {p:Addr×Obj} (hp:p∈l):ons H l p.1=some (kn p.2):=by
 induction l generalizing H with
 | nil=>exact nomatch hp
 | cons a l ih =>
  have nd':=List.nodup_cons.mp nd;rcases List.mem_cons.mp hp with e|hp
  ·subst e;exact(uZ (l:=l) (H:=upd H p.1 (kn p.2)) nd'.1).trans bC
  ·exact ih (H:=upd H a.1 (kn a.2)) nd'.2 hp
def LamL (H:Hp)(F:Addr)(fd:FuncData)(qual:Str)(args:Arguments)(body:Expr)(sc:Scope)(cs:List (Str×Addr)):Prop :=
 ∃(c':Addr) (pm ctv:Value) (oc:Obj) (fv:Array Value) (t:Tok),fd=PySem.W.kla_fn "<lambda>" qual args body sc cs pm (.ref c') ctv ∧
  H F=some (kn (PySem.W.kla_obj "<lambda>" qual args body sc cs pm c' ctv))/\H c'=some (kn oc)/\oc.data= .fields fv/\fv[1]? =some (.str qual t)
theorem LamL.same {H H':Hp}{F:Addr}{fd:FuncData}{qual:Str}{args:Arguments}{body:Expr}{sc:Scope}{cs:List (Str×Addr)} (x:LamL H F fd qual args body sc cs) (s:Same H H'):LamL H' F fd qual args body sc cs :=
 let ⟨c',pm,ctv,oc,fv,t,e1,e2,e3,r⟩:=x;⟨c',pm,ctv,oc,fv,t,e1,s _ _ e2,s _ _ e3,r⟩
abbrev mB (H:Hp)(cs:List Addr)(vs:List V):Prop:=Paired (aBG H) cs vs
theorem zV {H:Hp}:∀{cs:List Addr}{vs:List V},mB H cs vs->∃l:List (Addr×Obj),l.map (·.1)=cs/\∀p∈l,H p.1=some (kn p.2)
 | _,_,.nil=>⟨[],rfl,fun _ h=>nomatch h⟩
 | _,_,.cons ⟨o,u,e,_⟩ t=>by
  obtain⟨l,h1,h2⟩:=zV t;refine⟨(_,o)::l,by rw[List.map_cons,h1],fun p hp=> ?_⟩;rcases List.mem_cons.mp hp with rfl|hp
  ·exact e
  ·exact h2 p hp
theorem nX {ys:List Str}{cs:List Addr}{z:Str}{d:Addr}:(ys.zip cs).lookup z=some d->∃i:Nat,ys[i]? =some z/\cs[i]? =some d:=by
 induction ys generalizing cs with
 | nil=>intro h;cases h
 | cons y ys ih =>
  cases cs with
  | nil=>intro h;cases h
  | cons c cs =>
   intro h;rw[List.zip_cons_cons,List.lookup_cons]at h;cases q:z==y with
   | true =>
    rw[q]at h;cases h;exact⟨0,by rw[eq_of_beq q];rfl,rfl⟩
   | false =>
    rw[q]at h;obtain⟨i,h1,h2⟩:=ih h;exact⟨i+1,h1,h2⟩
theorem AC {ys:List Str}{cs:List Addr} (nd:ys.Nodup) {i:Nat}{z:Str}{d:Addr}:ys[i]? =some z->cs[i]? =some d->(ys.zip cs).lookup z=some d:=by
 induction ys generalizing cs i with
 | nil=>intro h;simp at h
 | cons y ys ih =>
  intro h1 h2;have nd':=List.nodup_cons.mp nd;cases cs with
  | nil=>simp at h2
  | cons c cs =>
   rw[List.zip_cons_cons,List.lookup_cons];cases i with
   | zero =>
    have h1:y=z:=by simpa using h1
    have h2:c=d:=by simpa using h2
    rw[h1,beq_self_eq_true,h2]
   | succ i =>
    have h1:ys[i]? =some z:=by simpa using h1
    have h2:cs[i]? =some d:=by simpa using h2
    have:(z==y)=false:=beq_false_of_ne fun e=>nd'.1 (by rw[←e];exact List.mem_of_getElem? h1);rw[this];exact ih nd'.2 h1 h2
theorem RS {α:Type}{l:List α} (nd:l.Nodup) {i j:Nat}{x:α} (h1:l[i]? =some x) (h2:l[j]? =some x):i=j:=by
 obtain⟨a1,b1⟩:=List.getElem?_eq_some_iff.mp h1;obtain⟨a2,b2⟩:=List.getElem?_eq_some_iff.mp h2;have pw:=List.pairwise_iff_getElem.mp nd;rcases Nat.lt_trichotomy i j with h|h|h
 ·exact absurd (b1.trans b2.symm) (pw i j a1 a2 h)
 ·exact h
 ·exact absurd (b2.trans b1.symm) (pw j i a2 a1 h)
section
variable {P:Program}{w:World}{K:PySem.W.Frag}{mg:Str->Option Value}{base:Heap}
theorem YG {k:Nat}{f:Addr}{fd:FuncData}{qual:Str}{args:Arguments}{body:Expr}{sc:Scope}{x:Str}{ys:List Str}{cs:List Addr}{vs:List V}{sp:Sp}
  (hk:sc.kind= .function)(hco:sc.isCoroutine=false)(hgen:sc.isGenerator=false)(hcell:∀z∈sc.names,z.2≠ .cell)(hx:sc.names.lookup x=some .local)(hfree:∀z,sc.names.lookup z=some .free->z∈ys)(hy:∀y∈ys,sc.names.lookup y=some .free)(ny:ys.Nodup)(ncs:cs.Nodup)(hlen:ys.length=cs.length)
  (len:∀ws H Q E,sp ws H Q E->∃a,ws=[a]/\LamL H f fd qual args body sc (ys.zip cs)/\mB H cs vs)
  (hbody:∀(cdv:Value) (A:Around) (outer:List Env) (s:Shared) (H:Hp) (a:V) (Q:VK) (E:XK),Room k (A.deeper (PySem.W.envX qual sc s.heap.objs.size f cdv (ys.zip cs)))->sp [a] H Q E →
   ∃t,PE (cxL CX0 P w K mg base (x::ys) qual sc f cdv (ys.zip cs) A outer s (fE H cs) E).nox body t/\∀l:List (Addr×Obj),l.map (·.1)=cs->(∀p∈l,H p.1=some (kn p.2))->t (some a::vs.map some) (fE H cs) (fun r H'=>Q r (ons H' l))) :
  FnOk P w K mg base CX0 (k+1) f fd [x] sp:=by
 refine⟨fun ws H Q E h=> ?_,fun A outer s H ar us ws Q E hr e0 hb r hsp=> ?_⟩
 ·obtain⟨a,rfl,_⟩:=len ws H Q E h;rfl
 obtain⟨a,rfl,⟨c',pm,ctv,oc,fv,tt,rfl,hF,hc',hd,hv⟩,kc⟩:=len ws H Q E hsp;obtain⟨u,rfl,ra⟩:∃u,us=[u]/\RelV a u:=by
  cases r with
  | cons r1 r2=>cases r2;exact⟨_,rfl,r1⟩
 obtain⟨t,ht,hq⟩:=hbody (.ref c') A outer s H a Q E (hr.deeper _) hsp;obtain⟨l,rfl,hl⟩:=zV kc;have hq:=hq l rfl hl;have gC:∀p∈l,s.heap.get? p.1=some p.2:=fun p hp=>u9 e0.hok (hl p hp);have lim:s.heap.NoLimit:=e0.mod.nolimit.keeps fun b o e=>(e0.bs b o e).1;refine PySem.W.kla_callFunE hr.depth (u9 e0.hok hF) rfl hco hgen rfl ⟨c',oc,fv,tt,rfl,u9 e0.hok hc',hd,hv⟩ (hb _ _ _ _ ?_);refine wpAny_newFunctionEnv hcell (fun z hz=>by
  have hz':z∈[(x,u)]:=hz;rw[List.mem_singleton]at hz';rw[hz'];exact hx) (fun h₁ hns hsb=>⟨lim.fresh _ hsb,?_⟩) hk
 have hk₁:∀b o,s.heap.get? b=some o->h₁.get? b=some o:=fun b o e=>hsb.extBut b o (Nat.ne_of_lt (Heap.lt_size e)) (Heap.get?_push_of_some _ e);have inl:∀{d:Addr},d∈l.map (·.1)->∃o,H d=some (kn o)/\s.heap.get? d=some o:=fun hd=>by
  obtain⟨p,hp,rfl⟩:=List.mem_map.mp hd;exact⟨p.2,hl p hp,gC p hp⟩
 have nc:∀b o,base.get? b=some o->b∉l.map (·.1):=fun b o e z=>by
  obtain⟨o',e',_⟩:=inl z;have:=(e0.bs b o e).2;rw[e']at this;cases this
 have ncf:∀c∈l.map (·.1),c∉frs outer:=fun c hc z=>by
  obtain⟨o',e',_⟩:=inl hc;rw[e0.frf c z]at e';cases e'
 show codeAny (model P w) A (.expr body (PySem.W.envX qual sc s.heap.objs.size f (.ref c') (ys.zip (l.map (·.1))))) _ _;have hokO:=FV e0.hok ncs hl;have I:Inv (cxL CX0 P w K mg base (x::ys) qual sc f (.ref c') (ys.zip (l.map (·.1))) A outer s (fE H (l.map (·.1))) E) [] (some a::vs.map some) (fE H (l.map (·.1))) { s with heap:=h₁,toks:=s.toks+([x].zip [u]).length }:=by
  have noA:∀b:Addr,b∉(cxL CX0 P w K mg base (x::ys) qual sc f (.ref c') (ys.zip (l.map (·.1))) A outer s (fE H (l.map (·.1))) E).ex:=fun b z=>absurd (show b∈([]:List Addr) from z) (by simp);refine⟨⟨e0.mod,hk,rfl,rfl,Nat.le_refl _,fun z1 z2 d h1 h2=> ?_,fun z hz=> ?_,fun z d hf _=>absurd (show false=true from hf) Bool.false_ne_true,fun _=>hr.hd,Around.frames_deeper e0.frames,.inr ⟨rfl,rfl⟩,fun b z=>absurd z (noA b),fun b o e=>⟨(e0.bs b o e).1,by show fE H (l.map (·.1)) b=none;rw[oI (nc b o e)];exact(e0.bs b o e).2⟩,e0.bsz,fun b _ _=>noA b,fun b z=>absurd z (noA b),e0.funs,fun b hb=> ?_⟩,
   rfl,e0.bare,Un.kept hk₁,⟨_,hns,fun i z v' h1 h2 h3=> ?_⟩,fun z d h=> ?_,hokO.fresh (Nat.le_refl _),fun z d h=> ?_,fun p hp=>absurd (show p∈([]:List (Addr×Obj)) from hp) (by simp),hokO.kept hk₁,(by show (some a::vs.map some).length=(x::ys).length;rw[List.length_cons,List.length_cons,List.length_map];have:=Paired.length kc;lia)⟩
  ·obtain⟨i1,a1,b1⟩:=nX h1;obtain⟨i2,a2,b2⟩:=nX h2;have:=RS ncs b1 b2;subst this;rw[a1]at a2;cases a2;rfl
  ·have hz:sc.names.lookup z=some .cell∨sc.names.lookup z=some .free:=hz;rcases hz with hz|hz
   ·exact absurd rfl (hcell _ (PySem.mem_of_lookup hz))
   ·obtain⟨i,hi,e⟩:=List.getElem_of_mem (hfree z hz);have h1:ys[i]? =some z:=by rw[List.getElem?_eq_getElem hi,e]
    have h2:(l.map (·.1))[i]? =some (l.map (·.1))[i]:=List.getElem?_eq_getElem (by lia);exact⟨_,AC ny h1 h2⟩
  ·show fE H (l.map (·.1)) b=none
   by_cases hbc:b∈l.map (·.1)
   ·exact tE hbc
   ·rw[oI hbc];exact e0.frf b hb
  ·match i,h1,h2 with
   | 0,h1,h2 =>
    cases h1;cases h2;refine⟨u,ra,.inl ⟨hx,?_⟩⟩;show ([(x,u)].reverse).lookup x=some u;rw[List.reverse_singleton,List.lookup_cons,beq_self_eq_true]
   | i+1,h1,h2 =>
    have h1:(x::ys)[i+1]? =some z:=h1;have h1:ys[i]? =some z:=by simpa using h1
    have h2:vs[i]? =some v':=by
     have h2:(vs.map some)[i]? =some (some v'):=by simpa using h2
     rw[List.getElem?_map]at h2;obtain⟨q,q1,q2⟩:=Option.map_eq_some_iff.mp h2;cases q2;exact q1
    have hil:i<(l.map (·.1)).length:=by
     have:=(List.getElem?_eq_some_iff.mp h1).1
     lia
    have h4:(l.map (·.1))[i]? =some (l.map (·.1))[i]:=List.getElem?_eq_getElem hil;obtain⟨oC,uv,eC,hdC,rv⟩:=Paired.at2 kc h4 h2;obtain⟨o',e',g'⟩:=inl (List.mem_of_getElem? h4);rw[eC]at e';cases e';exact⟨uv,rv,.inr ⟨.inr (hy z (List.mem_of_getElem? h1)),_,AC ny h1 h4,oC,hk₁ _ _ g',hdC⟩⟩
  ·obtain⟨i,a1,b1⟩:=nX h;have hvl:vs.length=(l.map (·.1)).length:=(Paired.length kc).symm;have hil:i<vs.length:=by
    have:=(List.getElem?_eq_some_iff.mp b1).1
    lia
   obtain⟨oC,uv,eC,hdC,rv⟩:=Paired.at2 kc b1 (List.getElem?_eq_getElem hil);obtain⟨o',e',g'⟩:=inl (List.mem_of_getElem? b1);rw[eC]at e';cases e';exact⟨_,oC,hk₁ _ _ g',hdC⟩
  ·obtain⟨i,a1,b1⟩:=nX h;exact tE (List.mem_of_getElem? b1)
 refine PySem.W.kla_codeExpr (wpAny_mono (PE.nox ht [] _ (some a::vs.map some) (fE H (l.map (·.1))) _ I hq) (fun u' s' ⟨v',H',J,rv',q⟩=> ?_) fun e s' hs=> ?_)
 ·have Jb:Un (frs outer) [] (fE H (l.map (·.1))) H' s.heap s'.heap:=J.base;have gC':∀p∈l,H' p.1=none/\s'.heap.get? p.1=some p.2:=fun p hp=>by
   have hm:p.1∈l.map (·.1):=List.mem_map.mpr ⟨p,hp,rfl⟩;exact⟨Jb.free p.1 p.2 (gC p hp) (tE hm) (by simp),Jb.keep p.1 p.2 (gC p hp) (tE hm) (ncf _ hm) (by simp)⟩
  exact⟨v',ons H' l,J.os,J.bare,KR ncs (fun p hp=>⟨hl p hp,gC p hp,ncf _ (List.mem_map.mpr ⟨p,hp,rfl⟩)⟩) Jb,BQ ncs gC' J.hok,rv',q⟩
 ·exact wpAny_mono hs (fun _ s'' z=>z.elim) fun _ s'' z=>z.elim
end
section
variable {X:Cx}{args:Arguments}{body:Expr}{lsc:Scope}{pos:Pos}{cs:List (Str×Addr)}{cL PL:Addr}
def aB2 (qual:Str)(args:Arguments)(body:Expr)(lsc:Scope)(cs:List (Str×Addr))(PL:Addr)(pos:Pos):TE:=fun _ H Q=>TabS H PL pos qual ∧
 ∀F fd H',H F=none->LamL H' F fd qual args body lsc cs->SameT H H'->TabS H' PL pos qual->Q (.ref F) H'
theorem YW (hcode:X.env.code= .ref cL)(C:PySem.W.CodeHd X.base cL PL)(B:X.base.BuiltinsAt X.mg PL)(hcl:closureFor lsc X.env=pure cs)(hdef:defaultsOf args X.env=([],[]):=by rfl) :
  PE X (.Lambda args body lsc pos) (aB2 (X.env.qual++ "<lambda>") args body lsc cs PL pos):=by
 intro pins s σ H Q I h;obtain⟨hT,h⟩:=h;refine PySem.W.kla_eval hdef ?_;have hg:s.heap.Ns mainGlobals X.mg:=I.mod.glob.keeps I.bk;obtain⟨bm,ob,b1,b2,b3,b4,b5,b6⟩:=B;rcases hT with hP|⟨c',oc,fv,t,hP,hc',hd,hv⟩
 ·have gP:s.heap.get? PL=some (PySem.W.tabObj #[]):=I.hok PL _ hP;have hgP:mainGlobals≠PL:=fun q=>by
   obtain⟨o,es,ep,e,hd,_⟩:=hg;rw[q,gP]at e;cases e;cases hd
  refine PySem.W.kla_makeFunction (mg:=X.mg) (ps:= #[]) hcl I.ok.glob hg hcode (C.keeps I.bk) gP trivial rfl hgP ⟨bm,ob,b1,b2,b3,b4,I.bk _ _ b5,b6⟩ fun c' ctv h' tk hx hge hlt hrec htb=> ?_;obtain⟨c₂,oc,fv,t,e2,hoc,hd,hv⟩:=hrec;cases e2;have hps:(#[]++ #[rawInt pos.line,rawInt pos.col,Value.ref c']:Array Value)= #[rawInt pos.line,rawInt pos.col,Value.ref c']:=Array.empty_append;rw[hps]at htb;generalize hps2:(#[rawInt pos.line,rawInt pos.col,Value.ref c']:Array Value)=ps' at htb;generalize hoF:PySem.W.kla_obj "<lambda>" (X.env.qual++ "<lambda>") args body lsc cs ((X.mg "__name__").getD .none) c' ctv=oF;have pu:∀b o,h'.get? b=some o->(h'.push oF).get? b=some o:=fun b o e=>Heap.get?_push_of_some _ e;have gF:(h'.push oF).get? h'.objs.size=some oF:=Heap.get?_push_size _ (by subst hoF;rfl);have nPc:PL≠c':=Nat.ne_of_lt (Nat.lt_of_lt_of_le (Heap.lt_size gP) hge);have ncF:c'≠h'.objs.size:=Nat.ne_of_lt hlt;have nPF:PL≠h'.objs.size:=Nat.ne_of_lt (Heap.lt_size htb);have ltc:∀b u,H b=some u->b≠c':=fun b u e=>Nat.ne_of_lt (Nat.lt_of_lt_of_le (I.hok.lt e) hge);have ltF:∀b u,H b=some u->b≠h'.objs.size:=fun b u e=>Nat.ne_of_lt (Nat.lt_trans (Nat.lt_of_lt_of_le (I.hok.lt e) hge) hlt);have at0:∀b,b≠PL->b≠c'->b≠h'.objs.size->upd (upd (upd H PL (.tbl ps')) c' (kn oc)) h'.objs.size (kn oF) b=H b:=fun b n1 n2 n3=>by rw[aL n3,aL n2,aL n1]
  have atP:upd (upd (upd H PL (.tbl ps')) c' (kn oc)) h'.objs.size (kn oF) PL=some (.tbl ps'):=by rw[aL nPF,aL nPc,bC]
  have atc:upd (upd (upd H PL (.tbl ps')) c' (kn oc)) h'.objs.size (kn oF) c'=some (kn oc):=by rw[aL ncF,bC]
  have atF:upd (upd (upd H PL (.tbl ps')) c' (kn oc)) h'.objs.size (kn oF) h'.objs.size=some (kn oF):=bC;generalize upd (upd (upd H PL (.tbl ps')) c' (kn oc)) h'.objs.size (kn oF)=H3 at at0 atP atc atF;have keepH:∀b u,H b=some u->(∀ps,u≠ .tbl ps)->H3 b=some u:=fun b u e nt=>by
   rw[at0 b (fun z=>by rw[z,hP]at e;cases e;exact nt _ rfl) (ltc b u e) (ltF b u e)];exact e
  have sz:∀b o,s.heap.get? b=some o->b≠c'/\b≠h'.objs.size:=fun b o e =>
   ⟨Nat.ne_of_lt (Nat.lt_of_lt_of_le (Heap.lt_size e) hge),Nat.ne_of_lt (Nat.lt_trans (Nat.lt_of_lt_of_le (Heap.lt_size e) hge) hlt)⟩
  have nP:∀b,H b=none->b≠PL:=fun b n z=>by rw[z,hP]at n;cases n
  have I':Inv X pins σ H3 { s with heap:=h'.push oF,toks:=tk }:=by
   refine I.un ⟨fun b o e n _ _=>pu b o (hx b o (nP b n) e),fun b o e n _ _=>⟨o.slots,pu b o (hx b o (nP b n) e)⟩,fun b o e n _=> ?_,fun b o e _=> ?_,fun b xs e=>keepH b _ e (fun ps z=>by cases z),fun b o u e=>keepH b _ e (fun ps z=>by cases z),fun b ps e=> ?_⟩ fun b o e=> ?_
   ·rw[at0 b (nP b n) (sz b o e).1 (sz b o e).2];exact n
   ·by_cases hb:b=PL
    ·subst hb;exact⟨_,pu _ _ htb⟩
    ·exact⟨o,pu b o (hx b o hb e)⟩
   ·by_cases hb:b=PL
    ·subst hb;rw[hP]at e;cases e;exact⟨ps',by rw[atP,Array.empty_append]⟩
    ·refine⟨#[],?_⟩;rw[at0 b hb (ltc b _ e) (ltF b _ e),e,Array.append_empty]
   ·by_cases hF:b=h'.objs.size
    ·subst hF;rw[atF]at e;cases e;exact EW gF
    by_cases hc':b=c'
    ·subst hc';rw[atc]at e;cases e;exact EW (pu _ _ hoc)
    by_cases hb:b=PL
    ·subst hb;rw[atP]at e;cases e;exact pu _ _ htb
    rw[at0 b hb hc' hF]at e;refine(I.hok b o e).stay (fun d u hd' q=>pu d u (hx d u ?_ q)) (fun d q=>keepH d _ q fun ps z=>by cases z) fun d xs q=>keepH d _ q fun ps z=>by cases z
    rcases hd' with z|z
    ·rw[z];exact hb
    ·intro z2;rw[z2,hP]at z;cases z
  refine⟨.ref h'.objs.size,H3,I',rfl,h _ _ H3 ?_ ⟨c',_,ctv,oc,fv,t,rfl,by rw[hoF];exact atF,atc,hd,hv⟩ keepH (.inr ⟨c',oc,fv,t,by rw[atP,hps2],atc,hd,hv⟩)⟩;exact I.hok.fresh (Nat.le_trans hge (Nat.le_of_lt hlt))
 ·have gP:s.heap.get? PL=some (PySem.W.tabObj #[rawInt pos.line,rawInt pos.col,.ref c']):=I.hok PL _ hP;refine PySem.W.kla_makeFunctionHit (mg:=X.mg) (ps:= #[rawInt pos.line,rawInt pos.col,.ref c']) (cv:= .ref c') hcl I.ok.glob hg hcode (C.keeps I.bk) gP (by simp[TriplesOk,rawInt]) (by simp[codeAmong,rawInt]) ⟨bm,ob,b1,b2,b3,b4,I.bk _ _ b5,b6⟩ fun ctv h' tk hx hge=> ?_;generalize hoF:PySem.W.kla_obj "<lambda>" (X.env.qual++ "<lambda>") args body lsc cs ((X.mg "__name__").getD .none) c' ctv=oF;have hoF':=hoF;unfold PySem.W.kla_obj at hoF';rw[hoF'];have pu:∀b o,h'.get? b=some o->(h'.push oF).get? b=some o:=fun b o e=>Heap.get?_push_of_some _ e;have gF:(h'.push oF).get? h'.objs.size=some oF:=Heap.get?_push_size _ (by subst hoF;rfl);have ltF:∀b u,H b=some u->b≠h'.objs.size:=fun b u e=>Nat.ne_of_lt (Nat.lt_of_lt_of_le (I.hok.lt e) hge);have sF:Same H (upd H h'.objs.size (kn oF)):=fun b u e=>by rw[aL (ltF b u e)];exact e
  have I':Inv X pins σ (upd H h'.objs.size (kn oF)) { s with heap:=h'.push oF,toks:=tk }:=by
   refine I.un ⟨fun b o e n _ _=>pu b o (hx b o e),fun b o e n _ _=>⟨o.slots,pu b o (hx b o e)⟩,fun b o e n _=> ?_,fun b o e _=>⟨o,pu b o (hx b o e)⟩,fun b xs e=>sF _ _ e,fun b o u e=>sF _ _ e,fun b ps e=>⟨#[],by rw[Array.append_empty];exact sF _ _ e⟩⟩ fun b o e=> ?_
   ·rw[aL (Nat.ne_of_lt (Nat.lt_of_lt_of_le (Heap.lt_size e) hge))];exact n
   ·by_cases hF:b=h'.objs.size
    ·subst hF;rw[bC]at e;cases e;exact EW gF
    ·rw[aL hF]at e;exact(I.hok b o e).stay (fun d u hd' q=>pu d u (hx d u q)) (fun d q=>sF _ _ q) fun d xs q=>sF _ _ q
  refine⟨.ref h'.objs.size,_,I',rfl,h _ _ _ (I.hok.fresh hge) ⟨c',_,ctv,oc,fv,t,rfl,by rw[hoF];exact bC,sF _ _ hc',hd,hv⟩ (Same.t sF) (.inr ⟨c',oc,fv,t,sF _ _ hP,sF _ _ hc',hd,hv⟩)⟩
end
section
variable {P:Program}{w:World}{K:PySem.W.Frag}{mg:Str->Option Value}{base:Heap}
def aCt (ics:List (Nat×Addr))(Q:VK):St->V->Hp->Prop:=fun σ v H'=>∃cvs,Paired (fun (ic:Nat×Addr) cv=>σ[ic.1]? =some (some cv)) ics cvs/\∀H2,Same H' H2->(∀ic∈ics,H' ic.2=none)->mB H2 (ics.map (·.2)) cvs->Q v H2
theorem FunV.okL {x qual:Str}{st:Stmt}{f:Addr}{fd:FuncData}{N ps:List Str}{k:Nat}{iys:List (Nat×Str)}{sp:Sp} (F:FunV K x qual st f fd) (S:aQ N ps (aG st)) (hi:∀iy∈iys,N[iy.1]? =some iy.2/\(aG st).names.lookup iy.2=some .cell) (len:∀vs H Q E,sp vs H Q E->vs.length=ps.length)
  (hbody:∀(cdv:Value) (A:Around) (outer:List Env) (s:Shared) (H:Hp) (vs:List V) (Q:VK) (E:XK) (ics:List (Nat×Addr)),fd.code=cdv->Paired (fun (iy:Nat×Str) (ic:Nat×Addr)=>ic.1=iy.1/\(cellsFrom (s.heap.objs.size+1) (aG st).names []).lookup iy.2=some ic.2) iys ics->Room k (A.deeper (envOfC qual (aG st) s.heap.objs.size f cdv))->sp vs H Q E →
   (ics.map (·.2)).Nodup/\∃t,PRs (tP CX0 P w K mg base N qual (aG st) f cdv A outer s H E).nox (cZ st) t/\t { nx:=fun _ H'=>Q .non H',rt:=Q } (aCt ics Q) (start N vs) H):FnOk P w K mg base CX0 (k+1) f fd ps sp:=by
 obtain⟨oc,od,dV,kV,doc,pm,an,cdv,ct,osl,rfl,lk,hcd⟩:=F.ex;refine⟨len,fun A outer s H args us vs Q E hr e0 hb r hsp=> ?_⟩;have hl:=len _ _ _ _ hsp;have KX:K.In s.heap:=e0.mod.kin.keeps fun b o e=>(e0.bs b o e).1;have lim:s.heap.NoLimit:=e0.mod.nolimit.keeps fun b o e=>(e0.bs b o e).1;have hkind:∀y∈ps.zip us,(aG st).names.lookup y.1=some .local∨((aG st).names.lookup y.1=some .cell/\((cellsFrom (s.heap.objs.size+1) (aG st).names []).lookup y.1).isSome=true):=fun⟨n,v⟩ hy=>by
  rcases S.par n (List.of_mem_zip hy).1 with q|q
  ·exact .inl q
  ·exact .inr ⟨q,PySem.W.cellsFrom_some _ _ _ (.inl q)⟩
 refine codeAny_call_function hr.depth (KX _ _ lk) rfl S.co S.gen rfl (PySem.W.codeRec_of KX hcd) (hb _ _ _ _ ?_);refine wpAny_newFunctionEnv_cells S.kind hkind fun env he s1 x=> ?_;subst he;refine⟨lim.keeps x.toInCall.keep,codeAny_func ?_⟩;obtain⟨ics,hic⟩:∃ics:List (Nat×Addr),Paired (fun (iy:Nat×Str) (ic:Nat×Addr)=>ic.1=iy.1/\(cellsFrom (s.heap.objs.size+1) (aG st).names []).lookup iy.2=some ic.2) iys ics:=by
  clear hbody
  induction iys with
  | nil=>exact⟨[],.nil⟩
  | cons a l ih =>
   obtain⟨ics,h⟩:=ih fun iy hiy=>hi iy (List.mem_cons_of_mem _ hiy);obtain⟨c,hc⟩:=tV (n:=s.heap.objs.size+1) (hi a (.head _)).2;exact⟨(a.1,c)::ics,.cons ⟨rfl,hc⟩ h⟩
 obtain⟨ncs,t,ht,hq⟩:=hbody cdv A outer s H vs Q E ics rfl hic (hr.deeper _) hsp;have I:Inv (tP CX0 P w K mg base N qual (aG st) f cdv A outer s H E) [] (start N vs) H s1:=DH S hr.hd e0 hl r x;refine wpAny_mono (ht [] s1 (start N vs) H _ _ (I.wish _) hq) (fun fl s' hs=> ?_) fun e s' hs=>False.elim hs;have fin:∀{σ':St}{H':Hp}{v:V}{u:Value},Inv (tP CX0 P w K mg base N qual (aG st) f cdv A outer s H E).nox [] σ' H' s'->RelV v u->Q v H'->CE outer P w H s Q u s' :=
  fun {σ' H' v u} J rv q=>⟨v,H',J.os,J.bare,J.base,J.hok,rv,q⟩
 cases fl with
 | ret u =>
  obtain⟨v,σ',H',J,rv,q⟩:=hs;rcases q with q|⟨cvs,hi',q⟩
  ·exact fin J rv q
  ·obtain⟨m,hn,hl'⟩:=J.loc;have one:∀(iy:Nat×Str) (ic:Nat×Addr) (cv:V),iy∈iys->(ic.1=iy.1/\(cellsFrom (s.heap.objs.size+1) (aG st).names []).lookup iy.2=some ic.2)->σ'[ic.1]? =some (some cv)->H' ic.2=none/\s.heap.objs.size<=ic.2/\∃oC u',s'.heap.get? ic.2=some oC/\oC.data= .cell (some u')/\RelV cv u':=fun iy ic cv hiy hc hs'=>by
    obtain⟨hN,hyc⟩:=hi iy hiy;obtain⟨u',ru,lk'⟩:=hl' iy.1 iy.2 cv hN (by rw[←hc.1];exact hs') (.inr (.inl hyc));have hcell:s'.heap.IsCell ic.2 (some u'):=by
     rcases lk' with⟨z,_⟩|⟨_,c2,e1,e2⟩
     ·have z':(aG st).names.lookup iy.2=some .local:=z;rw[hyc]at z';cases z'
     ·have e1':(cellsFrom (s.heap.objs.size+1) (aG st).names []).lookup iy.2=some c2:=e1;rw[hc.2]at e1';cases e1';exact e2
    obtain⟨oC,hoC,hdC⟩:=hcell;exact⟨J.freeC iy.2 ic.2 hc.2,J.ok.cab iy.2 ic.2 rfl hc.2,oC,u',hoC,hdC,ru⟩
   have all:∀{iys':List (Nat×Str)}{ics':List (Nat×Addr)}{cvs':List V},(∀iy∈iys',iy∈iys)->Paired (fun (iy:Nat×Str) (ic:Nat×Addr)=>ic.1=iy.1/\(cellsFrom (s.heap.objs.size+1) (aG st).names []).lookup iy.2=some ic.2) iys' ics'->Paired (fun (ic:Nat×Addr) cv=>σ'[ic.1]? =some (some cv)) ics' cvs' →
     ∃l:List (Addr×Obj),l.map (·.1)=ics'.map (·.2)/\(∀p∈l,H' p.1=none/\s.heap.objs.size<=p.1/\s'.heap.get? p.1=some p.2)/\∀H2:Hp,(∀p∈l,H2 p.1=some (kn p.2))->mB H2 (ics'.map (·.2)) cvs':=by
    intro iys' ics' cvs' hsub p1 p2
    induction p1 generalizing cvs' with
    | nil =>
     cases p2;exact⟨[],rfl,(fun _ h=>nomatch h),fun _ _=> .nil⟩
    | @cons iy ic iys2 ics2 h1 t1 ih =>
     cases p2 with
     | cons h2 t2 =>
      obtain⟨l,e1,e2,e3⟩:=ih (fun z hz=>hsub z (List.mem_cons_of_mem _ hz)) t2;obtain⟨a1,a2,oC,u',a3,a4,a5⟩:=one _ _ _ (hsub _ (.head _)) h1 h2;refine⟨(ic.2,oC)::l,by rw[List.map_cons,List.map_cons,e1],fun p hp=> ?_,fun H2 h=> .cons ⟨oC,u',h _ (.head _),a4,a5⟩ (e3 H2 fun p hp=>h p (List.mem_cons_of_mem _ hp))⟩;rcases List.mem_cons.mp hp with rfl|hp
      ·exact⟨a1,a2,a3⟩
      ·exact e2 p hp
   obtain⟨l,e1,e2,e3⟩:=all (fun _ h=>h) hic hi';have nl:(l.map (·.1)).Nodup:=by rw[e1];exact ncs
   have hnone:∀ic∈ics,H' ic.2=none:=fun ic hic'=>by
    have:ic.2∈l.map (·.1):=by rw[e1];exact List.mem_map.mpr ⟨ic,hic',rfl⟩
    obtain⟨p,hp,e⟩:=List.mem_map.mp this;rw[←e];exact(e2 p hp).1
   exact⟨v,ons H' l,J.os,J.bare,QH nl (fun p hp=>⟨(e2 p hp).1,(e2 p hp).2.1⟩) J.base,BQ nl (fun p hp=>⟨(e2 p hp).1,(e2 p hp).2.2⟩) J.hok,rv,q _ (Q4 fun p hp=>(e2 p hp).1) hnone (e3 _ fun p hp=>ZY nl hp)⟩
 | next =>
  obtain⟨σ',H',J,q⟩:=hs;exact fin (v:=V.non) (u:=Value.none) J rfl q
 | brk =>
  obtain⟨_,_,_,q⟩:=hs;exact False.elim q
 | cont =>
  obtain⟨_,_,_,q⟩:=hs;exact False.elim q
end
end L2
namespace L2
open PySem PySem.W PyProof.Rows
section
variable {P:Program}{w:World}{K:PySem.W.Frag}{mg:Str->Option Value}{base:Heap}
def KW (F:Addr)(fd:FuncData)(qual:Str)(args:Arguments)(body:Expr)(sc:Scope)(ys:List Str)(cs:List Addr)(vs:List V)(val:Int->Int):Sp:=fun ws H Q _ =>
 ∃t:Int,ws=[.int t]/\0<=t/\LamL H F fd qual args body sc (ys.zip cs)/\mB H cs vs/\Q (.int (val t)) H
theorem WZ {k:Nat}{F:Addr}{fd:FuncData}{qual:Str}{args:Arguments}{body:Expr}{sc:Scope}{x:Str}{ys:List Str}{cs:List Addr}{vs:List V}{val:Int->Int}
  (hk:sc.kind= .function)(hco:sc.isCoroutine=false)(hgen:sc.isGenerator=false)(hcell:∀z∈sc.names,z.2≠ .cell)(hx:sc.names.lookup x=some .local)(hfree:∀z∈sc.names,z.2= .free->z.1∈ys)(hy:∀y∈ys,sc.names.lookup y=some .free)(ny:ys.Nodup)(ncs:cs.Nodup)(hlen:ys.length=cs.length)
  (hb:∀(cdv:Value) (A:Around) (outer:List Env) (s:Shared) (H:Hp) (E:XK),Room k (A.deeper (PySem.W.envX qual sc s.heap.objs.size F cdv (ys.zip cs))) →
   ∃t,PE (cxL CX0 P w K mg base (x::ys) qual sc F cdv (ys.zip cs) A outer s H E).nox body t/\∀(i:Int) (Q:VK),0<=i->Q (.int (val i)) H->t (some (.int i)::vs.map some) H Q) :
  FnOk P w K mg base CX0 (k+1) F fd [x] (KW F fd qual args body sc ys cs vs val):=by
 refine YG (qual:=qual) (args:=args) (body:=body) (vs:=vs) hk hco hgen hcell hx (fun z e=>hfree (z,.free) (PySem.mem_of_lookup e) rfl) hy ny ncs hlen (fun ws H Q E h=> ?_) fun cdv A outer s H a Q E hr h=> ?_
 ·obtain⟨t,e,t0,L,kc,_⟩:=h;exact⟨.int t,e,L,kc⟩
 ·obtain⟨i,e,t0,L,kc,k⟩:=h;cases e;obtain⟨t,ht,hq⟩:=hb cdv A outer s (fE H cs) E hr;refine⟨t,ht,fun l el hl=>hq _ _ t0 ?_⟩;subst el;show Q _ (ons (fE H _) l);rw[FD ncs hl];exact k
theorem aAE {l:List (Str×Addr)}{iys:List (Nat×Str)}{ics js:List (Nat×Addr)} (h:Paired (fun (iy:Nat×Str) (ic:Nat×Addr)=>ic.1=iy.1/\l.lookup iy.2=some ic.2) iys ics) (hj:Paired (fun (iy:Nat×Str) (ic:Nat×Addr)=>ic.1=iy.1/\l.lookup iy.2=some ic.2) iys js):ics=js:=by
 induction h generalizing js with
 | nil=>cases hj;rfl
 | @cons iy ic _ _ h1 t1 ih =>
  cases hj with
  | @cons _ jc _ _ h2 t2 =>
   rw[ih t2];have e1:ic.1=jc.1:=h1.1.trans h2.1.symm;have e2:ic.2=jc.2:=Option.some.inj (h1.2.symm.trans h2.2);rw[Prod.ext e1 e2]
theorem DO (n:Nat){a b c:Nat}(h:(a≠b/\a≠c/\b≠c):=by decide){i j k:Nat}:(([(i,n+a),(j,n+b),(k,n+c)]:List (Nat×Addr)).map (·.2)).Nodup:=by
 show ([n+a,n+b,n+c]:List Nat).Nodup;simp only[List.nodup_cons,List.mem_cons,List.not_mem_nil,or_false,not_or,List.nodup_nil,and_true,not_false_eq_true]
 lia
end
end L2
namespace L2
open PySem PySem.W PyProof.Rows
structure FcV (P:Program)(w:World)(K:PySem.W.Frag)(mg:Str->Option Value)(base:Heap)(x:Str)(k:Nat)(dvs:List V)(ps:List Str)(sp:Sp):Prop where
 ex:∃f fd ds,mg x=some (.ref f)/\PySem.W.keepIn K (.ref f)=true/\Vals dvs ds/\Binds K fd ps ds/\FnOk P w K mg base CX0 k f fd ps sp
theorem L4 {X:Cx}{x:Str}{k k':Nat}{dvs:List V}{ps:List Str}{sp:Sp}{e:Expr}{es:List Expr}{t:TA}{p pos:Pos} (F:FcV X.prog X.w X.K X.mg X.base x k dvs ps sp) (hr:Room k' X.A) (ha:PA X (e::es) t) (hk:k<=k':=by decide) (hg:Gl X x:=by rfl)
  (hdb:(x==("__debug__" :Str))=false:=by decide)(he:starEach (e::es) X.env=(false,eval e X.env)::starEach es X.env:=by rfl)(hpl:(backTo pos (starEach es X.env)).any (·.1)=false:=by rfl) :
  PE X (.Call (.Name x p) (e::es) [] pos) (rE sp dvs E0 t):=by
 obtain⟨f,fd,ds,hm,kp,rv,b,G⟩:=F.ex;exact J9 G (hr.mono hk) hg hm kp b rv rH ha hdb he hpl
end L2
namespace L2
def ZA {α:Type}:Nat->(List α->Prop)->Prop
 | 0,p=>p []
 | n+1,p=>∀a,ZA n (fun l=>p (a::l))
theorem J3 {α:Type}:∀(n:Nat) (p:List α->Prop),ZA n p->∀us:List α,us.length=n->p us
 | 0,_,h,[],_=>h
 | n+1,_,h,a::us,e=>J3 n _ (h a) us (by simpa using e)
 | 0,_,_,_::_,e=>by simp at e
 | _+1,_,_,[],e=>by simp at e
end L2
namespace Prf
open PySem L2
set_option hygiene false
local macro_rules| `(tactic| walk_at"fs")=> `(tactic| exact⟨rfl,rfl,rfl,by decide +kernel,rfl,by decide +kernel,by decide +kernel⟩)
local macro_rules| `(tactic| walk_at"hu")=> `(tactic| (have hu0:=Room.units0 hr;have hu1:=Room.units1 hr;have hu9:=Room.units9 hr))
set_option hygiene true
def top (i:Nat):Stmt:=PySem.Challenge.pw_firstout_k65_whole_one_behind_the_other.main.body.getD i (.Pass ⟨0,0,0,0⟩)
abbrev uC:Stmt:=top 11
theorem sc_is_whole:aQ ["thing"] ["thing"] (aG uC):=by walk_at"fs"
abbrev vP:Stmt:=top 14
theorem sc_is_name:aQ ["thing"] ["thing"] (aG vP):=by walk_at"fs"
abbrev rR:Stmt:=top 15
theorem sc_need_name:aQ ["part","thing"] ["part","thing"] (aG rR):=by walk_at"fs"
abbrev oY:Stmt:=top 16
theorem sc_need_whole:aQ ["part","thing","least"] ["part","thing","least"] (aG oY):=by walk_at"fs"
abbrev eM:Stmt:=cD (top 17) 0
theorem sc_Door___init__:aQ ["self","name","start","end","wide"] ["self","name","start","end","wide"] (aG eM):=by walk_at"fs"
abbrev rN:Stmt:=cD (top 17) 1
theorem sc_Door_lets:aQ ["self","turn"] ["self","turn"] (aG rN):=by walk_at"fs"
abbrev k3:Stmt:=cD (top 17) 2
theorem sc_Door_is_exit:aQ ["self"] ["self"] (aG k3):=by walk_at"fs"
abbrev jG:Stmt:=cD (top 18) 0
theorem sc_Since___init__:aQ ["self","name","start","end","wide","since"] ["self","name","start","end","wide","since"] (aG jG):=by walk_at"fs"
abbrev pM:Stmt:=cD (top 18) 1
theorem sc_Since_lets:aQ ["self","turn"] ["self","turn"] (aG pM):=by walk_at"fs"
abbrev jD:Stmt:=cD (top 19) 0
theorem sc_Until___init__:aQ ["self","name","start","end","wide","until"] ["self","name","start","end","wide","until"] (aG jD):=by walk_at"fs"
abbrev oV:Stmt:=cD (top 19) 1
theorem sc_Until_lets:aQ ["self","turn"] ["self","turn"] (aG oV):=by walk_at"fs"
abbrev d7:Stmt:=cD (top 20) 0
theorem sc_Beat___init__:aQ ["self","name","start","end","wide","every","since"] ["self","name","start","end","wide","every","since"] (aG d7):=by walk_at"fs"
abbrev rQ:Stmt:=cD (top 20) 1
theorem sc_Beat_lets:aQ ["self","turn","waited"] ["self","turn"] (aG rQ):=by walk_at"fs"
abbrev j5:Stmt:=cD (top 21) 0
theorem sc_Told___init__:aQ ["self","name","start","end","letting"] ["self","name","start","end","letting"] (aG j5):=by walk_at"fs"
abbrev rM:Stmt:=cD (top 21) 1
theorem sc_Told_lets:aQ ["self","turn","letting"] ["self","turn"] (aG rM):=by walk_at"fs"
abbrev o7:Stmt:=top 25
theorem sc_need_turns:aQ ["first","last"] ["first","last"] (aG o7):=by walk_at"fs"
abbrev jH:Stmt:=top 26
theorem sc_need_each_once:aQ ["names","seen","name"] ["names"] (aG jH):=by walk_at"fs"
abbrev iJ:Stmt:=top 27
theorem sc_rooms_spoken_of:aQ ["doors","people","names","door"] ["doors","people"] (aG iJ):=by walk_at"fs"
abbrev oT:Stmt:=top 28
theorem sc_need_rooms:aQ ["names","sizes","name"] ["names","sizes"] (aG oT):=by walk_at"fs"
abbrev lJ:Stmt:=top 29
theorem sc_added_people:aQ ["sizes","people","inside","room","number"] ["sizes","people"] (aG lJ):=by walk_at"fs"
abbrev pH:Stmt:=top 30
theorem sc_need_space:aQ ["sizes","people","inside"] ["sizes","people"] (aG pH):=by walk_at"fs"
abbrev dY:Stmt:=cD (top 31) 0
theorem sc_House___init__:aQ ["self","rooms","doors","people","last","first","sizes","door"] ["self","rooms","doors","people","last","first"] (aG dY):=by walk_at"fs"
abbrev mJ:Stmt:=cD (top 31) 1
theorem sc_House_rooms:aQ ["self"] ["self"] (aG mJ):=by walk_at"fs"
abbrev mK:Stmt:=cD (top 31) 2
theorem sc_House_doors:aQ ["self"] ["self"] (aG mK):=by walk_at"fs"
abbrev iI:Stmt:=cD (top 31) 3
theorem sc_House_need_room:aQ ["self","room"] ["self","room"] (aG iI):=by walk_at"fs"
abbrev mR:Stmt:=cD (top 31) 4
theorem sc_House_holds:aQ ["self","room"] ["self","room"] (aG mR):=by walk_at"fs"
abbrev mW:Stmt:=cD (top 31) 5
theorem sc_House_found:aQ ["self","room"] ["self","room"] (aG mW):=by walk_at"fs"
abbrev pG:Stmt:=cD (top 31) 6
theorem sc_House_into:aQ ["self","room"] ["self","room"] (aG pG):=by walk_at"fs"
abbrev iL:Stmt:=cD (top 31) 7
theorem sc_House_from_room:aQ ["self","room"] ["self","room"] (aG iL):=by walk_at"fs"
abbrev pU:Stmt:=cD (top 31) 8
theorem sc_House_door:aQ ["self","name"] ["self","name"] (aG pU):=by walk_at"fs"
abbrev pX:Stmt:=cD (top 31) 9
theorem sc_House_lets:aQ ["self","name","turn","door"] ["self","name","turn"] (aG pX):=by walk_at"fs"
abbrev mU:Stmt:=cD (top 31) 11
theorem sc_House_pairs:aQ ["self","pairs","turn"] ["self"] (aG mU):=by walk_at"fs"
abbrev tN:Stmt:=top 33
theorem sc_added_up:aQ ["plan","going","turn","name","number"] ["plan"] (aG tN):=by walk_at"fs"
abbrev iH:Stmt:=top 34
theorem sc_rows_that_count:aQ ["house","plan","doors"] ["house","plan"] (aG iH):=by walk_at"fs"
abbrev u0:Stmt:=top 35
theorem sc_leaving:aQ ["house","plan","numbers","turn","name","number","pair"] ["house","plan"] (aG u0):=by walk_at"fs"
abbrev yC:Stmt:=top 36
theorem sc_coming:aQ ["house","plan","numbers","turn","name","number","door","pair"] ["house","plan"] (aG yC):=by walk_at"fs"
abbrev A4:Stmt:=top 37
theorem sc_there:aQ ["house","plan","leave","come","inside","room","turn","before"] ["house","plan"] (aG A4):=by walk_at"fs"
abbrev lC:Stmt:=top 38
theorem sc_most_through:aQ ["house","turn","name"] ["house","turn","name"] (aG lC):=by walk_at"fs"
abbrev mP:Stmt:=top 39
theorem sc_door_faults:aQ ["house","plan","going"] ["house","plan"] (aG mP):=by walk_at"fs"
abbrev lI:Stmt:=top 40
theorem sc_leave_faults:aQ ["house","plan","inside","leave","below_last"] ["house","plan","inside"] (aG lI):=by walk_at"fs"
abbrev mV:Stmt:=top 41
theorem sc_full_faults:aQ ["house","inside"] ["house","inside"] (aG mV):=by walk_at"fs"
abbrev yL:Stmt:=top 42
theorem sc_faults:aQ ["house","plan","inside"] ["house","plan"] (aG yL):=by walk_at"fs"
abbrev mT:Stmt:=top 43
theorem sc_need_lawful:aQ ["house","plan"] ["house","plan"] (aG mT):=by walk_at"fs"
abbrev yP:Stmt:=top 44
theorem sc_out_by:aQ ["house","plan","turn","rows"] ["house","plan","turn"] (aG yP):=by walk_at"fs"
abbrev vX:Stmt:=top 49
theorem sc_anew:aQ ["house","plan","turn","happenings","happened","doors","happening","inside","people"] ["house","plan","turn","happenings"] (aG vX):=by walk_at"fs"
abbrev xT:Stmt:=top 50
theorem sc_onward:aQ ["plan","turn","later"] ["plan","turn","later"] (aG xT):=by walk_at"fs"
abbrev lK:Stmt:=top 52
theorem sc__law_cell_at:aQ ["_law_script","_law_k"] ["_law_script","_law_k"] (aG lK):=by walk_at"fs"
abbrev oR:Stmt:=top 53
theorem sc__law_drawn:aQ ["_law_cell","_law_k","_law_number"] ["_law_cell","_law_k"] (aG oR):=by walk_at"fs"
abbrev rP:Stmt:=top 54
theorem sc__law_name:aQ ["_law_cell","_law_k","_law_some","_law_rest","_law_place"] ["_law_cell","_law_k"] (aG rP):=by walk_at"fs"
abbrev cW:Stmt:=top 55
theorem sc__law_letting:aQ ["_law_number","_law_first","_law_scale"] ["_law_number","_law_first","_law_scale"] (aG cW):=by walk_at"fs"
abbrev rO:Stmt:=top 56
theorem sc__law_door:aQ ["_law_number","_law_name_here","_law_start","_law_end","_law_first","_law_scale","_law_wide","_law_turn"] ["_law_number","_law_name_here","_law_start","_law_end","_law_first","_law_scale"] (aG rO):=by walk_at"fs"
abbrev o6:Stmt:=top 57
theorem sc__law_house:aQ ["_law_script","_law_first","_law_last","_law_cell","_law_scale","_law_names","_law_shape","_law_rooms","_law_doors","_law_k","_law_number","_law_end","_law_kind","_law_start","_law_people"] ["_law_script","_law_first","_law_last"] (aG o6):=by walk_at"fs"
abbrev mN:Stmt:=top 58
theorem sc__law_excess:aQ ["_law_house_here","_law_numbers_here","_law_inside","_law_left","_law_room","_law_some","_law_came","_law_more"] ["_law_house_here","_law_numbers_here","_law_inside"] (aG mN):=by walk_at"fs"
abbrev lE:Stmt:=top 59
theorem sc__law_numbers:aQ ["_law_house_here","_law_cell","_law_turn","_law_inside","_law_numbers_here","_law_names","_law_k","_law_lets","_law_draw","_law_some","_law_more","_law_name_here","_law_most"] ["_law_house_here","_law_cell","_law_turn","_law_inside"] (aG lE):=by walk_at"fs"
abbrev mQ:Stmt:=top 60
theorem sc__law_lawful:aQ ["_law_house_here","_law_cells","_law_rows","_law_inside","_law_turn","_law_cell","_law_numbers_here","_law_name_here","_law_door_here"] ["_law_house_here","_law_cells"] (aG mQ):=by walk_at"fs"
abbrev pV:Stmt:=top 61
theorem sc__law_right:aQ ["_law_house_here","_law_plan","_law_turn","_law_later","_law_rest","_law_put","_law_whole","_law_ahead","_law_behind","_law_room","_law_at","_law_ahead_of","_law_due"] ["_law_house_here","_law_plan","_law_turn","_law_later","_law_rest","_law_put"] (aG pV):=by walk_at"fs"
abbrev qV:Stmt:=top 62
theorem sc_law:aQ ["_law_script","_law_cell","_law_first","_law_house_here","_law_plan","_law_turn","_law_later","_law_rest","_law_put","_law_at","_law_one","_law_other"] ["_law_script"] (aG qV):=by walk_at"fs"
theorem Q8:("abcdefghijklmnopqrstuvwxyz" :Str).length=26:=by rw[bU];rfl
theorem RZ:("shut" :Str).length=4:=by rw[bU];rfl
theorem UO:("found" :Str).length=5:=by rw[bU];rfl
theorem RW:("door" :Str).length=4:=by rw[bU];rfl
theorem UT:("name" :Str).length=4:=by rw[bU];rfl
theorem RG:("start" :Str).length=5:=by rw[bU];rfl
theorem R4:("wide" :Str).length=4:=by rw[bU];rfl
theorem RK:("since" :Str).length=5:=by rw[bU];rfl
theorem TC:("until" :Str).length=5:=by rw[bU];rfl
theorem UA:("every" :Str).length=5:=by rw[bU];rfl
theorem L1:("turn" :Str).length=4:=by rw[bU];rfl
theorem MG:("more" :Str).length=4:=by rw[bU];rfl
theorem MU:("the first turn is below 0" :Str).length=25:=by rw[bU];rfl
theorem LN:("the last turn is below the first one" :Str).length=36:=by rw[bU];rfl
theorem LV:("a row of people is below 0" :Str).length=26:=by rw[bU];rfl
theorem MZ:("more are in a room than it holds" :Str).length=32:=by rw[bU];rfl
theorem LT:("leave" :Str).length=5:=by rw[bU];rfl
theorem MT:("full" :Str).length=4:=by rw[bU];rfl
theorem MY:("the plan has faults" :Str).length=19:=by rw[bU];rfl
theorem MM:("the house has no such turn" :Str).length=26:=by rw[bU];rfl
theorem ME:(" is no name" :Str).length=11:=by rw[bU];rfl
theorem MA:(" is no whole number from " :Str).length=25:=by rw[bU];rfl
theorem LA:(" on" :Str).length=3:=by rw[bU];rfl
theorem LE:("end" :Str).length=3:=by rw[bU];rfl
theorem LC:("a" :Str).length=1:=by rw[bU];rfl
theorem MF:("z" :Str).length=1:=by rw[bU];rfl
abbrev aCD:List Str:=["name","start","end","wide","since","until","every","letting","turn","first","last","sizes","people","named_doors"]
structure DCls (K:PySem.W.Frag)(C:Addr):Prop where
 ic:ICls K C
 nf:noF K C aCD=true
theorem DCls.n_name {K:PySem.W.Frag}{C:Addr} (d:DCls K C):NoAttr K C "name" :=fF d.nf 0 rfl
theorem DCls.n_start {K:PySem.W.Frag}{C:Addr} (d:DCls K C):NoAttr K C "start" :=fF d.nf 1 rfl
theorem DCls.n_end {K:PySem.W.Frag}{C:Addr} (d:DCls K C):NoAttr K C "end" :=fF d.nf 2 rfl
theorem DCls.n_wide {K:PySem.W.Frag}{C:Addr} (d:DCls K C):NoAttr K C "wide" :=fF d.nf 3 rfl
theorem DCls.n_since {K:PySem.W.Frag}{C:Addr} (d:DCls K C):NoAttr K C "since" :=fF d.nf 4 rfl
theorem DCls.n_until {K:PySem.W.Frag}{C:Addr} (d:DCls K C):NoAttr K C "until" :=fF d.nf 5 rfl
theorem DCls.n_every {K:PySem.W.Frag}{C:Addr} (d:DCls K C):NoAttr K C "every" :=fF d.nf 6 rfl
theorem DCls.n_letting {K:PySem.W.Frag}{C:Addr} (d:DCls K C):NoAttr K C "letting" :=fF d.nf 7 rfl
theorem DCls.n_first {K:PySem.W.Frag}{C:Addr} (d:DCls K C):NoAttr K C "first" :=fF d.nf 9 rfl
theorem DCls.n_last {K:PySem.W.Frag}{C:Addr} (d:DCls K C):NoAttr K C "last" :=fF d.nf 10 rfl
theorem DCls.n_sizes {K:PySem.W.Frag}{C:Addr} (d:DCls K C):NoAttr K C "sizes" :=fF d.nf 11 rfl
theorem DCls.n_people {K:PySem.W.Frag}{C:Addr} (d:DCls K C):NoAttr K C "people" :=fF d.nf 12 rfl
theorem DCls.n_named_doors {K:PySem.W.Frag}{C:Addr} (d:DCls K C):NoAttr K C "named_doors" :=fF d.nf 13 rfl
set_option genInjectivity false in set_option genSizeOf false in structure M (K:PySem.W.Frag) (mg:Str->Option Value) where
 uM:Addr
 oG:FX K "is_whole" "is_whole" uC ["thing"] uM
 v9:Addr
 rJ:FX K "is_name" "is_name" vP ["thing"] v9
 r9:Addr
 l7:FX K "need_name" "need_name" rR ["part","thing"] r9
 qQ:Addr
 kR:FX K "need_whole" "need_whole" oY ["part","thing","least"] qQ
 qE:Addr
 kN:FX K "need_turns" "need_turns" o7 ["first","last"] qE
 jP:Addr
 fO:FX K "need_each_once" "need_each_once" jH ["names"] jP
 iN:Addr
 fA:FX K "rooms_spoken_of" "rooms_spoken_of" iJ ["doors","people"] iN
 qB:Addr
 kP:FX K "need_rooms" "need_rooms" oT ["names","sizes"] qB
 lP:Addr
 iG:FX K "added_people" "added_people" lJ ["sizes","people"] lP
 qN:Addr
 kU:FX K "need_space" "need_space" pH ["sizes","people"] qN
 uP:Addr
 oE:FX K "added_up" "added_up" tN ["plan"] uP
 iR:Addr
 eX:FX K "rows_that_count" "rows_that_count" iH ["house","plan"] iR
 wA:Addr
 rK:FX K "leaving" "leaving" u0 ["house","plan"] wA
 yZ:Addr
 uN:FX K "coming" "coming" yC ["house","plan"] yZ
 CF:Addr
 w5:FX K "there" "there" A4 ["house","plan"] CF
 lU:Addr
 hZ:FX K "most_through" "most_through" lC ["house","turn","name"] lU
 mZ:Addr
 jA:FX K "door_faults" "door_faults" mP ["house","plan"] mZ
 lV:Addr
 iA:FX K "leave_faults" "leave_faults" lI ["house","plan","inside"] lV
 nL:Addr
 jB:FX K "full_faults" "full_faults" mV ["house","inside"] nL
 yV:Addr
 uQ:FX K "faults" "faults" yL ["house","plan"] yV
 nK:Addr
 jC:FX K "need_lawful" "need_lawful" mT ["house","plan"] nK
 yX:Addr
 uR:FX K "out_by" "out_by" yP ["house","plan","turn"] yX
 HW:Addr
 AV:FuncData
 Q1:FunV K "anew" "anew" vX HW AV
 aCI:Binds K AV ["house","plan","turn","happenings"] []
 zB:Addr
 uO:FX K "onward" "onward" xT ["plan","turn","later"] zB
 lT:Addr
 iC:FX K "_law_cell_at" "_law_cell_at" lK ["_law_script","_law_k"] lT
 qF:Addr
 kM:FX K "_law_drawn" "_law_drawn" oR ["_law_cell","_law_k"] qF
 rZ:Addr
 l8:FX K "_law_name" "_law_name" rP ["_law_cell","_law_k"] rZ
 lW:Addr
 cI:FuncData
 iF:FunV K "_law_letting" "_law_letting" cW lW cI
 CJ:Binds K cI ["_law_number","_law_first","_law_scale"] []
 rW:Addr
 l0:FX K "_law_door" "_law_door" rO ["_law_number","_law_name_here","_law_start","_law_end","_law_first","_law_scale"] rW
 qP:Addr
 kQ:FX K "_law_house" "_law_house" o6 ["_law_script","_law_first","_law_last"] qP
 m9:Addr
 i9:FX K "_law_excess" "_law_excess" mN ["_law_house_here","_law_numbers_here","_law_inside"] m9
 lR:Addr
 iD:FX K "_law_numbers" "_law_numbers" lE ["_law_house_here","_law_cell","_law_turn","_law_inside"] lR
 mX:Addr
 i8:FX K "_law_lawful" "_law_lawful" mQ ["_law_house_here","_law_cells"] mX
 qI:Addr
 kI:FX K "_law_right" "_law_right" pV ["_law_house_here","_law_plan","_law_turn","_law_later","_law_rest","_law_put"] qI
 M8:Addr
 M9:FuncData
 aCl:FunV K "law" "law" qV M8 M9
 aCJ:Binds K M9 ["_law_script"] []
 gJ:Addr
 eO:FuncData
 kW:FunV K "__init__" "Door.__init__" eM gJ eO
 rL:Binds K eO ["self","name","start","end","wide"] []
 rX:Addr
 r6:FX K "lets" "Door.lets" rN ["self","turn"] rX
 cP:Addr
 dH:FX K "is_exit" "Door.is_exit" k3 ["self"] cP
 jM:Addr
 jN:FX K "__init__" "Since.__init__" jG ["self","name","start","end","wide","since"] jM
 qM:Addr
 qA:FX K "lets" "Since.lets" pM ["self","turn"] qM
 jO:Addr
 jL:FX K "__init__" "Until.__init__" jD ["self","name","start","end","wide","until"] jO
 qO:Addr
 qC:FX K "lets" "Until.lets" oV ["self","turn"] qO
 kK:Addr
 gI:FuncData
 AW:FunV K "__init__" "Beat.__init__" d7 kK gI
 AZ:Binds K gI ["self","name","start","end","wide","every","since"] []
 rU:Addr
 sI:FX K "lets" "Beat.lets" rQ ["self","turn"] rU
 kO:Addr
 kJ:FX K "__init__" "Told.__init__" j5 ["self","name","start","end","letting"] kO
 rY:Addr
 rV:FX K "lets" "Told.lets" rM ["self","turn"] rY
 jK:Addr
 fN:FuncData
 zE:FunV K "__init__" "House.__init__" dY jK fN
 yY:Binds K fN ["self","rooms","doors","people","last","first"] []
 m6:Addr
 mY:FX K "rooms" "House.rooms" mJ ["self"] m6
 nS:Addr
 nJ:FX K "doors" "House.doors" mK ["self"] nS
 iP:Addr
 iS:FX K "need_room" "House.need_room" iI ["self","room"] iP
 nR:Addr
 nO:FX K "holds" "House.holds" mR ["self","room"] nR
 nA:Addr
 nM:FX K "found" "House.found" mW ["self","room"] nA
 qS:Addr
 qD:FX K "into" "House.into" pG ["self","room"] qS
 iO:Addr
 iQ:FX K "from_room" "House.from_room" iL ["self","room"] iO
 qH:Addr
 qT:FX K "door" "House.door" pU ["self","name"] qH
 p9:Addr
 qR:FX K "lets" "House.lets" pX ["self","name","turn"] p9
 nQ:Addr
 nN:FX K "pairs" "House.pairs" mU ["self"] nQ
 NA:mg "is_whole" =some (.ref uM)
 QV:mg "is_name" =some (.ref v9)
 JF:mg "need_name" =some (.ref r9)
 HY:mg "need_whole" =some (.ref qQ)
 IB:mg "need_turns" =some (.ref qE)
 yW:mg "need_each_once" =some (.ref jP)
 xF:mg "rooms_spoken_of" =some (.ref iN)
 ID:mg "need_rooms" =some (.ref qB)
 CD:mg "added_people" =some (.ref lP)
 II:mg "need_space" =some (.ref qN)
 NB:mg "added_up" =some (.ref uP)
 xE:mg "rows_that_count" =some (.ref iR)
 QY:mg "leaving" =some (.ref wA)
 UX:mg "coming" =some (.ref yZ)
 Y4:mg "there" =some (.ref CF)
 CI:mg "most_through" =some (.ref lU)
 EL:mg "door_faults" =some (.ref mZ)
 CO:mg "leave_faults" =some (.ref lV)
 EJ:mg "full_faults" =some (.ref nL)
 U1:mg "faults" =some (.ref yV)
 EO:mg "need_lawful" =some (.ref nK)
 UY:mg "out_by" =some (.ref yX)
 aBv:mg "anew" =some (.ref HW)
 U0:mg "onward" =some (.ref zB)
 CL:mg "_law_cell_at" =some (.ref lT)
 IA:mg "_law_drawn" =some (.ref qF)
 JH:mg "_law_name" =some (.ref rZ)
 CH:mg "_law_letting" =some (.ref lW)
 JG:mg "_law_door" =some (.ref rW)
 IE:mg "_law_house" =some (.ref qP)
 ER:mg "_law_excess" =some (.ref m9)
 CP:mg "_law_numbers" =some (.ref lR)
 EH:mg "_law_lawful" =some (.ref mX)
 HX:mg "_law_right" =some (.ref qI)
 aCK:mg "law" =some (.ref M8)
 Q0:∃ds,Vals [.non] ds/\Binds K AV ["house","plan","turn","happenings"] ds
 v8:∃ds,Vals [.int 1] ds/\Binds K eO ["self","name","start","end","wide"] ds
 QX:∃ds,Vals [.non,.int 1] ds/\Binds K eO ["self","name","start","end","wide"] ds
 QZ:∃ds,Vals [.int 0] ds/\Binds K gI ["self","name","start","end","wide","every","since"] ds
 ND:∃ds,Vals [.int 0] ds/\Binds K fN ["self","rooms","doors","people","last","first"] ds
 fW:Addr
 IH:mg "Door" =some (.ref fW)
 iB:Addr
 Y2:mg "Since" =some (.ref iB)
 iE:Addr
 YY:mg "Until" =some (.ref iE)
 kS:Addr
 aBy:mg "Beat" =some (.ref kS)
 kX:Addr
 aBw:mg "Told" =some (.ref kX)
 IF:Addr
 aCH:mg "Shut" =some (.ref IF)
 CA:Addr
 aCG:mg "Wider" =some (.ref CA)
 aI:Addr
 Y3:mg "House" =some (.ref aI)
 tG:DCls K fW
 Y0:Mk K fW gJ
 IC:Meth K fW "lets" rX
 AX:Meth K fW "is_exit" cP
 qG:DCls K iB
 UZ:Mk K iB jM
 EM:Meth K iB "lets" qM
 zD:Meth K iB "is_exit" cP
 qK:DCls K iE
 U4:Mk K iE jO
 EI:Meth K iE "lets" qO
 zC:Meth K iE "is_exit" cP
 tH:DCls K kS
 YZ:Mk K kS kK
 IG:Meth K kS "lets" rU
 A0:Meth K kS "is_exit" cP
 tF:DCls K kX
 Y1:Mk K kX kO
 HZ:Meth K kX "lets" rY
 AY:Meth K kX "is_exit" cP
 aCF:DCls K IF
 V2:Meth K IF "is_exit" cP
 aCE:DCls K CA
 U3:Meth K CA "is_exit" cP
 aX:DCls K aI
 U2:Mk K aI jK
 CM:Meth K aI "rooms" m6
 CK:Meth K aI "doors" nS
 wB:Meth K aI "need_room" iP
 CN:Meth K aI "holds" nR
 CB:Meth K aI "found" nA
 EQ:Meth K aI "into" qS
 v7:Meth K aI "from_room" iO
 EK:Meth K aI "door" qH
 EN:Meth K aI "lets" p9
 CG:Meth K aI "pairs" nQ
 dG:PySem.W.specialIn K (.ref fW) "__getattribute__" =some (some (.builtin "type.__getattribute__"))/\PySem.W.readsIn K fW (.type "type")=true/\PySem.W.findCls K (.ref fW) (.type "type") "__init__" =some (.val (.ref gJ))
 V1:mg "any" =none
 zA:mg "sorted" =none
 NC:mg "sum" =none
 jW:mg "range" =none
 Q2:mg "dict" =none
 qJ:mg "isinstance" =none
 V3:mg "int" =none
 aCp:mg "str" =none
 aCn:mg "all" =none
 QW:mg "list" =none
 l6:mg "len" =none
 aCm:mg "max" =none
 aCo:mg "min" =none
 aBx:mg "bool" =none
 lQ:∃t:Tok,mg "LONGEST_NAME" =some (.int 8 t)
theorem gl_ {G:Prop}(h:∀G':Prop,G'=G->G'):G:=h G rfl
set_option hygiene false
local macro_rules| `(tactic| walk_at"g1")=> `(tactic| (refine gl_ ?_;intro G_ hG_))
local macro_rules| `(tactic| walk_at"g2")=> `(tactic| subst hG_)
local macro_rules| `(tactic| walk_at"cx")=> `(tactic| try dsimp only[cxK,cxP,cxW,cxM,cxB])
set_option hygiene true
local macro_rules| `(tactic| walk_at"hp")=> `(tactic| first|assumption|(refine' Same.at ?s ?h;(case s=>assumption);(case h=>walk_at"hp"))|(refine' SqL.of ?h;(case h=>walk_at"hp"))|(refine' SqT.of ?h;(case h=>walk_at"hp"))|(refine' Same.seq ?s ?h;(case s=>assumption);(case h=>walk_at"hp"))|(refine' Same.sqT ?s ?h;(case s=>assumption);(case h=>walk_at"hp")))
local macro_rules| `(tactic| walk_at"sm")=> `(tactic| first|assumption|exact Same.refl _|(refine' Same.snoc ?s ?h;(case s=>assumption);(case h=>walk_at"sm")))
local macro_rules| `(tactic| walk_at"sb")=> `(tactic| first|assumption|exact SameBut.refl|(refine' SameBut.snoc ?s ?h;(case s=>assumption);(case h=>walk_at"sb"))|(refine' SameBut.snocS ?s ?h;(case s=>assumption);(case h=>walk_at"sb")))
local macro_rules| `(tactic| walk_at"lk")=> `(tactic| first|assumption|exact Z5|(with_reducible exact YD)|(refine' aCg ?d ?h;(case d=>decide +kernel);(case h=>walk_at"lk")))
local macro_rules| `(tactic| walk_at"sz")=> `(tactic| first|with_reducible assumption|lia|omega|(simp only[eQ,BH,Q8,RZ,UO,RW,UT,RG,R4,RK,TC,UA,L1,MG,MU,LN,LV,MZ,LT,MT,MY,MM,ME,MA,LA,LE,LC,MF,sizeLine_eq,List.length_cons,List.length_nil,List.length_append,List.length_map];done)|(simp only[eQ,BH,Q8,RZ,UO,RW,UT,RG,R4,RK,TC,UA,L1,MG,MU,LN,LV,MZ,LT,MT,MY,MM,ME,MA,LA,LE,LC,MF,sizeLine_eq,List.length_cons,List.length_nil,List.length_append,List.length_map];omega)|(simp only[eQ,BH,Q8,RZ,UO,RW,UT,RG,R4,RK,TC,UA,L1,MG,MU,LN,LV,MZ,LT,MT,MY,MM,ME,MA,LA,LE,LC,MF,sizeLine_eq,List.length_cons,List.length_nil,List.length_append,List.length_map]at *;omega))
local macro_rules| `(tactic| walk_at"sd")=> `(tactic| first|with_reducible assumption|lia|omega|decide)
local macro_rules| `(tactic| walk_at"dc")=> `(tactic| first|((with_reducible refine ICls.cl (DCls.ic ?_));assumption)|((with_reducible refine DCls.ic ?_);assumption)|((with_reducible refine DCls.n_name ?_);assumption)|((with_reducible refine DCls.n_start ?_);assumption)|((with_reducible refine DCls.n_end ?_);assumption)|((with_reducible refine DCls.n_wide ?_);assumption)|((with_reducible refine DCls.n_since ?_);assumption)|((with_reducible refine DCls.n_until ?_);assumption)|((with_reducible refine DCls.n_every ?_);assumption)|((with_reducible refine DCls.n_letting ?_);assumption)|((with_reducible refine DCls.n_inner ?_);assumption)|((with_reducible refine DCls.n_turn ?_);assumption)|((with_reducible refine DCls.n_more ?_);assumption)|((with_reducible refine DCls.n_first ?_);assumption)|((with_reducible refine DCls.n_last ?_);assumption)|((with_reducible refine DCls.n_sizes ?_);assumption)|((with_reducible refine DCls.n_people ?_);assumption)|((with_reducible refine DCls.n_named_doors ?_);assumption))
local macro_rules| `(tactic| walk_at"rd1")=> `(tactic| first|(with_reducible first|refine aBq ?_|refine ZJ ?_|refine aCq ?_|refine aBL ?_|refine aBI ?_|refine aBK ?_|refine aB4 ?_|refine aBZ ?_|refine aBS ?_|refine aCh ?_|refine aCe ?_|refine aCb ?_|refine aBN ?_|refine aBT ?_|refine aAa ?_|refine aAM ?_|refine aBs ?_|refine W2 ?_|refine Y6 ?_|refine aCa ?_|refine aBD ?_|refine V9 ?_|refine aBQ ?_|refine aAQ ?_|refine WE ?_|refine aB8 ?_|refine ZC ?_|refine aCc ?_|refine QT ?_|refine GQ ?_|refine W8 ?_|refine YU ?_|refine rd_s0 ?_|refine aBO ?_|refine aB3 ?_|refine aBB ?_|refine aBz ?_|refine aBV ?_|refine aBR ?_|refine aBH ?_|refine aCd ?_|refine aCj ?_|refine Z2 ?_|refine aBe ?_|refine aA1 ?_|refine aBp ?_|refine XL ?_|refine WK ?_|refine rd_retN ?_|refine ZF ?_|refine Z9 ?_|refine aB0 ?_|refine rd_andV ?_|refine rd_orV ?_|refine rd_notV ?_|refine aAh ?_|refine UE ?_|refine rd_un ?_|refine rd_U ?_|refine aAl ?_|refine rd_eqB ?_|refine aBo ?_|refine rd_eqSN ?_|refine WX ?_|refine rd_eqNN ?_|refine aAW ?_|refine rd_neB ?_|refine rd_neS ?_|refine rd_neNN ?_|refine WW ?_|refine rd_isNS ?_|refine rd_isNI ?_|refine X7 ?_|refine YM ?_|refine WP ?_|refine rd_ntNI ?_|refine rd_ntNR ?_|refine YQ ?_|refine rd_ntNV ?_|refine aBm ?_|refine aA3 ?_|refine X4 ?_|refine W1 ?_|refine XA ?_|refine aBA ?_|refine aBM ?_|refine rd_bm0 ?_|refine rd_bmS ?_|refine rd_bm0I ?_|refine rd_isiII ?_|refine rd_isiIB ?_|refine rd_isiBB ?_|refine rd_isiBI ?_|refine rd_isiSS ?_|refine rd_isiNS ?_|refine XT ?_|refine WS ?_|refine XR ?_|refine rd_intI ?_|refine OV ?_|refine YI ?_|refine aAH ?_|refine rd_gsub ?_|refine X8 ?_|refine SW ?_|refine aBr ?_|refine UI ?_|refine rd_iTup ?_|refine SM ?_|refine Q6 ?_|refine rd_iStr ?_|refine rd_iStrV ?_|refine rd_break ?_|refine rd_cont ?_|refine rd_aug ?_)|((with_reducible refine' aAy ?s ?_);(case s=>decide))|((with_reducible refine' WA ?s ?_);(case s=>walk_at"sd");intro h0' h1')|((with_reducible refine' rd_repL ?e ?a ?b ?s ?_);(case e=>walk_at"hp");(case a=>decide);(case b=>decide);(case s=>first|(simp;done)|(simp[sizeLine_eq];done)|walk_at"sz");intro p' H' n' S' e')|((with_reducible refine' aBi ?s ?r ?_);(case s=>walk_at"sd");(case r=>walk_at"sd"))|((with_reducible refine' XJ ?s ?r ?_);(case s=>walk_at"sd");(case r=>walk_at"sd"))|((with_reducible refine' XS ?s ?r ?_);(case s=>walk_at"sd");(case r=>walk_at"sd"))|((with_reducible refine' WY ?s ?_);(case s=>walk_at"sz");intro p' H' n' S' e')|((with_reducible refine' WU ?s ?_);(case s=>walk_at"sz");intro p' H' n' S' e')|((with_reducible refine XH ?_);intro p' H' n' S' e')|((with_reducible refine' WV ?e ?c ?n ?l ?_);(case e=>walk_at"hp");(case c=>walk_at"dc");(case n=>walk_at"dc");(case l=>walk_at"lk"))|((with_reducible refine' UC ?e ?c ?n ?l ?_);(case e=>walk_at"hp");(case c=>walk_at"dc");(case n=>walk_at"dc");(case l=>kernel_rfl);intro H' B' e')|((with_reducible refine' Z1 ?e ?l ?F ?_);(case e=>walk_at"hp");(case l=>walk_at"lk");(case F=>assumption))|((with_reducible refine' rd_isiC ?e ?i ?k ?_);(case e=>walk_at"hp");(case i=>walk_at"dc");(case k=>assumption))|((with_reducible refine' rd_ixL ?e ?l ?_);(case e=>walk_at"hp");(case l=>rfl))|((with_reducible refine' XQ ?e ?s ?r ?_);(case e=>walk_at"hp");(case s=>walk_at"sd");(case r=>walk_at"sd");intro v' hv')|((with_reducible refine' rd_ix3i ?e ?s ?r ?_);(case e=>walk_at"hp");(case s=>walk_at"sd");(case r=>walk_at"sd");intro v' hv')|((with_reducible refine' rd_setLm ?e ?l ?_);(case e=>walk_at"hp");(case l=>rfl);intro H' B' e')|((with_reducible refine' W4 ?e ?_);(case e=>walk_at"hp"))|((with_reducible refine' XX ?e ?_);(case e=>walk_at"sz"))|((with_reducible refine' WC ?e ?_);(case e=>walk_at"sz"))|((with_reducible refine' aA6 ?e ?_);(case e=>walk_at"sz");intro hl')|((with_reducible refine' Z6 ?e ?_);(case e=>walk_at"hp");intro p' H' n' S' e')|((with_reducible refine' P4 ?e ?_);(case e=>walk_at"hp");intro p' H' n' S' e')|((with_reducible refine' KF ?e ?f ?s ?_);(case e=>walk_at"hp");(case f=>walk_at"hp");(case s=>walk_at"sz");intro p' H' n' S' e')|((with_reducible refine' rd_listOf ?e ?_);(case e=>walk_at"hp");intro p' H' n' S' e')|((with_reducible refine' aAd ?e ?_);(case e=>walk_at"hp"))|((with_reducible refine' C8 ?e ?_);(case e=>walk_at"hp"))|((with_reducible refine' OW ?s ?r ?_);(case s=>walk_at"sd");(case r=>walk_at"sd"))|((with_reducible refine' O7 ?s ?r ?t ?u ?_);(case s=>walk_at"sd");(case r=>walk_at"sd");(case t=>walk_at"sd");(case u=>walk_at"sd"))|((with_reducible refine' rd_str ?s ?r ?_);(case s=>walk_at"sd");(case r=>walk_at"sd");intro hl')|((with_reducible refine' rd_gtupL ?e ?l ?_);(case e=>walk_at"hp");(case l=>rfl))|((with_reducible refine' YE ?e ?l ?_);(case e=>walk_at"hp");(case l=>rfl))|((with_reducible refine' rd_ifP ?s ?_);(case s=>walk_at"sd"))|((with_reducible refine' aAp ?s ?_);(case s=>walk_at"sd"))|((with_reducible refine' WL ?s ?_);(case s=>walk_at"sd"))|((with_reducible refine' rd_ifnN ?s ?_);(case s=>walk_at"sd")))
local macro_rules| `(tactic| walk_at"go")=> `(tactic| repeat walk_at"rd1")
local macro_rules| `(tactic| walk_at"gs")=> `(tactic| repeat ((fail_if_success (with_reducible refine UD ?_));walk_at"rd1"))
local macro_rules| `(tactic| walk_at"nn")=> `(tactic| repeat first|exact nn_nil|refine nn_app ?_ ?_|refine nn_cons (by omega) ?_|exact nn_map (fun n=>by omega))
section
variable {P:Program}{w:World}{K:PySem.W.Frag}{mg:Str->Option Value}{base:Heap}
def ZG:V->Bool
 | .int _=>true
 | _=>false
def xW (K:PySem.W.Frag):Sp:=fun vs H Q _=>∃x n,vs=[x]/\BTy K H x n/\Q (.bl (ZG x)) H
theorem SN {H:Hp}{Q:VK}{E:XK}{i:Int} (h:Q (.bl true) H):xW K [.int i] H Q E:=⟨_,_,rfl,.int i,h⟩
theorem IJ (m:M K mg):FnOk P w K mg base CX0 1 m.uM m.oG.d ["thing"] (xW K):=by
 refine m.oG.F.ok sc_is_whole (fun vs H Q E h=> ?_) (fun cdv A outer s H vs Q E hr h=> ?_)
 ·walk_at"g1";obtain⟨x,n,rfl,b,k⟩:=h;walk_at"g2";rfl
 ·walk_at"g1";obtain⟨x,n,rfl,b,k⟩:=h;walk_at"g2";have nd:=sc_is_whole.nd;walk_at"hu";refine⟨_,(aF (aT (PB (bS xR rfl m.qJ mL (aA (pv 0) (aA (L9 rfl m.V3 OO) aC))) (NL (aBf (bS xR rfl m.qJ mL (aA (pv 0) (aA (L9 rfl m.aBx X6) aC)))))))),?_⟩;refine aO (σ:=[some (x)]) rfl ?_;walk_at"cx";refine⟨_,rfl,_,_,_,_,_,rfl,b.ty,rfl,M6 b "int" (.inl rfl),_,rfl,?_⟩;refine A3 (fun h1=>⟨_,rfl,_,_,_,_,_,rfl,b.ty,rfl,M6 b "bool" (.inr (.inl rfl)),_,rfl,?_⟩) (fun h1=> ?_)
  ·cases b<;>first|exact k|exact absurd h1 (by decide)
  ·cases b<;>first|exact k|exact absurd (by decide) h1
theorem IS (m:M K mg):Fc P w K mg base "is_whole" 1 ["thing"] (xW K):=⟨_,_,m.NA,m.oG.F.kp,m.oG.b,IJ m⟩
def nmB:V->Bool
 | .str z=>bE z
 | _=>false
def BT (K:PySem.W.Frag):Sp:=fun vs H Q _=>∃x n,vs=[x]/\BTy K H x n/\(∀z,x= .str z->z.length<=1000)/\∀H',Same H H'->Q (.bl (nmB x)) H'
theorem XU {H:Hp}{Q:VK}{E:XK}{z:Str} (hz:bE z=true) (h:∀H',Same H H'->Q (.bl true) H'):BT K [.str z] H Q E :=
 ⟨_,_,rfl,.str z,fun y e=>by cases e;exact Nat.le_trans (QS hz) (by decide),fun H' s=>by rw[show nmB (.str z)=true from hz];exact h H' s⟩
theorem le1 (a c:Nat):(!decide ([c]<[a]))=decide (a<=c):=by
 have:([c]<[a])↔c<a:=by
  constructor
  ·intro h;cases h with
   | rel h=>exact h
   | cons h=>cases h
  ·exact fun h=> .rel h
 by_cases h:c<a
 ·rw[decide_eq_true (this.mpr h),decide_eq_false (by lia)];rfl
 ·rw[decide_eq_false (fun z=>h (this.mp z)),decide_eq_true (by lia)];rfl
theorem aBX:("a" :Str).cps.toList=[97]:=by decide +kernel
theorem aBF:("z" :Str).cps.toList=[122]:=by decide +kernel
theorem CV {α:Type}(p:α->Bool)(d:α):∀l:List α,((List.range l.length).map fun i=>p (l.getD i d)).all id=l.all p
 | []=>rfl
 | a::l=>by
  rw[List.length_cons,List.range_succ_eq_map,List.map_cons,List.all_cons,List.map_map,List.all_cons,←CV p d l];rfl
theorem SK {H:Hp}{p:Addr}{o:HO} (h:H p=none):Same H (upd H p o):=fun b u e=>by rw[aL (bG e h)];exact e
theorem K9 (m:M K mg):FnOk P w K mg base CX0 1 m.v9 m.rJ.d ["thing"] (BT K):=by
 refine m.rJ.F.ok sc_is_name (fun vs H Q E h=> ?_) (fun cdv A outer s H vs Q E hr h=> ?_)
 ·walk_at"g1";obtain⟨x,n,rfl,b,hz,k⟩:=h;walk_at"g2";rfl
 ·walk_at"g1";obtain⟨x,n,rfl,b,hz,k⟩:=h;walk_at"g2";have nd:=sc_is_name.nd;walk_at"hu";obtain⟨tok_LONGEST_NAME,lQ⟩:=m.lQ;refine⟨_,(aB (b9 (sT (j9 (bS xR rfl m.qJ mL (aA (pv 0) (aA (L9 rfl m.aCp aA4) aC))))) (aF (aT wN)) bL)
   (aF (aT (PB (FF EU EU aE (bS CT rfl m.l6 iU (aA (pv 0) aC)) (XD rfl lQ)) (NL (bS (UB rfl) rfl m.aCn aAk (aA (cA (N:=["sign"]) (nl:=1) (ci:=[]) rfl (blk (s.heap.objs.size+1) rfl rfl rfl (by kernel_rfl)) (aAc (pv 0)) (fun _ _ _ _=>(aK (i:=0) (show (["sign"]:List Str).Nodup by decide +kernel) rfl (by walk_at"oi"))) (fun _ _ _ _=>dL) (fun _ _ _ _=>(FF PU PU d0 (pv 0) d0))) aC))))))),?_⟩
  refine aO (σ:=[some (x)]) rfl ?_;walk_at"cx";refine⟨_,rfl,_,_,_,_,_,rfl,b.ty,rfl,M6 b "str" (.inr (.inr rfl)),_,rfl,?_⟩;refine A3 (fun h1=> ?_) (fun h1=> ?_)
  ·show Q (.bl false) H;cases b<;>first|exact k H (Same.refl H)|exact absurd h1 (by decide)
  ·have hs:∃z,x= .str z:=by
    cases b<;>first|exact⟨_,rfl⟩|exact absurd (by decide) h1
   obtain⟨z,rfl⟩:=hs;have hl:=hz z rfl;have hl':z.length<=sizeLine:=Nat.le_of_lt (N4 hl);refine⟨_,rfl,z,rfl,hl',_,_,rfl,rfl,_,rfl,?_⟩;refine A3 (fun h2=>⟨_,_,rfl,rfl,_,rfl,?_⟩) (fun h2=>⟨_,rfl,?_⟩)
   ·refine A3 (fun h3=> ?_) (fun h3=> ?_)
    ·refine⟨_,rfl,z,rfl,?_⟩;refine XO z.cps.size (fun i=> .bl (sgB (z.cps.toList.getD i 0))) hl' (fun H'=>H'=H) rfl (fun _ _=>rfl) (fun i _ hi _=>hi) ?_ ?_ ?_ ?_ ?_
     ·rintro i _ x H' hi rfl hq_;walk_at"g1";obtain⟨rfl,c,hc,rfl⟩:=hq_;walk_at"g2";refine⟨⟨rfl,fun j v hv=> ?_⟩,rfl,?_⟩
      ·match j,hv with
       | 0,hv=>cases hv
       | j+1,hv=>cases hv
      ·have hc':z.cps.toList.getD i 0=c:=by
        rw[List.getD_eq_getElem?_getD,Array.getElem?_toList,hc];rfl
       refine⟨_,rfl,_,_,rfl,rfl,_,rfl,?_⟩;rw[aBX,hc'];refine A3 (fun h4=>⟨_,_,rfl,rfl,?_,rfl⟩) (fun h4=>⟨?_,rfl⟩)
       ·have h4':97<=c:=by rw[show (⟨#[c]⟩:Str).cps.toList=[c] from rfl,le1]at h4;exact of_decide_eq_true h4
        rw[aBF,show (⟨#[c]⟩:Str).cps.toList=[c] from rfl,le1];unfold sgB;rw[decide_eq_true h4',Bool.true_and]
       ·have h4':¬97<=c:=by rw[show (⟨#[c]⟩:Str).cps.toList=[c] from rfl,le1]at h4;exact fun z=>h4 (decide_eq_true z)
        unfold sgB;rw[decide_eq_false h4',Bool.false_and]
     ·exact fun _ _ _ _ f q=>f _ _ q
     ·rintro σ H Q Q' f hq_;walk_at"g1";obtain⟨v,e,i,j,e1,e2,k,e3,q⟩:=hq_;walk_at"g2";refine⟨v,e,i,j,e1,e2,k,e3,?_⟩;revert q
      split
      ·rintro hq_;walk_at"g1";obtain⟨i,j,e1,e2,q⟩:=hq_;walk_at"g2";exact⟨i,j,e1,e2,f _ _ q⟩
      ·exact fun q=>f _ _ q
     ·exact fun _ _ _ _ _ f q=>f _ _ q
     ·rintro _ rfl p hp;refine⟨p,(List.range z.cps.size).map (fun i=>sgB (z.cps.toList.getD i 0)),rfl,SqL.of ?_,?_⟩
      ·rw[bC,List.map_map];rfl
      ·have e:=CV sgB 0 z.cps.toList;rw[Array.length_toList]at e;rw[e];have e2:nmB (.str z)=z.cps.toList.all sgB:=by
        show bE z=_;unfold bE;rw[show decide (1<=(z.length:Int))=true from h2,show decide ((z.length:Int)<=8)=true from h3];rfl
       rw[←e2];exact k _ (SK hp)
    ·have e2:nmB (.str z)=false:=by
      show bE z=_;unfold bE;rw[show decide ((z.length:Int)<=8)=false from by simpa using h3];simp
     have:=k H (Same.refl H);rw[e2]at this;exact this
   ·have e2:nmB (.str z)=false:=by
     show bE z=_;unfold bE;rw[show decide (1<=(z.length:Int))=false from by simpa using h2];simp
    have:=k H (Same.refl H);rw[e2]at this;exact this
theorem M0 (m:M K mg):Fc P w K mg base "is_name" 1 ["thing"] (BT K):=⟨_,_,m.QV,m.rJ.F.kp,m.rJ.b,K9 m⟩
local macro_rules| `(tactic| walk_at"rd1")=> `(tactic| first|(with_reducible refine SN ?_)|((with_reducible refine' XU ?s ?_);(case s=>assumption);intro H' S'))
inductive kA (K:PySem.W.Frag)(vs:List V)(H:Hp)(Q:VK)(E:XK):Prop
 | mk (part z:Str) (_:vs=[.str part,.str z]) (_:bE z=true) (_:∀H',Same H H'->Q .non H'):kA K vs H Q E
theorem JA {H:Hp}{Q:VK}{E:XK}{part z:Str} (hz:bE z=true) (h:∀H',Same H H'->Q .non H'):kA K [.str part,.str z] H Q E:=⟨_,_,rfl,hz,h⟩
theorem GG (m:M K mg):FnOk P w K mg base CX0 2 m.r9 m.l7.d ["part","thing"] (kA K):=by
 refine m.l7.F.ok sc_need_name (fun vs H Q E h=> ?_) (fun cdv A outer s H vs Q E hr h=> ?_)
 ·walk_at"g1";obtain⟨part,z,rfl,hz,k⟩:=h;walk_at"g2";rfl
 ·walk_at"g1";obtain⟨part,z,rfl,hz,k⟩:=h;walk_at"g2";have nd:=sc_need_name.nd;walk_at"hu";have F_is_name:= @M0 P w K mg base m;refine⟨_,(aF (b9 (sT (j9 (bA F_is_name hr (aA (pv 1) aC)))) (aF dO) bL)),?_⟩;refine aO (σ:=[some (.str part),some (.str z)]) rfl ?_;walk_at"cx";walk_at"go";exact k _ (by walk_at"sm")
theorem FB (m:M K mg):Fc P w K mg base "need_name" 2 ["part","thing"] (kA K):=⟨_,_,m.JF,m.l7.F.kp,m.l7.b,GG m⟩
inductive i7 (K:PySem.W.Frag)(vs:List V)(H:Hp)(Q:VK)(E:XK):Prop
 | mk (part:Str) (i l:Int) (_:vs=[.str part,.int i,.int l]) (_:l<=i) (_:Q .non H):i7 K vs H Q E
theorem FW {H:Hp}{Q:VK}{E:XK}{part:Str}{i l:Int} (hz:l<=i) (h:Q .non H):i7 K [.str part,.int i,.int l] H Q E:=⟨_,_,_,rfl,hz,h⟩
theorem EB (m:M K mg):FnOk P w K mg base CX0 2 m.qQ m.kR.d ["part","thing","least"] (i7 K):=by
 refine m.kR.F.ok sc_need_whole (fun vs H Q E h=> ?_) (fun cdv A outer s H vs Q E hr h=> ?_)
 ·walk_at"g1";obtain⟨part,i,l,rfl,hz,k⟩:=h;walk_at"g2";rfl
 ·walk_at"g1";obtain⟨part,i,l,rfl,hz,k⟩:=h;walk_at"g2";have nd:=sc_need_whole.nd;walk_at"hu";have F_is_whole:= @IS P w K mg base m;refine⟨_,(aF (b9 (PW.pt (MP (sT (j9 (bA F_is_whole hr (aA (pv 1) aC)))) (FM (aV iZ (pv 1) (pv 2) (aY _))))) (aF dO) bL)),?_⟩;refine aO (σ:=[some (.str part),some (.int i),some (.int l)]) rfl ?_;walk_at"cx";walk_at"go";exact k
theorem i4 (m:M K mg):Fc P w K mg base "need_whole" 2 ["part","thing","least"] (i7 K):=⟨_,_,m.HY,m.kR.F.kp,m.kR.b,EB m⟩
local macro_rules| `(tactic| walk_at"rd1")=> `(tactic| first|((with_reducible refine' JA ?s ?_);(case s=>assumption);intro H' S')|((with_reducible refine' FW ?s ?_);(case s=>walk_at"sd")))
abbrev mG (n s e w:V):List (Str×V):=cN "wide" w (cN "end" e (cN "start" s (cN "name" n [])))
def d4 (e:V):Prop:=e= .non∨∃z,e= .str z/\bE z=true
inductive dM (K:PySem.W.Frag)(vs:List V)(H:Hp)(Q:VK)(E:XK):Prop
 | mk (p C dx:Addr) (n s:Str) (e:V) (wd:Int) (_:vs=[.ref p,.str n,.str s,e,.int wd]) (_:DCls K C) (_:H p=some (.ins C dx [])) (_:bE n=true) (_:bE s=true) (_:d4 e) (_:0<=wd) (_:∀H',SameBut p H H'->H' p=some (.ins C dx (mG (.str n) (.str s) e (.int wd)))->Q .non H'):dM K vs H Q E
theorem xI {H:Hp}{Q:VK}{E:XK}{p C dx:Addr}{n s:Str}{e:V}{wd:Int} (dc:DCls K C) (hp:H p=some (.ins C dx [])) (hn:bE n=true) (hs:bE s=true) (he:d4 e) (hw:0<=wd)
  (k:∀H',SameBut p H H'->H' p=some (.ins C dx (mG (.str n) (.str s) e (.int wd)))->Q .non H'):dM K [.ref p,.str n,.str s,e,.int wd] H Q E:=⟨_,_,_,_,_,_,_,rfl,dc,hp,hn,hs,he,hw,k⟩
theorem jE (m:M K mg):FnOk P w K mg base CX0 3 m.gJ m.eO ["self","name","start","end","wide"] (dM K):=by
 refine m.kW.ok sc_Door___init__ (fun vs H Q E h=> ?_) (fun cdv A outer s H vs Q E hr h=> ?_)
 ·walk_at"g1";obtain⟨p,C,dx,n,st,e,wd,rfl,dc,hp,hn,hs,he,hw,k⟩:=h;walk_at"g2";rfl
 ·walk_at"g1";obtain⟨p,C,dx,n,st,e,wd,rfl,dc,hp,hn,hs,he,hw,k⟩:=h;walk_at"g2";have nd:=sc_Door___init__.nd;walk_at"hu";have F_need_name:= @FB P w K mg base m;have F_need_whole:= @i4 P w K mg base m;refine⟨_,(aB (bP (bA F_need_name hr (aA d0 (aA (pv 1) aC))))
   (aB (bP (bA F_need_name hr (aA d0 (aA (pv 2) aC))))
   (aB (b9 (aV JV (pv 3) sM (aY _)) (aF (bP (bA F_need_name hr (aA d0 (aA (pv 3) aC))))) bL)
   (aB (bP (bA F_need_whole hr (aA d0 (aA (pv 4) (aA aE aC)))))
   (aB (eK (pv 0) (pv 1) rfl)
   (aB (eK (pv 0) (pv 2) rfl)
   (aB (eK (pv 0) (pv 3) rfl)
   (aF (eK (pv 0) (pv 4) rfl))))))))),?_⟩
  refine aO (σ:=[some (.ref p),some (.str n),some (.str st),some (e),some (.int wd)]) rfl ?_;walk_at"cx";rcases he with rfl|⟨z,rfl,hz⟩
  ·walk_at"go";exact k _ (by walk_at"sb") (by assumption)
  ·walk_at"go";exact k _ (by walk_at"sb") (by assumption)
theorem N3 (m:M K mg):Kc P w K mg base "Door" m.fW 3 [] (dM K):=⟨_,_,_,_,m.IH,m.Y0,.nil,m.rL,jE m⟩
theorem gG (m:M K mg):Dc P w K mg base "Door" "__init__" 3 (dM K):=⟨_,_,_,_,m.IH,m.dG.1,m.dG.2.1,m.dG.2.2,m.kW.kp,m.rL,jE m⟩
theorem rS (m:M K mg):DcD P w K mg base "Door" "__init__" 3 [.int 1] (dM K):=by
 obtain⟨ds,h1,h2⟩:=m.v8;exact⟨_,_,_,_,_,m.IH,m.dG.1,m.dG.2.1,m.dG.2.2,m.kW.kp,h1,h2,jE m⟩
theorem UR {H:Hp}{Q:VK}{E:XK}{C:Addr}{vs dvs:List V}{n s:Str}{e:V}{wd:Int} (ev:vs++dvs=[.str n,.str s,e,.int wd]) (dc:DCls K C) (hn:bE n=true) (hs:bE s=true) (he:d4 e) (hw:0<=wd)
  (k:∀p dx H',H p=none->Same H H'->H' p=some (.ins C dx (mG (.str n) (.str s) e (.int wd)))->Q (.ref p) H'):qU C (dM K) dvs E Q vs H :=
 oU (fun p dx H0 Q' h k' s0=>by rw[ev];exact xI dc h hn hs he hw k') k
local macro_rules| `(tactic| walk_at"rd1")=> `(tactic| ((with_reducible refine' UR ?v ?d ?hn ?hs ?he ?hw ?_);(case v=>rfl);(case d=>assumption);(case hn=>assumption);(case hs=>assumption);(case he=>first|assumption|exact .inl rfl|exact .inr ⟨_,rfl,by assumption⟩);(case hw=>walk_at"sd");intro p' dx' H' n' S' e'))
inductive fD (K:PySem.W.Frag)(vs:List V)(H:Hp)(Q:VK)(E:XK):Prop
 | mk (p C dx:Addr) (fs:List (Str×V)) (e:V) (_:vs=[.ref p]) (_:DCls K C) (_:H p=some (.ins C dx fs)) (_:fs.lookup ("end" :Str)=some e) (_:Q (.bl (decide (e= .non))) H):fD K vs H Q E
theorem XB {H:Hp}{Q:VK}{E:XK}{p C dx:Addr}{fs:List (Str×V)} (hp:H p=some (.ins C dx fs)) (dc:DCls K C) (l:fs.lookup ("end" :Str)=some .non) (k:Q (.bl true) H):fD K [.ref p] H Q E:=⟨_,_,_,_,_,rfl,dc,hp,l,k⟩
theorem V8 {H:Hp}{Q:VK}{E:XK}{p C dx:Addr}{fs:List (Str×V)}{z:Str} (hp:H p=some (.ins C dx fs)) (dc:DCls K C) (l:fs.lookup ("end" :Str)=some (.str z)) (k:Q (.bl false) H):fD K [.ref p] H Q E :=
 ⟨_,_,_,_,_,rfl,dc,hp,l,by rw[decide_eq_false (fun z=>by cases z)];exact k⟩
theorem eJ (m:M K mg):FnOk P w K mg base CX0 1 m.cP m.dH.d ["self"] (fD K):=by
 refine m.dH.F.ok sc_Door_is_exit (fun vs H Q E h=> ?_) (fun cdv A outer s H vs Q E hr h=> ?_)
 ·walk_at"g1";obtain⟨p,C,dx,fs,e,rfl,dc,hp,l,k⟩:=h;walk_at"g2";rfl
 ·walk_at"g1";obtain⟨p,C,dx,fs,e,rfl,dc,hp,l,k⟩:=h;walk_at"g2";have nd:=sc_Door_is_exit.nd;walk_at"hu";refine⟨_,(aF (aT (oM QR (bB (pv 0) rfl) sM (aY _)))),?_⟩;refine aO (σ:=[some (.ref p)]) rfl ?_;walk_at"cx";walk_at"go";exact k
theorem zY (m:M K mg):Mc P w K mg base m.fW "is_exit" 1 (fD K):=⟨_,_,_,m.tG.ic.cl,m.AX,m.dH.b,eJ m⟩
theorem yT (m:M K mg):Mc P w K mg base m.iB "is_exit" 1 (fD K):=⟨_,_,_,m.qG.ic.cl,m.zD,m.dH.b,eJ m⟩
theorem yJ (m:M K mg):Mc P w K mg base m.iE "is_exit" 1 (fD K):=⟨_,_,_,m.qK.ic.cl,m.zC,m.dH.b,eJ m⟩
theorem z6 (m:M K mg):Mc P w K mg base m.kS "is_exit" 1 (fD K):=⟨_,_,_,m.tH.ic.cl,m.A0,m.dH.b,eJ m⟩
theorem zX (m:M K mg):Mc P w K mg base m.kX "is_exit" 1 (fD K):=⟨_,_,_,m.tF.ic.cl,m.AY,m.dH.b,eJ m⟩
local macro_rules| `(tactic| walk_at"rd1")=> `(tactic| first|((with_reducible refine' XB ?e ?d ?l ?_);(case e=>walk_at"hp");(case d=>assumption);(case l=>walk_at"lk"))|((with_reducible refine' V8 ?e ?d ?l ?_);(case e=>walk_at"hp");(case d=>assumption);(case l=>walk_at"lk")))
inductive jY (K:PySem.W.Frag)(vs:List V)(H:Hp)(Q:VK)(E:XK):Prop
 | mk (p C dx:Addr) (fs:List (Str×V)) (t wd:Int) (_:vs=[.ref p,.int t]) (_:DCls K C) (_:H p=some (.ins C dx fs)) (_:fs.lookup ("wide" :Str)=some (.int wd)) (_:Q (.int wd) H):jY K vs H Q E
theorem IL {H:Hp}{Q:VK}{E:XK}{p C dx:Addr}{fs:List (Str×V)}{t wd:Int} (hp:H p=some (.ins C dx fs)) (dc:DCls K C) (l:fs.lookup ("wide" :Str)=some (.int wd)) (k:Q (.int wd) H):jY K [.ref p,.int t] H Q E:=⟨_,_,_,_,_,_,rfl,dc,hp,l,k⟩
theorem GI (m:M K mg):FnOk P w K mg base CX0 1 m.rX m.r6.d ["self","turn"] (jY K):=by
 refine m.r6.F.ok sc_Door_lets (fun vs H Q E h=> ?_) (fun cdv A outer s H vs Q E hr h=> ?_)
 ·walk_at"g1";obtain⟨p,C,dx,fs,t,wd,rfl,dc,hp,l,k⟩:=h;walk_at"g2";rfl
 ·walk_at"g1";obtain⟨p,C,dx,fs,t,wd,rfl,dc,hp,l,k⟩:=h;walk_at"g2";have nd:=sc_Door_lets.nd;walk_at"hu";refine⟨_,(aF (aT (bB (pv 0) rfl))),?_⟩;refine aO (σ:=[some (.ref p),some (.int t)]) rfl ?_;walk_at"cx";walk_at"go";exact k
theorem GD (m:M K mg):Mc P w K mg base m.fW "lets" 1 (jY K):=⟨_,_,_,m.tG.ic.cl,m.IC,m.r6.b,GI m⟩
local macro_rules| `(tactic| walk_at"rd1")=> `(tactic| ((with_reducible refine' xI ?d ?e ?hn ?hs ?he ?hw ?_);(case d=>assumption);(case e=>walk_at"hp");(case hn=>assumption);(case hs=>assumption);(case he=>assumption);(case hw=>walk_at"sd");intro H' B' e'))
abbrev wJ (n s e w i0:V):List (Str×V):=cN "since" i0 (mG n s e w)
inductive fT (K:PySem.W.Frag)(vs:List V)(H:Hp)(Q:VK)(E:XK):Prop
 | mk (p C dx:Addr) (n s:Str) (e:V) (wd i0:Int) (_:vs=[.ref p,.str n,.str s,e,.int wd,.int i0]) (_:DCls K C) (_:H p=some (.ins C dx [])) (_:bE n=true) (_:bE s=true) (_:d4 e) (_:0<=wd) (_:0<=i0) (_:∀H',SameBut p H H'->H' p=some (.ins C dx (wJ (.str n) (.str s) e (.int wd) (.int i0)))->Q .non H'):fT K vs H Q E
theorem GT {H:Hp}{Q:VK}{E:XK}{p C dx:Addr}{n s:Str}{e:V}{wd i0:Int} (dc:DCls K C) (hp:H p=some (.ins C dx [])) (hn:bE n=true) (hs:bE s=true) (he:d4 e) (hw:0<=wd) (b0:0<=i0)
  (k:∀H',SameBut p H H'->H' p=some (.ins C dx (wJ (.str n) (.str s) e (.int wd) (.int i0)))->Q .non H'):fT K [.ref p,.str n,.str s,e,.int wd,.int i0] H Q E:=⟨_,_,_,_,_,_,_,_,rfl,dc,hp,hn,hs,he,hw,b0,k⟩
theorem xC (m:M K mg):FnOk P w K mg base CX0 4 m.jM m.jN.d ["self","name","start","end","wide","since"] (fT K):=by
 refine m.jN.F.ok sc_Since___init__ (fun vs H Q E h=> ?_) (fun cdv A outer s H vs Q E hr h=> ?_)
 ·walk_at"g1";obtain⟨p,C,dx,n,st,e,wd,i0,rfl,dc,hp,hn,hs,he,hw,b0,k⟩:=h;walk_at"g2";rfl
 ·walk_at"g1";obtain⟨p,C,dx,n,st,e,wd,i0,rfl,dc,hp,hn,hs,he,hw,b0,k⟩:=h;walk_at"g2";have nd:=sc_Since___init__.nd;walk_at"hu";have D_Door___init__:= @gG P w K mg base m;have F_need_whole:= @i4 P w K mg base m;refine⟨_,(aB (bP (LK D_Door___init__ hr (aA (pv 0) (aA (pv 1) (aA (pv 2) (aA (pv 3) (aA (pv 4) aC)))))))
   (aB (bP (bA F_need_whole hr (aA d0 (aA (pv 5) (aA aE aC)))))
   (aF (eK (pv 0) (pv 5) rfl)))),?_⟩
  refine aO (σ:=[some (.ref p),some (.str n),some (.str st),some (e),some (.int wd),some (.int i0)]) rfl ?_;walk_at"cx";walk_at"go";exact k _ (by walk_at"sb") (by assumption)
theorem L8 (m:M K mg):Kc P w K mg base "Since" m.iB 4 [] (fT K):=⟨_,_,_,_,m.Y2,m.UZ,.nil,m.jN.b,xC m⟩
theorem OE {H:Hp}{Q:VK}{E:XK}{C:Addr}{vs dvs:List V}{n s:Str}{e:V}{wd i0:Int} (ev:vs++dvs=[.str n,.str s,e,.int wd,.int i0]) (dc:DCls K C) (hn:bE n=true) (hs:bE s=true) (he:d4 e) (hw:0<=wd) (b0:0<=i0)
  (k:∀p dx H',H p=none->Same H H'->H' p=some (.ins C dx (wJ (.str n) (.str s) e (.int wd) (.int i0)))->Q (.ref p) H'):qU C (fT K) dvs E Q vs H :=
 oU (fun p dx H0 Q' h k' s0=>by rw[ev];exact GT dc h hn hs he hw b0 k') k
local macro_rules| `(tactic| walk_at"rd1")=> `(tactic| ((with_reducible refine' OE ?v ?d ?hn ?hs ?he ?hw ?b0 ?_);(case v=>rfl);(case d=>assumption);(case hn=>assumption);(case hs=>assumption);(case he=>first|assumption|exact .inl rfl|exact .inr ⟨_,rfl,by assumption⟩);(case hw=>walk_at"sd");(case b0=>walk_at"sd");intro p' dx' H' n' S' e'))
def sL (wd i0 t:Int):Int:=if i0<=t then wd else 0
inductive i3 (K:PySem.W.Frag)(vs:List V)(H:Hp)(Q:VK)(E:XK):Prop
 | mk (p C dx:Addr) (fs:List (Str×V)) (t wd i0:Int) (_:vs=[.ref p,.int t]) (_:DCls K C) (_:H p=some (.ins C dx fs)) (_:fs.lookup ("wide" :Str)=some (.int wd)) (_:fs.lookup ("since" :Str)=some (.int i0)) (_:0<=t) (_:0<=i0) (_:Q (.int (sL wd i0 t)) H):i3 K vs H Q E
theorem v5 {H:Hp}{Q:VK}{E:XK}{p C dx:Addr}{fs:List (Str×V)}{t wd i0:Int} (hp:H p=some (.ins C dx fs)) (dc:DCls K C) (l:fs.lookup ("wide" :Str)=some (.int wd)) (m0:fs.lookup ("since" :Str)=some (.int i0)) (ht:0<=t) (b0:0<=i0) (k:Q (.int (sL wd i0 t)) H):i3 K [.ref p,.int t] H Q E:=⟨_,_,_,_,_,_,_,rfl,dc,hp,l,m0,ht,b0,k⟩
theorem DY (m:M K mg):FnOk P w K mg base CX0 1 m.qM m.qA.d ["self","turn"] (i3 K):=by
 refine m.qA.F.ok sc_Since_lets (fun vs H Q E h=> ?_) (fun cdv A outer s H vs Q E hr h=> ?_)
 ·walk_at"g1";obtain⟨p,C,dx,fs,t,wd,i0,rfl,dc,hp,l,m0,ht,b0,k⟩:=h;walk_at"g2";rfl
 ·walk_at"g1";obtain⟨p,C,dx,fs,t,wd,i0,rfl,dc,hp,l,m0,ht,b0,k⟩:=h;walk_at"g2";have nd:=sc_Since_lets.nd;walk_at"hu";refine⟨_,(aF (aT (tI (aV ES (pv 1) (bB (pv 0) rfl) (aY _)) (bB (pv 0) rfl) aE))),?_⟩;refine aO (σ:=[some (.ref p),some (.int t)]) rfl ?_;walk_at"cx";unfold sL at k;walk_at"go";refine cM (fun hw=> ?_) (fun hw=> ?_)
  ·walk_at"go";rw[if_pos hw]at k;exact k
  ·walk_at"go";rw[if_neg hw]at k;exact k
theorem D3 (m:M K mg):Mc P w K mg base m.iB "lets" 1 (i3 K):=⟨_,_,_,m.qG.ic.cl,m.EM,m.qA.b,DY m⟩
local macro_rules| `(tactic| walk_at"rd1")=> `(tactic| ((with_reducible refine' v5 ?e ?d ?l ?m0 ?ht ?b0 ?_);(case e=>walk_at"hp");(case d=>assumption);(case l=>walk_at"lk");(case m0=>walk_at"lk");(case ht=>walk_at"sd");(case b0=>walk_at"sd")))
abbrev wY (n s e w i0:V):List (Str×V):=cN "until" i0 (mG n s e w)
inductive fP (K:PySem.W.Frag)(vs:List V)(H:Hp)(Q:VK)(E:XK):Prop
 | mk (p C dx:Addr) (n s:Str) (e:V) (wd i0:Int) (_:vs=[.ref p,.str n,.str s,e,.int wd,.int i0]) (_:DCls K C) (_:H p=some (.ins C dx [])) (_:bE n=true) (_:bE s=true) (_:d4 e) (_:0<=wd) (_:0<=i0) (_:∀H',SameBut p H H'->H' p=some (.ins C dx (wY (.str n) (.str s) e (.int wd) (.int i0)))->Q .non H'):fP K vs H Q E
theorem E5 {H:Hp}{Q:VK}{E:XK}{p C dx:Addr}{n s:Str}{e:V}{wd i0:Int} (dc:DCls K C) (hp:H p=some (.ins C dx [])) (hn:bE n=true) (hs:bE s=true) (he:d4 e) (hw:0<=wd) (b0:0<=i0)
  (k:∀H',SameBut p H H'->H' p=some (.ins C dx (wY (.str n) (.str s) e (.int wd) (.int i0)))->Q .non H'):fP K [.ref p,.str n,.str s,e,.int wd,.int i0] H Q E:=⟨_,_,_,_,_,_,_,_,rfl,dc,hp,hn,hs,he,hw,b0,k⟩
theorem w6 (m:M K mg):FnOk P w K mg base CX0 4 m.jO m.jL.d ["self","name","start","end","wide","until"] (fP K):=by
 refine m.jL.F.ok sc_Until___init__ (fun vs H Q E h=> ?_) (fun cdv A outer s H vs Q E hr h=> ?_)
 ·walk_at"g1";obtain⟨p,C,dx,n,st,e,wd,i0,rfl,dc,hp,hn,hs,he,hw,b0,k⟩:=h;walk_at"g2";rfl
 ·walk_at"g1";obtain⟨p,C,dx,n,st,e,wd,i0,rfl,dc,hp,hn,hs,he,hw,b0,k⟩:=h;walk_at"g2";have nd:=sc_Until___init__.nd;walk_at"hu";have D_Door___init__:= @gG P w K mg base m;have F_need_whole:= @i4 P w K mg base m;refine⟨_,(aB (bP (LK D_Door___init__ hr (aA (pv 0) (aA (pv 1) (aA (pv 2) (aA (pv 3) (aA (pv 4) aC)))))))
   (aB (bP (bA F_need_whole hr (aA d0 (aA (pv 5) (aA aE aC)))))
   (aF (eK (pv 0) (pv 5) rfl)))),?_⟩
  refine aO (σ:=[some (.ref p),some (.str n),some (.str st),some (e),some (.int wd),some (.int i0)]) rfl ?_;walk_at"cx";walk_at"go";exact k _ (by walk_at"sb") (by assumption)
theorem MO (m:M K mg):Kc P w K mg base "Until" m.iE 4 [] (fP K):=⟨_,_,_,_,m.YY,m.U4,.nil,m.jL.b,w6 m⟩
theorem QF {H:Hp}{Q:VK}{E:XK}{C:Addr}{vs dvs:List V}{n s:Str}{e:V}{wd i0:Int} (ev:vs++dvs=[.str n,.str s,e,.int wd,.int i0]) (dc:DCls K C) (hn:bE n=true) (hs:bE s=true) (he:d4 e) (hw:0<=wd) (b0:0<=i0)
  (k:∀p dx H',H p=none->Same H H'->H' p=some (.ins C dx (wY (.str n) (.str s) e (.int wd) (.int i0)))->Q (.ref p) H'):qU C (fP K) dvs E Q vs H :=
 oU (fun p dx H0 Q' h k' s0=>by rw[ev];exact E5 dc h hn hs he hw b0 k') k
local macro_rules| `(tactic| walk_at"rd1")=> `(tactic| ((with_reducible refine' QF ?v ?d ?hn ?hs ?he ?hw ?b0 ?_);(case v=>rfl);(case d=>assumption);(case hn=>assumption);(case hs=>assumption);(case he=>first|assumption|exact .inl rfl|exact .inr ⟨_,rfl,by assumption⟩);(case hw=>walk_at"sd");(case b0=>walk_at"sd");intro p' dx' H' n' S' e'))
def sV (wd i0 t:Int):Int:=if t<i0 then wd else 0
inductive i5 (K:PySem.W.Frag)(vs:List V)(H:Hp)(Q:VK)(E:XK):Prop
 | mk (p C dx:Addr) (fs:List (Str×V)) (t wd i0:Int) (_:vs=[.ref p,.int t]) (_:DCls K C) (_:H p=some (.ins C dx fs)) (_:fs.lookup ("wide" :Str)=some (.int wd)) (_:fs.lookup ("until" :Str)=some (.int i0)) (_:0<=t) (_:0<=i0) (_:Q (.int (sV wd i0 t)) H):i5 K vs H Q E
theorem vU {H:Hp}{Q:VK}{E:XK}{p C dx:Addr}{fs:List (Str×V)}{t wd i0:Int} (hp:H p=some (.ins C dx fs)) (dc:DCls K C) (l:fs.lookup ("wide" :Str)=some (.int wd)) (m0:fs.lookup ("until" :Str)=some (.int i0)) (ht:0<=t) (b0:0<=i0) (k:Q (.int (sV wd i0 t)) H):i5 K [.ref p,.int t] H Q E:=⟨_,_,_,_,_,_,_,rfl,dc,hp,l,m0,ht,b0,k⟩
theorem EC (m:M K mg):FnOk P w K mg base CX0 1 m.qO m.qC.d ["self","turn"] (i5 K):=by
 refine m.qC.F.ok sc_Until_lets (fun vs H Q E h=> ?_) (fun cdv A outer s H vs Q E hr h=> ?_)
 ·walk_at"g1";obtain⟨p,C,dx,fs,t,wd,i0,rfl,dc,hp,l,m0,ht,b0,k⟩:=h;walk_at"g2";rfl
 ·walk_at"g1";obtain⟨p,C,dx,fs,t,wd,i0,rfl,dc,hp,l,m0,ht,b0,k⟩:=h;walk_at"g2";have nd:=sc_Until_lets.nd;walk_at"hu";refine⟨_,(aF (aT (tI (aV iZ (pv 1) (bB (pv 0) rfl) (aY _)) (bB (pv 0) rfl) aE))),?_⟩;refine aO (σ:=[some (.ref p),some (.int t)]) rfl ?_;walk_at"cx";unfold sV at k;walk_at"go";refine cM (fun hw=> ?_) (fun hw=> ?_)
  ·walk_at"go";rw[if_pos hw]at k;exact k
  ·walk_at"go";rw[if_neg hw]at k;exact k
theorem ED (m:M K mg):Mc P w K mg base m.iE "lets" 1 (i5 K):=⟨_,_,_,m.qK.ic.cl,m.EI,m.qC.b,EC m⟩
local macro_rules| `(tactic| walk_at"rd1")=> `(tactic| ((with_reducible refine' vU ?e ?d ?l ?m0 ?ht ?b0 ?_);(case e=>walk_at"hp");(case d=>assumption);(case l=>walk_at"lk");(case m0=>walk_at"lk");(case ht=>walk_at"sd");(case b0=>walk_at"sd")))
abbrev zG (n s e w i0 i1:V):List (Str×V):=cN "since" i1 (cN "every" i0 (mG n s e w))
inductive gS (K:PySem.W.Frag)(vs:List V)(H:Hp)(Q:VK)(E:XK):Prop
 | mk (p C dx:Addr) (n s:Str) (e:V) (wd i0 i1:Int) (_:vs=[.ref p,.str n,.str s,e,.int wd,.int i0,.int i1]) (_:DCls K C) (_:H p=some (.ins C dx [])) (_:bE n=true) (_:bE s=true) (_:d4 e) (_:0<=wd) (_:1<=i0) (_:0<=i1) (_:∀H',SameBut p H H'->H' p=some (.ins C dx (zG (.str n) (.str s) e (.int wd) (.int i0) (.int i1)))->Q .non H'):gS K vs H Q E
theorem JC {H:Hp}{Q:VK}{E:XK}{p C dx:Addr}{n s:Str}{e:V}{wd i0 i1:Int} (dc:DCls K C) (hp:H p=some (.ins C dx [])) (hn:bE n=true) (hs:bE s=true) (he:d4 e) (hw:0<=wd) (b0:1<=i0) (b1:0<=i1)
  (k:∀H',SameBut p H H'->H' p=some (.ins C dx (zG (.str n) (.str s) e (.int wd) (.int i0) (.int i1)))->Q .non H'):gS K [.ref p,.str n,.str s,e,.int wd,.int i0,.int i1] H Q E:=⟨_,_,_,_,_,_,_,_,_,rfl,dc,hp,hn,hs,he,hw,b0,b1,k⟩
theorem yF (m:M K mg):FnOk P w K mg base CX0 4 m.kK m.gI ["self","name","start","end","wide","every","since"] (gS K):=by
 refine m.AW.ok sc_Beat___init__ (fun vs H Q E h=> ?_) (fun cdv A outer s H vs Q E hr h=> ?_)
 ·walk_at"g1";obtain⟨p,C,dx,n,st,e,wd,i0,i1,rfl,dc,hp,hn,hs,he,hw,b0,b1,k⟩:=h;walk_at"g2";rfl
 ·walk_at"g1";obtain⟨p,C,dx,n,st,e,wd,i0,i1,rfl,dc,hp,hn,hs,he,hw,b0,b1,k⟩:=h;walk_at"g2";have nd:=sc_Beat___init__.nd;walk_at"hu";have D_Door___init__:= @gG P w K mg base m;have F_need_whole:= @i4 P w K mg base m;refine⟨_,(aB (bP (LK D_Door___init__ hr (aA (pv 0) (aA (pv 1) (aA (pv 2) (aA (pv 3) (aA (pv 4) aC)))))))
   (aB (bP (bA F_need_whole hr (aA d0 (aA (pv 5) (aA aE aC)))))
   (aB (bP (bA F_need_whole hr (aA d0 (aA (pv 6) (aA aE aC)))))
   (aB (eK (pv 0) (pv 5) rfl)
   (aF (eK (pv 0) (pv 6) rfl)))))),?_⟩
  refine aO (σ:=[some (.ref p),some (.str n),some (.str st),some (e),some (.int wd),some (.int i0),some (.int i1)]) rfl ?_;walk_at"cx";walk_at"go";exact k _ (by walk_at"sb") (by assumption)
theorem OJ (m:M K mg):Kc P w K mg base "Beat" m.kS 4 [] (gS K):=⟨_,_,_,_,m.aBy,m.YZ,.nil,m.AZ,yF m⟩
theorem RV {H:Hp}{Q:VK}{E:XK}{C:Addr}{vs dvs:List V}{n s:Str}{e:V}{wd i0 i1:Int} (ev:vs++dvs=[.str n,.str s,e,.int wd,.int i0,.int i1]) (dc:DCls K C) (hn:bE n=true) (hs:bE s=true) (he:d4 e) (hw:0<=wd) (b0:1<=i0) (b1:0<=i1)
  (k:∀p dx H',H p=none->Same H H'->H' p=some (.ins C dx (zG (.str n) (.str s) e (.int wd) (.int i0) (.int i1)))->Q (.ref p) H'):qU C (gS K) dvs E Q vs H :=
 oU (fun p dx H0 Q' h k' s0=>by rw[ev];exact JC dc h hn hs he hw b0 b1 k') k
local macro_rules| `(tactic| walk_at"rd1")=> `(tactic| ((with_reducible refine' RV ?v ?d ?hn ?hs ?he ?hw ?b0 ?b1 ?_);(case v=>rfl);(case d=>assumption);(case hn=>assumption);(case hs=>assumption);(case he=>first|assumption|exact .inl rfl|exact .inr ⟨_,rfl,by assumption⟩);(case hw=>walk_at"sd");(case b0=>walk_at"sd");(case b1=>walk_at"sd");intro p' dx' H' n' S' e'))
def wI (wd i0 i1 t:Int):Int:=if 0<=t - i1/\(t - i1)%i0=0 then wd else 0
inductive jZ (K:PySem.W.Frag)(vs:List V)(H:Hp)(Q:VK)(E:XK):Prop
 | mk (p C dx:Addr) (fs:List (Str×V)) (t wd i0 i1:Int) (_:vs=[.ref p,.int t]) (_:DCls K C) (_:H p=some (.ins C dx fs)) (_:fs.lookup ("wide" :Str)=some (.int wd)) (_:fs.lookup ("every" :Str)=some (.int i0)) (_:fs.lookup ("since" :Str)=some (.int i1)) (_:0<=t) (_:1<=i0) (_:0<=i1) (_:Q (.int (wI wd i0 i1 t)) H):jZ K vs H Q E
theorem xN {H:Hp}{Q:VK}{E:XK}{p C dx:Addr}{fs:List (Str×V)}{t wd i0 i1:Int} (hp:H p=some (.ins C dx fs)) (dc:DCls K C) (l:fs.lookup ("wide" :Str)=some (.int wd)) (m0:fs.lookup ("every" :Str)=some (.int i0)) (m1:fs.lookup ("since" :Str)=some (.int i1)) (ht:0<=t) (b0:1<=i0) (b1:0<=i1) (k:Q (.int (wI wd i0 i1 t)) H):jZ K [.ref p,.int t] H Q E:=⟨_,_,_,_,_,_,_,_,rfl,dc,hp,l,m0,m1,ht,b0,b1,k⟩
theorem FC (m:M K mg):FnOk P w K mg base CX0 1 m.rU m.sI.d ["self","turn"] (jZ K):=by
 refine m.sI.F.ok sc_Beat_lets (fun vs H Q E h=> ?_) (fun cdv A outer s H vs Q E hr h=> ?_)
 ·walk_at"g1";obtain⟨p,C,dx,fs,t,wd,i0,i1,rfl,dc,hp,l,m0,m1,ht,b0,b1,k⟩:=h;walk_at"g2";rfl
 ·walk_at"g1";obtain⟨p,C,dx,fs,t,wd,i0,i1,rfl,dc,hp,l,m0,m1,ht,b0,b1,k⟩:=h;walk_at"g2";have nd:=sc_Beat_lets.nd;walk_at"hu";refine⟨_,(aB (aN (i:=2) nd rfl (by walk_at"oi") (aH fU (pv 1) (bB (pv 0) rfl)))
   (aF (aT (tI (PW.pt (vH (aV ES (pv 2) aE (aY _)) (sJ (aV jX (aH bM (pv 2) (bB (pv 0) rfl)) aE (aY _))))) (bB (pv 0) rfl) aE)))),?_⟩
  refine aO (σ:=[some (.ref p),some (.int t),none]) rfl ?_;walk_at"cx";unfold wI at k;walk_at"go";refine cM (fun hw=> ?_) (fun hw=> ?_)
  ·walk_at"go";refine cM (fun hv=> ?_) (fun hv=> ?_)
   ·walk_at"go";rw[if_pos ⟨hw,hv⟩]at k;exact k
   ·walk_at"go";rw[if_neg (fun z=>hv z.2)]at k;exact k
  ·walk_at"go";rw[if_neg (fun z=>hw z.1)]at k;exact k
theorem HU (m:M K mg):Mc P w K mg base m.kS "lets" 1 (jZ K):=⟨_,_,_,m.tH.ic.cl,m.IG,m.sI.b,FC m⟩
local macro_rules| `(tactic| walk_at"rd1")=> `(tactic| ((with_reducible refine' xN ?e ?d ?l ?m0 ?m1 ?ht ?b0 ?b1 ?_);(case e=>walk_at"hp");(case d=>assumption);(case l=>walk_at"lk");(case m0=>walk_at"lk");(case m1=>walk_at"lk");(case ht=>walk_at"sd");(case b0=>walk_at"sd");(case b1=>walk_at"sd")))
abbrev aD:=Str×Str×V×(Int->Int)
def LG:HO->Prop
 | .lst _=>True
 | .dK _=>True
 | .dT _=>True
 | .tbl _=>True
 | .ins _ _ fs=>fs=[]
 | _=>False
structure aU where
 at':Hp->V->aD->Prop
 same:∀{H H' v d},at' H v d->Same H H'->at' H' v d
 but:∀{H H' v d p o},at' H v d->H p=some o->LG o->SameBut p H H'->at' H' v d
def V0 (P:Program)(w:World)(K:PySem.W.Frag)(mg:Str->Option Value)(base:Heap)(kL:Option Nat)(p C dx:Addr)(fs:List (Str×V))(fp:List (Addr×HO))(lt:Int->Int):Prop:=∀kl,kL=some kl →
 ∃sp,Mc P w K mg base C "lets" kl sp/\∀(H':Hp) (t:Int) (Q:VK),H' p=some (.ins C dx fs)->(∀x∈fp,H' x.1=some x.2)->0<=t->(∀H'',Same H' H''->Q (.int (lt t)) H'')->sp [.ref p,.int t] H' Q E0
inductive DoorAt (P:Program)(w:World)(K:PySem.W.Frag)(mg:Str->Option Value)(base:Heap)(kL:Option Nat)(H:Hp)(v:V)(d:aD):Prop
 | mk (p C dx:Addr) (fs:List (Str×V)) (fp:List (Addr×HO)) (_:v= .ref p) (_:H p=some (.ins C dx fs)) (_:DCls K C) (_:fs.lookup ("name" :Str)=some (.str d.1)) (_:fs.lookup ("start" :Str)=some (.str d.2.1)) (_:fs.lookup ("end" :Str)=some d.2.2.1) (_:fs.lookup ("is_exit" :Str)=none) (_:fs.lookup ("lets" :Str)=none) (_:Mc P w K mg base C "is_exit" 1 (fD K)) (_:∀x∈fp,H x.1=some x.2/\¬LG x.2) (_:V0 P w K mg base kL p C dx fs fp d.2.2.2):DoorAt P w K mg base kL H v d
inductive U9 (P:Program)(w:World)(K:PySem.W.Frag)(mg:Str->Option Value)(base:Heap)(kL:Option Nat)(H:Hp)(v:V)(n st:Str)(e:V)(lt:Int->Int):Prop
 | mk (p C dx:Addr) (fs:List (Str×V)) (fp:List (Addr×HO)) (_:v= .ref p) (_:H p=some (.ins C dx fs)) (_:DCls K C) (_:fs.lookup ("name" :Str)=some (.str n)) (_:fs.lookup ("start" :Str)=some (.str st)) (_:fs.lookup ("end" :Str)=some e) (_:fs.lookup ("is_exit" :Str)=none) (_:fs.lookup ("lets" :Str)=none) (_:Mc P w K mg base C "is_exit" 1 (fD K)) (_:∀x∈fp,H x.1=some x.2/\¬LG x.2) (_:V0 P w K mg base kL p C dx fs fp lt):U9 P w K mg base kL H v n st e lt
theorem DoorAt.ex {kL:Option Nat}{H:Hp}{v:V}{n st:Str}{e:V}{lt:Int->Int} (h:DoorAt P w K mg base kL H v (n,st,e,lt)):U9 P w K mg base kL H v n st e lt:=by
 walk_at"g1";obtain⟨p,C,dx,fs,fp,h1,h2,h3,h4,h5,h6,h7,h8,h9,h10,h11⟩:=h;walk_at"g2";exact⟨p,C,dx,fs,fp,h1,h2,h3,h4,h5,h6,h7,h8,h9,h10,h11⟩
def aM (P:Program)(w:World)(K:PySem.W.Frag)(mg:Str->Option Value)(base:Heap)(kL:Option Nat):aU where
 at':=DoorAt P w K mg base kL
 same:=fun⟨p,C,dx,fs,fp,e,hp,dc,l1,l2,l3,l4,l5,mc,hf,lt⟩ s=>⟨p,C,dx,fs,fp,e,s _ _ hp,dc,l1,l2,l3,l4,l5,mc,fun x hx=>⟨s _ _ (hf x hx).1,(hf x hx).2⟩,lt⟩
 but:=fun {H H' v d q o} ⟨p,C,dx,fs,fp,e,hp,dc,l1,l2,l3,l4,l5,mc,hf,lt⟩ ho so sb=>⟨p,C,dx,fs,fp,e,sb _ _ hp (fun z=>by
   rw[z,ho]at hp;cases hp;have h:fs=[]:=so;rw[h]at l1;cases l1),dc,l1,l2,l3,l4,l5,mc,fun x hx=>⟨sb _ _ (hf x hx).1 (fun z=>by
   have h:=(hf x hx).1;rw[z,ho]at h;cases h;exact(hf x hx).2 so),(hf x hx).2⟩,lt⟩
local macro_rules| `(tactic| walk_at"rd1")=> `(tactic| first|(with_reducible refine YH ?_)|(with_reducible refine W3 ?_)|(with_reducible refine aAK ?_)|(with_reducible refine PQ ?_)|(with_reducible refine OX ?_)|(with_reducible refine L5 ?_)|(with_reducible refine rd_iItemsT ?_)|(with_reducible refine SX ?_)|((with_reducible refine TX ?_);intro p' H' n' S' e')|((with_reducible refine RH ?_);intro p' H' n' S' e'))
theorem gX {H:Hp}{Q:VK}{l:Addr}{xs:List V}{y:V} (e:H l=some (.lst xs)) (hz:xs.length<sizeLine) (h:∀H',SameBut l H H'->H' l=some (.lst (xs++[y]))->Q .non H'):KP (.ref l) [y] H Q :=
 ⟨l,xs,y,rfl,rfl,e,hz,h _ SameBut.upd bC⟩
inductive uF (vs:List V)(H:Hp)(Q:VK)(E:XK):Prop
 | mk (f l:Int) (_:vs=[.int f,.int l]) (_:0<=f) (_:f<=l) (_:Q .non H):uF vs H Q E
theorem WF {H:Hp}{Q:VK}{E:XK}{f l:Int} (h0:0<=f) (h1:f<=l) (h:Q .non H):uF [.int f,.int l] H Q E:=⟨_,_,rfl,h0,h1,h⟩
theorem DW (m:M K mg):FnOk P w K mg base CX0 1 m.qE m.kN.d ["first","last"] (uF):=by
 refine m.kN.F.ok sc_need_turns (fun vs H Q E h=> ?_) (fun cdv A outer s H vs Q E hr h=> ?_)
 ·walk_at"g1";obtain⟨f,l,rfl,h0,h1,k⟩:=h;walk_at"g2";rfl
 ·walk_at"g1";obtain⟨f,l,rfl,h0,h1,k⟩:=h;walk_at"g2";have nd:=sc_need_turns.nd;walk_at"hu";refine⟨_,(aB (b9 (aV iZ (pv 0) aE (aY _)) (aF dO) bL)
   (aF (b9 (aV iZ (pv 1) (pv 0) (aY _)) (aF dO) bL))),?_⟩
  refine aO (σ:=[some (.int f),some (.int l)]) rfl ?_;walk_at"cx";walk_at"go";exact k
theorem DU (m:M K mg):Fc P w K mg base "need_turns" 1 ["first","last"] (uF):=⟨_,_,m.IB,m.kN.F.kp,m.kN.b,DW m⟩
inductive wU (K:PySem.W.Frag)(vs:List V)(H:Hp)(Q:VK)(E:XK):Prop
 | mk (a:Addr) (ss:List Str) (_:vs=[.ref a]) (_:SqL K H a (ss.map V.str)) (_:ss.Nodup) (_:ss.length<=100) (_:∀H',Same H H'->Q .non H'):wU K vs H Q E
theorem PX {H:Hp}{Q:VK}{E:XK}{a:Addr}{ss:List Str} (hS:SqL K H a (ss.map V.str)) (nd:ss.Nodup) (hl:ss.length<=100) (h:∀H',Same H H'->Q .non H'):wU K [.ref a] H Q E:=⟨_,_,rfl,hS,nd,hl,h⟩
theorem k5 {α:Type}{ss:List α} (nd:ss.Nodup) {i:Nat}{z:α} (hz:ss[i]? =some z):z∉ss.take i:=fun h=>by
 obtain⟨hi,e⟩:=List.getElem?_eq_some_iff.mp hz;obtain⟨j,hj,ej⟩:=List.getElem_of_mem h;rw[List.length_take]at hj;rw[List.getElem_take]at ej;exact(List.pairwise_iff_getElem.mp nd) j i (by lia) hi (by lia) (ej.trans e.symm)
theorem bW {α:Type}{ss:List α}{i:Nat}{z:α} (hz:ss[i]? =some z):ss.take (i+1)=ss.take i++[z]:=by rw[List.take_succ,hz];rfl
theorem w9 (m:M K mg):FnOk P w K mg base CX0 1 m.jP m.fO.d ["names"] (wU K):=by
 refine m.fO.F.ok sc_need_each_once (fun vs H Q E h=> ?_) (fun cdv A outer s H vs Q E hr h=> ?_)
 ·walk_at"g1";obtain⟨a,ss,rfl,hS,hnd,hlen,k⟩:=h;walk_at"g2";rfl
 ·walk_at"g1";obtain⟨a,ss,rfl,hS,hnd,hlen,k⟩:=h;walk_at"g2";have nd:=sc_need_each_once.nd;walk_at"hu";refine⟨_,(aB (aN (i:=1) nd rfl (by walk_at"oi") oZ)
   (aF (cS PassesOwn.never rfl (bH (pv 0)) (aK (i:=2) nd rfl (by walk_at"oi")) (aB (b9 (GF (aA8 hu1 (pv 2) (pv 1)) (by with_unfolding_all rfl)) (aF dO) bL)
   (aF (dU hu1 (pv 1) (pv 2) wN rfl)))))),?_⟩
  refine aO (σ:=[some (.ref a),none,none]) rfl ?_;walk_at"cx";walk_at"go";rename_i p H1 n1 S1 e1;let Pv1:Nat->St->Hp->Prop:=fun i σ' H'=>SameBut p H1 H'/\∃kvs,H' p=some (.dK kvs)/\kvs.length<=i/\(∀z,(bD kvs (.inr z)).isSome=true->z∈ss.take i)/\∃x,σ'=[some (.ref a),some (.ref p),x];refine dN (ss.map V.str) Pv1 ⟨SameBut.refl,[],e1,Nat.le_refl _,(fun z h=>by cases h),_,rfl⟩ (fun i σ' H' _ q=>(SameBut.same n1 S1 q.1).seq hS) ?_ ?_
  ·rintro i x _ H' hx hq_;walk_at"g1";obtain⟨sb,kvs,ek,hk,hin,y,rfl⟩:=hq_;walk_at"g2";rw[List.getElem?_map]at hx;obtain⟨z,hz,rfl⟩:=Option.map_eq_some_iff.mp hx;have hi:i<ss.length:=(List.getElem?_eq_some_iff.mp hz).1;have hno:(bD kvs (.inr z)).isSome=false:=by
    cases e:(bD kvs (.inr z)).isSome with
    | false=>rfl
    | true=>exact absurd (hin z e) (k5 hnd hz)
   walk_at"go";refine XV (.inl ek) ?_;rw[hno];walk_at"go";refine gM ek (by rw[sizeLine_eq];lia) fun H9 B9 e9=> ?_;refine⟨by walk_at"sb",_,e9,Nat.le_trans (fY _ _ _) (by lia),fun y hy=> ?_,_,rfl⟩;rw[tL]at hy;rw[bW hz]
   by_cases e:(Sum.inr y:Key)= .inr z
   ·cases e;exact List.mem_append_right _ (.head _)
   ·rw[if_neg e]at hy;exact List.mem_append_left _ (hin y hy)
  ·rintro _ H' hq_;walk_at"g1";obtain⟨sb,kvs,ek,hk,hin,y,rfl⟩:=hq_;walk_at"g2";exact k _ (SameBut.same n1 S1 sb)
theorem xD (m:M K mg):Fc P w K mg base "need_each_once" 1 ["names"] (wU K):=⟨_,_,m.yW,m.fO.F.kp,m.fO.b,w9 m⟩
def c9 (rs:List Str)(d:aD):Prop:=d.2.1∈rs/\(d.2.2.1= .non∨∃z,d.2.2.1= .str z/\z∈rs)
def cB (H:Hp)(v:V)(p:Str×Int):Prop:=∃q,v= .ref q/\H q=some (.tup [.str p.1,.int p.2])
theorem kC {H H':Hp}{vs:List V}{ps:List (Str×Int)} (h:Paired (cB H) vs ps) (s:Same H H'):Paired (cB H') vs ps:=Paired.imp' (fun v z ⟨q,e,h⟩=>⟨q,e,s _ _ h⟩) h
inductive rD (K:PySem.W.Frag)(D:aU)(vs:List V)(H:Hp)(Q:VK)(E:XK):Prop
 | mk (a b:Addr) (us:List V) (ds:List aD) (rs:List Str) (ws:List V) (ps:List (Str×Int)) (_:vs=[.ref a,.ref b]) (_:SqL K H a us) (_:Paired (D.at' H) us ds) (_:(∀d∈ds,c9 rs d)) (_:ds.length<=20) (_:SqL K H b ws) (_:Paired (cB H) ws ps) (_:(∀p∈ps,p.1∈rs)) (_:ps.length<=40) (_:∀p (ss:List Str) H',Same H H'->H' p=some (.lst (ss.map V.str))->(∀z∈ss,z∈rs)->ss.length<=80->Q (.ref p) H'):rD K D vs H Q E
theorem TM {D:aU}{H:Hp}{Q:VK}{E:XK}{a b:Addr}{us:List V}{ds:List aD}{rs:List Str}{ws:List V}{ps:List (Str×Int)} (hS:SqL K H a us) (hd:Paired (D.at' H) us ds) (hr:∀d∈ds,c9 rs d) (hl:ds.length<=20) (hb:SqL K H b ws) (hw:Paired (cB H) ws ps) (hwr:∀p∈ps,p.1∈rs) (hwl:ps.length<=40) (h:∀p (ss:List Str) H',Same H H'->H' p=some (.lst (ss.map V.str))->(∀z∈ss,z∈rs)->ss.length<=80->Q (.ref p) H'):rD K D [.ref a,.ref b] H Q E:=⟨_,_,_,_,_,_,_,rfl,hS,hd,hr,hl,hb,hw,hwr,hwl,h⟩
theorem vF (m:M K mg):FnOk P w K mg base CX0 2 m.iN m.fA.d ["doors","people"] (rD K (aM P w K mg base (some 4))):=by
 refine m.fA.F.ok sc_rooms_spoken_of (fun vs H Q E h=> ?_) (fun cdv A outer s H vs Q E hr h=> ?_)
 ·walk_at"g1";obtain⟨a,b,us,ds,rs,ws,ps,rfl,hS,hd,hr',hlen,hb,hw,hwr,hwl,k⟩:=h;walk_at"g2";rfl
 ·walk_at"g1";obtain⟨a,b,us,ds,rs,ws,ps,rfl,hS,hd,hr',hlen,hb,hw,hwr,hwl,k⟩:=h;walk_at"g2";have nd:=sc_rooms_spoken_of.nd;walk_at"hu";refine⟨_,(aB (aN (i:=2) nd rfl (by walk_at"oi") (fG aC))
   (aB (cS PassesOwn.never rfl (bH (pv 0)) (aK (i:=3) nd rfl (by walk_at"oi")) (aB (bP (wS PySem.F.plainAttrs_list PySem.F.slot_list_append PySem.F.type_list_append jQ (pv 2) (aA (bB (pv 3) rfl) aC)))
   (aF (b9 (sT (j9 (dA 1 hr (pv 3)))) (aF (bP (wS PySem.F.plainAttrs_list PySem.F.slot_list_append PySem.F.type_list_append jQ (pv 2) (aA (bB (pv 3) rfl) aC)))) bL))))
   (aF (aT (aH sK (pv 2) (cA (N:=["room","number"]) (nl:=2) (ci:=[]) rfl (blk (s.heap.objs.size+1) rfl rfl rfl (by kernel_rfl)) (bH (pv 1)) (fun _ _ _ _=>(g9 (K:=K) (n:=2) rfl (aW (aK (i:=0) (show (["room","number"]:List Str).Nodup by decide +kernel) rfl (by walk_at"oi")) (aW (aK (i:=1) (show (["room","number"]:List Str).Nodup by decide +kernel) rfl (by walk_at"oi")) cV)))) (fun _ _ _ _=>dL) (fun _ _ _ _=>(pv 0)))))))),?_⟩
  refine aO (σ:=[some (.ref a),some (.ref b),none,none]) rfl ?_;walk_at"cx";have hul:us.length=ds.length:=Paired.length hd;walk_at"go";rename_i p H1 n1 S1 e1;let Pv2:Nat->St->Hp->Prop:=fun i σ' H'=>SameBut p H1 H'/\(∃ss:List Str,H' p=some (.lst (ss.map V.str))/\(∀z∈ss,z∈rs)/\ss.length<=2 * i)/\∃x,σ'=[some (.ref a),some (.ref b),some (.ref p),x];refine dN us Pv2 ⟨SameBut.refl,⟨[],e1,(fun _ z=>nomatch z),Nat.le_refl _⟩,_,rfl⟩ (fun i σ' H' _ q=>(SameBut.same n1 S1 q.1).seq hS) ?_ ?_
  ·rintro i x _ H' hx hq_;walk_at"g1";obtain⟨sb,⟨ss,es,hin,hsl⟩,y,rfl⟩:=hq_;walk_at"g2";have hi:i<us.length:=(List.getElem?_eq_some_iff.mp hx).1;obtain⟨d,hdx⟩:∃d,ds[i]? =some d:=⟨_,List.getElem?_eq_getElem (by lia)⟩
   walk_at"g1";obtain⟨n,st,e,lt⟩:=d;walk_at"g2";walk_at"g1";obtain⟨q,C9,dx,fs,fp,rfl,hq,dcC,l1,l2,l3,l4,l5,mcE,hfp,hlt⟩:=DoorAt.ex (Paired.at2 hd hx hdx);walk_at"g2";obtain⟨r1,r2⟩:=hr' _ (List.mem_of_getElem? hdx);have hqp:q≠p:=fun z=>by rw[z,n1]at hq;cases hq
   have hq':H' q=some (.ins C9 dx fs):=sb _ _ (S1 _ _ hq) hqp;rcases r2 with r2|⟨z,r2,r3⟩
   ·have r2:e= .non:=r2;subst r2;walk_at"go";refine gX es (by rw[sizeLine_eq,List.length_map];lia) fun H8 B8 e8=> ?_;have hq8:=B8 _ _ hq' hqp;walk_at"go";exact⟨by walk_at"sb",⟨ss++[st],by rw[e8,List.map_append];rfl,fun z hz=>(List.mem_append.mp hz).elim (hin z) (fun w=>by cases List.mem_singleton.mp w;exact r1),by rw[List.length_append];show ss.length+1<=_;lia⟩,_,rfl⟩
   ·have r2:e= .str z:=r2;subst r2;walk_at"go";refine gX es (by rw[sizeLine_eq,List.length_map];lia) fun H8 B8 e8=> ?_;have hq8:=B8 _ _ hq' hqp;walk_at"go";refine gX e8 (by rw[sizeLine_eq,List.length_append,List.length_map];show ss.length+1<_;lia) fun H9 B9 e9=> ?_;walk_at"go";refine⟨by walk_at"sb",⟨ss++[st]++[z],by rw[e9,List.map_append,List.map_append];rfl,fun z hz=> ?_,by rw[List.length_append,List.length_append];show ss.length+1+1<=_;lia⟩,_,rfl⟩;rcases List.mem_append.mp hz with hz|hz
    ·exact(List.mem_append.mp hz).elim (hin z) (fun w=>by cases List.mem_singleton.mp w;exact r1)
    ·cases List.mem_singleton.mp hz;exact r3
  ·rintro _ H' hq_;walk_at"g1";obtain⟨sb,⟨ss,es,hin,hsl⟩,y,rfl⟩:=hq_;walk_at"g2";have sH:Same H H':=SameBut.same n1 S1 sb;have hb':=sH.seq hb;walk_at"go";refine sY (α:=Str×Int) (xs:=ps) (vs:=ws) (fun p=> .str p.1) (fun p=> .int p.2) (fun _=>true) (fun p y _=>y= .str p.1) (fun _ _ _ _ h _=>h) (by rw[sizeLine_eq];lia) (rest:=[]) (by rfl) hb' (kC hw sH) (fun x H1 hx s1 R hR=>hR _ (Same.refl _)) (fun x H1 hx _ s1 R hR=> ?_) ?_
   ·walk_at"go";exact hR _ _ rfl (Same.refl _)
   intro ys H2 s2 hys;rw[cT]at hys;obtain rfl:=cY hys;walk_at"go";rename_i q3 H3 n3 S3 e3 q4 H4 n4 S4 e4;refine k _ (ss++ps.map (·.1)) _ (by walk_at"sm") (by rw[e4,List.map_append,List.map_map];rfl) (fun z hz=> ?_) (by rw[List.length_append,List.length_map];lia);rcases List.mem_append.mp hz with hz|hz
   ·exact hin z hz
   ·obtain⟨p,hp,rfl⟩:=List.mem_map.mp hz;exact hwr p hp
theorem vV (m:M K mg):Fc P w K mg base "rooms_spoken_of" 2 ["doors","people"] (rD K (aM P w K mg base (some 4))):=⟨_,_,m.xF,m.fA.F.kp,m.fA.b,vF m⟩
inductive tM (K:PySem.W.Frag)(vs:List V)(H:Hp)(Q:VK)(E:XK):Prop
 | mk (a b:Addr) (ss:List Str) (kvs:List (Key×V)) (_:vs=[.ref a,.ref b]) (_:SqL K H a (ss.map V.str)) (_:Rd H b (.dK kvs)) (_:(∀z∈ss,(bD kvs (.inr z)).isSome=true)) (_:∀H',Same H H'->Q .non H'):tM K vs H Q E
theorem JW {H:Hp}{Q:VK}{E:XK}{a b:Addr}{ss:List Str}{kvs:List (Key×V)} (hS:SqL K H a (ss.map V.str)) (hb:Rd H b (.dK kvs)) (hk:∀z∈ss,(bD kvs (.inr z)).isSome=true) (h:∀H',Same H H'->Q .non H'):tM K [.ref a,.ref b] H Q E:=⟨_,_,_,_,rfl,hS,hb,hk,h⟩
theorem YF {H H':Hp}{a:Addr}{u:HO} (s:Same H H') (r:Rd H a u):Rd H' a u:=r.elim (fun e=> .inl (s _ _ e)) fun⟨o,e⟩=> .inr ⟨o,s _ _ e⟩
theorem D6 (m:M K mg):FnOk P w K mg base CX0 1 m.qB m.kP.d ["names","sizes"] (tM K):=by
 refine m.kP.F.ok sc_need_rooms (fun vs H Q E h=> ?_) (fun cdv A outer s H vs Q E hr h=> ?_)
 ·walk_at"g1";obtain⟨a,b,ss,kvs,rfl,hS,hb,hk,k⟩:=h;walk_at"g2";rfl
 ·walk_at"g1";obtain⟨a,b,ss,kvs,rfl,hS,hb,hk,k⟩:=h;walk_at"g2";have nd:=sc_need_rooms.nd;walk_at"hu";refine⟨_,(aF (cS PassesOwn.never rfl (bH (pv 0)) (aK (i:=2) nd rfl (by walk_at"oi")) (aF (b9 (GF (DT hu1 (pv 2) (pv 1)) (by with_unfolding_all rfl)) (aF dO) bL)))),?_⟩;refine aO (σ:=[some (.ref a),some (.ref b),none]) rfl ?_;walk_at"cx";walk_at"go";let Pv3:Nat->St->Hp->Prop:=fun i σ' H'=>Same H H'/\∃x,σ'=[some (.ref a),some (.ref b),x];refine dN (ss.map V.str) Pv3 ⟨Same.refl _,_,rfl⟩ (fun i σ' H' _ q=>q.1.seq hS) ?_ ?_
  ·rintro i x _ H' hx ⟨s1,y,rfl⟩;rw[List.getElem?_map]at hx;obtain⟨z,hz,rfl⟩:=Option.map_eq_some_iff.mp hx;have hz':=hk z (List.mem_of_getElem? hz);walk_at"go";refine AN (YF s1 hb) ?_;rw[hz'];walk_at"go";exact⟨s1,_,rfl⟩
  ·rintro _ H' ⟨s1,y,rfl⟩;exact k _ s1
theorem uS (m:M K mg):Fc P w K mg base "need_rooms" 1 ["names","sizes"] (tM K):=⟨_,_,m.ID,m.kP.F.kp,m.kP.b,D6 m⟩
theorem UK {H:Hp}{Q:VK}{i j:Int} (h:Q (.int (i+j)) H):aAs (.int i) (.int j) H Q:=by
 first|exact h|exact⟨_,_,rfl,rfl,h⟩|exact .inl ⟨_,_,rfl,rfl,h⟩
theorem HI {H H':Hp}{p c:Addr}{kvs:List (Key×V)}{xs:List V} (h:SqL K H c xs) (hp:H p=some (.dK kvs)) (sb:SameBut p H H'):SqL K H' c xs:=by
 rcases h with (h|⟨o,h⟩)|h
 ·exact .inl (.inl (sb _ _ h fun z=>by rw[z,hp]at h;cases h))
 ·exact .inl (.inr ⟨o,sb _ _ h fun z=>by rw[z,hp]at h;cases h⟩)
 ·exact .inr h
def szK (rz:List (Str×Int)):List (Key×V):=rz.map fun e=>((.inr e.1:Key),V.int e.2)
theorem WI (rz:List (Str×Int)):(szK rz).map (·.1)=(rz.map (·.1)).map (Sum.inr:Str->Key):=by unfold szK;rw[List.map_map,List.map_map];rfl
theorem v4 {rs:List Str}(nd:rs.Nodup):(rs.map (Sum.inr:Str->Key)).Nodup:=by
 rw[List.Nodup,List.pairwise_map];exact List.Pairwise.imp (fun h z=>h (Sum.inr.inj z)) nd
theorem xP {rz:List (Str×Int)}(nd:(rz.map (·.1)).Nodup):((szK rz).map (·.1)).Nodup:=by rw[WI];exact v4 nd
theorem BU {rz:List (Str×Int)}(nd:(rz.map (·.1)).Nodup){e:Str×Int}(h:e∈rz):bD (szK rz) (.inr e.1)=some (.int e.2) :=
 oK (e:=((.inr e.1:Key),V.int e.2)) (xP nd) (List.mem_map.mpr ⟨e,h,rfl⟩)
theorem GP {rz:List (Str×Int)}(nd:(rz.map (·.1)).Nodup){z:Str}(h:z∈rz.map (·.1)):∃i,(z,i)∈rz/\bD (szK rz) (.inr z)=some (.int i):=by
 obtain⟨e,he,rfl⟩:=List.mem_map.mp h;exact⟨e.2,he,BU nd he⟩
theorem vL {kvs:List (Key×V)}{k:Key} (h:∀e∈kvs,e.1≠k):bD kvs k=none:=by
 induction kvs with
 | nil=>rfl
 | cons a l ih =>
  rw[cU (h a (.head _))];exact ih fun e he=>h e (List.mem_cons_of_mem _ he)
theorem vA:∀(ps kvs:List (Key×V)),(ps.map (·.1)).Nodup->(∀e∈kvs,∀q∈ps,e.1≠q.1)->iX kvs ps=kvs++ps
 | [],kvs,_,_=>(List.append_nil _).symm
 | (k,v)::ps,kvs,nd,h=>by
  have nd':=List.pairwise_cons.mp nd;show iX (cC kvs k v) ps=_;rw[o9 v (vL fun e he=>h e he _ (.head _)),vA ps _ nd'.2,List.append_assoc]
  ·rfl
  ·intro e he q hq;rcases List.mem_append.mp he with he|he
   ·exact h e he q (List.mem_cons_of_mem _ hq)
   ·cases List.mem_singleton.mp he;exact nd'.1 q.1 (List.mem_map.mpr ⟨q,hq,rfl⟩)
theorem TZ {rz:List (Str×Int)}(nd:(rz.map (·.1)).Nodup):iX [] (szK rz)=szK rz:=by
 rw[vA _ _ (xP nd) (fun e he=>absurd he (List.not_mem_nil))];rfl
theorem AG {kvs:List (Key×V)}:∀(o:Obj) (x:HO),HO.dK kvs≠ .frz o x:=fun _ _ z=>by cases z
def zH (rz:List (Str×Int))(ps:List (Str×Int))(kvs:List (Key×V)):Prop:=∀z∈rz.map (·.1),bD kvs (.inr z)=some (.int (dJ ps z))
inductive uK (K:PySem.W.Frag)(vs:List V)(H:Hp)(Q:VK)(E:XK):Prop
 | mk (a b:Addr) (rz:List (Str×Int)) (ws:List V) (ps:List (Str×Int)) (_:vs=[.ref a,.ref b]) (_:H a=some (.dK (szK rz))) (_:SqL K H b ws) (_:Paired (cB H) ws ps) (_:(∀p∈ps,p.1∈rz.map (·.1))) (_:(rz.map (·.1)).Nodup) (_:rz.length<=100) (_:∀p H' kvs,H p=none->Same H H'->H' p=some (.dK kvs)->kvs.map (·.1)=(szK rz).map (·.1)->zH rz ps kvs->Q (.ref p) H'):uK K vs H Q E
theorem JL {H:Hp}{Q:VK}{E:XK}{a b:Addr}{rz:List (Str×Int)}{ws:List V}{ps:List (Str×Int)} (ha:H a=some (.dK (szK rz))) (hb:SqL K H b ws) (hw:Paired (cB H) ws ps) (hwr:∀p∈ps,p.1∈rz.map (·.1)) (nd:(rz.map (·.1)).Nodup) (hl:rz.length<=100) (h:∀p H' kvs,H p=none->Same H H'->H' p=some (.dK kvs)->kvs.map (·.1)=(szK rz).map (·.1)->zH rz ps kvs->Q (.ref p) H'):uK K [.ref a,.ref b] H Q E:=⟨_,_,_,_,_,rfl,ha,hb,hw,hwr,nd,hl,h⟩
theorem T0 {kvs:List (Key×V)}{k:Key}{v:V} (h:(bD kvs k).isSome=true):(cC kvs k v).map (·.1)=kvs.map (·.1):=by
 unfold cC;rw[lN,if_pos h,List.map_map]
 apply List.map_congr_left
 intro x _;show (if x.1=k then (x.1,v) else x).1=x.1
 split<;>rfl
theorem AM (m:M K mg):FnOk P w K mg base CX0 1 m.lP m.iG.d ["sizes","people"] (uK K):=by
 refine m.iG.F.ok sc_added_people (fun vs H Q E h=> ?_) (fun cdv A outer s H vs Q E hr h=> ?_)
 ·walk_at"g1";obtain⟨a,b,rz,ws,ps,rfl,ha,hb,hw,hwr,ndz,hlen,k⟩:=h;walk_at"g2";rfl
 ·walk_at"g1";obtain⟨a,b,rz,ws,ps,rfl,ha,hb,hw,hwr,ndz,hlen,k⟩:=h;walk_at"g2";have nd:=sc_added_people.nd;walk_at"hu";refine⟨_,(aB (aN (i:=2) nd rfl (by walk_at"oi") oZ)
   (aB (WN (cS PassesOwn.never rfl (yR (pv 0)) (aK (i:=3) nd rfl (by walk_at"oi")) (aF (dU hu1 (pv 2) (pv 3) aE rfl))))
   (aB (cS PassesOwn.never rfl (bH (pv 1)) (j4 (n:=2) rfl (aW (aK (i:=3) nd rfl (by walk_at"oi")) (aW (aK (i:=4) nd rfl (by walk_at"oi")) cV))) (aF (V7 hu1 (pv 2) (pv 3) (pv 4) aAD (fun _ _ _=>rfl))))
   (aF (aT (pv 2)))))),?_⟩
  refine aO (σ:=[some (.ref a),some (.ref b),none,none,none]) rfl ?_;walk_at"cx";walk_at"go";rename_i p H1 n1 S1 e1;have hap:a≠p:=fun z=>by rw[z,n1]at ha;cases ha
  have ha1:=S1 _ _ ha;have hl2:(szK rz).length=rz.length:=by unfold szK;rw[List.length_map]
  refine UN ha1 AG ?_;walk_at"go";refine yA ha1 fun o H2 B2 e2=> ?_;have ep2:H2 p=some (.dK []):=B2 _ _ e1 (Ne.symm hap);have hwl:ws.length=ps.length:=Paired.length hw;let Pv1:Nat->St->Hp->Prop:=fun i σ' H'=>SameBut p H2 H'/\H' p=some (.dK ((rz.take i).map fun e=>((.inr e.1:Key),V.int 0)))/\∃x,σ'=[some (.ref a),some (.ref b),some (.ref p),x,none];refine ST (szK rz) Pv1 ⟨SameBut.refl,ep2,_,rfl⟩ (fun i σ' H' q=>q.1 _ _ e2 hap) ?_ ?_
  ·rintro i kk v _ H' hx hq_;walk_at"g1";obtain⟨sb,ek,y,rfl⟩:=hq_;walk_at"g2";unfold szK at hx;rw[List.getElem?_map]at hx;walk_at"g1";obtain⟨⟨z,sz⟩,hz,ez⟩:=Option.map_eq_some_iff.mp hx;walk_at"g2";cases ez;have hi:i<rz.length:=(List.getElem?_eq_some_iff.mp hz).1;have hnone:bD ((rz.take i).map fun e=>((.inr e.1:Key),V.int 0)) (.inr z)=none:=vL fun e he=>by
    obtain⟨d,hd,rfl⟩:=List.mem_map.mp he;intro zz;have hn:z∉(rz.map (·.1)).take i:=k5 ndz (by rw[List.getElem?_map,hz];rfl)
    apply hn
    rw[←List.map_take];exact List.mem_map.mpr ⟨d,hd,Sum.inr.inj zz⟩
   show (_:TG) (.str z) _ _ _;walk_at"go";refine gM ek (by rw[sizeLine_eq,List.length_map,List.length_take];lia) fun H9 B9 e9=> ?_;refine⟨by walk_at"sb",?_,_,rfl⟩;rw[e9,o9 _ hnone,bW hz,List.map_append];rfl
  ·rintro _ H' hq_;walk_at"g1";obtain⟨sb,ek,y,rfl⟩:=hq_;walk_at"g2";rw[hl2,List.take_length]at ek;refine jR (sb _ _ e2 hap) fun H3 B3 e3=> ?_;have ep3:=B3 _ _ ek (Ne.symm hap);have sH:Same H H3:=fun x u hx=>by
    by_cases ex:x=a
    ·subst ex;rw[ha]at hx;cases hx;exact e3
    ·have hxp:x≠p:=fun z=>by rw[z,n1]at hx;cases hx
     exact B3 _ _ (sb _ _ (B2 _ _ (S1 _ _ hx) ex) hxp) ex
   have hb3:=sH.seq hb;have hw3:=kC hw sH;have hnb:∀{H':Hp}{v:V}{r:Str×Int},SameBut p H3 H'->cB H3 v r->cB H' v r:=fun sb ⟨q,e,hq⟩=>⟨q,e,sb _ _ hq fun z=>by rw[z,ep3]at hq;cases hq⟩
   walk_at"go";let Pv2:Nat->St->Hp->Prop:=fun i σ' H'=>SameBut p H3 H'/\(∃kvs,H' p=some (.dK kvs)/\kvs.map (·.1)=(szK rz).map (·.1)/\zH rz (ps.take i) kvs)/\∃x y,σ'=[some (.ref a),some (.ref b),some (.ref p),x,y];refine dN ws Pv2 ⟨SameBut.refl,⟨_,ep3,?_,?_⟩,_,_,rfl⟩ (fun i σ' H' _ q=>HI hb3 ep3 q.1) ?_ ?_
   ·unfold szK;rw[List.map_map,List.map_map];rfl
   ·intro z hz;obtain⟨e,he,rfl⟩:=List.mem_map.mp hz;exact oK (e:=((.inr e.1:Key),V.int 0)) (by rw[show (rz.map fun e=>((.inr e.1:Key),V.int 0)).map (·.1)=(szK rz).map (·.1) from by unfold szK;rw[List.map_map,List.map_map];rfl];exact xP ndz) (List.mem_map.mpr ⟨e,he,rfl⟩)
   ·rintro i x _ H' hx hq_;walk_at"g1";obtain⟨sb',⟨kvs,ek',hkk,hin⟩,x1,x2,rfl⟩:=hq_;walk_at"g2";have hi:i<ws.length:=(List.getElem?_eq_some_iff.mp hx).1;obtain⟨⟨z,nn⟩,hpx⟩:∃d,ps[i]? =some d:=⟨_,List.getElem?_eq_getElem (by lia)⟩
    obtain⟨q,rfl,hq⟩:=Paired.at2 hw3 hx hpx;have hq':H' q=some (.tup [.str z,.int nn]):=sb' _ _ hq fun zz=>by rw[zz,ep3]at hq;cases hq
    have hzr:z∈rz.map (·.1):=hwr _ (List.mem_of_getElem? hpx);have hkl:kvs.length=rz.length:=by rw[←List.length_map (f:=fun e:Key×V=>e.1),hkk,List.length_map,hl2]
    walk_at"go";refine YL ?_;walk_at"go";refine RN (.inl ek') (hin z hzr) ?_;walk_at"go";refine UK ?_;refine W6 ek' (by rw[sizeLine_eq];lia) fun H9 B9 e9=> ?_;refine⟨by walk_at"sb",⟨_,e9,?_,fun y hy=> ?_⟩,_,_,rfl⟩
    ·rw[T0 (by rw[hin z hzr];rfl)];exact hkk
    ·rw[tL,bW hpx,QQ]
     by_cases e:(Sum.inr y:Key)= .inr z
     ·cases e;rw[if_pos rfl,if_pos rfl]
     ·rw[if_neg e,if_neg (fun zz=>e (by rw[show z=y from zz])),Int.add_zero];exact hin y hy
   ·rintro _ H' hq_;walk_at"g1";obtain⟨sb',⟨kvs,ek',hkk,hin⟩,x1,x2,rfl⟩:=hq_;walk_at"g2";rw[hwl,List.take_length]at hin;walk_at"go";exact k _ _ _ n1 (SameBut.same n1 (fun x u hx=>sH x u hx) sb') ek' hkk hin
theorem rF (m:M K mg):Fc P w K mg base "added_people" 1 ["sizes","people"] (uK K):=⟨_,_,m.CD,m.iG.F.kp,m.iG.b,AM m⟩
def rT (rz ps:List (Str×Int)):Prop:=(∀p∈ps,0<=p.2)/\∀e∈rz,dJ ps e.1<=e.2
inductive t9 (K:PySem.W.Frag)(vs:List V)(H:Hp)(Q:VK)(E:XK):Prop
 | mk (a b:Addr) (rz:List (Str×Int)) (ws:List V) (ps:List (Str×Int)) (_:vs=[.ref a,.ref b]) (_:H a=some (.dK (szK rz))) (_:SqL K H b ws) (_:Paired (cB H) ws ps) (_:(∀p∈ps,p.1∈rz.map (·.1))) (_:(rz.map (·.1)).Nodup) (_:rz.length<=100) (_:ps.length<=100) (_:rT rz ps) (_:∀H',Same H H'->Q .non H'):t9 K vs H Q E
theorem WG {H:Hp}{Q:VK}{E:XK}{a b:Addr}{rz:List (Str×Int)}{ws:List V}{ps:List (Str×Int)} (ha:H a=some (.dK (szK rz))) (hb:SqL K H b ws) (hw:Paired (cB H) ws ps) (hwr:∀p∈ps,p.1∈rz.map (·.1)) (nd:(rz.map (·.1)).Nodup) (hl:rz.length<=100) (hpl:ps.length<=100) (hf:rT rz ps) (h:∀H',Same H H'->Q .non H'):t9 K [.ref a,.ref b] H Q E:=⟨_,_,_,_,_,rfl,ha,hb,hw,hwr,nd,hl,hpl,hf,h⟩
theorem uY {α:Type}:∀{l:List α}{ys:List V},Paired (fun _ y=>y=V.bl false) l ys->ys=(l.map fun _=>false).map V.bl
 | _,_,.nil=>rfl
 | _,_,.cons h t=>by rw[h,uY t];rfl
theorem DS {α:Type}(l:List α):(l.map fun _=>false).any id=false:=by simp
theorem D0 (m:M K mg):FnOk P w K mg base CX0 2 m.qN m.kU.d ["sizes","people"] (t9 K):=by
 refine m.kU.F.ok sc_need_space (fun vs H Q E h=> ?_) (fun cdv A outer s H vs Q E hr h=> ?_)
 ·walk_at"g1";obtain⟨a,b,rz,ws,ps,rfl,ha,hb,hw,hwr,ndz,hlen,hpl,hf,k⟩:=h;walk_at"g2";rfl
 ·walk_at"g1";obtain⟨a,b,rz,ws,ps,rfl,ha,hb,hw,hwr,ndz,hlen,hpl,hf,k⟩:=h;walk_at"g2";have nd:=sc_need_space.nd;walk_at"hu";have F_added_people:= @rF P w K mg base m;refine⟨_,(aB (b9 (j9 (bS (DK rfl) rfl m.V1 NZ (aA (cA (N:=["room","number"]) (nl:=2) (ci:=[]) rfl (blk (s.heap.objs.size+1) rfl rfl rfl (by kernel_rfl)) (bH (pv 1)) (fun _ _ _ _=>(g9 (K:=K) (n:=2) rfl (aW (aK (i:=0) (show (["room","number"]:List Str).Nodup by decide +kernel) rfl (by walk_at"oi")) (aW (aK (i:=1) (show (["room","number"]:List Str).Nodup by decide +kernel) rfl (by walk_at"oi")) cV)))) (fun _ _ _ _=>dL) (fun _ _ _ _=>(oM iZ (pv 1) aE (aY _)))) aC))) (aF dO) bL)
   (aB (aN (i:=2) nd rfl (by walk_at"oi") (bA F_added_people hr (aA (pv 0) (aA (pv 1) aC))))
   (aF (b9 (j9 (bS (DK rfl) rfl m.V1 NZ (aA (tD (cA (N:=["room","inside","sizes"]) (nl:=1) (ci:=[2,0]) rfl (blk (s.heap.objs.size+1) rfl rfl rfl (by kernel_rfl)) (yR (pv 0)) (fun _ _ _ _=>(aK (i:=0) (show (["room","inside","sizes"]:List Str).Nodup by decide +kernel) rfl (by walk_at"oi"))) (fun _ _ _ _=>dL) (fun _ _ _ _=>(oM i6 (bK hu1 (pv 1) (pv 0) (fun _ _=>rfl)) (bK hu1 (pv 2) (pv 0) (fun _ _=>rfl)) (aY _))))) aC))) (aF dO) bL)))),?_⟩
  refine aO (σ:=[some (.ref a),some (.ref b),none]) rfl ?_;walk_at"cx";walk_at"go";refine sY (α:=Str×Int) (xs:=ps) (vs:=ws) (fun p=> .str p.1) (fun p=> .int p.2) (fun _=>true) (fun p y _=>y= .bl false) (fun _ _ _ _ h _=>h) (by rw[sizeLine_eq];lia) (rest:=[]) (by rfl) hb hw (fun x H1 hx s1 R hR=>hR _ (Same.refl _)) (fun x H1 hx _ s1 R hR=> ?_) ?_
  ·have h0:=hf.1 x hx;walk_at"go";exact hR _ _ (by rw[decide_eq_false (by lia)]) (Same.refl _)
  intro ys H2 s2 hys;rw[cT]at hys;obtain rfl:=uY hys;walk_at"go";rename_i q H3 n3 S3 e3;refine P9 (SqL.of e3) ?_;rw[DS];walk_at"go";have sA:Same H H3:=s2.trans S3;refine JL (sA _ _ ha) (sA.seq hb) (kC hw sA) hwr ndz hlen fun p H4 kvs n4 S4 e4 hkk hv=> ?_;have ha4:=S4 _ _ (sA _ _ ha);walk_at"go";refine pJ ha4 AG ?_;walk_at"go";refine yA ha4 fun o H5 B5 e5=> ?_;have hpa:p≠a:=fun z=>by rw[z,sA _ _ ha]at n4;cases n4
  have ep5:=B5 _ _ e4 hpa;refine PD (fun _=>true) (fun _ y _=>y= .bl false) (fun _ _ _ _ h _=>h) (by rw[sizeLine_eq];unfold szK;rw[List.length_map];lia) (rest:=[some (.ref p),some (.ref a)]) (by rfl) e5 (fun x H6 hx s6 R hR=>hR _ (Same.refl _)) ?_ ?_
  ·rintro x H6 hx - s6 R hR;obtain⟨e,he,rfl⟩:=List.mem_map.mp hx;have hfe:=hf.2 e he;show (_:TE) (some (V.str e.1)::[some (.ref p),some (.ref a)]) H6 R;walk_at"go";refine bN (.inl (s6 _ _ ep5)) (hv e.1 (List.mem_map.mpr ⟨e,he,rfl⟩)) ?_;walk_at"go";refine bN (.inr ⟨o,s6 _ _ e5⟩) (BU ndz he) ?_;walk_at"go";exact hR _ _ (by rw[decide_eq_false (by lia)]) (Same.refl _)
  intro ys H6 s6 hys;rw[cT]at hys;obtain rfl:=uY hys;walk_at"go";rename_i q7 H7 n7 S7 e7;refine jR (S7 _ _ (s6 _ _ e5)) fun H8 B8 e8=> ?_;have hq7:q7≠a:=fun z=>by rw[z,s6 _ _ e5]at n7;cases n7
  have e78:=B8 _ _ e7 hq7;walk_at"go";refine P9 (SqL.of e78) ?_;rw[DS];walk_at"go";exact k _ (rA (ha) (fun x u hx hxa=>B5 _ _ (S4 _ _ (sA _ _ hx)) hxa) (Same.but (s6.trans S7)) B8 e8)
theorem EG (m:M K mg):Fc P w K mg base "need_space" 2 ["sizes","people"] (t9 K):=⟨_,_,m.II,m.kU.F.kp,m.kU.b,D0 m⟩
def RoomsAt (H:Hp)(vs:List V)(rz:List (Str×Int)):Prop:=Paired (cB H) vs rz
theorem RoomsAt.sm {H H':Hp}{vs:List V}{rs:List (Str×Int)} (h:RoomsAt H vs rs) (s:Same H H'):RoomsAt H' vs rs:=Paired.imp' (fun v z ⟨q,e,h⟩=>⟨q,e,s _ _ h⟩) h
theorem xH {H:Hp}:∀{vs:List V}{rs:List (Str×Int)},RoomsAt H vs rs->wQ H vs (szK rs)
 | _,_,.nil=> .nil
 | _,_,.cons h t=> .cons h (xH t)
theorem jF {D:aU}{H H':Hp}{us:List V}{ds:List aD} (h:Paired (D.at' H) us ds) (s:Same H H'):Paired (D.at' H') us ds:=Paired.imp' (fun v d h=>D.same h s) h
abbrev JQ (f l:Int)(qs qp qd:Addr):List (Str×V):=cN "named_doors" (.ref qd) (cN "people" (.ref qp) (cN "sizes" (.ref qs) (cN "last" (.int l) (cN "first" (.int f) []))))
def nY (D:aU)(H:Hp)(nk:List (Key×V))(ds:List aD):Prop:=Paired (fun e d=>e.1= .inr d.1/\D.at' H e.2 d) nk ds
theorem SY {D:aU}{H H':Hp}{nk:List (Key×V)}{ds:List aD} (h:nY D H nk ds) (s:Same H H'):nY D H' nk ds:=Paired.imp' (fun e d h=>⟨h.1,D.same h.2 s⟩) h
structure aR (C:Addr)(D:aU)(H:Hp)(h:Addr)(f l:Int)(rz ps:List (Str×Int))(ds:List aD):Prop where
 ex:∃dx qs qp qd nk kvs,H h=some (.ins C dx (JQ f l qs qp qd))/\H qs=some (.dK (szK rz))/\H qp=some (.dK kvs)/\kvs.map (·.1)=(szK rz).map (·.1)/\zH rz ps kvs/\H qd=some (.dK nk)/\nY D H nk ds
theorem aP {C:Addr}{D:aU}{H H':Hp}{h:Addr}{f l:Int}{rz ps:List (Str×Int)}{ds:List aD} (x:aR C D H h f l rz ps ds) (s:Same H H'):aR C D H' h f l rz ps ds:=by
 walk_at"g1";obtain⟨dx,qs,qp,qd,nk,kvs,e1,e2,e3,e4,e5,e6,e7⟩:=x.ex;walk_at"g2";exact⟨dx,qs,qp,qd,nk,kvs,s _ _ e1,s _ _ e2,s _ _ e3,e4,e5,s _ _ e6,SY e7 s⟩
theorem JN {H H':Hp}{p c C dx:Addr}{fs:List (Str×V)}{xs:List V} (h:SqL K H c xs) (hp:H p=some (.ins C dx fs)) (sb:SameBut p H H'):SqL K H' c xs:=by
 rcases h with (h|⟨o,h⟩)|h
 ·exact .inl (.inl (sb _ _ h fun z=>by rw[z,hp]at h;cases h))
 ·exact .inl (.inr ⟨o,sb _ _ h fun z=>by rw[z,hp]at h;cases h⟩)
 ·exact .inr h
theorem zW {α β:Type}{F:α->β->Prop}:∀{l:List α}{m:List β}{x:α},Paired F l m->x∈l->∃y∈m,F x y
 | _,_,_,.cons r t,h=>by
  rcases List.mem_cons.mp h with rfl|h
  ·exact⟨_,.head _,r⟩
  ·obtain⟨y,hy,f⟩:=zW t h;exact⟨y,List.mem_cons_of_mem _ hy,f⟩
 | _,_,_,.nil,h=>nomatch h
inductive fQ (K:PySem.W.Frag)(D:aU)(vs:List V)(H:Hp)(Q:VK)(E:XK):Prop
 | mk (p C dx a b c:Addr) (ws us cs:List V) (rz ps:List (Str×Int)) (ds:List aD) (f l:Int) (_:vs=[.ref p,.ref a,.ref b,.ref c,.int l,.int f]) (_:DCls K C) (_:H p=some (.ins C dx [])) (_:H a=some (.lst ws)) (_:RoomsAt H ws rz) (_:SqL K H b us) (_:Paired (D.at' H) us ds) (_:SqL K H c cs) (_:Paired (cB H) cs ps) (_:(rz.map (·.1)).Nodup) (_:(ds.map (·.1)).Nodup) (_:(∀d∈ds,c9 (rz.map (·.1)) d)) (_:(∀p∈ps,p.1∈rz.map (·.1))) (_:rT rz ps) (_:rz.length<=20) (_:ds.length<=20) (_:ps.length<=40) (_:0<=f) (_:f<=l) (_:∀H',SameBut p H H'->aR C D H' p f l rz ps ds->Q .non H'):fQ K D vs H Q E
theorem GM {D:aU}{H:Hp}{Q:VK}{E:XK}{p C dx a b c:Addr}{ws us cs:List V}{rz ps:List (Str×Int)}{ds:List aD}{f l:Int} (dc:DCls K C) (hp:H p=some (.ins C dx [])) (ha:H a=some (.lst ws)) (hr:RoomsAt H ws rz) (hb:SqL K H b us) (hd:Paired (D.at' H) us ds) (hc:SqL K H c cs) (hcp:Paired (cB H) cs ps) (nr:(rz.map (·.1)).Nodup) (nd:(ds.map (·.1)).Nodup) (hin:∀d∈ds,c9 (rz.map (·.1)) d) (hpr:∀p∈ps,p.1∈rz.map (·.1)) (hf:rT rz ps) (lr:rz.length<=20) (ld:ds.length<=20) (lp:ps.length<=40) (h0:0<=f) (h1:f<=l)
  (k:∀H',SameBut p H H'->aR C D H' p f l rz ps ds->Q .non H'):fQ K D [.ref p,.ref a,.ref b,.ref c,.int l,.int f] H Q E:=⟨_,_,_,_,_,_,_,_,_,_,_,_,_,_,rfl,dc,hp,ha,hr,hb,hd,hc,hcp,nr,nd,hin,hpr,hf,lr,ld,lp,h0,h1,k⟩
theorem xB (m:M K mg):FnOk P w K mg base CX0 4 m.jK m.fN ["self","rooms","doors","people","last","first"] (fQ K (aM P w K mg base (some 4))):=by
 refine m.zE.ok sc_House___init__ (fun vs H Q E h=> ?_) (fun cdv A outer s H vs Q E hr h=> ?_)
 ·walk_at"g1";obtain⟨p,C,dx,a,b,c,ws,us,cs,rz,ps,ds,f,l,rfl,dc,hp,ha,hra,hb,hd,hc,hcp,nr,nd',hin,hpr,hf,lr,ld,lp,h0,h1,k⟩:=h;walk_at"g2";rfl
 ·walk_at"g1";obtain⟨p,C,dx,a,b,c,ws,us,cs,rz,ps,ds,f,l,rfl,dc,hp,ha,hra,hb,hd,hc,hcp,nr,nd',hin,hpr,hf,lr,ld,lp,h0,h1,k⟩:=h;walk_at"g2";have nd:=sc_House___init__.nd;walk_at"hu";have F_added_people:= @rF P w K mg base m;have F_need_each_once:= @xD P w K mg base m;have F_need_rooms:= @uS P w K mg base m;have F_need_space:= @EG P w K mg base m;have F_need_turns:= @DU P w K mg base m;have F_rooms_spoken_of:= @vV P w K mg base m;refine⟨_,(aB (bP (bA F_need_turns hr (aA (pv 5) (aA (pv 4) aC))))
   (aB (bP (bA F_need_each_once hr (aA (cA (N:=["name","size"]) (nl:=2) (ci:=[]) rfl (blk (s.heap.objs.size+1) rfl rfl rfl (by kernel_rfl)) (bH (pv 1)) (fun _ _ _ _=>(g9 (K:=K) (n:=2) rfl (aW (aK (i:=0) (show (["name","size"]:List Str).Nodup by decide +kernel) rfl (by walk_at"oi")) (aW (aK (i:=1) (show (["name","size"]:List Str).Nodup by decide +kernel) rfl (by walk_at"oi")) cV)))) (fun _ _ _ _=>dL) (fun _ _ _ _=>(pv 0))) aC)))
   (aB (bP (bA F_need_each_once hr (aA (cA (N:=["door"]) (nl:=1) (ci:=[]) rfl (blk (s.heap.objs.size+1) rfl rfl rfl (by kernel_rfl)) (bH (pv 2)) (fun _ _ _ _=>(aK (i:=0) (show (["door"]:List Str).Nodup by decide +kernel) rfl (by walk_at"oi"))) (fun _ _ _ _=>dL) (fun _ _ _ _=>(oN (K:=K) (pv 0) rfl))) aC)))
   (aB (aN (i:=6) nd rfl (by walk_at"oi") (mH (zU rfl) rfl m.Q2 JJ (aA (pv 1) aC)))
   (aB (bP (bA F_need_rooms hr (aA (bA F_rooms_spoken_of hr (aA (pv 2) (aA (pv 3) aC))) (aA (pv 6) aC))))
   (aB (bP (bA F_need_space hr (aA (pv 6) (aA (pv 3) aC))))
   (aB (eK (pv 0) (pv 5) rfl)
   (aB (eK (pv 0) (pv 4) rfl)
   (aB (eK (pv 0) (pv 6) rfl)
   (aB (eK (pv 0) (bA F_added_people hr (aA (pv 6) (aA (pv 3) aC))) rfl)
   (aB (eK (pv 0) oZ rfl)
   (aF (cS PassesOwn.never rfl (bH (pv 2)) (aK (i:=7) nd rfl (by walk_at"oi")) (aF (dU hu1 (bB (pv 0) rfl) (bB (pv 7) rfl) (pv 7) rfl))))))))))))))),?_⟩
  refine aO (σ:=[some (.ref p),some (.ref a),some (.ref b),some (.ref c),some (.int l),some (.int f),none,none]) rfl ?_;walk_at"cx";have hul:us.length=ds.length:=Paired.length hd;have hwl:ws.length=rz.length:=Paired.length hra;walk_at"go";refine WF h0 h1 ?_;walk_at"go";refine sY (α:=Str×Int) (xs:=rz) (vs:=ws) (fun e=> .str e.1) (fun e=> .int e.2) (fun _=>true) (fun z y _=>y= .str z.1) (fun _ _ _ _ h _=>h) (by rw[sizeLine_eq];lia) (rest:=[]) (by rfl) (SqL.of ha) hra (fun x H1 hx s1 R hR=>hR _ (Same.refl _)) (fun x H1 hx _ s1 R hR=> ?_) ?_
  ·walk_at"go";exact hR _ _ rfl (Same.refl _)
  intro ys H1 s1 hys;rw[cT]at hys;obtain rfl:=cY hys;walk_at"go";rename_i q1 H2 n2 S2 e2;refine PX (ss:=rz.map (·.1)) (SqL.of (by rw[e2,List.map_map];rfl)) nr (by rw[List.length_map];lia) fun H3 S3=> ?_;have sA:Same H H3:=(s1.trans S2).trans S3;walk_at"go";refine dC (α:=aD) (xs:=ds) (vs:=us) ((aM P w K mg base (some 4)).at' H3) (fun _=>true) (fun d y _=>y= .str d.1) (fun _ _ _ _ h _=>h) (by rw[sizeLine_eq];lia) (rest:=[]) (by rfl) (sA.seq hb) (jF hd sA) (fun v x H1 _ hx s1 R hR=>hR _ (Same.refl _)) ?_ ?_
  ·rintro v ⟨n,st,e,lt⟩ H4 hv hm - s4 R hR;walk_at"g1";obtain⟨q,C9,dx',fs,fp,rfl,hq,dcC,l1,l2,l3,l4,l5,mcE,hfp,hlt⟩:=DoorAt.ex hv;walk_at"g2";have hq':=s4 _ _ hq;walk_at"go";exact hR _ _ rfl (Same.refl _)
  intro ys H4 s4 hys;rw[cT]at hys;obtain rfl:=cY hys;walk_at"go";rename_i q5 H5 n5 S5 e5;refine PX (ss:=ds.map (·.1)) (SqL.of (by rw[e5,List.map_map];rfl)) nd' (by rw[List.length_map];lia) fun H6 S6=> ?_;have sB:Same H H6:=((sA.trans s4).trans S5).trans S6;walk_at"go";refine HR (sB _ _ ha) (xH (hra.sm sB)) fun qs H7 n7 S7 e7=> ?_;rw[TZ nr]at e7;have sC:Same H H7:=sB.trans S7;walk_at"go";refine TM (sC.seq hb) (jF hd sC) hin ld (sC.seq hc) (kC hcp sC) hpr lp fun q8 ss H8 S8 e8 hss lss=> ?_;walk_at"go";refine JW (SqL.of e8) (.inl (S8 _ _ e7)) (fun z hz=>by obtain⟨i,_,e⟩:=GP nr (hss z hz);rw[e];rfl) fun H9 S9=> ?_;have sD:Same H7 H9:=S8.trans S9;walk_at"go";refine WG (sD _ _ e7) ((sC.trans sD).seq hc) (kC hcp (sC.trans sD)) hpr nr (by lia) (by lia) hf fun H10 S10=> ?_;have sE:Same H H10:=(sC.trans sD).trans S10;have es:H10 qs=some (.dK (szK rz)):=S10 _ _ (sD _ _ e7);have hp10:=sE _ _ hp;have hqp:qs≠p:=fun z=>by rw[z,hp10]at es;cases es
  walk_at"go";rename_i H11 B11 e11 H12 B12 e12 H13 B13 e13;have sb13:SameBut p H10 H13:=by walk_at"sb"
  have es13:=sb13 _ _ es hqp;have hc13:SqL K H13 c cs:=JN (sE.seq hc) hp10 sb13;have hcp13:Paired (cB H13) cs ps:=Paired.imp' (fun v r ⟨q,e,hq⟩=>⟨q,e,sb13 _ _ (sE _ _ hq) fun z=>by rw[z,hp]at hq;cases hq⟩) hcp;refine JL es13 hc13 hcp13 hpr nr (by lia) fun qp H14 kvs n14 S14 e14 hkk hv14=> ?_;have hp14:=S14 _ _ e13;walk_at"go";rename_i H15 B15 e15 qd H16 n16 S16 e16 H17 B17 e17;have hqd:qd≠p:=fun z=>by rw[z,e15]at n16;cases n16
  have sb17:SameBut p H10 H17:=((((sb13.trans S14.but).trans B15).trans S16.but).trans B17)
  have es17:=sb17 _ _ es hqp;have ed17:=B17 _ _ e16 hqd;have hqpp:qp≠p:=fun z=>by rw[z,e13]at n14;cases n14
  have eq17:H17 qp=some (.dK kvs):=B17 _ _ (S16 _ _ (B15 _ _ e14 hqpp)) hqpp;have hqpd:qp≠qd:=fun z=>by rw[←z,B15 _ _ e14 hqpp]at n16;cases n16
  have fresh:∀x u,H10 x=some u->x≠p->x≠qd:=fun x u hx hxp z=>by
   have h15:H15 x=some u:=B15 _ _ (S14 _ _ (sb13 _ _ hx hxp)) hxp;rw[z,n16]at h15;cases h15
  have hb17:SqL K H17 b us:=JN (sE.seq hb) hp10 sb17;have hd17:Paired ((aM P w K mg base (some 4)).at' H17) us ds:=Paired.imp' (fun v d h=>(aM P w K mg base (some 4)).but ((aM P w K mg base (some 4)).same h sE) hp10 rfl sb17) hd;have ddq:∀{H':Hp}{v:V}{d:aD},SameBut qd H17 H'->(aM P w K mg base (some 4)).at' H17 v d->(aM P w K mg base (some 4)).at' H' v d:=fun sb h=>(aM P w K mg base (some 4)).but h ed17 trivial sb;refine C8 hb17 ?_;let Pv1:Nat->St->Hp->Prop:=fun i σ' H'=>SameBut qd H17 H'/\(∃nk,H' qd=some (.dK nk)/\nk.length<=i/\Paired (fun e d=>e.1= .inr d.1/\(aM P w K mg base (some 4)).at' H17 e.2 d) nk (ds.take i))/\∃x,σ'=[some (.ref p),some (.ref a),some (.ref b),some (.ref c),some (.int l),some (.int f),some (.ref qs),x];refine dN us Pv1 ⟨SameBut.refl,⟨[],ed17,Nat.le_refl _,.nil⟩,_,rfl⟩ (fun i σ' H' _ q=>HI hb17 ed17 q.1) ?_ ?_
  ·rintro i x _ H' hx hq_;walk_at"g1";obtain⟨sb,⟨nk,ek,hk,pr⟩,y,rfl⟩:=hq_;walk_at"g2";have hi:i<us.length:=(List.getElem?_eq_some_iff.mp hx).1;obtain⟨d,hdx⟩:∃d,ds[i]? =some d:=⟨_,List.getElem?_eq_getElem (by lia)⟩
   have hD:=Paired.at2 hd17 hx hdx;walk_at"g1";obtain⟨n,st,e,lt⟩:=d;walk_at"g2";have hD':=ddq sb hD;walk_at"g1";obtain⟨q,C9,dx',fs,fp,rfl,hq',dcC,l1,l2,l3,l4,l5,mcE,hfp,hlt⟩:=DoorAt.ex hD';walk_at"g2";have hpp:H' p=some (.ins C dx (JQ f l qs qp qd)):=sb _ _ e17 (Ne.symm hqd);have hnone:bD nk (.inr n)=none:=vL fun e he=>by
    walk_at"g1";obtain⟨d',hd',h1,_⟩:=zW pr he;walk_at"g2";rw[h1];intro z;have hn:n∉(ds.map (·.1)).take i:=k5 nd' (by rw[List.getElem?_map,hdx];rfl)
    apply hn
    rw[←List.map_take];exact List.mem_map.mpr ⟨d',hd',Sum.inr.inj z⟩
   walk_at"go";refine gM ek (by rw[sizeLine_eq];lia) fun H9' B9' e9'=> ?_;rw[o9 _ hnone]at e9';refine⟨by walk_at"sb",⟨_,e9',by rw[List.length_append];show nk.length+1<=_;lia,?_⟩,_,rfl⟩;rw[bW hdx];exact L2.Paired.snoc pr ⟨rfl,hD⟩
  ·rintro _ H' hq_;walk_at"g1";obtain⟨sb,⟨nk,ek,hk,pr⟩,y,rfl⟩:=hq_;walk_at"g2";rw[hul,List.take_length]at pr;refine k _ (fun x u hx hxp=>sb _ _ (sb17 _ _ (sE _ _ hx) hxp) (fresh x u (sE _ _ hx) hxp)) ⟨dx,qs,qp,qd,nk,kvs,sb _ _ e17 (Ne.symm hqd),sb _ _ es17 (fresh _ _ es hqp),sb _ _ eq17 hqpd,hkk,hv14,ek,?_⟩;exact Paired.imp' (fun e d h=>⟨h.1,ddq sb h.2⟩) pr
theorem zP (m:M K mg):Kc P w K mg base "House" m.aI 4 [] (fQ K (aM P w K mg base (some 4))):=⟨_,_,_,_,m.Y3,m.U2,.nil,m.yY,xB m⟩
theorem DM {C:Addr}{D:aU}{H:Hp}{Q:VK}{E:XK}{dvs vs:List V}{a b c:Addr}{ws us cs:List V}{rz ps:List (Str×Int)}{ds:List aD}{f l:Int} (ev:vs++dvs=[.ref a,.ref b,.ref c,.int l,.int f]) (dc:DCls K C) (ha:H a=some (.lst ws)) (hr:RoomsAt H ws rz) (hb:SqL K H b us) (hd:Paired (D.at' H) us ds) (hc:SqL K H c cs) (hcp:Paired (cB H) cs ps) (nr:(rz.map (·.1)).Nodup) (nd:(ds.map (·.1)).Nodup) (hin:∀d∈ds,c9 (rz.map (·.1)) d) (hpr:∀p∈ps,p.1∈rz.map (·.1)) (hf:rT rz ps) (lr:rz.length<=20) (ld:ds.length<=20) (lp:ps.length<=40) (h0:0<=f) (h1:f<=l)
  (k:∀p H',H p=none->Same H H'->aR C D H' p f l rz ps ds->Q (.ref p) H'):qU C (fQ K D) dvs E Q vs H:=by
 intro x dx nx nd0 ne;have s0:Same H (upd (upd H dx (.own x)) x (.ins C dx [])):=fun b o e=>by
  rw[aL (bG e nx),aL (bG e nd0)];exact e
 rw[ev];exact GM dc bC (s0 _ _ ha) (hr.sm s0) (s0.seq hb) (jF hd s0) (s0.seq hc) (kC hcp s0) nr nd hin hpr hf lr ld lp h0 h1 fun H' sb hh=>⟨rfl,k x H' nx (fun b o q=>sb b o (s0 b o q) (bG q nx)) hh⟩
theorem XC (rz:List (Str×Int)):((szK rz).map fun e=>kV e.1)=(rz.map (·.1)).map V.str:=by unfold szK;rw[List.map_map,List.map_map];rfl
theorem AO {D:aU}{H:Hp}:∀{nk:List (Key×V)}{ds:List aD},nY D H nk ds->(nk.map fun e=>kV e.1)=(ds.map (·.1)).map V.str
 | _,_,.nil=>rfl
 | (k,v)::_,_,.cons h t=>by
  rw[List.map_cons,AO t,List.map_cons,List.map_cons];have:k= .inr _:=h.1;rw[this];rfl
theorem AT {D:aU}{H:Hp}:∀{nk:List (Key×V)}{ds:List aD},nY D H nk ds->nk.map (·.1)=(ds.map (·.1)).map (Sum.inr:Str->Key)
 | _,_,.nil=>rfl
 | (k,v)::_,_,.cons h t=>by
  rw[List.map_cons,AT t,List.map_cons,List.map_cons];have:k= .inr _:=h.1;rw[this]
theorem QM {D:aU}{H:Hp}{nk:List (Key×V)}{ds:List aD} (h:nY D H nk ds):nk.length=ds.length:=Paired.length h
theorem UF {D:aU}{H:Hp}{nk:List (Key×V)}{ds:List aD} (h:nY D H nk ds) (nd:(ds.map (·.1)).Nodup) {d:aD} (hd:d∈ds):∃v,bD nk (.inr d.1)=some v/\D.at' H v d:=by
 obtain⟨i,hi,e⟩:=List.getElem_of_mem hd;have hl:=QM h;have hx:nk[i]? =some nk[i]:=List.getElem?_eq_getElem (by lia);obtain⟨h1,h2⟩:=Paired.at2 h hx (show ds[i]? =some d by rw[List.getElem?_eq_getElem hi,e]);refine⟨_,?_,h2⟩;rw[←h1];exact oK (by rw[AT h];exact v4 nd) (List.mem_of_getElem? hx)
inductive lD (C:Addr)(D:aU)(g:List (Str×Int)->List aD->List Str)(vs:List V)(H:Hp)(Q:VK)(E:XK):Prop
 | mk (h:Addr) (f l:Int) (rz ps:List (Str×Int)) (ds:List aD) (_:vs=[.ref h]) (_:aR C D H h f l rz ps ds) (_:∀p H',H p=none->Same H H'->H' p=some (.lst ((g rz ds).map V.str))->Q (.ref p) H'):lD C D g vs H Q E
theorem fC {C:Addr}{D:aU}{g:List (Str×Int)->List aD->List Str}{H:Hp}{Q:VK}{E:XK}{h:Addr}{f l:Int}{rz ps:List (Str×Int)}{ds:List aD} (hh:aR C D H h f l rz ps ds) (k:∀p H',H p=none->Same H H'->H' p=some (.lst ((g rz ds).map V.str))->Q (.ref p) H'):lD C D g [.ref h] H Q E:=⟨_,_,_,_,_,_,rfl,hh,k⟩
theorem BE (m:M K mg):FnOk P w K mg base CX0 1 m.m6 m.mY.d ["self"] (lD m.aI (aM P w K mg base (some 4)) fun rz _=>rz.map (·.1)):=by
 refine m.mY.F.ok sc_House_rooms (fun vs H Q E h=> ?_) (fun cdv A outer s H vs Q E hr h=> ?_)
 ·walk_at"g1";obtain⟨h,f,l,rz,ps,ds,rfl,hh,k⟩:=h;walk_at"g2";rfl
 ·walk_at"g1";obtain⟨h,f,l,rz,ps,ds,rfl,hh,k⟩:=h;walk_at"g2";have nd:=sc_House_rooms.nd;walk_at"hu";have w_dc_House:=m.aX;refine⟨_,(aF (aT (mH (AB rfl) rfl m.QW KM (aA (bB (pv 0) rfl) aC)))),?_⟩;refine aO (σ:=[some (.ref h)]) rfl ?_;walk_at"cx";walk_at"g1";obtain⟨dx,qs,qp,qd,nk,kvs,e1,e2,e3,e4,e5,e6,e7⟩:=hh.ex;walk_at"g2";walk_at"go";refine GE (.inl e2) fun p H1 n1 S1 e8=> ?_;rw[XC]at e8;walk_at"go";exact k _ _ n1 S1 e8
theorem hJ (m:M K mg):Mc P w K mg base m.aI "rooms" 1 (lD m.aI (aM P w K mg base (some 4)) fun rz _=>rz.map (·.1)):=⟨_,_,_,m.aX.ic.cl,m.CM,m.mY.b,BE m⟩
theorem BN (m:M K mg):FnOk P w K mg base CX0 1 m.nS m.nJ.d ["self"] (lD m.aI (aM P w K mg base (some 4)) fun _ ds=>ds.map (·.1)):=by
 refine m.nJ.F.ok sc_House_doors (fun vs H Q E h=> ?_) (fun cdv A outer s H vs Q E hr h=> ?_)
 ·walk_at"g1";obtain⟨h,f,l,rz,ps,ds,rfl,hh,k⟩:=h;walk_at"g2";rfl
 ·walk_at"g1";obtain⟨h,f,l,rz,ps,ds,rfl,hh,k⟩:=h;walk_at"g2";have nd:=sc_House_doors.nd;walk_at"hu";have w_dc_House:=m.aX;refine⟨_,(aF (aT (mH (AB rfl) rfl m.QW KM (aA (bB (pv 0) rfl) aC)))),?_⟩;refine aO (σ:=[some (.ref h)]) rfl ?_;walk_at"cx";walk_at"g1";obtain⟨dx,qs,qp,qd,nk,kvs,e1,e2,e3,e4,e5,e6,e7⟩:=hh.ex;walk_at"g2";walk_at"go";refine GE (.inl e6) fun p H1 n1 S1 e8=> ?_;rw[AO e7]at e8;walk_at"go";exact k _ _ n1 S1 e8
theorem hU (m:M K mg):Mc P w K mg base m.aI "doors" 1 (lD m.aI (aM P w K mg base (some 4)) fun _ ds=>ds.map (·.1)):=⟨_,_,_,m.aX.ic.cl,m.CK,m.nJ.b,BN m⟩
inductive j8 (C:Addr)(D:aU)(vs:List V)(H:Hp)(Q:VK)(E:XK):Prop
 | mk (h:Addr) (z:Str) (f l:Int) (rz ps:List (Str×Int)) (ds:List aD) (_:vs=[.ref h,.str z]) (_:aR C D H h f l rz ps ds) (_:(rz.map (·.1)).Nodup) (_:z∈rz.map (·.1)) (_:∀H',Same H H'->Q .non H'):j8 C D vs H Q E
theorem lX {C:Addr}{D:aU}{H:Hp}{Q:VK}{E:XK}{h:Addr}{z:Str}{f l:Int}{rz ps:List (Str×Int)}{ds:List aD} (hh:aR C D H h f l rz ps ds) (nr:(rz.map (·.1)).Nodup) (hz:z∈rz.map (·.1)) (k:∀H',Same H H'->Q .non H'):j8 C D [.ref h,.str z] H Q E:=⟨_,_,_,_,_,_,_,rfl,hh,nr,hz,k⟩
theorem vO (m:M K mg):FnOk P w K mg base CX0 2 m.iP m.iS.d ["self","room"] (j8 m.aI (aM P w K mg base (some 4))):=by
 refine m.iS.F.ok sc_House_need_room (fun vs H Q E h=> ?_) (fun cdv A outer s H vs Q E hr h=> ?_)
 ·walk_at"g1";obtain⟨h,z,f,l,rz,ps,ds,rfl,hh,nr,hz,k⟩:=h;walk_at"g2";rfl
 ·walk_at"g1";obtain⟨h,z,f,l,rz,ps,ds,rfl,hh,nr,hz,k⟩:=h;walk_at"g2";have nd:=sc_House_need_room.nd;walk_at"hu";have F_need_rooms:= @uS P w K mg base m;have w_dc_House:=m.aX;refine⟨_,(aF (bP (bA F_need_rooms hr (aA (fG (aA (pv 1) aC)) (aA (bB (pv 0) rfl) aC))))),?_⟩;refine aO (σ:=[some (.ref h),some (.str z)]) rfl ?_;walk_at"cx";walk_at"g1";obtain⟨dx,qs,qp,qd,nk,kvs,e1,e2,e3,e4,e5,e6,e7⟩:=hh.ex;walk_at"g2";obtain⟨i,hi,ev⟩:=GP nr hz;walk_at"go";rename_i p H1 n1 S1 e8;refine JW (ss:=[z]) (SqL.of e8) (.inl (S1 _ _ e2)) (fun y hy=>by cases List.mem_singleton.mp hy;rw[ev];rfl) fun H2 S2=> ?_;walk_at"go";exact k _ (S1.trans S2)
theorem eG (m:M K mg):Mc P w K mg base m.aI "need_room" 2 (j8 m.aI (aM P w K mg base (some 4))):=⟨_,_,_,m.aX.ic.cl,m.wB,m.iS.b,vO m⟩
inductive uJ (C:Addr)(D:aU)(vs:List V)(H:Hp)(Q:VK)(E:XK):Prop
 | mk (h:Addr) (z:Str) (i f l:Int) (rz ps:List (Str×Int)) (ds:List aD) (_:vs=[.ref h,.str z]) (_:aR C D H h f l rz ps ds) (_:(rz.map (·.1)).Nodup) (_:(z,i)∈rz) (_:∀H',Same H H'->Q (.int i) H'):uJ C D vs H Q E
theorem BO {C:Addr}{D:aU}{H:Hp}{Q:VK}{E:XK}{h:Addr}{z:Str}{i f l:Int}{rz ps:List (Str×Int)}{ds:List aD} (hh:aR C D H h f l rz ps ds) (nr:(rz.map (·.1)).Nodup) (hz:(z,i)∈rz) (k:∀H',Same H H'->Q (.int i) H'):uJ C D [.ref h,.str z] H Q E:=⟨_,_,_,_,_,_,_,_,rfl,hh,nr,hz,k⟩
theorem BX (m:M K mg):FnOk P w K mg base CX0 3 m.nR m.nO.d ["self","room"] (uJ m.aI (aM P w K mg base (some 4))):=by
 refine m.nO.F.ok sc_House_holds (fun vs H Q E h=> ?_) (fun cdv A outer s H vs Q E hr h=> ?_)
 ·walk_at"g1";obtain⟨h,z,i,f,l,rz,ps,ds,rfl,hh,nr,hz,k⟩:=h;walk_at"g2";rfl
 ·walk_at"g1";obtain⟨h,z,i,f,l,rz,ps,ds,rfl,hh,nr,hz,k⟩:=h;walk_at"g2";have nd:=sc_House_holds.nd;walk_at"hu";have w_dc_House:=m.aX;have w_mc_House_need_room:= @eG P w K mg base m;refine⟨_,(aB (bP (d5 2 hr (pv 0) (aA (pv 1) aC)))
   (aF (aT (bK hu1 (bB (pv 0) rfl) (pv 1) (fun _ _=>rfl))))),?_⟩
  refine aO (σ:=[some (.ref h),some (.str z)]) rfl ?_;walk_at"cx";walk_at"g1";obtain⟨dx,qs,qp,qd,nk,kvs,e1,e2,e3,e4,e5,e6,e7⟩:=hh.ex;walk_at"g2";walk_at"go";refine lX hh nr (List.mem_map.mpr ⟨_,hz,rfl⟩) fun H1 S1=> ?_;have e11:=S1 _ _ e1;walk_at"go";refine bN (.inl (S1 _ _ e2)) (BU nr hz) ?_;walk_at"go";exact k _ S1
theorem lF (m:M K mg):Mc P w K mg base m.aI "holds" 3 (uJ m.aI (aM P w K mg base (some 4))):=⟨_,_,_,m.aX.ic.cl,m.CN,m.nO.b,BX m⟩
inductive uL (C:Addr)(D:aU)(vs:List V)(H:Hp)(Q:VK)(E:XK):Prop
 | mk (h:Addr) (z:Str) (f l:Int) (rz ps:List (Str×Int)) (ds:List aD) (_:vs=[.ref h,.str z]) (_:aR C D H h f l rz ps ds) (_:(rz.map (·.1)).Nodup) (_:z∈rz.map (·.1)) (_:∀H',Same H H'->Q (.int (dJ ps z)) H'):uL C D vs H Q E
theorem wP {C:Addr}{D:aU}{H:Hp}{Q:VK}{E:XK}{h:Addr}{z:Str}{f l:Int}{rz ps:List (Str×Int)}{ds:List aD} (hh:aR C D H h f l rz ps ds) (nr:(rz.map (·.1)).Nodup) (hz:z∈rz.map (·.1)) (k:∀H',Same H H'->Q (.int (dJ ps z)) H'):uL C D [.ref h,.str z] H Q E:=⟨_,_,_,_,_,_,_,rfl,hh,nr,hz,k⟩
theorem B0 (m:M K mg):FnOk P w K mg base CX0 3 m.nA m.nM.d ["self","room"] (uL m.aI (aM P w K mg base (some 4))):=by
 refine m.nM.F.ok sc_House_found (fun vs H Q E h=> ?_) (fun cdv A outer s H vs Q E hr h=> ?_)
 ·walk_at"g1";obtain⟨h,z,f,l,rz,ps,ds,rfl,hh,nr,hz,k⟩:=h;walk_at"g2";rfl
 ·walk_at"g1";obtain⟨h,z,f,l,rz,ps,ds,rfl,hh,nr,hz,k⟩:=h;walk_at"g2";have nd:=sc_House_found.nd;walk_at"hu";have w_dc_House:=m.aX;have w_mc_House_need_room:= @eG P w K mg base m;refine⟨_,(aB (bP (d5 2 hr (pv 0) (aA (pv 1) aC)))
   (aF (aT (bK hu1 (bB (pv 0) rfl) (pv 1) (fun _ _=>rfl))))),?_⟩
  refine aO (σ:=[some (.ref h),some (.str z)]) rfl ?_;walk_at"cx";walk_at"g1";obtain⟨dx,qs,qp,qd,nk,kvs,e1,e2,e3,e4,e5,e6,e7⟩:=hh.ex;walk_at"g2";walk_at"go";refine lX hh nr hz fun H1 S1=> ?_;have e11:=S1 _ _ e1;walk_at"go";refine bN (.inl (S1 _ _ e3)) (e5 z hz) ?_;walk_at"go";exact k _ S1
theorem lO (m:M K mg):Mc P w K mg base m.aI "found" 3 (uL m.aI (aM P w K mg base (some 4))):=⟨_,_,_,m.aX.ic.cl,m.CB,m.nM.b,B0 m⟩
inductive wD (C:Addr)(D:aU)(vs:List V)(H:Hp)(Q:VK)(E:XK):Prop
 | mk (h:Addr) (d:aD) (f l:Int) (rz ps:List (Str×Int)) (ds:List aD) (_:vs=[.ref h,.str d.1]) (_:aR C D H h f l rz ps ds) (_:(ds.map (·.1)).Nodup) (_:d∈ds) (_:∀v,D.at' H v d->Q v H):wD C D vs H Q E
theorem sZ {C:Addr}{D:aU}{H:Hp}{Q:VK}{E:XK}{h:Addr}{d:aD}{f l:Int}{rz ps:List (Str×Int)}{ds:List aD} (hh:aR C D H h f l rz ps ds) (nd:(ds.map (·.1)).Nodup) (hd:d∈ds) (k:∀v,D.at' H v d->Q v H):wD C D [.ref h,.str d.1] H Q E:=⟨_,_,_,_,_,_,_,rfl,hh,nd,hd,k⟩
theorem DX (m:M K mg):FnOk P w K mg base CX0 1 m.qH m.qT.d ["self","name"] (wD m.aI (aM P w K mg base (some 4))):=by
 refine m.qT.F.ok sc_House_door (fun vs H Q E h=> ?_) (fun cdv A outer s H vs Q E hr h=> ?_)
 ·walk_at"g1";obtain⟨h,d,f,l,rz,ps,ds,rfl,hh,ndd,hd,k⟩:=h;walk_at"g2";rfl
 ·walk_at"g1";obtain⟨h,d,f,l,rz,ps,ds,rfl,hh,ndd,hd,k⟩:=h;walk_at"g2";have nd:=sc_House_door.nd;walk_at"hu";have w_dc_House:=m.aX;refine⟨_,(aB (b9 (GF (DT hu1 (pv 1) (bB (pv 0) rfl)) (by with_unfolding_all rfl)) (aF dO) bL)
   (aF (aT (bK hu1 (bB (pv 0) rfl) (pv 1) (fun _ _=>rfl))))),?_⟩
  refine aO (σ:=[some (.ref h),some (.str d.1)]) rfl ?_;walk_at"cx";walk_at"g1";obtain⟨dx,qs,qp,qd,nk,kvs,e1,e2,e3,e4,e5,e6,e7⟩:=hh.ex;walk_at"g2";obtain⟨v,ev,hv⟩:=UF e7 ndd hd;walk_at"go";refine AN (.inl e6) ?_;rw[show (bD nk (.inr d.1)).isSome=true by rw[ev];rfl];walk_at"go";refine bN (.inl e6) ev ?_;walk_at"go";exact k _ hv
theorem d6 (m:M K mg):Mc P w K mg base m.aI "door" 1 (wD m.aI (aM P w K mg base (some 4))):=⟨_,_,_,m.aX.ic.cl,m.EK,m.qT.b,DX m⟩
def bF (rz:List (Str×Int))(f:Int)(n:Nat):List (Str×Int):=((List.range n).map fun (i:Nat)=>rz.map fun e=>(e.1,f+(i:Int))).flatten
theorem iW (rz:List (Str×Int))(f:Int)(n:Nat):bF rz f (n+1)=bF rz f n++rz.map fun e=>(e.1,f+(n:Int)):=by
 unfold bF;rw[List.range_succ,List.map_append,List.flatten_append];simp
theorem oA (rz:List (Str×Int))(f:Int):∀n,(bF rz f n).length=n * rz.length
 | 0=>by simp[bF]
 | n+1=>by rw[iW,List.length_append,oA rz f n,List.length_map,Nat.succ_mul]
theorem FY {H:Hp}{t:Int}:∀{rz:List (Str×Int)}{ys:List V},Paired (fun (e:Key×V) y=>∀z,e.1= .inr z->cB H y (z,t)) (szK rz) ys->Paired (cB H) ys (rz.map fun e=>(e.1,t))
 | [],_,.nil=> .nil
 | _::_,_,.cons h t=> .cons (h _ rfl) (FY t)
theorem KL {H H':Hp}{p:Addr}{xs ws:List V}{ps:List (Str×Int)} (h:Paired (cB H) ws ps) (e:H p=some (.lst xs)) (sb:SameBut p H H'):Paired (cB H') ws ps:=Paired.imp' (fun v r ⟨q,e1,h⟩=>⟨q,e1,sb _ _ h fun z=>by rw[z,e]at h;cases h⟩) h
theorem uB {α β:Type}{F:α->β->Prop}:∀{l l2:List α}{m m2:List β},Paired F l m->Paired F l2 m2->Paired F (l++l2) (m++m2)
 | _,_,_,_,.nil,h=>h
 | _,_,_,_,.cons r t,h=> .cons r (uB t h)
inductive uA (C:Addr)(D:aU)(vs:List V)(H:Hp)(Q:VK)(E:XK):Prop
 | mk (h:Addr) (f l:Int) (rz ps:List (Str×Int)) (ds:List aD) (_:vs=[.ref h]) (_:aR C D H h f l rz ps ds) (_:0<=f) (_:f<=l) (_:l<1000000000000) (_:l - f<=1000) (_:rz.length<=20) (_:∀p ys H',H p=none->Same H H'->H' p=some (.lst ys)->Paired (cB H') ys (bF rz f (l+1 - f).toNat)->Q (.ref p) H'):uA C D vs H Q E
theorem wF {C:Addr}{D:aU}{H:Hp}{Q:VK}{E:XK}{h:Addr}{f l:Int}{rz ps:List (Str×Int)}{ds:List aD} (hh:aR C D H h f l rz ps ds) (h0:0<=f) (h1:f<=l) (h2:l<1000000000000) (h3:l - f<=1000) (lr:rz.length<=20) (k:∀p ys H',H p=none->Same H H'->H' p=some (.lst ys)->Paired (cB H') ys (bF rz f (l+1 - f).toNat)->Q (.ref p) H'):uA C D [.ref h] H Q E:=⟨_,_,_,_,_,_,rfl,hh,h0,h1,h2,h3,lr,k⟩
theorem BB (m:M K mg):FnOk P w K mg base CX0 1 m.nQ m.nN.d ["self"] (uA m.aI (aM P w K mg base (some 4))):=by
 refine m.nN.F.ok sc_House_pairs (fun vs H Q E h=> ?_) (fun cdv A outer s H vs Q E hr h=> ?_)
 ·walk_at"g1";obtain⟨h,f,l,rz,ps,ds,rfl,hh,h0,h1,h2,h3,lr,k⟩:=h;walk_at"g2";rfl
 ·walk_at"g1";obtain⟨h,f,l,rz,ps,ds,rfl,hh,h0,h1,h2,h3,lr,k⟩:=h;walk_at"g2";have nd:=sc_House_pairs.nd;walk_at"hu";have w_dc_House:=m.aX;refine⟨_,(aB (aN (i:=1) nd rfl (by walk_at"oi") (fG aC))
   (aB (cS PassesOwn.never rfl (vT rfl m.jW (aA (bB (pv 0) rfl) (aA (aH bI (bB (pv 0) rfl) aE) aC))) (aK (i:=2) nd rfl (by walk_at"oi")) (aF (bP (wS PySem.F.plainAttrs_list PySem.F.slot_list_extend PySem.F.type_list_extend PH (pv 1) (aA (tD (cA (N:=["room","turn"]) (nl:=1) (ci:=[2]) rfl (blk (s.heap.objs.size+1) rfl rfl rfl (by kernel_rfl)) (yR (bB (pv 0) rfl)) (fun _ _ _ _=>(aK (i:=0) (show (["room","turn"]:List Str).Nodup by decide +kernel) rfl (by walk_at"oi"))) (fun _ _ _ _=>dL) (fun _ _ _ _=>(bV (aA (pv 0) (aA (pv 1) aC)))))) aC)))))
   (aF (aT (pv 1))))),?_⟩
  refine aO (σ:=[some (.ref h),none,none]) rfl ?_;walk_at"cx";walk_at"g1";obtain⟨dx,qs,qp,qd,nk,kvs,e1,e2,e3,e4,e5,e6,e7⟩:=hh.ex;walk_at"g2";have hl2:(szK rz).length=rz.length:=by unfold szK;rw[List.length_map]
  walk_at"go";rename_i p H1 n1 S1 ep;have e21:=S1 _ _ e2;have e11:=S1 _ _ e1;have hqsp:qs≠p:=fun z=>by rw[z,n1]at e2;cases e2
  have hhp:h≠p:=fun z=>by rw[z,n1]at e1;cases e1
  let Pv1:Nat->St->Hp->Prop:=fun i σ' H'=>SameBut p H1 H'/\(∃ys,H' p=some (.lst ys)/\Paired (cB H') ys (bF rz f i))/\∃x,σ'=[some (.ref h),some (.ref p),x];refine oP Pv1 ⟨SameBut.refl,⟨[],ep,.nil⟩,_,rfl⟩ ?_ ?_
  ·rintro i _ H' hi hq_;walk_at"g1";obtain⟨sb,⟨ys,ey,hys⟩,x,rfl⟩:=hq_;walk_at"g2";have e2':=sb _ _ e21 hqsp;have e1':=sb _ _ e11 hhp;have hyl:ys.length=i * rz.length:=by rw[Paired.length hys,oA]
   have hyb:ys.length<=1001 * 20:=by
    rw[hyl];exact Nat.mul_le_mul (by lia) lr
   walk_at"go";refine pJ e2' AG ?_;walk_at"go";refine yA e2' fun o H2 B2 e22=> ?_;have hpq:p≠qs:=Ne.symm hqsp;refine PD (fun _=>true) (fun e y H=>∀z,e.1= .inr z->cB H y (z,f+(i:Int))) (fun _ _ _ _ hh s z hz=>let ⟨q,a1,a2⟩:=hh z hz;⟨q,a1,s _ _ a2⟩) (by rw[sizeLine_eq];lia) (rest:=[some (.int (f+(i:Int)))]) (by rfl) e22 (fun x H6 hx s6 R hR=>hR _ (Same.refl _)) ?_ ?_
   ·rintro x H6 hx - s6 R hR;obtain⟨e,he,rfl⟩:=List.mem_map.mp hx;show (_:TE) (some (V.str e.1)::[some (.int (f+(i:Int)))]) H6 R;walk_at"go";rename_i q7 H7 n7 S7 e77;exact hR _ _ (fun z hz=>by cases hz;exact⟨q7,rfl,e77⟩) S7
   intro zs H3 s3 hzs;rw[cT]at hzs;have hzp:=FY hzs;walk_at"go";rename_i q4 H4 n4 S4 e44;refine jR (S4 _ _ (s3 _ _ e22)) fun H5 B5 e55=> ?_;have hq4:q4≠qs:=fun z=>by rw[z,s3 _ _ e22]at n4;cases n4
   have ey2:=B2 _ _ ey hpq;have ey5:H5 p=some (.lst ys):=B5 _ _ (S4 _ _ (s3 _ _ ey2)) hpq;have sX:Same H' H5:=rA e2' B2 (Same.but (s3.trans S4)) B5 e55;have hz5:Paired (cB H5) zs (rz.map fun e=>(e.1,f+(i:Int))):=Paired.imp' (fun v r ⟨q,a1,a2⟩=>⟨q,a1,B5 _ _ (S4 _ _ a2) fun z=>by rw[z,s3 _ _ e22]at a2;cases a2⟩) hzp;have hzl:zs.length=rz.length:=by rw[Paired.length hz5,List.length_map]
   walk_at"go";refine P8 ey5 (B5 _ _ e44 hq4) (by rw[sizeLine_eq];lia) fun H6 B6 e66=> ?_;walk_at"go";refine⟨(sb.trans sX.but).trans B6,⟨_,e66,?_⟩,_,rfl⟩;rw[iW];exact uB (KL (kC hys sX) ey5 B6) (KL hz5 ey5 B6)
  ·rintro _ H' hq_;walk_at"g1";obtain⟨sb,⟨ys,ey,hys⟩,x,rfl⟩:=hq_;walk_at"g2";walk_at"go";exact k _ _ _ n1 (SameBut.same n1 S1 sb) ey hys
theorem gZ (m:M K mg):Mc P w K mg base m.aI "pairs" 1 (uA m.aI (aM P w K mg base (some 4))):=⟨_,_,_,m.aX.ic.cl,m.CG,m.nN.b,BB m⟩
local macro_rules| `(tactic| walk_at"rd1")=> `(tactic| first|(with_reducible refine rd_vals ?_)|(with_reducible refine aA2 ?_)|(with_reducible refine aAR ?_)|(with_reducible refine aAu ?_)|(with_reducible refine Y9 ?_)|(with_reducible refine rd_v15 ?_)|(with_reducible refine rd_s15 ?_)|(with_reducible refine rd_v16 ?_)|(with_reducible refine rd_s16 ?_)|(with_reducible refine rd_v17 ?_)|(with_reducible refine rd_s17 ?_)|(with_reducible refine rd_v18 ?_)|(with_reducible refine rd_s18 ?_)|(with_reducible refine rd_iEnum ?_)|((with_reducible refine' rd_iEnumV ?e ?_);(case e=>walk_at"hp"))|((with_reducible refine' rd_repS ?a ?b ?c ?_);(case a=>walk_at"sd");(case b=>walk_at"sd");(case c=>walk_at"sz")))
def gH (ds:List aD)(z:Str):List Str:=(ds.filter fun d=>decide (d.2.1=z)).map (·.1)
def eU (ds:List aD)(z:Str):List Str:=(ds.filter fun d=>decide (d.2.2.1= .str z)).map (·.1)
inductive oJ (C:Addr)(D:aU)(g:List aD->Str->List Str)(vs:List V)(H:Hp)(Q:VK)(E:XK):Prop
 | mk (h:Addr) (z:Str) (f l:Int) (rz ps:List (Str×Int)) (ds:List aD) (_:vs=[.ref h,.str z]) (_:aR C D H h f l rz ps ds) (_:(rz.map (·.1)).Nodup) (_:z∈rz.map (·.1)) (_:ds.length<=20) (_:(∀d∈ds,c9 (rz.map (·.1)) d)) (_:∀p H',H p=none->Same H H'->H' p=some (.lst ((g ds z).map V.str))->Q (.ref p) H'):oJ C D g vs H Q E
theorem zR {C:Addr}{D:aU}{g:List aD->Str->List Str}{H:Hp}{Q:VK}{E:XK}{h:Addr}{z:Str}{f l:Int}{rz ps:List (Str×Int)}{ds:List aD} (hh:aR C D H h f l rz ps ds) (nr:(rz.map (·.1)).Nodup) (hz:z∈rz.map (·.1)) (ld:ds.length<=20) (hin:∀d∈ds,c9 (rz.map (·.1)) d) (k:∀p H',H p=none->Same H H'->H' p=some (.lst ((g ds z).map V.str))->Q (.ref p) H'):oJ C D g [.ref h,.str z] H Q E:=⟨_,_,_,_,_,_,_,rfl,hh,nr,hz,ld,hin,k⟩
theorem u8 (m:M K mg):FnOk P w K mg base CX0 3 m.iO m.iQ.d ["self","room"] (oJ m.aI (aM P w K mg base (some 4)) gH):=by
 refine m.iQ.F.ok sc_House_from_room (fun vs H Q E h=> ?_) (fun cdv A outer s H vs Q E hr h=> ?_)
 ·walk_at"g1";obtain⟨h,z,f,l,rz,ps,ds,rfl,hh,nr,hz,hlen,hin,k⟩:=h;walk_at"g2";rfl
 ·walk_at"g1";obtain⟨h,z,f,l,rz,ps,ds,rfl,hh,nr,hz,hlen,hin,k⟩:=h;walk_at"g2";have nd:=sc_House_from_room.nd;walk_at"hu";have w_dc_House:=m.aX;have w_mc_House_need_room:= @eG P w K mg base m;refine⟨_,(aB (bP (d5 2 hr (pv 0) (aA (pv 1) aC)))
   (aF (aT (tD (cA (N:=["name","door","room"]) (nl:=2) (ci:=[1]) rfl (blk (s.heap.objs.size+1) rfl rfl rfl (by kernel_rfl)) (DC (bB (pv 0) rfl)) (fun _ _ _ _=>(g9 (K:=K) (n:=2) rfl (aW (aK (i:=0) (show (["name","door","room"]:List Str).Nodup by decide +kernel) rfl (by walk_at"oi")) (aW (aK (i:=1) (show (["name","door","room"]:List Str).Nodup by decide +kernel) rfl (by walk_at"oi")) cV)))) (fun _ _ _ _=>(fR (aV jX (oN (K:=K) (pv 1) rfl) (pv 2) (aY _)))) (fun _ _ _ _=>(pv 0))))))),?_⟩
  refine aO (σ:=[some (.ref h),some (.str z)]) rfl ?_;walk_at"cx";walk_at"g1";obtain⟨dx,qs,qp,qd,nk,kvs,e1,e2,e3',e4',e5',e6,e7⟩:=hh.ex;walk_at"g2";walk_at"go";refine lX hh nr hz fun H1 S1=> ?_;have e31:=S1 _ _ e6;have e11:=S1 _ _ e1;walk_at"go";refine pJ e31 AG ?_;walk_at"go";refine DR e31 fun o H2 B2 e32=> ?_;have hn2:nY (aM P w K mg base (some 4)) H2 nk ds:=Paired.imp' (fun e d h=>⟨h.1,(aM P w K mg base (some 4)).but ((aM P w K mg base (some 4)).same h.2 S1) e31 trivial B2⟩) e7;refine JT (α:=aD) (xs:=ds) (fun e d=>e.1= .inr d.1/\(aM P w K mg base (some 4)).at' H2 e.2 d) (fun d=>decide (d.2.1=z)) (fun d y _=>y= .str d.1) (fun _ _ _ _ h _=>h) (by rw[sizeLine_eq];lia) (rest:=[some (.str z)]) (by rfl) e32 hn2 ?_ ?_ ?_
  ·rintro ⟨kk,v⟩ ⟨n,st,e,lt⟩ H3 ⟨h1,h2⟩ hm s3 R hR;walk_at"g1";obtain⟨q,C9,dx,fs,fp,h3,hq,dcC,l1,l2,l3,l4,l5,mcE,hfp,hlt⟩:=DoorAt.ex h2;walk_at"g2";cases h1;have h3:v= .ref q:=h3;subst h3;have hq:=s3 _ _ hq;show (_:TT) (some (V.str n)::some (V.ref q)::[some (.str z)]) H3 R;walk_at"go";exact hR _ (Same.refl _)
  ·rintro ⟨kk,v⟩ ⟨n,st,e,lt⟩ H3 ⟨h1,h2⟩ hm - s3 R hR;cases h1;show (_:TE) (some (V.str n)::some v::[some (.str z)]) H3 R;walk_at"go";exact hR _ _ rfl (Same.refl _)
  intro ys H3 s3 hys;have ey:=cY hys;walk_at"go";rename_i p H4 n4 S4 e4;refine jR (S4 _ _ (s3 _ _ e32)) fun H5 B5 e5=> ?_;have hpq:p≠qd:=fun z=>by rw[z,s3 _ _ e32]at n4;cases n4
  have hn:H p=none:=by
   cases hq:H p with
   | none=>rfl
   | some u =>
    have:=s3 _ _ (B2 _ _ (S1 _ _ hq) hpq);rw[n4]at this;cases this
  walk_at"go";refine k p H5 hn (rA e6 (fun x u hx hxa=>B2 _ _ (S1 _ _ hx) hxa) (Same.but (s3.trans S4)) B5 e5) ?_;have:=B5 _ _ e4 hpq;rw[this,ey];unfold gH;rw[List.map_map];rfl
theorem vZ (m:M K mg):Mc P w K mg base m.aI "from_room" 3 (oJ m.aI (aM P w K mg base (some 4)) gH):=⟨_,_,_,m.aX.ic.cl,m.v7,m.iQ.b,u8 m⟩
theorem DZ (m:M K mg):FnOk P w K mg base CX0 3 m.qS m.qD.d ["self","room"] (oJ m.aI (aM P w K mg base (some 4)) eU):=by
 refine m.qD.F.ok sc_House_into (fun vs H Q E h=> ?_) (fun cdv A outer s H vs Q E hr h=> ?_)
 ·walk_at"g1";obtain⟨h,z,f,l,rz,ps,ds,rfl,hh,nr,hz,hlen,hin,k⟩:=h;walk_at"g2";rfl
 ·walk_at"g1";obtain⟨h,z,f,l,rz,ps,ds,rfl,hh,nr,hz,hlen,hin,k⟩:=h;walk_at"g2";have nd:=sc_House_into.nd;walk_at"hu";have w_dc_House:=m.aX;have w_mc_House_need_room:= @eG P w K mg base m;refine⟨_,(aB (bP (d5 2 hr (pv 0) (aA (pv 1) aC)))
   (aF (aT (tD (cA (N:=["name","door","room"]) (nl:=2) (ci:=[1]) rfl (blk (s.heap.objs.size+1) rfl rfl rfl (by kernel_rfl)) (DC (bB (pv 0) rfl)) (fun _ _ _ _=>(g9 (K:=K) (n:=2) rfl (aW (aK (i:=0) (show (["name","door","room"]:List Str).Nodup by decide +kernel) rfl (by walk_at"oi")) (aW (aK (i:=1) (show (["name","door","room"]:List Str).Nodup by decide +kernel) rfl (by walk_at"oi")) cV)))) (fun _ _ _ _=>(fR (aV jX (oN (K:=K) (pv 1) rfl) (pv 2) (aY _)))) (fun _ _ _ _=>(pv 0))))))),?_⟩
  refine aO (σ:=[some (.ref h),some (.str z)]) rfl ?_;walk_at"cx";walk_at"g1";obtain⟨dx,qs,qp,qd,nk,kvs,e1,e2,e3',e4',e5',e6,e7⟩:=hh.ex;walk_at"g2";walk_at"go";refine lX hh nr hz fun H1 S1=> ?_;have e31:=S1 _ _ e6;have e11:=S1 _ _ e1;walk_at"go";refine pJ e31 AG ?_;walk_at"go";refine DR e31 fun o H2 B2 e32=> ?_;have hn2:nY (aM P w K mg base (some 4)) H2 nk ds:=Paired.imp' (fun e d h=>⟨h.1,(aM P w K mg base (some 4)).but ((aM P w K mg base (some 4)).same h.2 S1) e31 trivial B2⟩) e7;refine JT (α:=aD) (xs:=ds) (fun e d=>e.1= .inr d.1/\(aM P w K mg base (some 4)).at' H2 e.2 d) (fun d=>decide (d.2.2.1= .str z)) (fun d y _=>y= .str d.1) (fun _ _ _ _ h _=>h) (by rw[sizeLine_eq];lia) (rest:=[some (.str z)]) (by rfl) e32 hn2 ?_ ?_ ?_
  ·rintro ⟨kk,v⟩ ⟨n,st,e,lt⟩ H3 ⟨h1,h2⟩ hm s3 R hR;walk_at"g1";obtain⟨q,C9,dx,fs,fp,h3,hq,dcC,l1,l2,l3,l4,l5,mcE,hfp,hlt⟩:=DoorAt.ex h2;walk_at"g2";cases h1;have h3:v= .ref q:=h3;subst h3;have hq:=s3 _ _ hq;have hend:=(hin _ hm).2;have hR':=hR _ (Same.refl _);show (_:TT) (some (V.str n)::some (V.ref q)::[some (.str z)]) H3 R;rcases hend with hend|⟨y,hend,hy⟩
   ·have hde:e= .non:=hend;subst hde;rw[show decide (((n,st,V.non,lt):aD).2.2.1= .str z)=false from decide_eq_false fun z=>nomatch z]at hR';walk_at"go";exact hR'
   ·have hde:e= .str y:=hend;subst hde;rw[show decide (((n,st,V.str y,lt):aD).2.2.1= .str z)=decide (y=z) by
     by_cases h:y=z
     ·rw[decide_eq_true h];exact decide_eq_true (by rw[h])
     ·rw[decide_eq_false h];exact decide_eq_false fun x=>h (V.str.inj x)]at hR'
    walk_at"go";exact hR'
  ·rintro ⟨kk,v⟩ ⟨n,st,e,lt⟩ H3 ⟨h1,h2⟩ hm - s3 R hR;cases h1;show (_:TE) (some (V.str n)::some v::[some (.str z)]) H3 R;walk_at"go";exact hR _ _ rfl (Same.refl _)
  intro ys H3 s3 hys;have ey:=cY hys;walk_at"go";rename_i p H4 n4 S4 e4;refine jR (S4 _ _ (s3 _ _ e32)) fun H5 B5 e5=> ?_;have hpq:p≠qd:=fun z=>by rw[z,s3 _ _ e32]at n4;cases n4
  have hn:H p=none:=by
   cases hq:H p with
   | none=>rfl
   | some u =>
    have:=s3 _ _ (B2 _ _ (S1 _ _ hq) hpq);rw[n4]at this;cases this
  walk_at"go";refine k p H5 hn (rA e6 (fun x u hx hxa=>B2 _ _ (S1 _ _ hx) hxa) (Same.but (s3.trans S4)) B5 e5) ?_;have:=B5 _ _ e4 hpq;rw[this,ey];unfold eU;rw[List.map_map];rfl
theorem EA (m:M K mg):Mc P w K mg base m.aI "into" 3 (oJ m.aI (aM P w K mg base (some 4)) eU):=⟨_,_,_,m.aX.ic.cl,m.EQ,m.qD.b,DZ m⟩
def dZ (f l:Int)(d:aD)(t:Int):Int:=if f<=t/\t<l then d.2.2.2 t else 0
inductive uG (C:Addr)(D:aU)(vs:List V)(H:Hp)(Q:VK)(E:XK):Prop
 | mk (h:Addr) (d:aD) (t f l:Int) (rz ps:List (Str×Int)) (ds:List aD) (_:vs=[.ref h,.str d.1,.int t]) (_:aR C D H h f l rz ps ds) (_:(ds.map (·.1)).Nodup) (_:d∈ds) (_:0<=f) (_:∀H',Same H H'->Q (.int (dZ f l d t)) H'):uG C D vs H Q E
theorem JZ {C:Addr}{D:aU}{H:Hp}{Q:VK}{E:XK}{h:Addr}{d:aD}{t f l:Int}{rz ps:List (Str×Int)}{ds:List aD} (hh:aR C D H h f l rz ps ds) (nd:(ds.map (·.1)).Nodup) (hd:d∈ds) (hf:0<=f) (k:∀H',Same H H'->Q (.int (dZ f l d t)) H'):uG C D [.ref h,.str d.1,.int t] H Q E:=⟨_,_,_,_,_,_,_,_,rfl,hh,nd,hd,hf,k⟩
theorem D7 (m:M K mg):FnOk P w K mg base CX0 6 m.p9 m.qR.d ["self","name","turn"] (uG m.aI (aM P w K mg base (some 4))):=by
 refine m.qR.F.ok sc_House_lets (fun vs H Q E h=> ?_) (fun cdv A outer s H vs Q E hr h=> ?_)
 ·walk_at"g1";obtain⟨h,d,t,f,l,rz,ps,ds,rfl,hh,ndd,hd,hf,k⟩:=h;walk_at"g2";rfl
 ·walk_at"g1";obtain⟨h,d,t,f,l,rz,ps,ds,rfl,hh,ndd,hd,hf,k⟩:=h;walk_at"g2";have nd:=sc_House_lets.nd;walk_at"hu";have w_dc_House:=m.aX;have w_mc_House_door:= @d6 P w K mg base m;refine⟨_,(aB (aN (i:=3) nd rfl (by walk_at"oi") (d5 1 hr (pv 0) (aA (pv 1) aC)))
   (aB (b9 (PW.pt (MP (aV iZ (pv 2) (bB (pv 0) rfl) (aY _)) (FM (aV ES (pv 2) (bB (pv 0) rfl) (aY _))))) (aF (aT aE)) bL)
   (aF (aT (d5 4 hr (pv 3) (aA (pv 2) aC)))))),?_⟩
  refine aO (σ:=[some (.ref h),some (.str d.1),some (.int t),none]) rfl ?_;walk_at"cx";walk_at"g1";obtain⟨dx,qs,qp,qd,nk,kvs,e1,_⟩:=hh.ex;walk_at"g2";walk_at"g1";obtain⟨n,st,e,lt⟩:=d;walk_at"g2";walk_at"go";refine sZ (d:=(n,st,e,lt)) hh ndd hd fun v hv=> ?_;walk_at"g1";obtain⟨q2,C2,dx2,fs2,fp2,rfl,hq2,dcC,l1,l2,l3,l4,l5,mcE,hfp,hlt⟩:=DoorAt.ex hv;walk_at"g2";obtain⟨sp,mcL,hsp⟩:=hlt _ rfl;walk_at"go";refine cM (fun hc=> ?_) (fun hc=> ?_)
  ·have hk:dZ f l (n,st,e,lt) t=0:=by unfold dZ;rw[if_neg (by lia)]
   rw[hk]at k;walk_at"go";exact k _ (Same.refl _)
  ·walk_at"go";refine cM (fun hc2=> ?_) (fun hc2=> ?_)
   ·have hk:dZ f l (n,st,e,lt) t=0:=by unfold dZ;rw[if_neg (by lia)]
    rw[hk]at k;walk_at"go";exact k _ (Same.refl _)
   ·have hk:dZ f l (n,st,e,lt) t=lt t:=by unfold dZ;rw[if_pos (by lia)]
    rw[hk]at k;walk_at"go";exact hsp _ _ _ hq2 (fun x hx=>(hfp x hx).1) (by lia) k
theorem uU (m:M K mg):Mc P w K mg base m.aI "lets" 6 (uG m.aI (aM P w K mg base (some 4))):=⟨_,_,_,m.aX.ic.cl,m.EN,m.qR.b,D7 m⟩
def vE (H:Hp)(v:V)(r:aJ):Prop:=∃q,v= .ref q/\H q=some (.tup [.int r.1,.str r.2.1,.int r.2.2])
abbrev bJ (H:Hp)(vs:List V)(rows:List aJ):Prop:=Paired (vE H) vs rows
theorem cJ {H H':Hp}{vs:List V}{rows:List aJ} (h:bJ H vs rows) (s:Same H H'):bJ H' vs rows:=Paired.imp' (fun v r ⟨q,e,h⟩=>⟨q,e,s _ _ h⟩) h
theorem fZ {α β:Type}{F:α->β->Prop}:∀{l:List α}{m:List β},Paired F l m->Paired (fun b a=>F a b) m l
 | _,_,.nil=> .nil
 | _,_,.cons h t=> .cons h (fZ t)
def cnt (ns:List Str)(f l:Int)(r:aJ):Bool:=decide (r.2.1∈ns)&&(decide (f<=r.1)&&decide (r.1<l))
inductive t6 (K:PySem.W.Frag)(C:Addr)(D:aU)(vs:List V)(H:Hp)(Q:VK)(E:XK):Prop
 | mk (h a:Addr) (f l:Int) (rz ps:List (Str×Int)) (ds:List aD) (us:List V) (rows:List aJ) (_:vs=[.ref h,.ref a]) (_:aR C D H h f l rz ps ds) (_:SqL K H a us) (_:bJ H us rows) (_:rows.length<=200) (_:∀p ys H',H p=none->Same H H'->H' p=some (.lst ys)->bJ H' ys (rows.filter (cnt (ds.map (·.1)) f l))->Q (.ref p) H'):t6 K C D vs H Q E
theorem BZ {C:Addr}{D:aU}{H:Hp}{Q:VK}{E:XK}{h a:Addr}{f l:Int}{rz ps:List (Str×Int)}{ds:List aD}{us:List V}{rows:List aJ} (hh:aR C D H h f l rz ps ds) (hS:SqL K H a us) (hp:bJ H us rows) (hl:rows.length<=200) (k:∀p ys H',H p=none->Same H H'->H' p=some (.lst ys)->bJ H' ys (rows.filter (cnt (ds.map (·.1)) f l))->Q (.ref p) H'):t6 K C D [.ref h,.ref a] H Q E:=⟨_,_,_,_,_,_,_,_,_,rfl,hh,hS,hp,hl,k⟩
theorem vG (m:M K mg):FnOk P w K mg base CX0 2 m.iR m.eX.d ["house","plan"] (t6 K m.aI (aM P w K mg base (some 4))):=by
 refine m.eX.F.ok sc_rows_that_count (fun vs H Q E h=> ?_) (fun cdv A outer s H vs Q E hr h=> ?_)
 ·walk_at"g1";obtain⟨h,a,f,l,rz,ps,ds,us,rows,rfl,hh,hS,hpl,hlen,k⟩:=h;walk_at"g2";rfl
 ·walk_at"g1";obtain⟨h,a,f,l,rz,ps,ds,us,rows,rfl,hh,hS,hpl,hlen,k⟩:=h;walk_at"g2";have nd:=sc_rows_that_count.nd;walk_at"hu";have w_dc_House:=m.aX;have w_mc_House_doors:= @hU P w K mg base m;refine⟨_,(aB (aN (i:=2) nd rfl (by walk_at"oi") (dA 1 hr (pv 0)))
   (aF (aT (cA (N:=["row","doors","house"]) (nl:=1) (ci:=[2,0]) rfl (blk (s.heap.objs.size+1) rfl rfl rfl (by kernel_rfl)) (bH (pv 1)) (fun _ _ _ _=>(aK (i:=0) (show (["row","doors","house"]:List Str).Nodup by decide +kernel) rfl (by walk_at"oi"))) (fun _ _ _ _=>(fR (PW.pt (vH (aV (L3 (K:=K)) (dI (k8 (K:=K)) (pv 0) aE (fun _ _=>rfl)) (pv 1) (by with_unfolding_all rfl)) (sJ (SI EU iZ (oN (K:=K) (pv 2) rfl) (dI (k8 (K:=K)) (pv 0) aE (fun _ _=>rfl)) (oN (K:=K) (pv 2) rfl))))))) (fun _ _ _ _=>(pv 0)))))),?_⟩
  refine aO (σ:=[some (.ref h),some (.ref a),none]) rfl ?_;walk_at"cx";walk_at"g1";obtain⟨dx,qs,qp,qd,nk,kvs,e1,e2,e3,e4,e5,e6,e7⟩:=hh.ex;walk_at"g2";walk_at"go";refine fC hh fun p1 H1 n1 S1 e8=> ?_;have e11:=S1 _ _ e1;walk_at"go";refine dC (α:=aJ) (xs:=rows) (vs:=us) (vE H1) (cnt (ds.map (·.1)) f l) (fun r y H=>vE H y r) (fun _ _ _ _ ⟨q,h1,h2⟩ s=>⟨q,h1,s _ _ h2⟩) (by rw[sizeLine_eq];lia) (rest:=[some (.ref p1),some (.ref h)]) (by rfl) (S1.seq hS) (cJ hpl S1) ?_ ?_ ?_
  ·rintro v ⟨t0,n0,j0⟩ H2 ⟨q,rfl,hq⟩ hm s2 R hR;have hq':H2 q=some (.tup [.int t0,.str n0,.int j0]):=s2 _ _ hq;have ep:=s2 _ _ e8;have eh:=s2 _ _ e11;walk_at"go";refine⟨q,_,1,_,rfl,rfl,SqT.of hq',rfl,?_⟩;walk_at"go";refine QB (SqL.of ep) ?_;have hR':=hR _ (Same.refl _);unfold cnt at hR';walk_at"go";refine cM (fun hc=> ?_) (fun hc=> ?_)
   ·rw[decide_eq_true hc,Bool.true_and]at hR';walk_at"go";refine⟨q,_,0,_,rfl,rfl,SqT.of hq',rfl,?_⟩;walk_at"go";refine cM (fun hc2=> ?_) (fun hc2=> ?_)
    ·rw[decide_eq_true hc2,Bool.true_and]at hR';walk_at"go";exact hR'
    ·rw[decide_eq_false hc2,Bool.false_and]at hR';exact⟨false,rfl,hR'⟩
   ·rw[decide_eq_false hc,Bool.false_and]at hR';exact hR'
  ·rintro v ⟨t0,n0,j0⟩ H2 ⟨q,rfl,hq⟩ hm - s2 R hR;walk_at"go";exact hR _ _ ⟨q,rfl,s2 _ _ hq⟩ (Same.refl _)
  intro ys H2 s2 hys;have hpl2:=fZ hys;walk_at"go";rename_i p3 H3 n3 S3 e33;refine k _ _ _ ?_ ((S1.trans s2).trans S3) e33 (cJ hpl2 S3);cases hq:H p3 with
  | none=>rfl
  | some u=>rw[s2 _ _ (S1 _ _ hq)]at n3;cases n3
theorem gR (m:M K mg):Fc P w K mg base "rows_that_count" 2 ["house","plan"] (t6 K m.aI (aM P w K mg base (some 4))):=⟨_,_,m.xE,m.eX.F.kp,m.eX.b,vG m⟩
def vJ (key:aJ->Option (List Key))(kvs:List (List Key×V))(r:aJ):List (List Key×V):=match key r with
 | some k=>cC kvs k (.int (tQ ((bD kvs k).getD (.int 0))+r.2.2))
 | none=>kvs
def iM (key:aJ->Option (List Key))(rows:List aJ):List (List Key×V):=rows.foldl (vJ key) []
theorem jV (key:aJ->Option (List Key))(rows:List aJ)(r:aJ):iM key (rows++[r])=vJ key (iM key rows) r:=by unfold iM;rw[List.foldl_append];rfl
def fB (key:aJ->Option (List Key))(rows:List aJ)(k:List Key):Int:=((rows.filter fun r=>decide (key r=some k)).map (·.2.2)).sum
theorem QU (key:aJ->Option (List Key))(rows:List aJ)(r:aJ)(k:List Key):fB key (rows++[r]) k=fB key rows k+if key r=some k then r.2.2 else 0:=by
 unfold fB;rw[List.filter_append,List.map_append,List.sum_append]
 congr 1
 by_cases h:key r=some k
 ·rw[if_pos h];simp[h]
 ·rw[if_neg h];simp[h]
theorem TR (key:aJ->Option (List Key))(k:List Key)(rows:List aJ):tQ ((bD (iM key rows) k).getD (.int 0))=fB key rows k:=by
 induction rows using oO with
 | h0=>rfl
 | hs l r ih =>
  rw[jV,QU];unfold vJ;cases hk:key r with
  | none =>
   rw[if_neg (by intro z;cases z),Int.add_zero];exact ih
  | some k2 =>
   show tQ ((bD (cC (iM key l) k2 _) k).getD (.int 0))=_;rw[tL]
   by_cases e:k=k2
   ·subst e;rw[if_pos rfl,if_pos rfl,←ih];rfl
   ·rw[if_neg e,if_neg (fun z=>e (Option.some.inj z).symm),Int.add_zero];exact ih
theorem N1 (key:aJ->Option (List Key))(rows:List aJ):∀e∈iM key rows,∃i,e.2= .int i:=by
 induction rows using oO with
 | h0=>intro e h;nomatch h
 | hs l r ih =>
  rw[jV];unfold vJ;cases hk:key r with
  | none=>exact ih
  | some k2 =>
   intro e he;rcases GC he with h|⟨h1,h2⟩
   ·exact ih e h
   ·exact⟨_,h2⟩
theorem yS (key:aJ->Option (List Key))(rows:List aJ)(k:List Key):∃i,(bD (iM key rows) k).getD (.int 0)= .int i:=by
 cases h:bD (iM key rows) k with
 | none=>exact⟨0,rfl⟩
 | some v =>
  obtain⟨i,e⟩:=N1 key rows _ (C4 h);exact⟨i,e⟩
theorem E9 (key:aJ->Option (List Key))(rows:List aJ):(iM key rows).length<=rows.length:=by
 induction rows using oO with
 | h0=>exact Nat.le_refl _
 | hs l r ih =>
  rw[jV,List.length_append];unfold vJ;cases hk:key r with
  | none=>exact Nat.le_trans ih (Nat.le_add_right _ _)
  | some k2=>exact Nat.le_trans (fY _ _ _) (by simp;lia)
def cX (ds:List aD)(n:Str):Option aD:=ds.find? fun d=>decide (d.1=n)
theorem oB {ds:List aD}{n:Str} (h:n∈ds.map (·.1)):∃d∈ds,d.1=n/\cX ds n=some d:=by
 obtain⟨d,hd,e⟩:=List.mem_map.mp h;cases hf:cX ds n with
 | none =>
  have:=List.find?_eq_none.mp hf d hd;exact absurd (decide_eq_true e) this
 | some d2 =>
  have h1:decide (d2.1=n)=true:=List.find?_some (p:=fun d:aD=>decide (d.1=n)) hf;exact⟨d2,List.mem_of_find?_eq_some hf,of_decide_eq_true h1,rfl⟩
def dX (ds:List aD)(r:aJ):Option (List Key):=(cX ds r.2.1).map fun d=>[.inr d.2.1,.inl r.1]
def dW (ds:List aD)(r:aJ):Option (List Key):=(cX ds r.2.1).bind fun d=>match d.2.2.1 with
 | .str z=>some [.inr z,.inl r.1]
 | _=>none
inductive lB (K:PySem.W.Frag)(C:Addr)(D:aU)(key:List aD->aJ->Option (List Key))(vs:List V)(H:Hp)(Q:VK)(E:XK):Prop
 | mk (h a:Addr) (f l:Int) (rz ps:List (Str×Int)) (ds:List aD) (us:List V) (rows:List aJ) (_:vs=[.ref h,.ref a]) (_:aR C D H h f l rz ps ds) (_:(ds.map (·.1)).Nodup) (_:(∀d∈ds,c9 (rz.map (·.1)) d)) (_:SqL K H a us) (_:bJ H us rows) (_:rows.length<=200) (_:∀p H',H p=none->Same H H'->H' p=some (.dT (iM (key ds) (rows.filter (cnt (ds.map (·.1)) f l))))->Q (.ref p) H'):lB K C D key vs H Q E
theorem BG {C:Addr}{D:aU}{key:List aD->aJ->Option (List Key)}{H:Hp}{Q:VK}{E:XK}{h a:Addr}{f l:Int}{rz ps:List (Str×Int)}{ds:List aD}{us:List V}{rows:List aJ} (hh:aR C D H h f l rz ps ds) (nd:(ds.map (·.1)).Nodup) (hin:∀d∈ds,c9 (rz.map (·.1)) d) (hS:SqL K H a us) (hp:bJ H us rows) (hl:rows.length<=200) (k:∀p H',H p=none->Same H H'->H' p=some (.dT (iM (key ds) (rows.filter (cnt (ds.map (·.1)) f l))))->Q (.ref p) H'):lB K C D key [.ref h,.ref a] H Q E:=⟨_,_,_,_,_,_,_,_,_,rfl,hh,nd,hin,hS,hp,hl,k⟩
theorem MR (m:M K mg):FnOk P w K mg base CX0 3 m.wA m.rK.d ["house","plan"] (lB K m.aI (aM P w K mg base (some 4)) dX):=by
 refine m.rK.F.ok sc_leaving (fun vs H Q E h=> ?_) (fun cdv A outer s H vs Q E hr h=> ?_)
 ·walk_at"g1";obtain⟨h,a,f,l,rz,ps,ds,us,rows,rfl,hh,ndd,hin,hS,hpl,hlen,k⟩:=h;walk_at"g2";rfl
 ·walk_at"g1";obtain⟨h,a,f,l,rz,ps,ds,us,rows,rfl,hh,ndd,hin,hS,hpl,hlen,k⟩:=h;walk_at"g2";have nd:=sc_leaving.nd;walk_at"hu";have F_rows_that_count:= @gR P w K mg base m;have w_dc_House:=m.aX;have w_mc_House_door:= @d6 P w K mg base m;refine⟨_,(aB (aN (i:=2) nd rfl (by walk_at"oi") tY)
   (aB (cS PassesOwn.never rfl (bH (bA F_rows_that_count hr (aA (pv 0) (aA (pv 1) aC)))) (j4 (n:=3) rfl (aW (aK (i:=3) nd rfl (by walk_at"oi")) (aW (aK (i:=4) nd rfl (by walk_at"oi")) (aW (aK (i:=5) nd rfl (by walk_at"oi")) cV)))) (aB (aN (i:=6) nd rfl (by walk_at"oi") (bV (aA (bB (d5 1 hr (pv 0) (aA (pv 4) aC)) rfl) (aA (pv 3) aC))))
   (aF (dU hu1 (pv 2) (pv 6) (aH bI (k7 hu1 (pv 2) (pv 6) aE ⟨rfl,rfl,rfl,rfl⟩) (pv 5)) rfl))))
   (aF (aT (pv 2))))),?_⟩
  refine aO (σ:=[some (.ref h),some (.ref a),none,none,none,none,none]) rfl ?_;walk_at"cx";walk_at"go";rename_i p H1 n1 S1 ep;refine BZ (aP hh S1) (S1.seq hS) (cJ hpl S1) hlen fun q ys H2 n2 S2 eq hcr=> ?_;generalize hce:rows.filter (cnt (ds.map (·.1)) f l)=cr at hcr k;have hcn:∀r∈cr,r.2.1∈ds.map (·.1):=fun r hr=>by
   rw[←hce]at hr;have:=(List.mem_filter.mp hr).2;unfold cnt at this;rw[Bool.and_eq_true]at this;exact of_decide_eq_true this.1
  have hcl:cr.length<=200:=by rw[←hce];exact Nat.le_trans (List.length_filter_le _ _) hlen
  have hyl:ys.length=cr.length:=Paired.length hcr;have ep2:=S2 _ _ ep;have hqp:q≠p:=fun z=>by rw[z,ep]at n2;cases n2
  have hh2:=aP hh (S1.trans S2);have npd:∀x u,H x=some u->x≠p:=fun x u hx z=>by rw[z,n1]at hx;cases hx
  walk_at"go";let Pv1:Nat->St->Hp->Prop:=fun i σ' H'=>SameBut p H2 H'/\H' p=some (.dT (iM (dX ds) (cr.take i)))/\∃x y z u,σ'=[some (.ref h),some (.ref a),some (.ref p),x,y,z,u];refine dN ys Pv1 ⟨SameBut.refl,ep2,_,_,_,_,rfl⟩ (fun i σ' H' _ g=>SqL.of (g.1 _ _ eq hqp)) ?_ ?_
  ·rintro i x _ H' hx hq_;walk_at"g1";obtain⟨sb,ek,x1,x2,x3,x4,rfl⟩:=hq_;walk_at"g2";have hi:i<ys.length:=(List.getElem?_eq_some_iff.mp hx).1;obtain⟨⟨t,n,j⟩,hrx⟩:∃r,cr[i]? =some r:=⟨_,List.getElem?_eq_getElem (by lia)⟩
   obtain⟨q1,rfl,hq1⟩:=Paired.at2 hcr hx hrx;have hq1':H' q1=some (.tup [.int t,.str n,.int j]):=sb _ _ hq1 fun z=>by rw[z,ep2]at hq1;cases hq1
   have sH:Same H H':=fun x u hx=>sb _ _ (S2 _ _ (S1 _ _ hx)) (npd x u hx);have hh':=aP hh sH;walk_at"g1";obtain⟨dx,qs,qp,qd,nk,kvs,e1,_⟩:=hh'.ex;walk_at"g2";walk_at"g1";obtain⟨⟨dn,dst,de,dw⟩,hd,rfl,hdo⟩:=oB (hcn _ (List.mem_of_getElem? hrx));walk_at"g2";have hkey:dX ds (t,dn,j)=some [.inr dst,.inl t]:=by
    unfold dX;rw[show cX ds ((t,dn,j):aJ).2.1=some (dn,dst,de,dw) from hdo];rfl
   obtain⟨i0,ei⟩:=yS (dX ds) (cr.take i) [.inr dst,.inl t];have hkl:=E9 (dX ds) (cr.take i);rw[List.length_take]at hkl;walk_at"go";refine sZ (d:=(dn,dst,de,dw)) hh' ndd hd fun v hv=> ?_;walk_at"g1";obtain⟨q2,C2,dx2,fs2,fp2,rfl,hq2,dcC,l1,l2,l3,l4,l5,mcE,hfp,hlt⟩:=DoorAt.ex hv;walk_at"g2";walk_at"go";rename_i b3 H3 n3 S3 e3;refine jT (S3 _ _ ek) ?_;walk_at"go";refine lL [.inr dst,.inl t] (S3 _ _ ek) e3 ?_;rw[ei];walk_at"go";refine oW [.inr dst,.inl t] (S3 _ _ ek) e3 (by rw[sizeLine_eq];lia) fun H4 B4 e4=> ?_;refine⟨(sb.trans S3.but).trans B4,?_,_,_,_,_,rfl⟩;rw[e4,bW hrx,jV];unfold vJ;rw[hkey];show _=some (HO.dT (cC _ _ (.int (tQ ((bD _ _).getD (.int 0))+j))));rw[ei];rfl
  ·rintro _ H' hq_;walk_at"g1";obtain⟨sb,ek,x1,x2,x3,x4,rfl⟩:=hq_;walk_at"g2";rw[hyl,List.take_length]at ek;walk_at"go";exact k _ _ n1 (fun x u hx=>sb _ _ (S2 _ _ (S1 _ _ hx)) (npd x u hx)) ek
theorem z3 (m:M K mg):Fc P w K mg base "leaving" 3 ["house","plan"] (lB K m.aI (aM P w K mg base (some 4)) dX):=⟨_,_,m.QY,m.rK.F.kp,m.rK.b,MR m⟩
theorem OG (m:M K mg):FnOk P w K mg base CX0 3 m.yZ m.uN.d ["house","plan"] (lB K m.aI (aM P w K mg base (some 4)) dW):=by
 refine m.uN.F.ok sc_coming (fun vs H Q E h=> ?_) (fun cdv A outer s H vs Q E hr h=> ?_)
 ·walk_at"g1";obtain⟨h,a,f,l,rz,ps,ds,us,rows,rfl,hh,ndd,hin,hS,hpl,hlen,k⟩:=h;walk_at"g2";rfl
 ·walk_at"g1";obtain⟨h,a,f,l,rz,ps,ds,us,rows,rfl,hh,ndd,hin,hS,hpl,hlen,k⟩:=h;walk_at"g2";have nd:=sc_coming.nd;walk_at"hu";have F_rows_that_count:= @gR P w K mg base m;have w_dc_House:=m.aX;have w_mc_House_door:= @d6 P w K mg base m;refine⟨_,(aB (aN (i:=2) nd rfl (by walk_at"oi") tY)
   (aB (cS PassesOwn.never rfl (bH (bA F_rows_that_count hr (aA (pv 0) (aA (pv 1) aC)))) (j4 (n:=3) rfl (aW (aK (i:=3) nd rfl (by walk_at"oi")) (aW (aK (i:=4) nd rfl (by walk_at"oi")) (aW (aK (i:=5) nd rfl (by walk_at"oi")) cV)))) (aB (aN (i:=6) nd rfl (by walk_at"oi") (d5 1 hr (pv 0) (aA (pv 4) aC)))
   (aF (b9 (sT (j9 (dA 1 hr (pv 6)))) (aB (aN (i:=7) nd rfl (by walk_at"oi") (bV (aA (bB (pv 6) rfl) (aA (pv 3) aC))))
   (aF (dU hu1 (pv 2) (pv 7) (aH bI (k7 hu1 (pv 2) (pv 7) aE ⟨rfl,rfl,rfl,rfl⟩) (pv 5)) rfl))) bL))))
   (aF (aT (pv 2))))),?_⟩
  refine aO (σ:=[some (.ref h),some (.ref a),none,none,none,none,none,none]) rfl ?_;walk_at"cx";walk_at"go";rename_i p H1 n1 S1 ep;refine BZ (aP hh S1) (S1.seq hS) (cJ hpl S1) hlen fun q ys H2 n2 S2 eq hcr=> ?_;generalize hce:rows.filter (cnt (ds.map (·.1)) f l)=cr at hcr k;have hcn:∀r∈cr,r.2.1∈ds.map (·.1):=fun r hr=>by
   rw[←hce]at hr;have:=(List.mem_filter.mp hr).2;unfold cnt at this;rw[Bool.and_eq_true]at this;exact of_decide_eq_true this.1
  have hcl:cr.length<=200:=by rw[←hce];exact Nat.le_trans (List.length_filter_le _ _) hlen
  have hyl:ys.length=cr.length:=Paired.length hcr;have ep2:=S2 _ _ ep;have hqp:q≠p:=fun z=>by rw[z,ep]at n2;cases n2
  have hh2:=aP hh (S1.trans S2);have npd:∀x u,H x=some u->x≠p:=fun x u hx z=>by rw[z,n1]at hx;cases hx
  walk_at"go";let Pv2:Nat->St->Hp->Prop:=fun i σ' H'=>SameBut p H2 H'/\H' p=some (.dT (iM (dW ds) (cr.take i)))/\∃x y z u w,σ'=[some (.ref h),some (.ref a),some (.ref p),x,y,z,u,w];refine dN ys Pv2 ⟨SameBut.refl,ep2,_,_,_,_,_,rfl⟩ (fun i σ' H' _ g=>SqL.of (g.1 _ _ eq hqp)) ?_ ?_
  ·rintro i x _ H' hx hq_;walk_at"g1";obtain⟨sb,ek,x1,x2,x3,x4,x5,rfl⟩:=hq_;walk_at"g2";have hi:i<ys.length:=(List.getElem?_eq_some_iff.mp hx).1;obtain⟨⟨t,n,j⟩,hrx⟩:∃r,cr[i]? =some r:=⟨_,List.getElem?_eq_getElem (by lia)⟩
   obtain⟨q1,rfl,hq1⟩:=Paired.at2 hcr hx hrx;have hq1':H' q1=some (.tup [.int t,.str n,.int j]):=sb _ _ hq1 fun z=>by rw[z,ep2]at hq1;cases hq1
   have sH:Same H H':=fun x u hx=>sb _ _ (S2 _ _ (S1 _ _ hx)) (npd x u hx);have hh':=aP hh sH;walk_at"g1";obtain⟨dx,qs,qp,qd,nk,kvs,e1,_⟩:=hh'.ex;walk_at"g2";walk_at"g1";obtain⟨⟨dn,dst,de,dw⟩,hd,rfl,hdo⟩:=oB (hcn _ (List.mem_of_getElem? hrx));walk_at"g2";have hkl:=E9 (dW ds) (cr.take i);rw[List.length_take]at hkl;have hend:=(hin _ hd).2;walk_at"go";refine sZ (d:=(dn,dst,de,dw)) hh' ndd hd fun v hv=> ?_;walk_at"g1";obtain⟨q2,C2,dx2,fs2,fp2,rfl,hq2,dcC,l1,l2,l3,l4,l5,mcE,hfp,hlt⟩:=DoorAt.ex hv;walk_at"g2";rcases hend with hend|⟨z,hend,hz⟩
   ·have hde:de= .non:=hend;subst hde;have hkey:dW ds (t,dn,j)=none:=by
     unfold dW;rw[show cX ds ((t,dn,j):aJ).2.1=some (dn,dst,.non,dw) from hdo];rfl
    walk_at"go";refine⟨sb,?_,_,_,_,_,_,rfl⟩;rw[ek,bW hrx,jV];unfold vJ;rw[hkey]
   ·have hde:de= .str z:=hend;subst hde;have hkey:dW ds (t,dn,j)=some [.inr z,.inl t]:=by
     unfold dW;rw[show cX ds ((t,dn,j):aJ).2.1=some (dn,dst,.str z,dw) from hdo];rfl
    obtain⟨i0,ei⟩:=yS (dW ds) (cr.take i) [.inr z,.inl t];walk_at"go";rename_i b3 H3 n3 S3 e3;refine jT (S3 _ _ ek) ?_;walk_at"go";refine lL [.inr z,.inl t] (S3 _ _ ek) e3 ?_;rw[ei];walk_at"go";refine oW [.inr z,.inl t] (S3 _ _ ek) e3 (by rw[sizeLine_eq];lia) fun H4 B4 e4=> ?_;refine⟨(sb.trans S3.but).trans B4,?_,_,_,_,_,_,rfl⟩;rw[e4,bW hrx,jV];unfold vJ;rw[hkey];show _=some (HO.dT (cC _ _ (.int (tQ ((bD _ _).getD (.int 0))+j))));rw[ei];rfl
  ·rintro _ H' hq_;walk_at"g1";obtain⟨sb,ek,x1,x2,x3,x4,x5,rfl⟩:=hq_;walk_at"g2";rw[hyl,List.take_length]at ek;walk_at"go";exact k _ _ n1 (fun x u hx=>sb _ _ (S2 _ _ (S1 _ _ hx)) (npd x u hx)) ek
theorem QD (m:M K mg):Fc P w K mg base "coming" 3 ["house","plan"] (lB K m.aI (aM P w K mg base (some 4)) dW):=⟨_,_,m.UX,m.uN.F.kp,m.uN.b,OG m⟩
theorem xZ (key:aJ->Option (List Key))(rows:List aJ)(k:List Key):(bD (iM key rows) k).getD (.int 0)= .int (fB key rows k):=by
 obtain⟨i,e⟩:=yS key rows k;have h:=TR key k rows;rw[e]at h ⊢;rw[←h];rfl
theorem pairsN_mem {rz:List (Str×Int)}{f:Int}{z:Str}{t:Int}:∀{n:Nat},(z,t)∈bF rz f n↔z∈rz.map (·.1)/\∃i:Nat,i<n/\t=f+i
 | 0=>⟨(fun h=>by cases h),(fun⟨_,i,h,_⟩=>absurd h (Nat.not_lt_zero _))⟩
 | n+1=>by
  rw[iW,List.mem_append,pairsN_mem (n:=n)]
  constructor
  ·rintro (⟨h1,i,h2,h3⟩|h)
   ·exact⟨h1,i,by lia,h3⟩
   ·obtain⟨e,he,ee⟩:=List.mem_map.mp h;cases ee;exact⟨List.mem_map.mpr ⟨e,he,rfl⟩,n,by lia,rfl⟩
  ·rintro hq_;walk_at"g1";obtain⟨h1,i,h2,h3⟩:=hq_;walk_at"g2"
   by_cases hi:i=n
   ·subst hi;obtain⟨e,he,rfl⟩:=List.mem_map.mp h1;exact .inr (List.mem_map.mpr ⟨e,he,by rw[h3]⟩)
   ·exact .inl ⟨h1,i,by lia,h3⟩
theorem fJ {rz:List (Str×Int)}(nd:(rz.map (·.1)).Nodup)(f:Int):∀n,(bF rz f n).Nodup
 | 0=>by simp[bF]
 | n+1=>by
  rw[iW,List.nodup_append];refine⟨fJ nd f n,?_,?_⟩
  ·rw[List.Nodup,List.pairwise_map]at nd ⊢;exact nd.imp fun h z=>h (Prod.mk.inj z).1
  ·intro a ha b hb e;subst e;obtain⟨z,t⟩:=a;walk_at"g1";obtain⟨_,i,hi,ht⟩:=pairsN_mem.mp ha;walk_at"g2";obtain⟨e,_,ee⟩:=List.mem_map.mp hb;cases ee
   lia
theorem zO (rz:List (Str×Int))(f:Int)(m:Nat):∀k,∃l,bF rz f (m+k)=bF rz f m++l
 | 0=>⟨[],by rw[Nat.add_zero,List.append_nil]⟩
 | k+1=>by
  obtain⟨l,e⟩:=zO rz f m k;exact⟨l++_,by rw[←Nat.add_assoc,iW,e,List.append_assoc]⟩
theorem GJ {rz:List (Str×Int)}{f:Int}{n i:Nat}{z:Str}{t:Int} (h:(bF rz f n)[i]? =some (z,t)) (ht:t≠f):(z,t - 1)∈(bF rz f n).take i/\f<t:=by
 have hi:=(List.getElem?_eq_some_iff.mp h).1;walk_at"g1";obtain⟨hz,m,hm,rfl⟩:=pairsN_mem.mp (List.mem_of_getElem? h);walk_at"g2";have hm0:0<m:=by
  cases m with
  | zero=>exact absurd (by simp) ht
  | succ m=>exact Nat.succ_pos _
 obtain⟨l,el⟩:=zO rz f m (n - m);rw[show m+(n - m)=n by lia]at el;have hge:(bF rz f m).length<=i:=by
  rcases Nat.lt_or_ge i (bF rz f m).length with hlt|hge
  ·rw[el,List.getElem?_append_left hlt]at h;walk_at"g1";obtain⟨_,j,hj,ej⟩:=pairsN_mem.mp (List.mem_of_getElem? h);walk_at"g2"
   lia
  ·exact hge
 refine⟨?_,by lia⟩;have h1:(z,f+(m:Int) - 1)∈bF rz f m:=pairsN_mem.mpr ⟨hz,m - 1,by lia,by lia⟩;rw[el,List.take_append,List.take_of_length_le hge];exact List.mem_append_left _ h1
def aS (p:Str×Int):List Key:=[.inr p.1,.inl p.2]
theorem lM {a b:Str×Int}(h:aS a=aS b):a=b:=by
 unfold aS at h;injection h with h1 h2;injection h2 with h2;exact Prod.ext (Sum.inr.inj h1) (Sum.inl.inj h2)
def cG (ps:List (Str×Int))(L C:List Key->Int)(z:Str)(f:Int):Nat->Int
 | 0=>dJ ps z
 | n+1=>cG ps L C z f n - L (aS (z,f+(n:Int)))+C (aS (z,f+(n:Int)))
def gE (ps:List (Str×Int))(L C:List Key->Int)(f:Int)(pp:List (Str×Int)):List (List Key×V):=pp.map fun p=>(aS p,V.int (cG ps L C p.1 f (p.2 - f).toNat))
theorem pO {ps:List (Str×Int)}{L C:List Key->Int}{f:Int}{pp:List (Str×Int)} (nd:pp.Nodup) {p:Str×Int} (h:p∈pp):bD (gE ps L C f pp) (aS p)=some (.int (cG ps L C p.1 f (p.2 - f).toNat)):=by
 refine oK (e:=(aS p,V.int (cG ps L C p.1 f (p.2 - f).toNat))) ?_ (List.mem_map.mpr ⟨p,h,rfl⟩);unfold gE;rw[List.map_map,List.Nodup,List.pairwise_map];exact nd.imp fun hne z=>hne (lM z)
theorem F3 {ps:List (Str×Int)}{L C:List Key->Int}{f:Int}{pp:List (Str×Int)}{p:Str×Int} (h:p∉pp):bD (gE ps L C f pp) (aS p)=none:=by
 have:∀e∈gE ps L C f pp,e.1≠aS p:=fun e he z=>by
  obtain⟨q,hq,rfl⟩:=List.mem_map.mp he;exact h (lM z▸hq)
 revert this;generalize gE ps L C f pp=kvs;intro this
 induction kvs with
 | nil=>rfl
 | cons a l ih =>
  rw[cU (this a (.head _))];exact ih fun e he=>this e (List.mem_cons_of_mem _ he)
inductive yB (K:PySem.W.Frag)(C:Addr)(D:aU)(vs:List V)(H:Hp)(Q:VK)(E:XK):Prop
 | mk (h a:Addr) (f l:Int) (rz ps:List (Str×Int)) (ds:List aD) (us:List V) (rows:List aJ) (_:vs=[.ref h,.ref a]) (_:aR C D H h f l rz ps ds) (_:(rz.map (·.1)).Nodup) (_:(ds.map (·.1)).Nodup) (_:(∀d∈ds,c9 (rz.map (·.1)) d)) (_:0<=f) (_:f<=l) (_:l<1000000000000) (_:l - f<=1000) (_:rz.length<=20) (_:SqL K H a us) (_:bJ H us rows) (_:rows.length<=200) (_:∀p H',H p=none->Same H H'->H' p=some (.dT (gE ps (fB (dX ds) (rows.filter (cnt (ds.map (·.1)) f l))) (fB (dW ds) (rows.filter (cnt (ds.map (·.1)) f l))) f (bF rz f (l+1 - f).toNat)))->Q (.ref p) H'):yB K C D vs H Q E
theorem US (m:M K mg):FnOk P w K mg base CX0 4 m.CF m.w5.d ["house","plan"] (yB K m.aI (aM P w K mg base (some 4))):=by
 refine m.w5.F.ok sc_there (fun vs H Q E h=> ?_) (fun cdv A outer s H vs Q E hr h=> ?_)
 ·walk_at"g1";obtain⟨h,a,f,l,rz,ps,ds,us,rows,rfl,hh,nr,ndd,hin,h0,h1,h2,h3,lr,hS,hpl,hlen,k⟩:=h;walk_at"g2";rfl
 ·walk_at"g1";obtain⟨h,a,f,l,rz,ps,ds,us,rows,rfl,hh,nr,ndd,hin,h0,h1,h2,h3,lr,hS,hpl,hlen,k⟩:=h;walk_at"g2";have nd:=sc_there.nd;walk_at"hu";have F_coming:= @QD P w K mg base m;have F_leaving:= @z3 P w K mg base m;have w_dc_House:=m.aX;have w_mc_House_pairs:= @gZ P w K mg base m;have w_mc_House_found:= @lO P w K mg base m;refine⟨_,(aB (aN (i:=2) nd rfl (by walk_at"oi") (bA F_leaving hr (aA (pv 0) (aA (pv 1) aC))))
   (aB (aN (i:=3) nd rfl (by walk_at"oi") (bA F_coming hr (aA (pv 0) (aA (pv 1) aC))))
   (aB (aN (i:=4) nd rfl (by walk_at"oi") tY)
   (aB (cS PassesOwn.never rfl (bH (dA 1 hr (pv 0))) (j4 (n:=2) rfl (aW (aK (i:=5) nd rfl (by walk_at"oi")) (aW (aK (i:=6) nd rfl (by walk_at"oi")) cV))) (aF (b9 (aV jX (pv 6) (bB (pv 0) rfl) (aY _)) (aF (dU hu1 (pv 4) (bV (aA (pv 5) (aA (pv 6) aC))) (d5 3 hr (pv 0) (aA (pv 5) aC)) rfl)) (aB (aN (i:=7) nd rfl (by walk_at"oi") (bV (aA (pv 5) (aA (aH fU (pv 6) aE) aC))))
   (aF (dU hu1 (pv 4) (bV (aA (pv 5) (aA (pv 6) aC))) (aH bI (aH fU (bK hu1 (pv 4) (pv 7) (fun _ _=>rfl)) (k7 hu1 (pv 2) (pv 7) aE ⟨rfl,rfl,rfl,rfl⟩)) (k7 hu1 (pv 3) (pv 7) aE ⟨rfl,rfl,rfl,rfl⟩)) rfl))))))
   (aF (aT (pv 4))))))),?_⟩
  refine aO (σ:=[some (.ref h),some (.ref a),none,none,none,none,none,none]) rfl ?_;walk_at"cx";walk_at"g1";obtain⟨dx,qs,qp,qd,nk,kvs,e1,_⟩:=hh.ex;walk_at"g2";walk_at"go";refine BG hh ndd hin hS hpl hlen fun pL H1 n1 S1 eL=> ?_;walk_at"go";refine BG (aP hh S1) ndd hin (S1.seq hS) (cJ hpl S1) hlen fun pC H2 n2 S2 eC=> ?_;have e12:=S2 _ _ (S1 _ _ e1);walk_at"go";rename_i p H3 n3 S3 ep;have e13:=S3 _ _ e12;walk_at"go";have sA:Same H H3:=(S1.trans S2).trans S3;refine wF (aP hh sA) h0 h1 h2 h3 lr fun q ys H4 n4 S4 eq hpp=> ?_;have ep4:=S4 _ _ ep;have hqp:q≠p:=fun z=>by rw[z,ep]at n4;cases n4
  have npd:∀x u,H2 x=some u->x≠p:=fun x u hx z=>by rw[z,n3]at hx;cases hx
  have pnd:=fJ nr f (l+1 - f).toNat;have pll:=oA rz f (l+1 - f).toNat;have plb:(l+1 - f).toNat * rz.length<=1001 * 20:=Nat.mul_le_mul (by lia) lr;have hyl:ys.length=(bF rz f (l+1 - f).toNat).length:=Paired.length hpp;generalize hLe:fB (dX ds) (rows.filter (cnt (ds.map (·.1)) f l))=LL at k;generalize hCe:fB (dW ds) (rows.filter (cnt (ds.map (·.1)) f l))=CC at k;walk_at"go";let Pv1:Nat->St->Hp->Prop:=fun i σ' H'=>SameBut p H4 H'/\H' p=some (.dT (gE ps LL CC f ((bF rz f (l+1 - f).toNat).take i)))/\∃x y z,σ'=[some (.ref h),some (.ref a),some (.ref pL),some (.ref pC),some (.ref p),x,y,z];refine dN ys Pv1 ⟨SameBut.refl,ep4,_,_,_,rfl⟩ (fun i σ' H' _ g=>SqL.of (g.1 _ _ eq hqp)) ?_ ?_
  ·rintro i x _ H' hx hq_;walk_at"g1";obtain⟨sb,ek,x1,x2,x3,rfl⟩:=hq_;walk_at"g2";have hi:i<ys.length:=(List.getElem?_eq_some_iff.mp hx).1;obtain⟨⟨z,t⟩,hrx⟩:∃r,(bF rz f (l+1 - f).toNat)[i]? =some r:=⟨_,List.getElem?_eq_getElem (by lia)⟩
   obtain⟨q1,rfl,hq1⟩:=Paired.at2 hpp hx hrx;have hq1':H' q1=some (.tup [.str z,.int t]):=sb _ _ hq1 fun zz=>by rw[zz,ep4]at hq1;cases hq1
   have sH2:Same H2 H':=fun x u hx=>sb _ _ (S4 _ _ (S3 _ _ hx)) (npd x u hx);have hh':=aP hh ((S1.trans S2).trans sH2);have e1':=sH2 _ _ e12;have eL':=sH2 _ _ (S2 _ _ eL);have eC':=sH2 _ _ eC;have hz:z∈rz.map (·.1):=(pairsN_mem.mp (List.mem_of_getElem? hrx)).1;have hnew:(z,t)∉(bF rz f (l+1 - f).toNat).take i:=k5 pnd hrx;have hkl:(gE ps LL CC f ((bF rz f (l+1 - f).toNat).take i)).length<=20020:=by unfold gE;rw[List.length_map,List.length_take];lia
   have nd':((bF rz f (l+1 - f).toNat).take i).Nodup:=pnd.sublist (List.take_sublist _ _);walk_at"go";refine cM (fun hc=> ?_) (fun hc=> ?_)
   ·subst hc;walk_at"go";refine wP hh' nr hz fun H5 S5=> ?_;walk_at"go";rename_i b6 H6 n6 S6 e6;have ek6:=S6 _ _ (S5 _ _ ek);refine oW (aS (z,t)) ek6 e6 (by rw[sizeLine_eq];lia) fun H7 B7 e7=> ?_;refine⟨(sb.trans (S5.trans S6).but).trans B7,?_,_,_,_,rfl⟩;rw[e7,o9 _ (F3 hnew),bW hrx];unfold gE;rw[List.map_append]
    congr 3
    show [(aS (z,t),V.int (dJ ps z))]=[(aS (z,t),V.int (cG ps LL CC z t (t - t).toNat))];rw[show (t - t).toNat=0 by lia];rfl
   ·obtain⟨hah,hft⟩:=GJ hrx hc;have gL:(bD (iM (dX ds) (rows.filter (cnt (ds.map (·.1)) f l))) (aS (z,t - 1))).getD (.int 0)= .int (LL (aS (z,t - 1))):=by rw[←hLe];exact xZ _ _ _
    have gC:(bD (iM (dW ds) (rows.filter (cnt (ds.map (·.1)) f l))) (aS (z,t - 1))).getD (.int 0)= .int (CC (aS (z,t - 1))):=by rw[←hCe];exact xZ _ _ _
    walk_at"go";rename_i b6 H6 n6 S6 e6;refine fM (aS (z,t - 1)) (.inl (S6 _ _ ek)) e6 (pO nd' hah) ?_;walk_at"go";refine jT (S6 _ _ eL') ?_;walk_at"go";refine lL (aS (z,t - 1)) (S6 _ _ eL') e6 ?_;rw[gL];walk_at"go";refine jT (S6 _ _ eC') ?_;walk_at"go";refine lL (aS (z,t - 1)) (S6 _ _ eC') e6 ?_;rw[gC];walk_at"go";rename_i b8 H8 n8 S8 e8;have ek8:=S8 _ _ (S6 _ _ ek);refine oW (aS (z,t)) ek8 e8 (by rw[sizeLine_eq];lia) fun H9 B9 e9=> ?_;refine⟨(sb.trans (S6.trans S8).but).trans B9,?_,_,_,_,rfl⟩;rw[e9,o9 _ (F3 hnew),bW hrx];unfold gE;rw[List.map_append]
    congr 3
    show [(aS (z,t),V.int (cG ps LL CC z f (t - 1 - f).toNat - LL (aS (z,t - 1))+CC (aS (z,t - 1))))]=[(aS (z,t),V.int (cG ps LL CC z f (t - f).toNat))];rw[show (t - f).toNat=(t - 1 - f).toNat+1 by lia];show _=[(aS (z,t),V.int (cG ps LL CC z f (t - 1 - f).toNat - LL (aS (z,f+((t - 1 - f).toNat:Int)))+CC (aS (z,f+((t - 1 - f).toNat:Int)))))];rw[show f+((t - 1 - f).toNat:Int)=t - 1 by lia]
  ·rintro _ H' hq_;walk_at"g1";obtain⟨sb,ek,x1,x2,x3,rfl⟩:=hq_;walk_at"g2";rw[hyl,List.take_length]at ek;walk_at"go";refine k _ _ ?_ (fun x u hx=>sb _ _ (S4 _ _ (S3 _ _ (S2 _ _ (S1 _ _ hx)))) (npd x u (S2 _ _ (S1 _ _ hx)))) ek;cases hq:H p with
   | none=>rfl
   | some u=>rw[S2 _ _ (S1 _ _ hq)]at n3;cases n3
theorem yE (m:M K mg):Fc P w K mg base "there" 4 ["house","plan"] (yB K m.aI (aM P w K mg base (some 4))):=⟨_,_,m.Y4,m.w5.F.kp,m.w5.b,US m⟩
def tR (ds:List aD)(n:Str):Bool:=match cX ds n with
 | some d=>decide (d.2.2.1= .non)
 | none=>false
def mO (ds:List aD)(f l:Int)(rows:List aJ)(t:Int):Int:=(((rows.filter (cnt (ds.map (·.1)) f l)).filter fun r=>decide (r.1<t)&&tR ds r.2.1).map (·.2.2)).sum
inductive tS (K:PySem.W.Frag)(C:Addr)(D:aU)(vs:List V)(H:Hp)(Q:VK)(E:XK):Prop
 | mk (h a:Addr) (t f l:Int) (rz ps:List (Str×Int)) (ds:List aD) (us:List V) (rows:List aJ) (_:vs=[.ref h,.ref a,.int t]) (_:aR C D H h f l rz ps ds) (_:(ds.map (·.1)).Nodup) (_:(∀d∈ds,c9 (rz.map (·.1)) d)) (_:SqL K H a us) (_:bJ H us rows) (_:rows.length<=200) (_:∀H',Same H H'->Q (.int (mO ds f l rows t)) H'):tS K C D vs H Q E
theorem wW {C:Addr}{D:aU}{H:Hp}{Q:VK}{E:XK}{h a:Addr}{t f l:Int}{rz ps:List (Str×Int)}{ds:List aD}{us:List V}{rows:List aJ} (hh:aR C D H h f l rz ps ds) (nd:(ds.map (·.1)).Nodup) (hin:∀d∈ds,c9 (rz.map (·.1)) d) (hS:SqL K H a us) (hp:bJ H us rows) (hl:rows.length<=200) (k:∀H',Same H H'->Q (.int (mO ds f l rows t)) H'):tS K C D [.ref h,.ref a,.int t] H Q E:=⟨_,_,_,_,_,_,_,_,_,_,rfl,hh,nd,hin,hS,hp,hl,k⟩
theorem NO (m:M K mg):FnOk P w K mg base CX0 3 m.yX m.uR.d ["house","plan","turn"] (tS K m.aI (aM P w K mg base (some 4))):=by
 refine m.uR.F.ok sc_out_by (fun vs H Q E h=> ?_) (fun cdv A outer s H vs Q E hr h=> ?_)
 ·walk_at"g1";obtain⟨h,a,t,f,l,rz,ps,ds,us,rows,rfl,hh,ndd,hin,hS,hpl,hlen,k⟩:=h;walk_at"g2";rfl
 ·walk_at"g1";obtain⟨h,a,t,f,l,rz,ps,ds,us,rows,rfl,hh,ndd,hin,hS,hpl,hlen,k⟩:=h;walk_at"g2";have nd:=sc_out_by.nd;walk_at"hu";have F_rows_that_count:= @gR P w K mg base m;have w_dc_House:=m.aX;have w_mc_House_door:= @d6 P w K mg base m;refine⟨_,(aB (aN (i:=3) nd rfl (by walk_at"oi") (bA F_rows_that_count hr (aA (pv 0) (aA (pv 1) aC))))
   (aF (aT (bS (vS rfl) rfl m.NC HK (aA (cA (N:=["at","name","number","turn","house"]) (nl:=3) (ci:=[2,0]) rfl (blk (s.heap.objs.size+1) rfl rfl rfl (by kernel_rfl)) (bH (pv 3)) (fun _ _ _ _=>(g9 (K:=K) (n:=3) rfl (aW (aK (i:=0) (show (["at","name","number","turn","house"]:List Str).Nodup by decide +kernel) rfl (by walk_at"oi")) (aW (aK (i:=1) (show (["at","name","number","turn","house"]:List Str).Nodup by decide +kernel) rfl (by walk_at"oi")) (aW (aK (i:=2) (show (["at","name","number","turn","house"]:List Str).Nodup by decide +kernel) rfl (by walk_at"oi")) cV))))) (fun _ _ _ _=>(fR (PW.pt (vH (aV iZ (pv 0) (pv 3) (aY _)) (sJ (j9 (X9 (P:=P) (w:=w) (K:=K) (mg:=mg) (base:=base) 1 hr (oS (P:=P) (w:=w) (K:=K) (mg:=mg) (base:=base) 1 hr (pv 4) (aA (pv 1) aC))))))))) (fun _ _ _ _=>(pv 2))) aC))))),?_⟩
  refine aO (σ:=[some (.ref h),some (.ref a),some (.int t),none]) rfl ?_;walk_at"cx";walk_at"go";refine BZ hh hS hpl hlen fun q ys H1 n1 S1 eq hcr=> ?_;unfold mO at k;generalize hce:rows.filter (cnt (ds.map (·.1)) f l)=cr at hcr k;have hcn:∀r∈cr,r.2.1∈ds.map (·.1):=fun r hr=>by
   rw[←hce]at hr;have:=(List.mem_filter.mp hr).2;unfold cnt at this;rw[Bool.and_eq_true]at this;exact of_decide_eq_true this.1
  have hcl:cr.length<=200:=by rw[←hce];exact Nat.le_trans (List.length_filter_le _ _) hlen
  have hyl:ys.length=cr.length:=Paired.length hcr;have hh1:=aP hh S1;walk_at"go";refine WQ (α:=aJ) (xs:=cr) (vs:=ys) (fun r=> .int r.1) (fun r=> .str r.2.1) (fun r=> .int r.2.2) (fun r=>decide (r.1<t)&&tR ds r.2.1) (fun r y _=>y= .int r.2.2) (fun _ _ _ _ h _=>h) (by rw[sizeLine_eq];lia) (rest:=[some (.int t),some (.ref h)]) (by rfl) (SqL.of eq) hcr ?_ ?_ ?_
  ·rintro ⟨t0,n0,j0⟩ H2 hm s2 R hR;have hR':=hR _ (Same.refl _);have hh2:=aP hh1 s2;walk_at"g1";obtain⟨dx,qs,qp,qd,nk,kvs,e1,_⟩:=hh2.ex;walk_at"g2";walk_at"g1";obtain⟨⟨dn,dst,de,lt⟩,hd,rfl,hdo⟩:=oB (hcn _ hm);walk_at"g2";have hend:=(hin _ hd).2;have hx:tR ds dn=decide (de= .non):=by unfold tR;rw[hdo]
   walk_at"go";refine cM (fun hc=> ?_) (fun hc=> ?_)
   ·rw[show (decide (((t0,dn,j0):aJ).1<t))=true from decide_eq_true hc,Bool.true_and,hx]at hR';walk_at"go";refine sZ (d:=(dn,dst,de,lt)) hh2 ndd hd fun v hv=> ?_;walk_at"g1";obtain⟨q2,C2,dx2,fs2,fp2,rfl,hq2,dcC,l1,l2,l3,l4,l5,mcE,hfp,hlt⟩:=DoorAt.ex hv;walk_at"g2";rcases hend with hend|⟨z,hend,hz⟩
    ·have hde:de= .non:=hend;subst hde;walk_at"go";exact hR'
    ·have hde:de= .str z:=hend;subst hde;rw[decide_eq_false (fun z=>nomatch z)]at hR';walk_at"go";exact hR'
   ·rw[show (decide (((t0,dn,j0):aJ).1<t))=false from decide_eq_false hc,Bool.false_and]at hR';exact hR'
  ·rintro ⟨t0,n0,j0⟩ H2 hm - s2 R hR;walk_at"go";exact hR _ _ rfl (Same.refl _)
  intro ys2 H2 s2 hys2;have ey2:ys2=((cr.filter fun r=>decide (r.1<t)&&tR ds r.2.1).map (·.2.2)).map V.int:=by rw[cY hys2,List.map_map];rfl
  subst ey2;walk_at"go";rename_i q3 H3 n3 S3 e3;refine GL (SqL.of e3) ?_;exact k _ ((S1.trans s2).trans S3)
theorem P0 (m:M K mg):Fc P w K mg base "out_by" 3 ["house","plan","turn"] (tS K m.aI (aM P w K mg base (some 4))):=⟨_,_,m.UY,m.uR.F.kp,m.uR.b,NO m⟩
inductive z7 (K:PySem.W.Frag)(vs:List V)(H:Hp)(Q:VK)(E:XK):Prop
 | mk (a:Addr) (us:List V) (rows:List aJ) (_:vs=[.ref a]) (_:SqL K H a us) (_:bJ H us rows) (_:rows.length<=200) (_:∀p H',H p=none->Same H H'->H' p=some (.dT (mS rows))->Q (.ref p) H'):z7 K vs H Q E
theorem aB9 {H:Hp}{Q:VK}{E:XK}{a:Addr}{us:List V}{rows:List aJ} (hS:SqL K H a us) (hr:bJ H us rows) (hl:rows.length<=200) (h:∀p H',H p=none->Same H H'->H' p=some (.dT (mS rows))->Q (.ref p) H'):z7 K [.ref a] H Q E:=⟨_,_,_,rfl,hS,hr,hl,h⟩
theorem IN (m:M K mg):FnOk P w K mg base CX0 1 m.uP m.oE.d ["plan"] (z7 K):=by
 refine m.oE.F.ok sc_added_up (fun vs H Q E h=> ?_) (fun cdv A outer s H vs Q E hr h=> ?_)
 ·walk_at"g1";obtain⟨a,us,rows,rfl,hS,hpl,hlen,k⟩:=h;walk_at"g2";rfl
 ·walk_at"g1";obtain⟨a,us,rows,rfl,hS,hpl,hlen,k⟩:=h;walk_at"g2";have nd:=sc_added_up.nd;walk_at"hu";refine⟨_,(aB (aN (i:=1) nd rfl (by walk_at"oi") tY)
   (aB (cS PassesOwn.never rfl (bH (pv 0)) (j4 (n:=3) rfl (aW (aK (i:=2) nd rfl (by walk_at"oi")) (aW (aK (i:=3) nd rfl (by walk_at"oi")) (aW (aK (i:=4) nd rfl (by walk_at"oi")) cV)))) (aF (dU hu1 (pv 1) (bV (aA (pv 2) (aA (pv 3) aC))) (aH bI (k7 hu1 (pv 1) (bV (aA (pv 2) (aA (pv 3) aC))) aE ⟨rfl,rfl,rfl,rfl⟩) (pv 4)) rfl)))
   (aF (aT (pv 1))))),?_⟩
  refine aO (σ:=[some (.ref a),none,none,none,none]) rfl ?_;walk_at"cx";have hul:us.length=rows.length:=Paired.length hpl;walk_at"go";rename_i p H1 n1 S1 e1;let Pv1:Nat->St->Hp->Prop:=fun i σ' H'=>SameBut p H1 H'/\H' p=some (.dT (mS (rows.take i)))/\∃x y z,σ'=[some (.ref a),some (.ref p),x,y,z];refine dN us Pv1 ⟨SameBut.refl,e1,_,_,_,rfl⟩ (fun i σ' H' _ q=>(SameBut.same n1 S1 q.1).seq hS) ?_ ?_
  ·rintro i x _ H' hx hq_;walk_at"g1";obtain⟨sb,ek,x1,x2,x3,rfl⟩:=hq_;walk_at"g2";have hi:i<us.length:=(List.getElem?_eq_some_iff.mp hx).1;obtain⟨⟨t,n,j⟩,hrx⟩:∃r,rows[i]? =some r:=⟨_,List.getElem?_eq_getElem (by lia)⟩
   obtain⟨q,rfl,hq⟩:=Paired.at2 hpl hx hrx;have hq':H' q=some (.tup [.int t,.str n,.int j]):=(SameBut.same n1 S1 sb) _ _ hq;obtain⟨i0,ei⟩:=UU (rows.take i) t n;have hkl:=E4 (rows.take i);rw[List.length_take]at hkl;walk_at"go";refine jT ek ?_;walk_at"go";rename_i b1 H2 n2 S2 e2;refine lL (gN t n) (by walk_at"hp") (by assumption) ?_;rw[ei];walk_at"go";rename_i b3 H3 n3 S3 e3;refine oW (gN t n) (by walk_at"hp") (by assumption) (by rw[sizeLine_eq];lia) fun H4 B4 e4=> ?_;refine⟨by walk_at"sb",?_,_,_,_,rfl⟩;rw[e4,bW hrx,qW];unfold LI;rw[ei];rfl
  ·rintro _ H' hq_;walk_at"g1";obtain⟨sb,ek,x1,x2,x3,rfl⟩:=hq_;walk_at"g2";rw[hul,List.take_length]at ek;walk_at"go";exact k _ _ n1 (SameBut.same n1 S1 sb) ek
theorem IM (m:M K mg):Fc P w K mg base "added_up" 1 ["plan"] (z7 K):=⟨_,_,m.NB,m.oE.F.kp,m.oE.b,IN m⟩
theorem yD {α β γ:Type}{F:α->γ->Prop} (g:β->γ):∀{l:List β}{m:List α},Paired (fun x y=>F y (g x)) l m->Paired F m (l.map g)
 | _,_,.nil=> .nil
 | _,_,.cons r t=> .cons r (yD g t)
theorem vM {H:Hp}{Q:VK}{p:Addr}{xs:List V}{j:Nat}{v:V} (e:SqL K H p xs) (hx:xs[j]? =some v) (h:Q v H):E7 K (.ref p) (.int (j:Int)) H Q:=⟨p,xs,_,v,rfl,rfl,e,wR hx,h⟩
theorem aCi {kvs:List (List Key×V)}:∀(o:Obj) (x:HO),HO.dT kvs≠ .frz o x:=fun _ _ z=>by cases z
theorem RE {C:Addr}{D:aU}{H H':Hp}{p:Addr}{kvs:List (List Key×V)}{h:Addr}{f l:Int}{rz ps:List (Str×Int)}{ds:List aD} (x:aR C D H h f l rz ps ds) (e:H p=some (.dT kvs)) (s:SameBut p H H'):aR C D H' h f l rz ps ds:=by
 walk_at"g1";obtain⟨dx,qs,qp,qd,nk,kv,e1,e2,e3,e4,e5,e6,e7⟩:=x.ex;walk_at"g2";have ne:∀(q:Addr) (o:HO),H q=some o->(∀k,o≠ .dT k)->q≠p:=fun q o h hn z=>by
  rw[z,e]at h;cases h;exact hn _ rfl
 exact⟨dx,qs,qp,qd,nk,kv,s _ _ e1 (ne _ _ e1 fun _ z=>by cases z),s _ _ e2 (ne _ _ e2 fun _ z=>by cases z),s _ _ e3 (ne _ _ e3 fun _ z=>by cases z),e4,e5,s _ _ e6 (ne _ _ e6 fun _ z=>by cases z),Paired.imp' (fun _ d hd=>⟨hd.1,D.but hd.2 e trivial s⟩) e7⟩
theorem DJ {rz:List (Str×Int)}{f:Int}{n:Nat} (h:rz.length<=20) (hn:n<=1001):(bF rz f n).length<=20100:=by
 rw[oA]
 calc _<=_:=Nat.le_refl _
  _<=20100:=by
   first|exact Nat.le_trans (Nat.mul_le_mul hn h) (by decide)|exact Nat.le_trans (Nat.mul_le_mul h hn) (by decide)
theorem N0 {H:Hp}{Q:VK}{p:Addr}{z:Str}{ss:List Str} (e:SqL K H p (ss.map V.str)) (h:Q (.bl (!decide (z∈ss))) H):rIn K true (.str z) (.ref p) H Q:=by
 walk_at"g1";obtain⟨p',xs,e1,e2,e3,e4,e5⟩:=QB (Q:=fun v H'=>v= .bl (decide (z∈ss))/\H'=H) e ⟨rfl,rfl⟩;walk_at"g2";refine⟨p',xs,e1,e2,e3,e4,?_⟩;have e5:V.bl (inV (.str z) xs)= .bl (decide (z∈ss)):=e5.1;have e6:inV (.str z) xs=decide (z∈ss):=by injection e5
 show Q (.bl (!inV (.str z) xs)) H;rw[e6];exact h
def dQ (ds:List aD)(f l t:Int)(n:Str):Int:=match cX ds n with
 | some d=>dZ f l d t
 | none=>0
theorem IV {ds:List aD}{n:Str} (h:n∉ds.map (·.1)):cX ds n=none:=by
 unfold cX;rw[List.find?_eq_none];intro d hd z;exact h (List.mem_map.mpr ⟨d,hd,by simpa using z⟩)
inductive wM (C:Addr)(D:aU)(vs:List V)(H:Hp)(Q:VK)(E:XK):Prop
 | mk (h:Addr) (t:Int) (n:Str) (f l:Int) (rz ps:List (Str×Int)) (ds:List aD) (_:vs=[.ref h,.int t,.str n]) (_:aR C D H h f l rz ps ds) (_:(ds.map (·.1)).Nodup) (_:0<=f) (_:ds.length<=20) (_:∀H',Same H H'->Q (.int (dQ ds f l t n)) H'):wM C D vs H Q E
theorem aAZ {C:Addr}{D:aU}{H:Hp}{Q:VK}{E:XK}{h:Addr}{t:Int}{n:Str}{f l:Int}{rz ps:List (Str×Int)}{ds:List aD} (hh:aR C D H h f l rz ps ds) (nd:(ds.map (·.1)).Nodup) (hf:0<=f) (ld:ds.length<=20) (k:∀H',Same H H'->Q (.int (dQ ds f l t n)) H'):wM C D [.ref h,.int t,.str n] H Q E:=⟨_,_,_,_,_,_,_,_,rfl,hh,nd,hf,ld,k⟩
theorem z5 (m:M K mg):FnOk P w K mg base CX0 8 m.lU m.hZ.d ["house","turn","name"] (wM m.aI (aM P w K mg base (some 4))):=by
 refine m.hZ.F.ok sc_most_through (fun vs H Q E h=> ?_) (fun cdv A outer s H vs Q E hr h=> ?_)
 ·walk_at"g1";obtain⟨h,t,n,f,l,rz,ps,ds,rfl,hh,ndd,hf,ld,k⟩:=h;walk_at"g2";rfl
 ·walk_at"g1";obtain⟨h,t,n,f,l,rz,ps,ds,rfl,hh,ndd,hf,ld,k⟩:=h;walk_at"g2";have nd:=sc_most_through.nd;walk_at"hu";have w_dc_House:=m.aX;have w_mc_House_doors:= @hU P w K mg base m;have w_mc_House_lets:= @uU P w K mg base m;refine⟨_,(aB (b9 (aV HJ (pv 2) (dA 1 hr (pv 0)) (by with_unfolding_all rfl)) (aF (aT aE)) bL)
   (aF (aT (d5 6 hr (pv 0) (aA (pv 2) (aA (pv 1) aC)))))),?_⟩
  refine aO (σ:=[some (.ref h),some (.int t),some (.str n)]) rfl ?_;walk_at"cx";walk_at"g1";obtain⟨dx,qs,qp,qd,nk,kvs0,e1,_⟩:=hh.ex;walk_at"g2";walk_at"go";refine fC hh fun p1 H1 n1 S1 f1=> ?_;walk_at"go";refine N0 (SqL.of f1) ?_;walk_at"go"
  by_cases hm:n∈ds.map (·.1)
  ·walk_at"g1";obtain⟨d,hd,rfl,hdo⟩:=oB hm;walk_at"g2";rw[decide_eq_true hm];have e11:=S1 _ _ e1;have hk:dQ ds f l t d.1=dZ f l d t:=by unfold dQ;rw[hdo]
   rw[hk]at k;walk_at"go";refine JZ (d:=d) (aP hh S1) ndd hd hf fun H2 S2=> ?_;exact k _ (S1.trans S2)
  ·rw[decide_eq_false hm];have hk:dQ ds f l t n=0:=by unfold dQ;rw[IV hm]
   rw[hk]at k;walk_at"go";exact k _ S1
theorem zS (m:M K mg):Fc P w K mg base "most_through" 8 ["house","turn","name"] (wM m.aI (aM P w K mg base (some 4))):=⟨_,_,m.CI,m.hZ.F.kp,m.hZ.b,z5 m⟩
inductive wZ (K:PySem.W.Frag)(C:Addr)(D:aU)(vs:List V)(H:Hp)(Q:VK)(E:XK):Prop
 | mk (h a:Addr) (f l:Int) (rz ps:List (Str×Int)) (ds:List aD) (us:List V) (rows:List aJ) (_:vs=[.ref h,.ref a]) (_:aR C D H h f l rz ps ds) (_:(ds.map (·.1)).Nodup) (_:0<=f) (_:ds.length<=20) (_:SqL K H a us) (_:bJ H us rows) (_:rows.length<=200) (_:(∀t n,cH rows t n<=dQ ds f l t n)) (_:∀p H',H p=none->Same H H'->H' p=some (.lst [])->Q (.ref p) H'):wZ K C D vs H Q E
theorem ZK {C:Addr}{D:aU}{H:Hp}{Q:VK}{E:XK}{h a:Addr}{f l:Int}{rz ps:List (Str×Int)}{ds:List aD}{us:List V}{rows:List aJ} (hh:aR C D H h f l rz ps ds) (nd:(ds.map (·.1)).Nodup) (hf:0<=f) (ld:ds.length<=20) (hS:SqL K H a us) (hp:bJ H us rows) (hl:rows.length<=200) (hc:∀t n,cH rows t n<=dQ ds f l t n) (k:∀p H',H p=none->Same H H'->H' p=some (.lst [])->Q (.ref p) H'):wZ K C D [.ref h,.ref a] H Q E:=⟨_,_,_,_,_,_,_,_,_,rfl,hh,nd,hf,ld,hS,hp,hl,hc,k⟩
theorem A8 (m:M K mg):FnOk P w K mg base CX0 9 m.mZ m.jA.d ["house","plan"] (wZ K m.aI (aM P w K mg base (some 4))):=by
 refine m.jA.F.ok sc_door_faults (fun vs H Q E h=> ?_) (fun cdv A outer s H vs Q E hr h=> ?_)
 ·walk_at"g1";obtain⟨h,a,f,l,rz,ps,ds,us,rows,rfl,hh,ndd,hf,ld,hS,hpl,hlen,hc,k⟩:=h;walk_at"g2";rfl
 ·walk_at"g1";obtain⟨h,a,f,l,rz,ps,ds,us,rows,rfl,hh,ndd,hf,ld,hS,hpl,hlen,hc,k⟩:=h;walk_at"g2";have nd:=sc_door_faults.nd;walk_at"hu";have F_added_up:= @IM P w K mg base m;have F_most_through:= @zS P w K mg base m;have w_dc_House:=m.aX;refine⟨_,(aB (aN (i:=2) nd rfl (by walk_at"oi") (bA F_added_up hr (aA (pv 1) aC)))
   (aF (aT (tD (cA (N:=["turn","name","going","house"]) (nl:=2) (ci:=[2,0]) rfl (blk (s.heap.objs.size+1) rfl rfl rfl (by kernel_rfl)) (Q5 (pv 2)) (fun _ _ _ _=>(g9 (K:=K) (n:=2) rfl (aW (aK (i:=0) (show (["turn","name","going","house"]:List Str).Nodup by decide +kernel) rfl (by walk_at"oi")) (aW (aK (i:=1) (show (["turn","name","going","house"]:List Str).Nodup by decide +kernel) rfl (by walk_at"oi")) cV)))) (fun _ _ _ _=>(fR (aV i6 (bK hu1 (pv 2) (bV (aA (pv 0) (aA (pv 1) aC))) (fun _ _=>rfl)) (bA F_most_through hr (aA (pv 3) (aA (pv 0) (aA (pv 1) aC)))) (aY _)))) (fun _ _ _ _=>(bV (aA (pv 0) (aA d0 (aA (pv 1) aC)))))))))),?_⟩
  refine aO (σ:=[some (.ref h),some (.ref a),none]) rfl ?_;walk_at"cx";walk_at"go";refine aB9 hS hpl hlen fun p1 H1 n1 S1 e1=> ?_;walk_at"go";refine pJ e1 aCi ?_;walk_at"go";refine TW ?_;walk_at"go";refine R9 e1 fun o H2 B2 e2=> ?_;have hg:=C5 rows;have hln:=E4 rows;have hh2:aR m.aI (aM P w K mg base (some 4)) H2 h f l rz ps ds:=RE (aP hh S1) e1 B2;refine ZH (fun _=>false) (fun _ _ _=>False) (fun _ _ _ _ h _=>h) (fun e he=>by
   walk_at"g1";obtain⟨t,n,i,rfl⟩:=hg.2 e he;walk_at"g2";rfl) (by rw[sizeLine_eq];lia) (rest:=[some (.ref p1),some (.ref h)]) (by rfl) e2 ?_ (fun _ _ _ _ _ hc=>nomatch hc) ?_
  ·intro k1 k2 v H3 hm s3 R hR;walk_at"g1";obtain⟨t,n,i,hte⟩:=hg.2 _ hm;walk_at"g2";have h1:k1= .inl t/\k2= .inr n/\v= .int i:=by
    have e1':=congrArg Prod.fst hte;have e2':=congrArg Prod.snd hte;have e1'':[k1,k2]=gN t n:=e1';unfold gN at e1'';injection e1'' with a1 a2;injection a2 with a2;exact⟨a1,a2,e2'⟩
   obtain⟨rfl,rfl,rfl⟩:=h1;have hv:bD (mS rows) (gN t n)=some (.int i):=oK hg.1 hm;have hi:i=cH rows t n:=by
    have:=SZ t n rows;rw[hv]at this;exact this
   have hle:=hc t n;show (_:TT) (some (V.int t)::some (V.str n)::[some (.ref p1),some (.ref h)]) H3 R;walk_at"go";rename_i b4 H4 n4 S4 e4;refine fM (gN t n) (.inr ⟨o,S4 _ _ (s3 _ _ e2)⟩) e4 hv ?_;walk_at"go";refine aAZ (aP hh2 (s3.trans S4)) ndd hf ld fun H5 S5=> ?_;walk_at"go";rw[decide_eq_false (by lia)];exact hR _ (S4.trans S5)
  intro ys H3 s3 hys;rw[List.filter_eq_nil_iff.mpr (fun _ _=>Bool.false_ne_true)]at hys;cases hys;walk_at"go";rename_i p4 H4 n4 S4 e4;refine jR (S4 _ _ (s3 _ _ e2)) fun H5 B5 e5=> ?_;have hpq:p4≠p1:=fun z=>by rw[z,s3 _ _ e2]at n4;cases n4
  have hn:H p4=none:=by
   cases hq:H p4 with
   | none=>rfl
   | some u =>
    have:=s3 _ _ (B2 _ _ (S1 _ _ hq) hpq);rw[n4]at this;cases this
  have fr:∀b u,H b=some u->b≠p1:=fun b u hb z=>by rw[z,n1]at hb;cases hb
  exact k p4 H5 hn (fun b u hb=>B5 _ _ (S4 _ _ (s3 _ _ (B2 _ _ (S1 _ _ hb) (fr b u hb)))) (fr b u hb)) (B5 _ _ e4 hpq)
theorem BR (m:M K mg):Fc P w K mg base "door_faults" 9 ["house","plan"] (wZ K m.aI (aM P w K mg base (some 4))):=⟨_,_,m.EL,m.jA.F.kp,m.jA.b,A8 m⟩
inductive wE (K:PySem.W.Frag)(C:Addr)(D:aU)(vs:List V)(H:Hp)(Q:VK)(E:XK):Prop
 | mk (h a b:Addr) (f l:Int) (rz ps:List (Str×Int)) (ds:List aD) (us:List V) (rows:List aJ) (L C':List Key->Int) (_:vs=[.ref h,.ref a,.ref b]) (_:aR C D H h f l rz ps ds) (_:(rz.map (·.1)).Nodup) (_:(ds.map (·.1)).Nodup) (_:(∀d∈ds,c9 (rz.map (·.1)) d)) (_:0<=f) (_:f<=l) (_:l<1000000000000) (_:l - f<=1000) (_:rz.length<=20) (_:SqL K H a us) (_:bJ H us rows) (_:rows.length<=200) (_:H b=some (.dT (gE ps L C' f (bF rz f (l+1 - f).toNat)))) (_:(∀e∈rz,∀i:Nat,f+(i:Int)<l->fB (dX ds) (rows.filter (cnt (ds.map (·.1)) f l)) (aS (e.1,f+(i:Int)))<=cG ps L C' e.1 f i)) (_:∀p H',H p=none->Same H H'->H' p=some (.lst [])->Q (.ref p) H'):wE K C D vs H Q E
theorem zN (m:M K mg):FnOk P w K mg base CX0 5 m.lV m.iA.d ["house","plan","inside"] (wE K m.aI (aM P w K mg base (some 4))):=by
 refine m.iA.F.ok sc_leave_faults (fun vs H Q E h=> ?_) (fun cdv A outer s H vs Q E hr h=> ?_)
 ·walk_at"g1";obtain⟨h,a,b,f,l,rz,ps,ds,us,rows,L,C',rfl,hh,nr,ndd,hin,h0,h1,h2,h3,lr,hS,hpl,hlen,eb,hc,k⟩:=h;walk_at"g2";rfl
 ·walk_at"g1";obtain⟨h,a,b,f,l,rz,ps,ds,us,rows,L,C',rfl,hh,nr,ndd,hin,h0,h1,h2,h3,lr,hS,hpl,hlen,eb,hc,k⟩:=h;walk_at"g2";have nd:=sc_leave_faults.nd;walk_at"hu";have F_leaving:= @z3 P w K mg base m;have w_dc_House:=m.aX;have w_mc_House_pairs:= @gZ P w K mg base m;refine⟨_,(aB (aN (i:=3) nd rfl (by walk_at"oi") (bA F_leaving hr (aA (pv 0) (aA (pv 1) aC))))
   (aB (g7 (i:=4) nd rfl (by walk_at"oi") (N:=["pair","house"]) (nl:=1) (ci:=[0]) rfl (blk (s.heap.objs.size+1) rfl rfl rfl (by kernel_rfl)) (bH (dA 1 hr (pv 0))) (fun _ _ _ _=>(aK (i:=0) (show (["pair","house"]:List Str).Nodup by decide +kernel) rfl (by walk_at"oi"))) (fun _ _ _ _=>(fR (aV iZ (dI (k8 (K:=K)) (pv 0) aE (fun _ _=>rfl)) (oN (K:=K) (pv 1) rfl) (aY _)))) (fun _ _ _ _=>(pv 0)))
   (aF (aT (cA (N:=["room","turn","inside","leave"]) (nl:=2) (ci:=[2,3]) rfl (blk (s.heap.objs.size+1) rfl rfl rfl (by kernel_rfl)) (bH (pv 4)) (fun _ _ _ _=>(g9 (K:=K) (n:=2) rfl (aW (aK (i:=0) (show (["room","turn","inside","leave"]:List Str).Nodup by decide +kernel) rfl (by walk_at"oi")) (aW (aK (i:=1) (show (["room","turn","inside","leave"]:List Str).Nodup by decide +kernel) rfl (by walk_at"oi")) cV)))) (fun _ _ _ _=>(fR (aV i6 (k7 hu1 (pv 3) (bV (aA (pv 0) (aA (pv 1) aC))) aE ⟨rfl,rfl,rfl,rfl⟩) (bK hu1 (pv 2) (bV (aA (pv 0) (aA (pv 1) aC))) (fun _ _=>rfl)) (aY _)))) (fun _ _ _ _=>(bV (aA (pv 1) (aA d0 (aA (pv 0) aC)))))))))),?_⟩
  refine aO (σ:=[some (.ref h),some (.ref a),some (.ref b),none,none]) rfl ?_;walk_at"cx";walk_at"g1";obtain⟨dx,qs,qp,qd,nk,kvs0,e1,_⟩:=hh.ex;walk_at"g2";walk_at"go";refine BG hh ndd hin hS hpl hlen fun p1 H1 n1 S1 f1=> ?_;have e11:=S1 _ _ e1;walk_at"go";refine wF (aP hh S1) h0 h1 h2 h3 lr fun p2 ys H2 n2 S2 f2 hys=> ?_;have e12:=S2 _ _ e11;walk_at"go";have hpn:(bF rz f (l+1 - f).toNat).length<=20100:=DJ lr (by lia);have hyl:ys.length=(bF rz f (l+1 - f).toNat).length:=Paired.length hys;refine dC (α:=Str×Int) (xs:=bF rz f (l+1 - f).toNat) (vs:=ys) (cB H2) (fun x=>decide (x.2<l)) (fun x y H=>cB H y x) (fun _ _ _ _ ⟨q,h1,h2⟩ s=>⟨q,h1,s _ _ h2⟩) (by rw[sizeLine_eq];lia) (rest:=[some (.ref h)]) (by rfl) (SqL.of f2) hys ?_ ?_ ?_
  ·rintro v ⟨z,u⟩ H3 ⟨q3,rfl,hq3⟩ hm s3 R hR;have hq3:H3 q3=some (.tup [.str z,.int u]):=s3 _ _ hq3;have e13:=s3 _ _ e12;walk_at"go";refine⟨q3,_,1,_,rfl,rfl,SqT.of hq3,rfl,?_⟩;walk_at"go";exact hR _ (Same.refl _)
  ·rintro v x H3 ⟨q3,rfl,hq3⟩ hm - s3 R hR;walk_at"go";exact hR _ _ ⟨q3,rfl,s3 _ _ hq3⟩ (Same.refl _)
  intro zs H3 s3 hzs;have hzp:Paired (cB H3) zs ((bF rz f (l+1 - f).toNat).filter fun x=>decide (x.2<l)):=fZ hzs;have hfl:((bF rz f (l+1 - f).toNat).filter fun x=>decide (x.2<l)).length<=20100:=Nat.le_trans (List.length_filter_le _ _) hpn;walk_at"go";rename_i p4 H4 n4 S4 e4;have s14:=S2.trans (s3.trans S4);have f14:=s14 _ _ f1;have eb4:=s14 _ _ (S1 _ _ eb);refine sY (α:=Str×Int) (xs:=(bF rz f (l+1 - f).toNat).filter fun x=>decide (x.2<l)) (vs:=zs) (fun x=> .str x.1) (fun x=> .int x.2) (fun _=>false) (fun _ _ _=>False) (fun _ _ _ _ h _=>h) (by rw[sizeLine_eq];lia) (rest:=[some (.ref b),some (.ref p1)]) (by rfl) (SqL.of e4) (kC hzp S4) ?_ (fun _ _ _ hc=>nomatch hc) ?_
  ·rintro ⟨z,u⟩ H5 hx s5 R hR;obtain⟨hx1,hx2⟩:=List.mem_filter.mp hx;have hx2:u<l:=by simpa using hx2
   walk_at"g1";obtain⟨hz,i,hi,hu⟩:=pairsN_mem.mp hx1;walk_at"g2";obtain⟨e,he,hez⟩:=List.mem_map.mp hz;have hez:e.1=z:=hez;have hle:=hc e he i (by lia);rw[hez,←hu]at hle;have f15:=s5 _ _ f14;have eb5:=s5 _ _ eb4;have hui:(u - f).toNat=i:=by lia
   have hpi:bD (gE ps L C' f (bF rz f (l+1 - f).toNat)) (aS (z,u))=some (.int (cG ps L C' z f i)):=by
    have h:=pO (ps:=ps) (L:=L) (C:=C') (f:=f) (fJ nr f (l+1 - f).toNat) hx1;rw[show (((z,u):Str×Int).2 - f).toNat=i from hui]at h;exact h
   show (_:TT) (some (V.str z)::some (V.int u)::[some (.ref b),some (.ref p1)]) H5 R;walk_at"go";refine jT f15 ?_;walk_at"go";rename_i b6 H6 n6 S6 e6;refine lL (aS (z,u)) (S6 _ _ f15) e6 ?_;rw[xZ];walk_at"go";rename_i b7 H7 n7 S7 e7;refine fM (aS (z,u)) (.inl (S7 _ _ (S6 _ _ eb5))) e7 hpi ?_;walk_at"go";rw[decide_eq_false (by lia)];exact hR _ (S6.trans S7)
  intro ws H5 s5 hws;rw[List.filter_eq_nil_iff.mpr (fun _ _=>Bool.false_ne_true)]at hws;cases hws;walk_at"go";rename_i p6 H6 n6 S6 e6;have s06:Same H H6:=S1.trans (s14.trans (s5.trans S6));refine k p6 H6 ?_ s06 e6;cases hq:H p6 with
  | none=>rfl
  | some u =>
   have:=(S1.trans (s14.trans s5)) _ _ hq;rw[n6]at this;cases this
theorem z4 (m:M K mg):Fc P w K mg base "leave_faults" 5 ["house","plan","inside"] (wE K m.aI (aM P w K mg base (some 4))):=⟨_,_,m.CO,m.iA.F.kp,m.iA.b,zN m⟩
theorem aAn {C:Addr}{D:aU}{H:Hp}{Q:VK}{E:XK}{h a b:Addr}{f l:Int}{rz ps:List (Str×Int)}{ds:List aD}{us:List V}{rows:List aJ}{L C':List Key->Int} (hh:aR C D H h f l rz ps ds) (nr:(rz.map (·.1)).Nodup) (nd:(ds.map (·.1)).Nodup) (hin:∀d∈ds,c9 (rz.map (·.1)) d) (h0:0<=f) (h1:f<=l) (h2:l<1000000000000) (h3:l - f<=1000) (lr:rz.length<=20) (hS:SqL K H a us) (hp:bJ H us rows) (hl:rows.length<=200) (eb:H b=some (.dT (gE ps L C' f (bF rz f (l+1 - f).toNat)))) (hc:∀e∈rz,∀i:Nat,f+(i:Int)<l->fB (dX ds) (rows.filter (cnt (ds.map (·.1)) f l)) (aS (e.1,f+(i:Int)))<=cG ps L C' e.1 f i) (k:∀p H',H p=none->Same H H'->H' p=some (.lst [])->Q (.ref p) H'):wE K C D [.ref h,.ref a,.ref b] H Q E:=⟨_,_,_,_,_,_,_,_,_,_,_,_,rfl,hh,nr,nd,hin,h0,h1,h2,h3,lr,hS,hp,hl,eb,hc,k⟩
inductive wT (C:Addr)(D:aU)(vs:List V)(H:Hp)(Q:VK)(E:XK):Prop
 | mk (h b:Addr) (f l:Int) (rz ps:List (Str×Int)) (ds:List aD) (L C':List Key->Int) (_:vs=[.ref h,.ref b]) (_:aR C D H h f l rz ps ds) (_:(rz.map (·.1)).Nodup) (_:0<=f) (_:f<=l) (_:l<1000000000000) (_:l - f<=1000) (_:rz.length<=20) (_:H b=some (.dT (gE ps L C' f (bF rz f (l+1 - f).toNat)))) (_:(∀e∈rz,∀i:Nat,f+(i:Int)<=l->cG ps L C' e.1 f i<=e.2)) (_:∀p H',H p=none->Same H H'->H' p=some (.lst [])->Q (.ref p) H'):wT C D vs H Q E
theorem aBh {C:Addr}{D:aU}{H:Hp}{Q:VK}{E:XK}{h b:Addr}{f l:Int}{rz ps:List (Str×Int)}{ds:List aD}{L C':List Key->Int} (hh:aR C D H h f l rz ps ds) (nr:(rz.map (·.1)).Nodup) (h0:0<=f) (h1:f<=l) (h2:l<1000000000000) (h3:l - f<=1000) (lr:rz.length<=20) (eb:H b=some (.dT (gE ps L C' f (bF rz f (l+1 - f).toNat)))) (hc:∀e∈rz,∀i:Nat,f+(i:Int)<=l->cG ps L C' e.1 f i<=e.2) (k:∀p H',H p=none->Same H H'->H' p=some (.lst [])->Q (.ref p) H'):wT C D [.ref h,.ref b] H Q E:=⟨_,_,_,_,_,_,_,_,_,rfl,hh,nr,h0,h1,h2,h3,lr,eb,hc,k⟩
theorem BA (m:M K mg):FnOk P w K mg base CX0 5 m.nL m.jB.d ["house","inside"] (wT m.aI (aM P w K mg base (some 4))):=by
 refine m.jB.F.ok sc_full_faults (fun vs H Q E h=> ?_) (fun cdv A outer s H vs Q E hr h=> ?_)
 ·walk_at"g1";obtain⟨h,b,f,l,rz,ps,ds,L,C',rfl,hh,nr,h0,h1,h2,h3,lr,eb,hc,k⟩:=h;walk_at"g2";rfl
 ·walk_at"g1";obtain⟨h,b,f,l,rz,ps,ds,L,C',rfl,hh,nr,h0,h1,h2,h3,lr,eb,hc,k⟩:=h;walk_at"g2";have nd:=sc_full_faults.nd;walk_at"hu";have w_dc_House:=m.aX;have w_mc_House_pairs:= @gZ P w K mg base m;have w_mc_House_holds:= @lF P w K mg base m;refine⟨_,(aF (aT (cA (N:=["room","turn","inside","house"]) (nl:=2) (ci:=[1,0]) rfl (blk (s.heap.objs.size+1) rfl rfl rfl (by kernel_rfl)) (bH (dA 1 hr (pv 0))) (fun _ _ _ _=>(g9 (K:=K) (n:=2) rfl (aW (aK (i:=0) (show (["room","turn","inside","house"]:List Str).Nodup by decide +kernel) rfl (by walk_at"oi")) (aW (aK (i:=1) (show (["room","turn","inside","house"]:List Str).Nodup by decide +kernel) rfl (by walk_at"oi")) cV)))) (fun _ _ _ _=>(fR (aV i6 (bK hu1 (pv 2) (bV (aA (pv 0) (aA (pv 1) aC))) (fun _ _=>rfl)) (oS (P:=P) (w:=w) (K:=K) (mg:=mg) (base:=base) 3 hr (pv 3) (aA (pv 0) aC)) (aY _)))) (fun _ _ _ _=>(bV (aA (pv 1) (aA d0 (aA (pv 0) aC)))))))),?_⟩;refine aO (σ:=[some (.ref h),some (.ref b)]) rfl ?_;walk_at"cx";walk_at"g1";obtain⟨dx,qs,qp,qd,nk,kvs0,e1,_⟩:=hh.ex;walk_at"g2";walk_at"go";refine wF hh h0 h1 h2 h3 lr fun p2 ys H2 n2 S2 f2 hys=> ?_;have hpn:(bF rz f (l+1 - f).toNat).length<=20100:=DJ lr (by lia);have eb2:=S2 _ _ eb;have hh2:=aP hh S2;have e12:=S2 _ _ e1;walk_at"go";refine sY (α:=Str×Int) (xs:=bF rz f (l+1 - f).toNat) (vs:=ys) (fun x=> .str x.1) (fun x=> .int x.2) (fun _=>false) (fun _ _ _=>False) (fun _ _ _ _ h _=>h) (by rw[sizeLine_eq];lia) (rest:=[some (.ref b),some (.ref h)]) (by rfl) (SqL.of f2) hys ?_ (fun _ _ _ hc=>nomatch hc) ?_
  ·rintro ⟨z,u⟩ H5 hx1 s5 R hR;walk_at"g1";obtain⟨hz,i,hi,hu⟩:=pairsN_mem.mp hx1;walk_at"g2";walk_at"g1";obtain⟨⟨ez,ej⟩,he,hez⟩:=List.mem_map.mp hz;walk_at"g2";have hez:ez=z:=hez;subst hez;have hle:cG ps L C' ez f i<=ej:=hc _ he i (by lia);have eb5:=s5 _ _ eb2;have e15:=s5 _ _ e12;have hui:(u - f).toNat=i:=by lia
   have hpi:bD (gE ps L C' f (bF rz f (l+1 - f).toNat)) (aS (ez,u))=some (.int (cG ps L C' ez f i)):=by
    have h:=pO (ps:=ps) (L:=L) (C:=C') (f:=f) (fJ nr f (l+1 - f).toNat) hx1;rw[show (((ez,u):Str×Int).2 - f).toNat=i from hui]at h;exact h
   show (_:TT) (some (V.str ez)::some (V.int u)::[some (.ref b),some (.ref h)]) H5 R;walk_at"go";rename_i b7 H7 n7 S7 e7;refine fM (aS (ez,u)) (.inl (S7 _ _ eb5)) e7 hpi ?_;have e17:=S7 _ _ e15;walk_at"go";refine BO (aP hh2 (s5.trans S7)) nr he fun H8 S8=> ?_;walk_at"go";rw[decide_eq_false (by lia)];exact hR _ (S7.trans S8)
  intro ws H5 s5 hws;rw[List.filter_eq_nil_iff.mpr (fun _ _=>Bool.false_ne_true)]at hws;cases hws;walk_at"go";rename_i p6 H6 n6 S6 e6;refine k p6 H6 ?_ (S2.trans (s5.trans S6)) e6;cases hq:H p6 with
  | none=>rfl
  | some u =>
   have:=(S2.trans s5) _ _ hq;rw[n6]at this;cases this
theorem A1 (m:M K mg):Fc P w K mg base "full_faults" 5 ["house","inside"] (wT m.aI (aM P w K mg base (some 4))):=⟨_,_,m.EJ,m.jB.F.kp,m.jB.b,BA m⟩
structure M3 (rz ps:List (Str×Int))(ds:List aD)(f l:Int)(rows:List aJ):Prop where
 door:∀t n,cH rows t n<=dQ ds f l t n
 lv:∀e∈rz,∀i:Nat,f+(i:Int)<l->fB (dX ds) (rows.filter (cnt (ds.map (·.1)) f l)) (aS (e.1,f+(i:Int)))<=cG ps (fB (dX ds) (rows.filter (cnt (ds.map (·.1)) f l))) (fB (dW ds) (rows.filter (cnt (ds.map (·.1)) f l))) e.1 f i
 full:∀e∈rz,∀i:Nat,f+(i:Int)<=l->cG ps (fB (dX ds) (rows.filter (cnt (ds.map (·.1)) f l))) (fB (dW ds) (rows.filter (cnt (ds.map (·.1)) f l))) e.1 f i<=e.2
inductive AS (K:PySem.W.Frag)(C:Addr)(D:aU)(vs:List V)(H:Hp)(Q:VK)(E:XK):Prop
 | mk (h a:Addr) (f l:Int) (rz ps:List (Str×Int)) (ds:List aD) (us:List V) (rows:List aJ) (_:vs=[.ref h,.ref a]) (_:aR C D H h f l rz ps ds) (_:(rz.map (·.1)).Nodup) (_:(ds.map (·.1)).Nodup) (_:(∀d∈ds,c9 (rz.map (·.1)) d)) (_:0<=f) (_:f<=l) (_:l<1000000000000) (_:l - f<=1000) (_:rz.length<=20) (_:ds.length<=20) (_:SqL K H a us) (_:bJ H us rows) (_:rows.length<=200) (_:M3 rz ps ds f l rows) (_:∀p H',H p=none->Same H H'->H' p=some (.lst [])->Q (.ref p) H'):AS K C D vs H Q E
theorem VJ {C:Addr}{D:aU}{H:Hp}{Q:VK}{E:XK}{h a:Addr}{f l:Int}{rz ps:List (Str×Int)}{ds:List aD}{us:List V}{rows:List aJ} (hh:aR C D H h f l rz ps ds) (nr:(rz.map (·.1)).Nodup) (nd:(ds.map (·.1)).Nodup) (hin:∀d∈ds,c9 (rz.map (·.1)) d) (h0:0<=f) (h1:f<=l) (h2:l<1000000000000) (h3:l - f<=1000) (lr:rz.length<=20) (ld:ds.length<=20) (hS:SqL K H a us) (hp:bJ H us rows) (hl:rows.length<=200) (nf:M3 rz ps ds f l rows) (k:∀p H',H p=none->Same H H'->H' p=some (.lst [])->Q (.ref p) H'):AS K C D [.ref h,.ref a] H Q E:=⟨_,_,_,_,_,_,_,_,_,rfl,hh,nr,nd,hin,h0,h1,h2,h3,lr,ld,hS,hp,hl,nf,k⟩
theorem PK (m:M K mg):FnOk P w K mg base CX0 10 m.yV m.uQ.d ["house","plan"] (AS K m.aI (aM P w K mg base (some 4))):=by
 refine m.uQ.F.ok sc_faults (fun vs H Q E h=> ?_) (fun cdv A outer s H vs Q E hr h=> ?_)
 ·walk_at"g1";obtain⟨h,a,f,l,rz,ps,ds,us,rows,rfl,hh,nr,ndd,hin,h0,h1,h2,h3,lr,ld,hS,hpl,hlen,nf,k⟩:=h;walk_at"g2";rfl
 ·walk_at"g1";obtain⟨h,a,f,l,rz,ps,ds,us,rows,rfl,hh,nr,ndd,hin,h0,h1,h2,h3,lr,ld,hS,hpl,hlen,nf,k⟩:=h;walk_at"g2";have nd:=sc_faults.nd;walk_at"hu";have F_door_faults:= @BR P w K mg base m;have F_full_faults:= @A1 P w K mg base m;have F_leave_faults:= @z4 P w K mg base m;have F_there:= @yE P w K mg base m;have w_dc_House:=m.aX;refine⟨_,(aB (aN (i:=2) nd rfl (by walk_at"oi") (bA F_there hr (aA (pv 0) (aA (pv 1) aC))))
   (aF (aT (bS E6 rfl m.zA vQ (aA (aH sK (aH sK (bA F_door_faults hr (aA (pv 0) (aA (pv 1) aC))) (bA F_leave_faults hr (aA (pv 0) (aA (pv 1) (aA (pv 2) aC))))) (bA F_full_faults hr (aA (pv 0) (aA (pv 2) aC)))) aC))))),?_⟩
  refine aO (σ:=[some (.ref h),some (.ref a),none]) rfl ?_;walk_at"cx";walk_at"go";refine⟨_,_,_,_,_,_,_,_,_,rfl,hh,nr,ndd,hin,h0,h1,h2,h3,lr,hS,hpl,hlen,fun p1 H1 n1 S1 e1=> ?_⟩;walk_at"go";refine ZK (aP hh S1) ndd h0 ld (S1.seq hS) (cJ hpl S1) hlen nf.door fun p2 H2 n2 S2 e2=> ?_;have s02:=S1.trans S2;walk_at"go";refine aAn (aP hh s02) nr ndd hin h0 h1 h2 h3 lr (s02.seq hS) (cJ hpl s02) hlen (S2 _ _ e1) nf.lv fun p3 H3 n3 S3 e3=> ?_;have s03:=s02.trans S3;walk_at"go";refine KF (S3 _ _ e2) e3 (by decide) fun p4 H4 n4 S4 e4=> ?_;have s04:=s03.trans S4;walk_at"go";refine aBh (aP hh s04) nr h0 h1 h2 h3 lr ((S2.trans (S3.trans S4)) _ _ e1) nf.full fun p5 H5 n5 S5 e5=> ?_;walk_at"go";rename_i p6 H6 n6 S6 e6;have e6:H6 p6=some (.lst []):=e6;have s06:=s04.trans (S5.trans S6);refine Q9 (rs:=[]) (sh:=[true]) (SqL.of e6) .nil (by decide) (fun _ z=>nomatch z) (by decide) fun p7 ws H7 n7 S7 e7 hws=> ?_;rw[show EX []=[] from rfl]at hws;cases hws;refine k p7 H7 ?_ (s06.trans S7) e7;cases hq:H p7 with
  | none=>rfl
  | some u =>
   have:=s06 _ _ hq;rw[n7]at this;cases this
theorem DG (m:M K mg):Fc P w K mg base "faults" 10 ["house","plan"] (AS K m.aI (aM P w K mg base (some 4))):=⟨_,_,m.U1,m.uQ.F.kp,m.uQ.b,PK m⟩
theorem mF {ds:List aD}(nd:(ds.map (·.1)).Nodup){d:aD}(hd:d∈ds):cX ds d.1=some d:=by
 induction ds with
 | nil=>exact nomatch hd
 | cons a l ih =>
  have nd':=List.nodup_cons.mp nd;unfold cX;rcases List.mem_cons.mp hd with rfl|h
  ·rw[List.find?_cons_of_pos (by simp)]
  ·have hne:¬a.1=d.1:=fun z=>nd'.1 (show a.1∈_ by rw[z];exact List.mem_map.mpr ⟨d,h,rfl⟩);rw[List.find?_cons_of_neg (by simpa using hne)];exact ih nd'.2 h
theorem XM {ds:List aD}{d:aD} (h:cX ds d.1=some d) (rt rj:Int) (z:Str) (t:Int):dW ds (rt,d.1,rj)=some (aS (z,t))↔d.2.2.1= .str z/\rt=t:=by
 unfold dW;rw[show cX ds ((rt,d.1,rj):aJ).2.1=some d from h,Option.bind_some];walk_at"g1";obtain⟨dn,dst,de,lt⟩:=d;walk_at"g2";show (match de with| .str z=>some [Sum.inr z,Sum.inl rt]|_=>none)=_↔de= .str z/\rt=t;cases de with
 | str y =>
  show some (aS (y,rt))=_↔_
  constructor
  ·intro h;have h:=lM (Option.some.inj h);cases h;exact⟨rfl,rfl⟩
  ·rintro ⟨h,rfl⟩;cases h;rfl
 | _=>exact⟨(fun h=>nomatch h),(fun h=>nomatch h.1)⟩
abbrev goL (ds:List aD)(f l:Int)(rows:List aJ):List Key->Int:=fB (dX ds) (rows.filter (cnt (ds.map (·.1)) f l))
abbrev goC (ds:List aD)(f l:Int)(rows:List aJ):List Key->Int:=fB (dW ds) (rows.filter (cnt (ds.map (·.1)) f l))
def wt (g:Int->Str->Bool)(rows:List aJ):Int:=((rows.filter fun r=>g r.1 r.2.1).map (·.2.2)).sum
theorem fX (g:Int->Str->Bool)(r:aJ)(rows:List aJ):wt g (r::rows)=(if g r.1 r.2.1=true then r.2.2 else 0)+wt g rows:=by
 unfold wt
 by_cases h:g r.1 r.2.1=true
 ·rw[List.filter_cons_of_pos (p:=fun r:aJ=>g r.1 r.2.1) h,List.map_cons,List.sum_cons,if_pos h]
 ·rw[List.filter_cons_of_neg (p:=fun r:aJ=>g r.1 r.2.1) h,if_neg h,Int.zero_add]
theorem AL (r:aJ)(rows:List aJ)(t:Int)(n:Str):cH (r::rows) t n=(if (r.1,r.2.1)=(t,n) then r.2.2 else 0)+cH rows t n:=by
 have h:=fX (fun t' n'=>decide (t'=t)&&decide (n'=n)) r rows;have e:((decide (r.1=t)&&decide (r.2.1=n))=true)↔((r.1,r.2.1)=(t,n)):=by
  rw[Bool.and_eq_true,decide_eq_true_eq,decide_eq_true_eq,Prod.mk.injEq]
 by_cases c:(r.1,r.2.1)=(t,n)
 ·rw[if_pos (e.mpr c)]at h;rw[if_pos c];exact h
 ·rw[if_neg (fun z=>c (e.mp z))]at h;rw[if_neg c];exact h
theorem DN (a b:List aJ)(t:Int)(n:Str):cH (a++b) t n=cH a t n+cH b t n:=by
 unfold cH;rw[List.filter_append,List.map_append,List.sum_append]
theorem FH {α:Type}(f g:α->Int):∀l:List α,(l.map fun x=>f x+g x).sum=(l.map f).sum+(l.map g).sum
 | []=>rfl
 | a::l=>by
  have ih:=FH f g l;simp only[List.map_cons,List.sum_cons]
  lia
theorem yU {α:Type}{f:α->Int}:∀{l:List α},(∀x∈l,f x=0)->(l.map f).sum=0
 | [],_=>rfl
 | a::l,h=>by
  rw[List.map_cons,List.sum_cons,h a (.head _),yU fun x hx=>h x (List.mem_cons_of_mem _ hx)];rfl
theorem J0 {α:Type}[DecidableEq α]{a:α}{c:Int}:∀{l:List α},l.Nodup->a∈l->(l.map fun x=>if a=x then c else 0).sum=c
 | b::l,nd,h=>by
  have nd':=List.nodup_cons.mp nd;rw[List.map_cons,List.sum_cons];rcases List.mem_cons.mp h with rfl|h
  ·rw[if_pos rfl,yU (fun x hx=>if_neg fun z=>nd'.1 (by rw[z];exact hx))];exact Int.add_zero _
  ·rw[if_neg (fun z=>nd'.1 (by rw[←z];exact h)),J0 nd'.2 h];exact Int.zero_add _
def ded {α:Type}[DecidableEq α]:List α->List α
 | []=>[]
 | a::l=>if a∈ded l then ded l else a::ded l
theorem A9 {α:Type}[DecidableEq α]{x:α}:∀{l:List α},x∈l->x∈ded l
 | a::l,h=>by
  unfold ded;rcases List.mem_cons.mp h with rfl|h
  ·split
   ·assumption
   ·exact .head _
  ·split
   ·exact A9 h
   ·exact List.mem_cons_of_mem _ (A9 h)
theorem u6 {α:Type}[DecidableEq α]:∀l:List α,(ded l).Nodup
 | []=>List.nodup_nil
 | a::l=>by
  unfold ded
  split
  ·exact u6 l
  ·rename_i h;exact List.nodup_cons.mpr ⟨h,u6 l⟩
theorem A7 (g:Int->Str->Bool){Ks:List (Int×Str)}(nd:Ks.Nodup):∀{rows:List aJ},(∀r∈rows,(r.1,r.2.1)∈Ks)->wt g rows=(Ks.map fun k=>if g k.1 k.2=true then cH rows k.1 k.2 else 0).sum
 | [],_=>by
  rw[yU (fun k _=>by split<;>rfl)];rfl
 | r::rows,h=>by
  have ih:=A7 g nd (rows:=rows) fun r hr=>h r (List.mem_cons_of_mem _ hr);have hk:=h r (.head _);rw[fX,ih];have e:(fun k:Int×Str=>if g k.1 k.2=true then cH (r::rows) k.1 k.2 else 0)=fun k=>(if (r.1,r.2.1)=k then (if g r.1 r.2.1=true then r.2.2 else 0) else 0)+(if g k.1 k.2=true then cH rows k.1 k.2 else 0):=by
   funext k
   rw[AL]
   by_cases c:(r.1,r.2.1)=k
   ·subst c;rw[if_pos rfl,if_pos rfl]
    by_cases d:g r.1 r.2.1=true
    ·rw[if_pos d,if_pos d,if_pos d]
    ·rw[if_neg d,if_neg d,if_neg d];rfl
   ·rw[if_neg c,if_neg c,Int.zero_add,Int.zero_add]
  rw[e,FH,J0 nd hk]
theorem KB {g g':Int->Str->Bool}{rows:List aJ} (h:∀t n,cH rows t n≠0->g t n=g' t n):wt g rows=wt g' rows:=by
 have nd:=u6 (rows.map fun r=>(r.1,r.2.1));have hm:∀r∈rows,(r.1,r.2.1)∈ded (rows.map fun r=>(r.1,r.2.1)):=fun r hr=>A9 (List.mem_map.mpr ⟨r,hr,rfl⟩);rw[A7 g nd hm,A7 g' nd hm]
 congr 2
 funext k
 by_cases c:cH rows k.1 k.2=0
 ·rw[c,ite_self,ite_self]
 ·rw[h _ _ c]
theorem sU (rows:List aJ):wt (fun _ _=>false) rows=0:=by
 unfold wt;rw[List.filter_eq_nil_iff.mpr (fun _ _=>Bool.false_ne_true)];rfl
theorem kF (ds:List aD)(f l:Int)(rows:List aJ)(k:List Key):goL ds f l rows k=wt (fun t n=>decide (dX ds (t,n,0)=some k)&&cnt (ds.map (·.1)) f l (t,n,0)) rows:=by
 unfold goL fB;rw[List.filter_filter];rfl
theorem iV (ds:List aD)(f l:Int)(rows:List aJ)(k:List Key):goC ds f l rows k=wt (fun t n=>decide (dW ds (t,n,0)=some k)&&cnt (ds.map (·.1)) f l (t,n,0)) rows:=by
 unfold goC fB;rw[List.filter_filter];rfl
theorem wC (ds:List aD)(f l:Int)(rows:List aJ)(T:Int):mO ds f l rows T=wt (fun t n=>(decide (t<T)&&tR ds n)&&cnt (ds.map (·.1)) f l (t,n,0)) rows:=by
 unfold mO;rw[List.filter_filter];rfl
theorem OP {ds:List aD}{f l t:Int}{d:aD} (hd:d∈ds) (h0:f<=t) (h1:t<l):cnt (ds.map (·.1)) f l (t,d.1,0)=true:=by
 unfold cnt;simp only[Bool.and_eq_true,decide_eq_true_eq];exact⟨List.mem_map.mpr ⟨d,hd,rfl⟩,h0,h1⟩
theorem SL {ds:List aD}(nd:(ds.map (·.1)).Nodup){f l t:Int}{d:aD} (hd:d∈ds) (h0:f<=t) (h1:t<l) (c:Int) (R:List aJ) (z:Str) (t':Int):goL ds f l ((t,d.1,c)::R) (aS (z,t'))=(if d.2.1=z/\t=t' then c else 0)+goL ds f l R (aS (z,t')):=by
 rw[kF,kF,fX]
 congr 1
 show (if (decide (dX ds (t,d.1,0)=some (aS (z,t')))&&cnt (ds.map (·.1)) f l (t,d.1,0))=true then c else 0)=_;rw[OP hd h0 h1,Bool.and_true];have e:dX ds (t,d.1,0)=some (aS (d.2.1,t)):=by
  unfold dX;rw[show cX ds ((t,d.1,0):aJ).2.1=some d from mF nd hd];rfl
 rw[e]
 by_cases h:d.2.1=z/\t=t'
 ·rw[if_pos h,if_pos (by rw[h.1,h.2];exact decide_eq_true rfl)]
 ·rw[if_neg h,if_neg (fun y=>h (by
   have:=lM (Option.some.inj (of_decide_eq_true y));exact⟨(Prod.mk.inj this).1,(Prod.mk.inj this).2⟩))]
theorem UJ {ds:List aD}(nd:(ds.map (·.1)).Nodup){f l t:Int}{d:aD} (hd:d∈ds) (h0:f<=t) (h1:t<l) (c:Int) (R:List aJ) (z:Str) (t':Int):goC ds f l ((t,d.1,c)::R) (aS (z,t'))=(if d.2.2.1= .str z/\t=t' then c else 0)+goC ds f l R (aS (z,t')):=by
 rw[iV,iV,fX]
 congr 1
 show (if (decide (dW ds (t,d.1,0)=some (aS (z,t')))&&cnt (ds.map (·.1)) f l (t,d.1,0))=true then c else 0)=_;rw[OP hd h0 h1,Bool.and_true];have e:=XM (mF nd hd) t 0 z t'
 by_cases h:d.2.2.1= .str z/\t=t'
 ·rw[if_pos h,if_pos (decide_eq_true (e.mpr h))]
 ·rw[if_neg h,if_neg (fun y=>h (e.mp (of_decide_eq_true y)))]
theorem vW {ps:List (Str×Int)}{L C L' C':List Key->Int}{z:Str}{f:Int}:∀{n:Nat},(∀j:Nat,j<n->L (aS (z,f+(j:Int)))=L' (aS (z,f+(j:Int)))/\C (aS (z,f+(j:Int)))=C' (aS (z,f+(j:Int))))->cG ps L C z f n=cG ps L' C' z f n
 | 0,_=>rfl
 | n+1,h=>by
  have ih:=vW (ps:=ps) (n:=n) fun j hj=>h j (by lia);have h1:=h n (by lia);show cG ps L C z f n - L (aS (z,f+(n:Int)))+C (aS (z,f+(n:Int)))=cG ps L' C' z f n - L' (aS (z,f+(n:Int)))+C' (aS (z,f+(n:Int)));rw[ih,h1.1,h1.2]
theorem C6 {ds:List aD}{t c T:Int}{n z:Str} (h:dX ds (t,n,c)=some (aS (z,T))):t=T:=by
 unfold dX at h;obtain⟨d,_,e⟩:=Option.map_eq_some_iff.mp h;exact(Prod.mk.inj (lM (a:=(d.2.1,t)) (b:=(z,T)) e)).2
theorem CW {ds:List aD}{t c T:Int}{n z:Str} (h:dW ds (t,n,c)=some (aS (z,T))):t=T:=by
 unfold dW at h;obtain⟨d,_,e⟩:=Option.bind_eq_some_iff.mp h;walk_at"g1";obtain⟨dn,dst,de,lt⟩:=d;walk_at"g2";cases de<;>first|(cases e;done)|skip
 rename_i y e;have e:some (aS (y,t))=some (aS (z,T)):=e;exact(Prod.mk.inj (lM (Option.some.inj e))).2
theorem UM {ds:List aD}{f l T:Int}{R:List aJ} (tm:∀t n,cH R t n≠0->t<T) (z:Str):goL ds f l R (aS (z,T))=0:=by
 rw[kF,←sU R];refine KB fun t n hne=> ?_;have:=tm t n hne;rw[decide_eq_false (fun y=>by have:=C6 y;lia),Bool.false_and]
theorem TD {ds:List aD}{f l T:Int}{R:List aJ} (tm:∀t n,cH R t n≠0->t<T) (z:Str):goC ds f l R (aS (z,T))=0:=by
 rw[iV,←sU R];refine KB fun t n hne=> ?_;have:=tm t n hne;rw[decide_eq_false (fun y=>by have:=CW y;lia),Bool.false_and]
theorem JI {ps:List (Str×Int)}(h:∀p∈ps,0<=p.2)(z:Str):0<=dJ ps z:=by
 induction ps with
 | nil=>exact Int.le_refl _
 | cons a l ih =>
  have h1:=ih fun p hp=>h p (List.mem_cons_of_mem _ hp);have h2:=h a (.head _);unfold dJ at h1 ⊢
  by_cases e:a.1=z
  ·rw[List.filter_cons_of_pos (by simpa using e),List.map_cons,List.sum_cons];lia
  ·rw[List.filter_cons_of_neg (by simpa using e)];exact h1
def cQ (ks:List Str)(g:Str->Int):List (Key×V):=ks.map fun n=>(Sum.inr n,V.int (g n))
def c8 (g:Str->Int)(n:Str)(v:Int):Str->Int:=fun x=>if x=n then v else g x
theorem C0 (ks:List Str)(g:Str->Int):(cQ ks g).map (·.1)=ks.map (Sum.inr:Str->Key):=by unfold cQ;rw[List.map_map];rfl
theorem o0 (ks:List Str)(g:Str->Int):(cQ ks g).length=ks.length:=by unfold cQ;rw[List.length_map]
theorem bX {g:Str->Int}{n:Str}:∀{ks:List Str},n∈ks->bD (cQ ks g) (.inr n)=some (.int (g n))
 | a::ks,h=>by
  show bD ((Sum.inr a,V.int (g a))::cQ ks g) (.inr n)=_
  by_cases e:a=n
  ·subst e;rw[dE rfl]
  ·rw[cU (fun z=>e (Sum.inr.inj z))];exact bX ((List.mem_cons.mp h).resolve_left (fun z=>e z.symm))
theorem F1 {g:Str->Int}{n:Str}{ks:List Str}:((cQ ks g).any fun kv=>decide (kv.1=Sum.inr n))=decide (n∈ks):=by
 rw[Bool.eq_iff_iff,List.any_eq_true,decide_eq_true_eq]
 constructor
 ·rintro ⟨e,he,hk⟩;obtain⟨x,hx,rfl⟩:=List.mem_map.mp he;have:=Sum.inr.inj (of_decide_eq_true hk);exact this▸hx
 ·intro h;exact⟨_,List.mem_map.mpr ⟨n,h,rfl⟩,decide_eq_true rfl⟩
theorem xS {ks:List Str}{g:Str->Int}{n:Str}{v:Int} (h:n∈ks):cC (cQ ks g) (.inr n) (.int v)=cQ ks (c8 g n v):=by
 unfold cC;rw[F1,decide_eq_true h,if_pos rfl];unfold cQ;rw[List.map_map];refine List.map_congr_left fun x _=> ?_;show (if (Sum.inr x:Key)=Sum.inr n then ((Sum.inr x:Key),V.int v) else (Sum.inr x,V.int (g x)))=_;unfold c8
 by_cases e:x=n
 ·rw[if_pos (by rw[e]),if_pos e]
 ·rw[if_neg (fun z=>e (Sum.inr.inj z)),if_neg e]
theorem GO {ks:List Str}{g:Str->Int}{n:Str}{v:Int} (h:n∉ks):cC (cQ ks g) (.inr n) (.int v)=cQ (ks++[n]) (c8 g n v):=by
 unfold cC;rw[F1,decide_eq_false h,if_neg Bool.false_ne_true];unfold cQ;rw[List.map_append,List.map_singleton]
 congr 1
 ·refine List.map_congr_left fun x hx=> ?_;unfold c8;rw[if_neg (fun z:x=n=>h (z▸hx))]
 ·unfold c8;rw[if_pos rfl]
theorem OB (g:Str->Int)(n:Str):c8 g n (g n)=g:=funext fun x=>by
 unfold c8
 split
 ·subst_vars;rfl
 ·rfl
theorem S0 {ks:List Str}{g:Str->Int}{n:Str} (h:n∉ks):cC (cQ ks g) (.inr n) (.int (g n))=cQ (ks++[n]) g:=by rw[GO h,OB]
theorem GK {g:Str->Int}{n:Str}{v:Int}:∀{ks:List Str},ks.Nodup->n∈ks->(ks.map (c8 g n v)).sum=(ks.map g).sum - g n+v
 | a::ks,nd,h=>by
  have nd':=List.nodup_cons.mp nd;rw[List.map_cons,List.sum_cons,List.map_cons,List.sum_cons]
  by_cases e:a=n
  ·subst e;have:ks.map (c8 g a v)=ks.map g:=List.map_congr_left fun x hx=>by
    unfold c8;rw[if_neg (fun z:x=a=>nd'.1 (z▸hx))]
   rw[this];show (if a=a then v else g a)+_=_;rw[if_pos rfl];lia
  ·rw[GK nd'.2 ((List.mem_cons.mp h).resolve_left (fun z=>e z.symm))];show (if a=n then v else g a)+_=_;rw[if_neg e];lia
theorem AD {g:Str->Int}:∀{ks:List Str},(∀n∈ks,0<=g n)->0<=(ks.map g).sum
 | [],_=>Int.le_refl _
 | a::ks,h=>by
  rw[List.map_cons,List.sum_cons];have:=AD (ks:=ks) fun n hn=>h n (List.mem_cons_of_mem _ hn);have:=h a (.head _)
  lia
theorem J6 {g:Str->Int}:∀{ks:List Str},0<(ks.map g).sum->∃n∈ks,0<g n
 | [],h=>absurd h (Int.lt_irrefl 0)
 | a::ks,h=>by
  rw[List.map_cons,List.sum_cons]at h
  by_cases c:0<g a
  ·exact⟨a,.head _,c⟩
  ·obtain⟨n,hn,hp⟩:=J6 (g:=g) (ks:=ks) (by lia);exact⟨n,List.mem_cons_of_mem _ hn,hp⟩
def eV (ds:List aD)(g:Str->Int)(z:Str):Int:=((gH ds z).map g).sum
def nV (ds:List aD)(g:Str->Int)(z:Str):Int:=((eU ds z).map g).sum
def sLf (ds:List aD)(g:Str->Int)(z n:Str):Int:=match cX ds n with
 | some d=>if d.2.1=z then g n else 0
 | none=>0
def sCf (ds:List aD)(g:Str->Int)(z n:Str):Int:=match cX ds n with
 | some d=>if d.2.2.1= .str z then g n else 0
 | none=>0
theorem zQ {ds:List aD}(nd:(ds.map (·.1)).Nodup){d:aD}(hd:d∈ds)(g:Str->Int)(z:Str):sLf ds g z d.1=if d.2.1=z then g d.1 else 0:=by unfold sLf;rw[mF nd hd]
theorem AI {ds:List aD}(nd:(ds.map (·.1)).Nodup){d:aD}(hd:d∈ds)(g:Str->Int)(z:Str):sCf ds g z d.1=if d.2.2.1= .str z then g d.1 else 0:=by unfold sCf;rw[mF nd hd]
theorem BF {α:Type}(q:α->Bool)(h:α->Int):∀l:List α,((l.filter q).map h).sum=(l.map fun x=>if q x=true then h x else 0).sum
 | []=>rfl
 | a::l=>by
  have ih:=BF q h l;rw[List.map_cons,List.sum_cons]
  by_cases c:q a=true
  ·rw[List.filter_cons_of_pos c,List.map_cons,List.sum_cons,ih,if_pos c]
  ·rw[List.filter_cons_of_neg c,ih,if_neg c,Int.zero_add]
theorem yN {ds:List aD}(nd:(ds.map (·.1)).Nodup)(g:Str->Int)(z:Str):((ds.map (·.1)).map (sLf ds g z)).sum=eV ds g z:=by
 unfold eV gH;rw[List.map_map,List.map_map,BF]
 congr 1
 refine List.map_congr_left fun d hd=> ?_;show sLf ds g z d.1=if decide (d.2.1=z)=true then g d.1 else 0;rw[zQ nd hd]
 by_cases c:d.2.1=z
 ·rw[if_pos c,if_pos (decide_eq_true c)]
 ·rw[if_neg c,if_neg (fun y=>c (of_decide_eq_true y))]
theorem yI {ds:List aD}(nd:(ds.map (·.1)).Nodup)(g:Str->Int)(z:Str):((ds.map (·.1)).map (sCf ds g z)).sum=nV ds g z:=by
 unfold nV eU;rw[List.map_map,List.map_map,BF]
 congr 1
 refine List.map_congr_left fun d hd=> ?_;show sCf ds g z d.1=if decide (d.2.2.1= .str z)=true then g d.1 else 0;rw[AI nd hd]
 by_cases c:d.2.2.1= .str z
 ·rw[if_pos c,if_pos (decide_eq_true c)]
 ·rw[if_neg c,if_neg (fun y=>c (of_decide_eq_true y))]
theorem lH {f:Str->Int}{a b:List Str} (h:a.Perm b):(a.map f).sum=(b.map f).sum:=by
 induction h with
 | nil=>rfl
 | cons x _ ih=>rw[List.map_cons,List.sum_cons,List.map_cons,List.sum_cons,ih]
 | swap x y l=>simp only[List.map_cons,List.sum_cons];lia
 | trans _ _ h1 h2=>exact h1.trans h2
def EV (rz:List (Str×Int))(ds:List aD)(g I:Str->Int):Prop:=∀e∈rz,eV ds g e.1<=I e.1/\I e.1 - eV ds g e.1+nV ds g e.1<=e.2
def cF (T:Int)(g:Str->Int)(L:List Str):List aJ:=(L.filter fun n=>decide (0<g n)).map fun n=>(T,n,g n)
theorem nT (T:Int)(g:Str->Int)(L:List Str)(n:Str):cF T g (L++[n])=if 0<g n then cF T g L++[(T,n,g n)] else cF T g L:=by
 unfold cF;rw[List.filter_append,List.map_append]
 by_cases c:0<g n
 ·rw[List.filter_cons_of_pos (p:=fun n=>decide (0<g n)) (decide_eq_true c),if_pos c];rfl
 ·rw[List.filter_cons_of_neg (p:=fun n=>decide (0<g n)) (fun y=>c (of_decide_eq_true y)),if_neg c];exact List.append_nil _
theorem tW (T:Int)(g:Str->Int)(L:List Str)(n:Str):cF T g (n::L)=if 0<g n then (T,n,g n)::cF T g L else cF T g L:=by
 unfold cF
 by_cases c:0<g n
 ·rw[List.filter_cons_of_pos (p:=fun n=>decide (0<g n)) (decide_eq_true c),if_pos c];rfl
 ·rw[List.filter_cons_of_neg (p:=fun n=>decide (0<g n)) (fun y=>c (of_decide_eq_true y)),if_neg c]
theorem DP (T:Int)(g:Str->Int)(L:List Str):(cF T g L).length<=L.length:=by
 unfold cF;rw[List.length_map];exact List.length_filter_le _ _
theorem qZ {T:Int}{g:Str->Int}{L:List Str}{r:aJ} (h:r∈cF T g L):r.1=T/\r.2.1∈L/\r.2.2=g r.2.1/\0<r.2.2:=by
 obtain⟨n,hn,rfl⟩:=List.mem_map.mp h;obtain⟨h1,h2⟩:=List.mem_filter.mp hn;exact⟨rfl,h1,rfl,of_decide_eq_true h2⟩
theorem FN {a b:aJ}(h:a.1<b.1):cO (k4 a) (k4 b)=true:=by
 show (if (Sum.inl a.1:Key)=Sum.inl b.1 then _ else d9 (.inl a.1) (.inl b.1))=true;rw[if_neg (fun z=>by have:=Sum.inl.inj z;lia)];exact decide_eq_true h
theorem UW {a b:aJ}(h0:a.1=b.1)(h:ltS a.2.1 b.2.1=true):cO (k4 a) (k4 b)=true:=by
 show (if (Sum.inl a.1:Key)=Sum.inl b.1 then (if (Sum.inr a.2.1:Key)=Sum.inr b.2.1 then _ else d9 (.inr a.2.1) (.inr b.2.1)) else _)=true;rw[if_pos (by rw[h0]),if_neg (fun z=>by
  have:=Sum.inr.inj z;rw[this,BM]at h;cases h)]
 exact h
theorem RQ (T:Int)(g:Str->Int){L:List Str}(h:L.Pairwise fun x y=>ltS x y=true):((cF T g L).map k4).Pairwise fun a b=>cO a b=true:=by
 unfold cF;rw[List.map_map,List.pairwise_map];exact(List.Pairwise.filter _ h).imp fun {x y} h=>UW (a:=(T,x,g x)) (b:=(T,y,g y)) rfl h
theorem XY (ds:List aD)(f l:Int)(a b:List aJ)(k:List Key):goL ds f l (a++b) k=goL ds f l a k+goL ds f l b k:=by
 rw[kF,kF,kF];unfold wt;rw[List.filter_append,List.map_append,List.sum_append]
theorem YO (ds:List aD)(f l:Int)(a b:List aJ)(k:List Key):goC ds f l (a++b) k=goC ds f l a k+goC ds f l b k:=by
 rw[iV,iV,iV];unfold wt;rw[List.filter_append,List.map_append,List.sum_append]
theorem F2 {ds:List aD}(nd:(ds.map (·.1)).Nodup){f l T:Int}(h0:f<=T)(h1:T<l){g:Str->Int}(z:Str)(t':Int):∀{L:List Str},(∀n∈L,n∈ds.map (·.1)/\0<=g n)->goL ds f l (cF T g L) (aS (z,t'))=if T=t' then (L.map (sLf ds g z)).sum else 0
 | [],_=>by
  rw[show goL ds f l (cF T g []) (aS (z,t'))=0 from rfl]
  split<;>rfl
 | n::L,h=>by
  have ih:=F2 nd h0 h1 z t' (L:=L) fun n hn=>h n (List.mem_cons_of_mem _ hn);obtain⟨hn,hg⟩:=h n (.head _);obtain⟨d,hd,rfl⟩:=List.mem_map.mp hn;rw[tW,List.map_cons,List.sum_cons,zQ nd hd]
  by_cases c:0<g d.1
  ·rw[if_pos c,SL nd hd h0 h1,ih]
   by_cases e:T=t'
   ·rw[if_pos e,if_pos e]
    by_cases q:d.2.1=z
    ·rw[if_pos ⟨q,e⟩,if_pos q]
    ·rw[if_neg (fun y=>q y.1),if_neg q]
   ·rw[if_neg e,if_neg e,if_neg (fun y=>e y.2)];rfl
  ·have g0:g d.1=0:=by lia
   rw[if_neg c,ih,g0,ite_self,Int.zero_add]
theorem EZ {ds:List aD}(nd:(ds.map (·.1)).Nodup){f l T:Int}(h0:f<=T)(h1:T<l){g:Str->Int}(z:Str)(t':Int):∀{L:List Str},(∀n∈L,n∈ds.map (·.1)/\0<=g n)->goC ds f l (cF T g L) (aS (z,t'))=if T=t' then (L.map (sCf ds g z)).sum else 0
 | [],_=>by
  rw[show goC ds f l (cF T g []) (aS (z,t'))=0 from rfl]
  split<;>rfl
 | n::L,h=>by
  have ih:=EZ nd h0 h1 z t' (L:=L) fun n hn=>h n (List.mem_cons_of_mem _ hn);obtain⟨hn,hg⟩:=h n (.head _);obtain⟨d,hd,rfl⟩:=List.mem_map.mp hn;rw[tW,List.map_cons,List.sum_cons,AI nd hd]
  by_cases c:0<g d.1
  ·rw[if_pos c,UJ nd hd h0 h1,ih]
   by_cases e:T=t'
   ·rw[if_pos e,if_pos e]
    by_cases q:d.2.2.1= .str z
    ·rw[if_pos ⟨q,e⟩,if_pos q]
    ·rw[if_neg (fun y=>q y.1),if_neg q]
   ·rw[if_neg e,if_neg e,if_neg (fun y=>e y.2)];rfl
  ·have g0:g d.1=0:=by lia
   rw[if_neg c,ih,g0,ite_self,Int.zero_add]
theorem zI {T:Int}{g:Str->Int} (t:Int) (n:Str):∀{L:List Str},L.Nodup->(∀n∈L,0<=g n)->cH (cF T g L) t n=if T=t/\n∈L then g n else 0
 | [],_,_=>by
  rw[if_neg (fun y=>nomatch y.2)];rfl
 | a::L,nd,h=>by
  have nd':=List.nodup_cons.mp nd;have ih:=zI (T:=T) t n nd'.2 fun n hn=>h n (List.mem_cons_of_mem _ hn);have ha:=h a (.head _);rw[tW]
  by_cases c:0<g a
  ·rw[if_pos c,AL,ih]
   by_cases e:(T,a)=(t,n)
   ·have e1:T=t:=(Prod.mk.inj e).1;have e2:a=n:=(Prod.mk.inj e).2;subst e2;rw[if_pos e,if_neg (fun y=>nd'.1 y.2),if_pos ⟨e1,.head _⟩,Int.add_zero]
   ·rw[if_neg e,Int.zero_add]
    by_cases q:T=t/\n∈L
    ·rw[if_pos q,if_pos ⟨q.1,List.mem_cons_of_mem _ q.2⟩]
    ·rw[if_neg q,if_neg (fun y=>(List.mem_cons.mp y.2).elim (fun z=>e (by rw[y.1,z])) (fun z=>q ⟨y.1,z⟩))]
  ·rw[if_neg c,ih]
   by_cases q:T=t/\n∈L
   ·rw[if_pos q,if_pos ⟨q.1,List.mem_cons_of_mem _ q.2⟩]
   ·rw[if_neg q]
    by_cases q2:T=t/\n∈a::L
    ·rw[if_pos q2];have:n=a:=(List.mem_cons.mp q2.2).resolve_right (fun z=>q ⟨q2.1,z⟩);subst this
     lia
    ·rw[if_neg q2]
structure Lawn (rz ps:List (Str×Int))(ds:List aD)(f l:Int)(i:Nat)(I:Str->Int)(R:List aJ):Prop where
 ins:∀z∈rz.map (·.1),I z=cG ps (goL ds f l R) (goC ds f l R) z f i
 bd:∀e∈rz,0<=I e.1/\I e.1<=e.2
 lv:∀j:Nat,j<i->∀z∈rz.map (·.1),goL ds f l R (aS (z,f+(j:Int)))<=cG ps (goL ds f l R) (goC ds f l R) z f j
 fu:∀j:Nat,j<=i->∀e∈rz,cG ps (goL ds f l R) (goC ds f l R) e.1 f j<=e.2
 le:∀t n,cH R t n<=dQ ds f l t n
 tm:∀r∈R,f<=r.1/\r.1<f+(i:Int)
 nm:∀r∈R,r.2.1∈ds.map (·.1)
 ps0:∀r∈R,0<r.2.2
 len:R.length<=8 * i
 as:(R.map k4).Pairwise fun a b=>cO a b=true
theorem nZ {R:List aJ}{t:Int}{n:Str} (h:∀r∈R,r.1≠t):cH R t n=0:=by
 unfold cH;rw[List.filter_eq_nil_iff.mpr (fun r hr=>by
  rw[Bool.and_eq_true,decide_eq_true_eq];exact fun y=>h r hr y.1)]
 rfl
theorem XI {ds:List aD}{f l T:Int}{R:List aJ} (tm:∀r∈R,f<=r.1/\r.1<T) (z:Str):goL ds f l R (aS (z,T))=0/\goC ds f l R (aS (z,T))=0:=by
 have h:∀t n,cH R t n≠0->t<T:=fun t n hne=>by
  by_cases c:t<T
  ·exact c
  ·exact absurd (nZ fun r hr e=>by have:=(tm r hr).2;lia) hne
 exact⟨UM h z,TD h z⟩
theorem Lawn.start {rz ps:List (Str×Int)}{ds:List aD}{f l:Int} (nr:(rz.map (·.1)).Nodup) (hfit:rT rz ps) (hm:∀t n,0<=dQ ds f l t n):Lawn rz ps ds f l 0 (fun z=>dJ ps z) []:=by
 refine⟨fun z _=>rfl,fun e he=>⟨?_,hfit.2 e he⟩,fun j hj=>absurd hj (Nat.not_lt_zero _),fun j hj e he=> ?_,fun t n=>hm t n,(fun _ z=>nomatch z),(fun _ z=>nomatch z),(fun _ z=>nomatch z),Nat.le_refl _,.nil⟩
 ·exact JI hfit.1 e.1
 ·obtain rfl:j=0:=by lia
  exact hfit.2 e he
theorem Lawn.step {rz ps:List (Str×Int)}{ds:List aD}{f l:Int}{i:Nat}{I:Str->Int}{R:List aJ} (h:Lawn rz ps ds f l i I R) (nd:(ds.map (·.1)).Nodup) (ld:ds.length<=8) (hi:f+(i:Int)<l) {g:Str->Int} (hg:∀d∈ds,0<=g d.1/\g d.1<=dZ f l d (f+(i:Int))) (hm:∀t n,0<=dQ ds f l t n) (ok:EV rz ds g I) {L:List Str} (hL:L.Perm (ds.map (·.1))) (hLs:L.Pairwise fun x y=>ltS x y=true) :
  Lawn rz ps ds f l (i+1) (fun z=>I z - (L.map (sLf ds g z)).sum+(L.map (sCf ds g z)).sum) (R++cF (f+(i:Int)) g L):=by
 have hLn:∀n∈L,n∈ds.map (·.1)/\0<=g n:=fun n hn=>by
  have:=hL.mem_iff.mp hn;obtain⟨d,hd,rfl⟩:=List.mem_map.mp this;exact⟨this,(hg d hd).1⟩
 have ndL:L.Nodup:=hL.nodup_iff.mpr nd;have h0:f<=f+(i:Int):=by lia
 have gz:=XI (ds:=ds) (l:=l) h.tm;have eL:∀z (j:Nat),goL ds f l (R++cF (f+(i:Int)) g L) (aS (z,f+(j:Int)))=if j=i then eV ds g z else goL ds f l R (aS (z,f+(j:Int))):=fun z j=>by
  rw[XY,F2 nd h0 hi z _ hLn,lH hL,yN nd]
  by_cases c:j=i
  ·subst c;rw[if_pos rfl,if_pos rfl,(gz z).1,Int.zero_add]
  ·rw[if_neg (by lia),if_neg c,Int.add_zero]
 have eC:∀z (j:Nat),goC ds f l (R++cF (f+(i:Int)) g L) (aS (z,f+(j:Int)))=if j=i then nV ds g z else goC ds f l R (aS (z,f+(j:Int))):=fun z j=>by
  rw[YO,EZ nd h0 hi z _ hLn,lH hL,yI nd]
  by_cases c:j=i
  ·subst c;rw[if_pos rfl,if_pos rfl,(gz z).2,Int.zero_add]
  ·rw[if_neg (by lia),if_neg c,Int.add_zero]
 have eI:∀z (j:Nat),j<=i->cG ps (goL ds f l (R++cF (f+(i:Int)) g L)) (goC ds f l (R++cF (f+(i:Int)) g L)) z f j=cG ps (goL ds f l R) (goC ds f l R) z f j:=fun z j hj=>vW fun q hq=>by
  rw[eL,eC,if_neg (by lia),if_neg (by lia)];exact⟨rfl,rfl⟩
 have eI1:∀z∈rz.map (·.1),cG ps (goL ds f l (R++cF (f+(i:Int)) g L)) (goC ds f l (R++cF (f+(i:Int)) g L)) z f (i+1)=I z - eV ds g z+nV ds g z:=fun z hz=>by
  show cG ps (goL ds f l (R++cF (f+(i:Int)) g L)) (goC ds f l (R++cF (f+(i:Int)) g L)) z f i - goL ds f l (R++cF (f+(i:Int)) g L) (aS (z,f+(i:Int)))+goC ds f l (R++cF (f+(i:Int)) g L) (aS (z,f+(i:Int)))=_;rw[eI z i (Nat.le_refl _),eL,eC,if_pos rfl,if_pos rfl,h.ins z hz]
 have cn:∀z,0<=nV ds g z:=fun z=>AD fun n hn=>by
  unfold eU at hn;obtain⟨d,hd,rfl⟩:=List.mem_map.mp hn;exact(hg d (List.mem_filter.mp hd).1).1
 refine⟨fun z hz=> ?_,fun e he=> ?_,fun j hj z hz=> ?_,fun j hj e he=> ?_,fun t n=> ?_,fun r hr=> ?_,fun r hr=> ?_,fun r hr=> ?_,?_,?_⟩
 ·show I z - (L.map (sLf ds g z)).sum+(L.map (sCf ds g z)).sum=_;rw[lH hL,yN nd,lH hL,yI nd];exact(eI1 z hz).symm
 ·show 0<=I e.1 - (L.map (sLf ds g e.1)).sum+(L.map (sCf ds g e.1)).sum/\I e.1 - (L.map (sLf ds g e.1)).sum+(L.map (sCf ds g e.1)).sum<=e.2;rw[lH hL,yN nd,lH hL,yI nd];have:=ok e he;have:=cn e.1
  lia
 ·rw[eL,eI z j (by lia)]
  by_cases c:j=i
  ·subst c;rw[if_pos rfl,←h.ins z hz];obtain⟨e,he,rfl⟩:=List.mem_map.mp hz;exact(ok e he).1
  ·rw[if_neg c];exact h.lv j (by lia) z hz
 ·by_cases c:j<=i
  ·rw[eI _ j c];exact h.fu j c e he
  ·obtain rfl:j=i+1:=by lia
   rw[eI1 _ (List.mem_map.mpr ⟨e,he,rfl⟩)];exact(ok e he).2
 ·rw[DN,zI t n ndL fun n hn=>(hLn n hn).2]
  by_cases c:f+(i:Int)=t/\n∈L
  ·rw[if_pos c,nZ (fun r hr e=>by have:=(h.tm r hr).2;have:=c.1;lia),Int.zero_add];obtain⟨d,hd,rfl⟩:=List.mem_map.mp (hLn n c.2).1;unfold dQ;rw[mF nd hd,←c.1];exact(hg d hd).2
  ·rw[if_neg c,Int.add_zero];exact h.le t n
 ·rcases List.mem_append.mp hr with hr|hr
  ·have:=h.tm r hr;lia
  ·have:=(qZ hr).1;lia
 ·rcases List.mem_append.mp hr with hr|hr
  ·exact h.nm r hr
  ·exact(hLn _ (qZ hr).2.1).1
 ·rcases List.mem_append.mp hr with hr|hr
  ·exact h.ps0 r hr
  ·exact(qZ hr).2.2.2
 ·have l1:=DP (f+(i:Int)) g L;have l2:=hL.length_eq;rw[List.length_map]at l2;have l3:=h.len;rw[List.length_append]
  lia
 ·rw[List.map_append,List.pairwise_append];refine⟨h.as,RQ _ g hLs,fun a ha b hb=> ?_⟩;obtain⟨r,hr,rfl⟩:=List.mem_map.mp ha;obtain⟨r',hr',rfl⟩:=List.mem_map.mp hb;have h1:=(h.tm r hr).2;have h2:=(qZ hr').1;exact FN (by lia)
def hO (ns:List Int)(k:Int):Int:=ns.getD k.toNat 0
inductive w4 (K:PySem.W.Frag)(vs:List V)(H:Hp)(Q:VK)(E:XK):Prop
 | mk (a:Addr) (ns:List Int) (k:Int) (_:vs=[.ref a,.int k]) (_:SqL K H a (ns.map V.int)) (_:0<=k) (_:Q (.int (hO ns k)) H):w4 K vs H Q E
theorem aAe {H:Hp}{Q:VK}{E:XK}{a:Addr}{ns:List Int}{i:Int} (hS:SqL K H a (ns.map V.int)) (hi:0<=i) (h:Q (.int (hO ns i)) H):w4 K [.ref a,.int i] H Q E:=⟨_,_,_,rfl,hS,hi,h⟩
theorem AE (m:M K mg):FnOk P w K mg base CX0 1 m.lT m.iC.d ["_law_script","_law_k"] (w4 K):=by
 refine m.iC.F.ok sc__law_cell_at (fun vs H Q E h=> ?_) (fun cdv A outer s H vs Q E hr h=> ?_)
 ·walk_at"g1";obtain⟨a,ns,i,rfl,hS,hi,k⟩:=h;walk_at"g2";rfl
 ·walk_at"g1";obtain⟨a,ns,i,rfl,hS,hi,k⟩:=h;walk_at"g2";have nd:=sc__law_cell_at.nd;walk_at"hu";refine⟨_,(aB (b9 (aV iZ (pv 1) (bS fL rfl m.l6 iU (aA (pv 0) aC)) (aY _)) (aF (aT (dI fI (pv 0) (pv 1) (fun _ _=>rfl)))) bL)
   (aF (aT aE))),?_⟩
  refine aO (σ:=[some (.ref a),some (.int i)]) rfl ?_;walk_at"cx";walk_at"go";rw[List.length_map];refine cM (fun h1=> ?_) (fun h1=> ?_)
  ·have hlt:i.toNat<ns.length:=by lia
   have e:=wR (xs:=ns.map V.int) (j:=i.toNat) (v:= .int (hO ns i)) (by
    rw[List.getElem?_map,List.getElem?_eq_getElem hlt];unfold hO;rw[List.getD_eq_getElem?_getD,List.getElem?_eq_getElem hlt];rfl)
   rw[show ((i.toNat:Nat):Int)=i by lia]at e;exact⟨_,rfl,_,rfl,a,_,i,_,rfl,rfl,hS,e,k⟩
  ·have e:hO ns i=0:=by
    unfold hO;rw[List.getD_eq_getElem?_getD,List.getElem?_eq_none (by lia)];rfl
   rw[e]at k;exact k
theorem j6 (m:M K mg):Fc P w K mg base "_law_cell_at" 1 ["_law_script","_law_k"] (w4 K):=⟨_,_,m.CL,m.iC.F.kp,m.iC.b,AE m⟩
def HM (c k:Int):Int:=(c+7919 * k+1) * 48271%2147483647
def GZ (c k:Int):Int:=HM c k * (HM c k/1009+69621)%2147483647
def bO (c k:Int):Int:=if c%2=1 then c/2^(20 * k+1).toNat%1048576 else (GZ c k+31 * k+1) * (GZ c k/757+16807)%2147483629
theorem TB (c k:Int):0<=bO c k:=by
 unfold bO
 split
 ·exact Int.emod_nonneg _ (by decide)
 ·exact Int.emod_nonneg _ (by decide)
theorem RM (c k:Int):bO c k<2147483648:=by
 unfold bO
 split
 ·exact Int.lt_trans (Int.emod_lt_of_pos _ (by decide)) (by decide)
 ·exact Int.lt_trans (Int.emod_lt_of_pos _ (by decide)) (by decide)
inductive uI (vs:List V)(H:Hp)(Q:VK)(E:XK):Prop
 | mk (c k:Int) (_:vs=[.int c,.int k]) (_:0<=k) (_:k<=100) (_:((0<=bO c k/\bO c k<2147483648)->Q (.int (bO c k)) H)):uI vs H Q E
theorem YN {H:Hp}{Q:VK}{E:XK}{c k:Int} (h0:0<=k) (h1:k<=100) (h:∀n,n=bO c k->0<=n->n<2147483648->Q (.int n) H):uI [.int c,.int k] H Q E:=⟨_,_,rfl,h0,h1,fun x=>h _ rfl x.1 x.2⟩
theorem D2 (m:M K mg):FnOk P w K mg base CX0 1 m.qF m.kM.d ["_law_cell","_law_k"] (uI):=by
 refine m.kM.F.ok sc__law_drawn (fun vs H Q E h=> ?_) (fun cdv A outer s H vs Q E hr h=> ?_)
 ·walk_at"g1";obtain⟨c,j,rfl,j0,j1,k⟩:=h;walk_at"g2";rfl
 ·walk_at"g1";obtain⟨c,j,rfl,j0,j1,k⟩:=h;walk_at"g2";have nd:=sc__law_drawn.nd;walk_at"hu";refine⟨_,(aB (b9 (aV jX (aH bM (pv 0) aE) aE (aY _)) (aF (aT (aH bM (aH OR (pv 0) (aH bI (aH fV aE (pv 1)) aE)) aE))) bL)
   (aB (aN (i:=2) nd rfl (by walk_at"oi") (aH bM (aH fV (aH bI (aH bI (pv 0) (aH fV aE (pv 1))) aE) aE) aE))
   (aB (aN (i:=2) nd rfl (by walk_at"oi") (aH bM (aH fV (pv 2) (aH bI (aH dF (pv 2) aE) aE)) aE))
   (aF (aT (aH bM (aH fV (aH bI (aH bI (pv 2) (aH fV aE (pv 1))) aE) (aH bI (aH dF (pv 2) aE) aE)) aE)))))),?_⟩
  refine aO (σ:=[some (.int c),some (.int j),none]) rfl ?_;walk_at"cx";have k:=k ⟨TB c j,RM c j⟩;walk_at"go";refine cM (fun h=> ?_) (fun h=> ?_)
  ·have e:bO c j=c/2^(20 * j+1).toNat%1048576:=by unfold bO;rw[if_pos h]
   rw[e]at k;walk_at"go";refine⟨_,_,rfl,rfl,by lia,?_⟩;walk_at"go";exact k
  ·unfold bO GZ HM at k;rw[if_neg h]at k;walk_at"go";exact k
theorem mM (m:M K mg):Fc P w K mg base "_law_drawn" 1 ["_law_cell","_law_k"] (uI):=⟨_,_,m.IA,m.kM.F.kp,m.kM.b,D2 m⟩
local macro_rules| `(tactic| walk_at"rd1")=> `(tactic| first|((with_reducible refine' aAe ?e ?s ?_);(case e=>walk_at"hp");(case s=>walk_at"sd"))|((with_reducible refine' YN ?u ?v ?_);(case u=>walk_at"sd");(case v=>walk_at"sd");intro n' d' h0' h1'))
theorem wH:iK "abcdefghijklmnopqrstuvwxyz" =true:=by decide +kernel
theorem KD:("abcdefghijklmnopqrstuvwxyz" :Str).length=26:=by rw[bU];decide
theorem KS {x rest:Str}{b p:Int}{ch:Nat} (hx:iK x=true) (hb0:0<=b) (hb:b<8) (er:rest=Txt.slice x none (some b)) (hp0:0<=p) (hp:p<rest.length+1) (hc:iK ⟨#[ch]⟩=true):bE (Txt.slice rest none (some p)++⟨#[ch]⟩++Txt.slice rest (some p) none)=true:=by
 have l1:rest.length<=7:=by
  rcases PyProof.Rows.slice_ns_cases x b hb0 with h|h
  ·rw[er];lia
  ·rw[er];lia
 have hr:iK rest=true:=by rw[er];exact kE hx
 have l2:=(PyProof.Rows.fact_slice_ns rest p).1 hp0 (by lia);have l3:=(PyProof.Rows.fact_slice_sn rest p).1 hp0 (by lia);have l4:(⟨#[ch]⟩:Str).length=1:=rfl;refine UP ?_ ?_ (F9 (F9 (kE hr) hc) (kE hr))
 ·rw[eQ,eQ];lia
 ·rw[eQ,eQ];lia
theorem xQ:("abcdefghijklmnopqrstuvwxyz" :Str).cps.toList=List.range' 97 26:=by decide +kernel
theorem aAA {i:Int}(h0:0<=i)(h1:i<26):atI ("abcdefghijklmnopqrstuvwxyz" :Str).cps.toList i=some (97+i.toNat):=by
 have e:=wR (xs:=("abcdefghijklmnopqrstuvwxyz" :Str).cps.toList) (j:=i.toNat) (v:=97+i.toNat) (by rw[xQ,List.getElem?_range' (by lia)];simp);rw[show ((i.toNat:Nat):Int)=i by lia]at e;exact e
def L0 (c:Int):Str:=Txt.slice (Txt.slice "abcdefghijklmnopqrstuvwxyz" (some (bO c 1%20)) none) none (some (bO c 2%8))
def O5 (c:Int):Int:=bO c 3%((L0 c).length+1)
def c5 (c k:Int):Str:=Txt.slice (L0 c) none (some (O5 c))++⟨#[97+((bO c 4+5 * k)%26).toNat]⟩++Txt.slice (L0 c) (some (O5 c)) none
theorem OI {c k1 k2:Int}(h0:0<=k1)(h1:k1<26)(h2:0<=k2)(h3:k2<26)(h:c5 c k1=c5 c k2):k1=k2:=by
 have h':=congrArg (fun z:Str=>z.cps.toList) h;unfold c5 at h';simp only[xM]at h';have h4:=List.append_cancel_left (List.append_cancel_right h');have h5:97+((bO c 4+5 * k1)%26).toNat=97+((bO c 4+5 * k2)%26).toNat:=by simpa using h4
 omega
inductive uD (vs:List V)(H:Hp)(Q:VK)(E:XK):Prop
 | mk (c k:Int) (_:vs=[.int c,.int k]) (_:(bE (c5 c k)=true->Q (.str (c5 c k)) H)):uD vs H Q E
theorem YX {H:Hp}{Q:VK}{E:XK}{c k:Int} (h:∀z,z=c5 c k->bE z=true->Q (.str z) H):uD [.int c,.int k] H Q E:=⟨_,_,rfl,h _ rfl⟩
theorem F6 (m:M K mg):FnOk P w K mg base CX0 2 m.rZ m.l8.d ["_law_cell","_law_k"] (uD):=by
 refine m.l8.F.ok sc__law_name (fun vs H Q E h=> ?_) (fun cdv A outer s H vs Q E hr h=> ?_)
 ·walk_at"g1";obtain⟨c,j,rfl,k⟩:=h;walk_at"g2";rfl
 ·walk_at"g1";obtain⟨c,j,rfl,k⟩:=h;walk_at"g2";have nd:=sc__law_name.nd;walk_at"hu";have F__law_drawn:= @mM P w K mg base m;refine⟨_,(aB (aN (i:=2) nd rfl (by walk_at"oi") d0)
   (aB (aN (i:=3) nd rfl (by walk_at"oi") (k6 AF (k6 AF (pv 2) (jU (aH bM (bA F__law_drawn hr (aA (pv 0) (aA aE aC))) aE)) wL) wL (jU (aH bM (bA F__law_drawn hr (aA (pv 0) (aA aE aC))) aE))))
   (aB (aN (i:=4) nd rfl (by walk_at"oi") (aH bM (bA F__law_drawn hr (aA (pv 0) (aA aE aC))) (aH bI (bS CT rfl m.l6 iU (aA (pv 3) aC)) aE)))
   (aF (aT (aH JP (aH JP (k6 AF (pv 3) wL (jU (pv 4))) (dI aAz (pv 2) (aH bM (aH bI (bA F__law_drawn hr (aA (pv 0) (aA aE aC))) (aH fV aE (pv 1))) aE) (fun _ _=>rfl))) (k6 AF (pv 3) (jU (pv 4)) wL))))))),?_⟩
  refine aO (σ:=[some (.int c),some (.int j),none,none,none]) rfl ?_;walk_at"cx";have hl:=KD;walk_at"go";refine⟨_,_,_,rfl,rfl,(by walk_at"sz"),aAA (by lia) (by lia),?_⟩;walk_at"go"
  subst_vars
  refine k ?_;refine' KS (x:=Txt.slice "abcdefghijklmnopqrstuvwxyz" (some (bO c 1%20)) none) (b:=bO c 2%8) ?x ?b0 ?b1 ?er ?p0 ?p1 ?hc
  case er=>rfl
  case x=>exact kE wH
  case b0=>lia
  case b1=>lia
  case p0=>exact Int.emod_nonneg _ (by lia)
  case p1=>exact Int.emod_lt_of_pos _ (by lia)
  case hc =>
   refine FZ wH ?_;rw[xQ,List.mem_range'_1]
   lia
theorem F7 (m:M K mg):Fc P w K mg base "_law_name" 2 ["_law_cell","_law_k"] (uD):=⟨_,_,m.JH,m.l8.F.kp,m.l8.b,F6 m⟩
local macro_rules| `(tactic| walk_at"rd1")=> `(tactic| ((with_reducible refine YX ?_);intro z' dz' hz'))
theorem Mc.mono {C:Addr}{nm:Str}{j k:Nat}{sp:Sp} (F:Mc P w K mg base C nm j sp) (h:j<=k):Mc P w K mg base C nm k sp:=by
 walk_at"g1";obtain⟨f,fd,ps,h1,h2,h3,h4⟩:=F.ex;walk_at"g2";exact⟨f,fd,ps,h1,h2,h3,h4.mono h⟩
abbrev zT (n s e l:V):List (Str×V):=cN "letting" l (mG n s e (.int 1))
inductive gT (K:PySem.W.Frag)(vs:List V)(H:Hp)(Q:VK)(E:XK):Prop
 | mk (p C dx:Addr) (n s:Str) (e l:V) (_:vs=[.ref p,.str n,.str s,e,l]) (_:DCls K C) (_:H p=some (.ins C dx [])) (_:bE n=true) (_:bE s=true) (_:d4 e) (_:∀H',SameBut p H H'->H' p=some (.ins C dx (zT (.str n) (.str s) e l))->Q .non H'):gT K vs H Q E
theorem JD {H:Hp}{Q:VK}{E:XK}{p C dx:Addr}{n s:Str}{e l:V} (dc:DCls K C) (hp:H p=some (.ins C dx [])) (hn:bE n=true) (hs:bE s=true) (he:d4 e)
  (k:∀H',SameBut p H H'->H' p=some (.ins C dx (zT (.str n) (.str s) e l))->Q .non H'):gT K [.ref p,.str n,.str s,e,l] H Q E:=⟨_,_,_,_,_,_,_,rfl,dc,hp,hn,hs,he,k⟩
theorem yO (m:M K mg):FnOk P w K mg base CX0 4 m.kO m.kJ.d ["self","name","start","end","letting"] (gT K):=by
 refine m.kJ.F.ok sc_Told___init__ (fun vs H Q E h=> ?_) (fun cdv A outer s H vs Q E hr h=> ?_)
 ·walk_at"g1";obtain⟨p,C,dx,n,st,e,l,rfl,dc,hp,hn,hs,he,k⟩:=h;walk_at"g2";rfl
 ·walk_at"g1";obtain⟨p,C,dx,n,st,e,l,rfl,dc,hp,hn,hs,he,k⟩:=h;walk_at"g2";have nd:=sc_Told___init__.nd;walk_at"hu";have DD_Door___init___1:=rS (P:=P) (w:=w) (base:=base) m;refine⟨_,(aB (bP (aAb DD_Door___init___1 hr (aA (pv 0) (aA (pv 1) (aA (pv 2) (aA (pv 3) aC))))))
   (aF (eK (pv 0) (pv 4) rfl))),?_⟩
  refine aO (σ:=[some (.ref p),some (.str n),some (.str st),some (e),some (l)]) rfl ?_;walk_at"cx";walk_at"go";refine t5 ?_;walk_at"go";show dM K [.ref p,.str n,.str st,e,.int 1] _ _ _;walk_at"go";exact k _ (by walk_at"sb") (by assumption)
theorem NS (m:M K mg):Kc P w K mg base "Told" m.kX 4 [] (gT K):=⟨_,_,_,_,m.aBw,m.Y1,.nil,m.kJ.b,yO m⟩
theorem TK {H:Hp}{Q:VK}{E:XK}{C:Addr}{vs dvs:List V}{n s:Str}{e l:V} (ev:vs++dvs=[.str n,.str s,e,l]) (dc:DCls K C) (hn:bE n=true) (hs:bE s=true) (he:d4 e)
  (k:∀p dx H',H p=none->Same H H'->H' p=some (.ins C dx (zT (.str n) (.str s) e l))->Q (.ref p) H'):qU C (gT K) dvs E Q vs H :=
 oU (fun p dx H0 Q' h k' s0=>by rw[ev];exact JD dc h hn hs he k') k
inductive kH (P:Program)(w:World)(K:PySem.W.Frag)(mg:Str->Option Value)(base:Heap)(vs:List V)(H:Hp)(Q:VK)(E:XK):Prop
 | mk (p C dx:Addr) (fs:List (Str×V)) (t:Int) (F:Addr) (o:Obj) (fd:FuncData) (ps:List Str) (sp:Sp) (_:vs=[.ref p,.int t]) (_:DCls K C) (_:H p=some (.ins C dx fs)) (_:fs.lookup ("letting" :Str)=some (.ref F)) (_:H F=some (kn o)) (_:o.data= .func fd) (_:Binds K fd ps []) (_:FnOk P w K mg base CX0 3 F fd ps sp) (_:sp [.int t] H Q E0):kH P w K mg base vs H Q E
theorem IQ {H:Hp}{Q:VK}{E:XK}{p C dx:Addr}{fs:List (Str×V)}{t:Int}{F:Addr}{o:Obj}{fd:FuncData}{ps:List Str}{sp:Sp} (hp:H p=some (.ins C dx fs)) (dc:DCls K C) (l:fs.lookup ("letting" :Str)=some (.ref F)) (hF:H F=some (kn o)) (hd:o.data= .func fd)
  (hb:Binds K fd ps [])(hf:FnOk P w K mg base CX0 3 F fd ps sp)(k:sp [.int t] H Q E0):kH P w K mg base [.ref p,.int t] H Q E:=⟨_,_,_,_,_,_,_,_,_,_,rfl,dc,hp,l,hF,hd,hb,hf,k⟩
theorem E1 (m:M K mg):FnOk P w K mg base CX0 4 m.rY m.rV.d ["self","turn"] (kH P w K mg base):=by
 refine m.rV.F.ok sc_Told_lets (fun vs H Q E h=> ?_) (fun cdv A outer s H vs Q E hr h=> ?_)
 ·walk_at"g1";obtain⟨p,C,dx,fs,t,F,o,fd,ps,sp,rfl,dc,hp,l,hF,hd,hb,hf,k⟩:=h;walk_at"g2";rfl
 ·walk_at"g1";obtain⟨p,C,dx,fs,t,F,o,fd,ps,sp,rfl,dc,hp,l,hF,hd,hb,hf,k⟩:=h;walk_at"g2";have nd:=sc_Told_lets.nd;walk_at"hu";refine⟨_,(aB (aN (i:=2) nd rfl (by walk_at"oi") (bB (pv 0) rfl))
   (aF (aT (TH 3 2 hr (aA (pv 1) aC))))),?_⟩
  refine aO (σ:=[some (.ref p),some (.int t),none]) rfl ?_;walk_at"cx";walk_at"go";refine⟨F,o,fd,rfl,hF,hd,?_⟩;walk_at"go";exact⟨ps,sp,hF,hb,hf,k⟩
theorem FU (m:M K mg):Mc P w K mg base m.kX "lets" 4 (kH P w K mg base):=⟨_,_,_,m.tF.ic.cl,m.HZ,m.rV.b,E1 m⟩
theorem YV {H:Hp}{p dx:Addr}{n st:Str}{e:V}{wd:Int} (m:M K mg) (h:H p=some (.ins m.fW dx (mG (.str n) (.str st) e (.int wd)))):(aM P w K mg base (some 4)).at' H (.ref p) (n,st,e,fun _=>wd) :=
 ⟨p,_,dx,_,[],rfl,h,m.tG,by walk_at"lk",by walk_at"lk",by walk_at"lk",by walk_at"lk",by walk_at"lk",zY m,(fun _ z=>nomatch z),fun kl hk=>by
  cases hk;exact⟨_,Mc.mono (GD m) (by decide),fun H' t Q hp _ ht k=>IL hp m.tG (by walk_at"lk") (k _ (Same.refl _))⟩⟩
theorem UH {H:Hp}{p dx:Addr}{n st:Str}{e:V}{wd i0:Int} (m:M K mg) (b0:0<=i0) (h:H p=some (.ins m.iB dx (wJ (.str n) (.str st) e (.int wd) (.int i0)))):(aM P w K mg base (some 4)).at' H (.ref p) (n,st,e,sL wd i0) :=
 ⟨p,_,dx,_,[],rfl,h,m.qG,by walk_at"lk",by walk_at"lk",by walk_at"lk",by walk_at"lk",by walk_at"lk",yT m,(fun _ z=>nomatch z),fun kl hk=>by
  cases hk;exact⟨_,Mc.mono (D3 m) (by decide),fun H' t Q hp _ ht k=>v5 hp m.qG (by walk_at"lk") (by walk_at"lk") ht b0 (k _ (Same.refl _))⟩⟩
theorem SR {H:Hp}{p dx:Addr}{n st:Str}{e:V}{wd i0:Int} (m:M K mg) (b0:0<=i0) (h:H p=some (.ins m.iE dx (wY (.str n) (.str st) e (.int wd) (.int i0)))):(aM P w K mg base (some 4)).at' H (.ref p) (n,st,e,sV wd i0) :=
 ⟨p,_,dx,_,[],rfl,h,m.qK,by walk_at"lk",by walk_at"lk",by walk_at"lk",by walk_at"lk",by walk_at"lk",yJ m,(fun _ z=>nomatch z),fun kl hk=>by
  cases hk;exact⟨_,Mc.mono (ED m) (by decide),fun H' t Q hp _ ht k=>vU hp m.qK (by walk_at"lk") (by walk_at"lk") ht b0 (k _ (Same.refl _))⟩⟩
theorem XW {H:Hp}{p dx:Addr}{n st:Str}{e:V}{wd i0 i1:Int} (m:M K mg) (b0:1<=i0) (b1:0<=i1) (h:H p=some (.ins m.kS dx (zG (.str n) (.str st) e (.int wd) (.int i0) (.int i1)))):(aM P w K mg base (some 4)).at' H (.ref p) (n,st,e,wI wd i0 i1) :=
 ⟨p,_,dx,_,[],rfl,h,m.tH,by walk_at"lk",by walk_at"lk",by walk_at"lk",by walk_at"lk",by walk_at"lk",z6 m,(fun _ z=>nomatch z),fun kl hk=>by
  cases hk;exact⟨_,Mc.mono (HU m) (by decide),fun H' t Q hp _ ht k=>xN hp m.tH (by walk_at"lk") (by walk_at"lk") (by walk_at"lk") ht b0 b1 (k _ (Same.refl _))⟩⟩
theorem aAS {kL:Option Nat}{H H':Hp}{v:V}{d:aD} (h:DoorAt P w K mg base kL H v d) (T:SameT H H'):DoorAt P w K mg base kL H' v d:=by
 walk_at"g1";obtain⟨p,C,dx,fs,fp,e,hp,dc,l1,l2,l3,l4,l5,mc,hf,lt⟩:=h;walk_at"g2";exact⟨p,C,dx,fs,fp,e,T _ _ hp (fun ps z=>by cases z),dc,l1,l2,l3,l4,l5,mc,fun x hx=>⟨T _ _ (hf x hx).1 (fun ps z=>(hf x hx).2 (by rw[z];trivial)),(hf x hx).2⟩,lt⟩
def RL (n f s t:Int):Int:=n/2^((t - f)%17).toNat%4 * s
theorem ZU {H:Hp}{c1 c2 c3:Addr}{v1 v2 v3:V} (h:mB H [c1,c2,c3] [v1,v2,v3]):∃o1 o2 o3:Obj,H c1=some (kn o1)/\H c2=some (kn o2)/\H c3=some (kn o3)/\∀H':Hp,H' c1=some (kn o1)->H' c2=some (kn o2)->H' c3=some (kn o3)->mB H' [c1,c2,c3] [v1,v2,v3]:=by
 cases h with
 | cons a t =>
  cases t with
  | cons b t =>
   cases t with
   | cons c t =>
    walk_at"g1";obtain⟨o1,u1,e1,d1⟩:=a;walk_at"g2";walk_at"g1";obtain⟨o2,u2,e2,d2⟩:=b;walk_at"g2";walk_at"g1";obtain⟨o3,u3,e3,d3⟩:=c;walk_at"g2";exact⟨o1,o2,o3,e1,e2,e3,fun H' g1 g2 g3=> .cons ⟨o1,u1,g1,d1⟩ (.cons ⟨o2,u2,g2,d2⟩ (.cons ⟨o3,u3,g3,d3⟩ .nil))⟩
inductive LetAt (P:Program)(w:World)(K:PySem.W.Frag)(mg:Str->Option Value)(base:Heap)(H:Hp)(F:Addr)(lt:Int->Int):Prop
 | mk (o:Obj) (fd:FuncData) (fp:List (Addr×HO)) (sp:Sp) (_:o.data= .func fd) (_:Binds K fd ["_law_at"] []) (_:FnOk P w K mg base CX0 3 F fd ["_law_at"] sp) (_:(F,kn o)∈fp) (_:∀x∈fp,H x.1=some x.2/\¬LG x.2)
  (_:∀(H':Hp) (t:Int) (Q:VK),(∀x∈fp,H' x.1=some x.2)->0<=t->Q (.int (lt t)) H'->sp [.int t] H' Q E0)
theorem LetAt.same {H H':Hp}{F:Addr}{lt:Int->Int} (h:LetAt P w K mg base H F lt) (s:Same H H'):LetAt P w K mg base H' F lt:=by
 walk_at"g1";obtain⟨o,fd,fp,sp,h1,h2,h3,h4,h5,h6⟩:=h;walk_at"g2";exact⟨o,fd,fp,sp,h1,h2,h3,h4,fun x hx=>⟨s _ _ (h5 x hx).1,(h5 x hx).2⟩,h6⟩
theorem aBj {H:Hp}{F:Addr}{fd:FuncData}{qual:Str}{args:Arguments}{body:Expr}{lsc:Scope}{ys:List Str}{c1 c2 c3:Addr}{v1 v2 v3:V}{val:Int->Int} (hL:LamL H F fd qual args body lsc (ys.zip [c1,c2,c3])) (kc:mB H [c1,c2,c3] [v1,v2,v3]) (hbd:Binds K fd ["_law_at"] [])
  (FL:FnOk P w K mg base CX0 3 F fd ["_law_at"] (KW F fd qual args body lsc ys [c1,c2,c3] [v1,v2,v3] val)):LetAt P w K mg base H F val:=by
 walk_at"g1";obtain⟨o1,o2,o3,g1,g2,g3,gk⟩:=ZU kc;walk_at"g2";walk_at"g1";obtain⟨c',pm,ctv,oc,fv,tt,hfd,hF,hc',hdc,hfv⟩:=hL;walk_at"g2";refine⟨PySem.W.kla_obj "<lambda>" qual args body lsc (ys.zip [c1,c2,c3]) pm c' ctv,fd,[(F,kn (PySem.W.kla_obj "<lambda>" qual args body lsc (ys.zip [c1,c2,c3]) pm c' ctv)),(c',kn oc),(c1,kn o1),(c2,kn o2),(c3,kn o3)],_,by rw[hfd],hbd,FL,.head _,fun x hx=> ?_,fun H' t Q hfp ht hq=> ?_⟩
 ·simp only[List.mem_cons,List.not_mem_nil,or_false]at hx;rcases hx with rfl|rfl|rfl|rfl|rfl
  ·exact⟨hF,fun z=>z⟩
  ·exact⟨hc',fun z=>z⟩
  ·exact⟨g1,fun z=>z⟩
  ·exact⟨g2,fun z=>z⟩
  ·exact⟨g3,fun z=>z⟩
 ·have gF:=hfp _ (.head _);have gc':=hfp _ (.tail _ (.head _));have a1:=hfp _ (.tail _ (.tail _ (.head _)));have a2:=hfp _ (.tail _ (.tail _ (.tail _ (.head _))));have a3:=hfp _ (.tail _ (.tail _ (.tail _ (.tail _ (.head _)))));exact⟨t,rfl,ht,⟨c',pm,ctv,oc,fv,tt,hfd,gF,gc',hdc,hfv⟩,gk H' a1 a2 a3,hq⟩
abbrev gK:Pos:=⟨344,11,344,88⟩
abbrev qL:Str:=("_law_letting" :Str)++ ".<locals>." ++ "<lambda>"
inductive nW (P:Program)(w:World)(K:PySem.W.Frag)(mg:Str->Option Value)(base:Heap)(PL:Addr)(vs:List V)(H:Hp)(Q:VK)(E:XK):Prop
 | mk (n f s:Int) (_:vs=[.int n,.int f,.int s]) (_:TabS H PL gK qL) (_:∀F H',SameT H H'->TabS H' PL gK qL->LetAt P w K mg base H' F (RL n f s)->Q (.ref F) H'):nW P w K mg base PL vs H Q E
theorem OM {PL:Addr}{H:Hp}{Q:VK}{E:XK}{n f s:Int} (ht:TabS H PL gK qL) (k:∀F H',SameT H H'->TabS H' PL gK qL->LetAt P w K mg base H' F (RL n f s)->Q (.ref F) H'):nW P w K mg base PL [.int n,.int f,.int s] H Q E:=⟨_,_,_,rfl,ht,k⟩
local macro_rules| `(tactic| walk_at"rd1")=> `(tactic| first|(with_reducible refine rd_seqC ?_)|(with_reducible refine WR ?_))
theorem AA (m:M K mg){cL PL:Addr}(hcL:m.cI.code= .ref cL)(hCL:PySem.W.CodeHd base cL PL)(hBL:base.BuiltinsAt mg PL):FnOk P w K mg base CX0 1 m.lW m.cI ["_law_number","_law_first","_law_scale"] (nW P w K mg base PL):=by
 refine m.iF.okL sc__law_letting (iys:=[(2,"_law_scale"),(0,"_law_number"),(1,"_law_first")]) (by decide +kernel) (fun vs H Q E h=> ?_) (fun cdv A outer s H vs Q E ics hcd hics hr h=> ?_)
 ·walk_at"g1";obtain⟨n,f,sc,rfl,hT,k⟩:=h;walk_at"g2";rfl
 ·walk_at"g1";obtain⟨n,f,sc,rfl,hT,k⟩:=h;walk_at"g2";have nd:=sc__law_letting.nd;walk_at"hu";obtain rfl:=hcd.symm.trans hcL;obtain rfl:=aAE hics (js:=[(2,s.heap.objs.size+3),(0,s.heap.objs.size+1),(1,s.heap.objs.size+2)]) (.cons ⟨rfl,by kernel_rfl⟩ (.cons ⟨rfl,by kernel_rfl⟩ (.cons ⟨rfl,by kernel_rfl⟩ (.nil))));refine⟨DO _,?_⟩;refine⟨_,(WD (YW rfl hCL hBL rfl)),?_⟩;refine P1 (σ:=[some (.int n),some (.int f),some (.int sc)]) rfl ?_;walk_at"go";refine⟨hT,fun F fd G hFn hL T hT'=> ?_⟩;refine⟨_,.cons rfl (.cons rfl (.cons rfl .nil)),fun H2 S2 hn kc=> ?_⟩;refine k _ _ (T.snoc S2) (hT'.same S2) ?_;have hL2:=hL.same S2;have hbd:Binds K fd ["_law_at"] []:=by
   walk_at"g1";obtain⟨c',pm,ctv,oc,fv,tt,hfd,_⟩:=id hL2;walk_at"g2";rw[hfd];exact Binds.all<|J3 1 _ fun _=>rfl
  refine aBj (ys:=["_law_scale","_law_number","_law_first"]) hL2 kc hbd ?_;refine WZ (k:=2) rfl rfl rfl (by decide +kernel) (by kernel_rfl) (by decide +kernel) (by decide +kernel) (by decide +kernel) (DO s.heap.objs.size (a:=3) (b:=1) (c:=2) (i:=0) (j:=0) (k:=0)) rfl (fun cdv A outer s H E hr=>⟨_,(aH fV (aH bM (aH OR (pv 2) (aH bM (aH fU (pv 0) (pv 3)) aE)) aE) (pv 1)),fun i Q h0 hq=> ?_⟩);show (_:TE) [some (.int i),some (.int sc),some (.int n),some (.int f)] H Q;walk_at"go";refine⟨_,_,rfl,rfl,Int.emod_nonneg _ (by decide),?_⟩;walk_at"go";exact hq
theorem AQ (m:M K mg){cL PL:Addr}(hcL:m.cI.code= .ref cL)(hCL:PySem.W.CodeHd base cL PL)(hBL:base.BuiltinsAt mg PL):Fc P w K mg base "_law_letting" 1 ["_law_number","_law_first","_law_scale"] (nW P w K mg base PL):=⟨_,_,m.CH,m.iF.kp,m.CJ,AA m hcL hCL hBL⟩
theorem W9 (m:M K mg){H:Hp}{p dx F:Addr}{nm st:Str}{e:V}{lt:Int->Int} (hp:H p=some (.ins m.kX dx (zT (.str nm) (.str st) e (.ref F)))) (hL:LetAt P w K mg base H F lt):(aM P w K mg base (some 4)).at' H (.ref p) (nm,st,e,lt):=by
 walk_at"g1";obtain⟨o,fd,fp,sp,h1,h2,h3,h4,h5,h6⟩:=hL;walk_at"g2";refine⟨p,_,dx,_,fp,rfl,hp,m.tF,by walk_at"lk",by walk_at"lk",by walk_at"lk",by walk_at"lk",by walk_at"lk",zX m,h5,fun kl hk=> ?_⟩;cases hk;exact⟨_,FU m,fun H' t Q hp' hfp ht k=>IQ hp' m.tF (by walk_at"lk") (hfp _ h4) h1 h2 h3 (h6 H' t _ hfp ht (k _ (Same.refl _)))⟩
theorem aAN {wd i:Int}(h:0<=wd)(t:Int):0<=sL wd i t:=by unfold sL;split<;>lia
theorem aBa {wd i:Int}(h:0<=wd)(t:Int):0<=sV wd i t:=by unfold sV;split<;>lia
theorem aBE {wd i j:Int}(h:0<=wd)(t:Int):0<=wI wd i j t:=by unfold wI;split<;>lia
theorem aCC {n f s:Int}(h:0<=s)(t:Int):0<=RL n f s t:=Int.mul_nonneg (Int.emod_nonneg _ (by decide)) h
inductive tU (P:Program)(w:World)(K:PySem.W.Frag)(mg:Str->Option Value)(base:Heap)(PL:Addr)(vs:List V)(H:Hp)(Q:VK)(E:XK):Prop
 | mk (dd:Int) (n st:Str) (e:V) (f sc:Int) (_:vs=[.int dd,.str n,.str st,e,.int f,.int sc]) (_:0<=dd) (_:bE n=true) (_:bE st=true) (_:d4 e) (_:0<=f) (_:0<=sc) (_:TabS H PL gK qL) (_:∀v lt H',SameT H H'->TabS H' PL gK qL->(aM P w K mg base (some 4)).at' H' v (n,st,e,lt)->(∀t,0<=lt t)->Q v H'):tU P w K mg base PL vs H Q E
theorem WJ {PL:Addr}{H:Hp}{Q:VK}{E:XK}{dd:Int}{n st:Str}{e:V}{f sc:Int} (hd:0<=dd) (hn:bE n=true) (hs:bE st=true) (he:d4 e) (hf:0<=f) (hc:0<=sc) (ht:TabS H PL gK qL) (k:∀v lt H',SameT H H'->TabS H' PL gK qL->(aM P w K mg base (some 4)).at' H' v (n,st,e,lt)->(∀t,0<=lt t)->Q v H'):tU P w K mg base PL [.int dd,.str n,.str st,e,.int f,.int sc] H Q E:=⟨_,_,_,_,_,_,rfl,hd,hn,hs,he,hf,hc,ht,k⟩
theorem GV (m:M K mg){cL PL:Addr}(hcL:m.cI.code= .ref cL)(hCL:PySem.W.CodeHd base cL PL)(hBL:base.BuiltinsAt mg PL):FnOk P w K mg base CX0 6 m.rW m.l0.d ["_law_number","_law_name_here","_law_start","_law_end","_law_first","_law_scale"] (tU P w K mg base PL):=by
 refine m.l0.F.ok sc__law_door (fun vs H Q E h=> ?_) (fun cdv A outer s H vs Q E hr h=> ?_)
 ·walk_at"g1";obtain⟨dd,n,st,e,f,sc,rfl,hdd,hn,hs,he,hf,hsc,hPL,k⟩:=h;walk_at"g2";rfl
 ·walk_at"g1";obtain⟨dd,n,st,e,f,sc,rfl,hdd,hn,hs,he,hf,hsc,hPL,k⟩:=h;walk_at"g2";have nd:=sc__law_door.nd;walk_at"hu";have iF:=AQ (P:=P) (w:=w) (base:=base) m hcL hCL hBL;have K_Beat_0:= @OJ P w K mg base m;have K_Door_0:= @N3 P w K mg base m;have K_Since_0:= @L8 P w K mg base m;have K_Told_0:= @NS P w K mg base m;have K_Until_0:= @MO P w K mg base m;have w_dc_Door:=m.tG;have w_dc_Since:=m.qG;have w_dc_Until:=m.qK;have w_dc_Beat:=m.tH;have w_dc_Told:=m.tF;refine⟨_,(aB (aN (i:=6) nd rfl (by walk_at"oi") (aH fV (aH bM (aH dF (pv 0) aE) aE) (pv 5)))
   (aB (aN (i:=7) nd rfl (by walk_at"oi") (aH bI (pv 4) (aH bM (aH dF (pv 0) aE) aE)))
   (aB (b9 (aV jX (aH bM (pv 0) aE) aE (aY _)) (aF (aT (uE K_Since_0 hr (aA (pv 1) (aA (pv 2) (aA (pv 3) (aA (pv 6) (aA (pv 7) aC)))))))) bL)
   (aB (b9 (aV jX (aH bM (pv 0) aE) aE (aY _)) (aF (aT (uE K_Until_0 hr (aA (pv 1) (aA (pv 2) (aA (pv 3) (aA (aH bI (pv 6) aE) (aA (pv 7) aC)))))))) bL)
   (aB (b9 (aV jX (aH bM (pv 0) aE) aE (aY _)) (aF (aT (uE K_Beat_0 hr (aA (pv 1) (aA (pv 2) (aA (pv 3) (aA (aH bI (pv 6) aE) (aA (aH bI aE (aH bM (aH dF (pv 0) aE) aE)) (aA (aH bI (pv 4) (aH bM (aH dF (pv 0) aE) aE)) aC))))))))) bL)
   (aB (b9 (aV jX (aH bM (pv 0) aE) aE (aY _)) (aF (aT (uE K_Told_0 hr (aA (pv 1) (aA (pv 2) (aA (pv 3) (aA (bA iF hr (aA (pv 0) (aA (pv 4) (aA (pv 5) aC)))) aC))))))) bL)
   (aF (aT (uE K_Door_0 hr (aA (pv 1) (aA (pv 2) (aA (pv 3) (aA (pv 6) aC))))))))))))),?_⟩
  refine aO (σ:=[some (.int dd),some (.str n),some (.str st),some (e),some (.int f),some (.int sc),none,none]) rfl ?_;walk_at"cx";have hw:0<=dd/5%5 * sc:=Int.mul_nonneg (Int.emod_nonneg _ (by decide)) hsc;walk_at"go";generalize dd/5%5 * sc=wd at hw ⊢;refine cM (fun h1=> ?_) (fun h1=> ?_)
  ·walk_at"go";rename_i p dx H2 n2 S2 e2;exact k _ _ _ (Same.t S2) (hPL.same S2) (UH (P:=P) (w:=w) (base:=base) m (by lia) e2) (aAN hw)
  walk_at"go";refine cM (fun h2=> ?_) (fun h2=> ?_)
  ·walk_at"go";rename_i p dx H2 n2 S2 e2;exact k _ _ _ (Same.t S2) (hPL.same S2) (SR (P:=P) (w:=w) (base:=base) m (by lia) e2) (aBa (by lia))
  walk_at"go";refine cM (fun h3=> ?_) (fun h3=> ?_)
  ·walk_at"go";rename_i p dx H2 n2 S2 e2;exact k _ _ _ (Same.t S2) (hPL.same S2) (XW (P:=P) (w:=w) (base:=base) m (by lia) (by lia) e2) (aBE (by lia))
  walk_at"go";refine cM (fun h4=> ?_) (fun h4=> ?_)
  ·walk_at"go";refine OM hPL fun F H1 T1 hT1 hF=> ?_;walk_at"go";refine TK rfl w_dc_Told hn hs he fun p5 dx5 G5 n5 S5 e5=> ?_;walk_at"go";exact k _ _ _ (T1.snoc S5) (hT1.same S5) (W9 (P:=P) (w:=w) (base:=base) m e5 (hF.same S5)) (aCC hsc)
  walk_at"go";rename_i p dx H2 n2 S2 e2;exact k _ _ _ (Same.t S2) (hPL.same S2) (YV (P:=P) (w:=w) (base:=base) m e2) (fun _=>hw)
theorem F0 (m:M K mg){cL PL:Addr}(hcL:m.cI.code= .ref cL)(hCL:PySem.W.CodeHd base cL PL)(hBL:base.BuiltinsAt mg PL):Fc P w K mg base "_law_door" 6 ["_law_number","_law_name_here","_law_start","_law_end","_law_first","_law_scale"] (tU P w K mg base PL):=⟨_,_,m.JG,m.l0.F.kp,m.l0.b,GV m hcL hCL hBL⟩
def TBut (p:Addr)(H H':Hp):Prop:=∀b u,H b=some u->(∀ps,u≠ .tbl ps)->b≠p->H' b=some u
theorem TBut.refl (p:Addr)(H:Hp):TBut p H H:=fun _ _ e _ _=>e
theorem TBut.same {p:Addr}{H H1 H2:Hp} (t:TBut p H H1) (s:Same H1 H2):TBut p H H2:=fun b u e n hb=>s b u (t b u e n hb)
theorem TBut.t {p:Addr}{H H1 H2:Hp} (t:TBut p H H1) (s:SameT H1 H2):TBut p H H2:=fun b u e n hb=>s b u (t b u e n hb) n
theorem TBut.but {p:Addr}{H H1 H2:Hp} (t:TBut p H H1) (s:SameBut p H1 H2):TBut p H H2:=fun b u e n hb=>s b u (t b u e n hb) hb
theorem TBut.out {p:Addr}{H H1 H2:Hp} (n:H p=none) (s:Same H H1) (t:TBut p H1 H2):SameT H H2:=fun b u e hn=>t b u (s b u e) hn fun z=>by rw[z,n]at e;cases e
theorem SU {H H':Hp}{PL p:Addr}{pos:Pos}{q:Str}{xs:List V} (h:TabS H PL pos q) (e:H p=some (.lst xs)) (s:SameBut p H H'):TabS H' PL pos q:=by
 rcases h with h|⟨c',oc,fv,t,h1,h2,h3⟩
 ·exact .inl (s _ _ h fun z=>by rw[z,e]at h;cases h)
 ·exact .inr ⟨c',oc,fv,t,s _ _ h1 (fun z=>by rw[z,e]at h1;cases h1),s _ _ h2 (fun z=>by rw[z,e]at h2;cases h2),h3⟩
theorem KY {α:Type}(nm:α->Str)(sz pp:α->Int):∀{l:List α},(l.map nm).Nodup->(∀i∈l,0<=pp i/\pp i<=sz i)->rT (l.map fun i=>(nm i,sz i)) (l.map fun i=>(nm i,pp i)):=fun {l} nd h=>by
 refine⟨fun p hp=> ?_,fun e he=> ?_⟩
 ·obtain⟨e,he,rfl⟩:=List.mem_map.mp hp;exact(h e he).1
 ·obtain⟨j,hj,rfl⟩:=List.mem_map.mp he;have key:∀l:List α,(l.map nm).Nodup->j∈l->dJ (l.map fun i=>(nm i,pp i)) (nm j)=pp j:=fun l=>by
   induction l with
   | nil=>exact fun _ h=>nomatch h
   | cons a l ih =>
    intro nd hm;have nd':=List.nodup_cons.mp nd;have hz:∀l:List α,nm a∉l.map nm->dJ (l.map fun i=>(nm i,pp i)) (nm a)=0:=fun l=>by
     induction l with
     | nil=>exact fun _=>rfl
     | cons b l ih =>
      intro hn;rw[List.map_cons,List.mem_cons,not_or]at hn;have:=ih hn.2;unfold dJ at this ⊢;rw[List.map_cons,List.filter_cons_of_neg (by simpa using fun z=>hn.1 z.symm),this]
    rcases List.mem_cons.mp hm with h|h
    ·subst h;have:=hz l nd'.1;unfold dJ at this ⊢;rw[List.map_cons,List.filter_cons_of_pos (by simp),List.map_cons,List.sum_cons,this];exact Int.add_zero _
    ·have hne:¬nm a=nm j:=fun z=>nd'.1 (show nm a∈_ by rw[z];exact List.mem_map.mpr ⟨j,h,rfl⟩);have:=ih nd'.2 h;unfold dJ at this ⊢;rw[List.map_cons,List.filter_cons_of_neg (by simpa using hne),this]
  show dJ _ (nm j)<=sz j;rw[key l nd hj];exact(h j hj).2
theorem xK (c b:Int)(n:Nat)(h0:0<=b)(hb:b+n<=26):((List.range n).map fun k:Nat=>c5 c ((k:Int)+b)).Nodup:=by
 rw[List.Nodup,List.pairwise_map];refine List.Pairwise.imp_of_mem ?_ (List.nodup_range (n:=n));intro i j hi hj hne z;have hi':=List.mem_range.mp hi;have hj':=List.mem_range.mp hj;have:=OI (by lia) (by lia) (by lia) (by lia) z
 lia
theorem HQ (c k:Int):bE (c5 c k)=true:=by
 have hl:=KD;refine KS (x:=Txt.slice "abcdefghijklmnopqrstuvwxyz" (some (bO c 1%20)) none) (b:=bO c 2%8) (kE wH) (by lia) (by lia) rfl ?_ ?_ ?_
 ·exact Int.emod_nonneg _ (by lia)
 ·exact Int.emod_lt_of_pos _ (by lia)
 ·refine FZ wH ?_;rw[xQ,List.mem_range'_1]
  lia
def d8 (c sh sc:Int)(i:Nat):Str×Int:=(c5 c (i:Int),bO sh (i:Int)%9 * sc)
def BC (c sh sc c3:Int)(i:Nat):Str×Int:=(c5 c (i:Int),bO c3 (i:Int) * (sc/1000+1)%(bO sh (i:Int)%9 * sc+1))
structure DrawnH (rz ps:List (Str×Int))(ds:List aD)(f l:Int):Prop where
 nr:(rz.map (·.1)).Nodup
 nd:(ds.map (·.1)).Nodup
 hin:∀d∈ds,c9 (rz.map (·.1)) d
 lt0:∀d∈ds,∀t,0<=d.2.2.2 t
 hpr:∀p∈ps,p.1∈rz.map (·.1)
 fit:rT rz ps
 sz:∀e∈rz,0<=e.2
 lr:rz.length<=5
 lp:ps.length<=5
 ld:ds.length<=8
 f0:0<=f
 f1:f<=l
 f2:l<=f+8
 f3:f<200000000000
theorem DrawnH.most {rz ps:List (Str×Int)}{ds:List aD}{f l:Int} (h:DrawnH rz ps ds f l) (t:Int) (n:Str):0<=dQ ds f l t n:=by
 unfold dQ;cases hd:cX ds n with
 | none=>exact Int.le_refl _
 | some d =>
  show 0<=dZ f l d t;unfold dZ
  split
  ·exact h.lt0 d (List.mem_of_find?_eq_some hd) t
  ·exact Int.le_refl _
inductive rB (K:PySem.W.Frag)(C:Addr)(D:aU)(PL:Addr)(vs:List V)(H:Hp)(Q:VK)(E:XK):Prop
 | mk (a:Addr) (ns:List Int) (f l:Int) (_:vs=[.ref a,.int f,.int l]) (_:SqL K H a (ns.map V.int)) (_:0<=f) (_:f<=l) (_:l<=f+8) (_:f<100000000000) (_:TabS H PL gK qL) (_:∀h H' rz ps ds,SameT H H'->aR C D H' h f l rz ps ds->DrawnH rz ps ds f l->Q (.ref h) H'):rB K C D PL vs H Q E
theorem R7 {C:Addr}{D:aU}{PL:Addr}{H:Hp}{Q:VK}{E:XK}{a:Addr}{ns:List Int}{f l:Int} (hS:SqL K H a (ns.map V.int)) (h0:0<=f) (h1:f<=l) (h2:l<=f+8) (h3:f<100000000000) (ht:TabS H PL gK qL) (k:∀h H' rz ps ds,SameT H H'->aR C D H' h f l rz ps ds->DrawnH rz ps ds f l->Q (.ref h) H'):rB K C D PL [.ref a,.int f,.int l] H Q E:=⟨_,_,_,_,rfl,hS,h0,h1,h2,h3,ht,k⟩
theorem D4 (m:M K mg){cL PL:Addr}(hcL:m.cI.code= .ref cL)(hCL:PySem.W.CodeHd base cL PL)(hBL:base.BuiltinsAt mg PL):FnOk P w K mg base CX0 8 m.qP m.kQ.d ["_law_script","_law_first","_law_last"] (rB K m.aI (aM P w K mg base (some 4)) PL):=by
 refine m.kQ.F.ok sc__law_house (fun vs H Q E h=> ?_) (fun cdv A outer s H vs Q E hr h=> ?_)
 ·walk_at"g1";obtain⟨a,ns,f,l,rfl,hS,h0,h1,h2,h3,hPL,k⟩:=h;walk_at"g2";rfl
 ·walk_at"g1";obtain⟨a,ns,f,l,rfl,hS,h0,h1,h2,h3,hPL,k⟩:=h;walk_at"g2";have nd:=sc__law_house.nd;walk_at"hu";have F__law_cell_at:= @j6 P w K mg base m;have F__law_door:=F0 (P:=P) (w:=w) (base:=base) m hcL hCL hBL;have F__law_drawn:= @mM P w K mg base m;have F__law_name:= @F7 P w K mg base m;have K_House_0:= @zP P w K mg base m;have w_dc_House:=m.aX;refine⟨_,(aB (aN (i:=3) nd rfl (by walk_at"oi") (bA F__law_cell_at hr (aA (pv 0) (aA aE aC))))
   (aB (aN (i:=4) nd rfl (by walk_at"oi") (dI fI (fG (aA aE (aA (aH bI (KH 10000000000 (by decide) ⟨by decide,by decide,by decide⟩) aE) aC))) (aH bM (aH dF (bA F__law_cell_at hr (aA (pv 0) (aA aE aC))) aE) aE) (fun _ _=>rfl)))
   (aB (aN (i:=5) nd rfl (by walk_at"oi") (cA (N:=["_law_k","_law_cell"]) (nl:=1) (ci:=[3]) rfl (blk (s.heap.objs.size+1) rfl rfl rfl (by kernel_rfl)) (mI rfl m.jW (aA (aH bI aE (aH bM (aH dF (pv 3) aE) aE)) aC)) (fun _ _ _ _=>(aK (i:=0) (show (["_law_k","_law_cell"]:List Str).Nodup by decide +kernel) rfl (by walk_at"oi"))) (fun _ _ _ _=>dL) (fun _ _ _ _=>(bA F__law_name hr (aA (pv 1) (aA (pv 0) aC))))))
   (aB (aN (i:=6) nd rfl (by walk_at"oi") (bA F__law_cell_at hr (aA (pv 0) (aA aE aC))))
   (aB (g7 (i:=7) nd rfl (by walk_at"oi") (N:=["_law_k","_law_names","_law_scale","_law_shape"]) (nl:=1) (ci:=[5,4,6]) rfl (blk (s.heap.objs.size+1) rfl rfl rfl (by kernel_rfl)) (mI rfl m.jW (aA (bS fL rfl m.l6 iU (aA (pv 5) aC)) aC)) (fun _ _ _ _=>(aK (i:=0) (show (["_law_k","_law_names","_law_scale","_law_shape"]:List Str).Nodup by decide +kernel) rfl (by walk_at"oi"))) (fun _ _ _ _=>dL) (fun _ _ _ _=>(bV (aA (dI (UV (K:=K)) (pv 1) (pv 0) (fun _ _=>rfl)) (aA (aH fV (aH bM (bA F__law_drawn hr (aA (pv 3) (aA (pv 0) aC))) aE) (pv 2)) aC)))))
   (aB (aN (i:=8) nd rfl (by walk_at"oi") (fG aC))
   (aB (cS PassesOwn.never rfl (mI rfl m.jW (aA (aH bI aE (aH bM (bA F__law_drawn hr (aA (pv 3) (aA aE aC))) aE)) aC)) (aK (i:=9) nd rfl (by walk_at"oi")) (aB (aN (i:=10) nd rfl (by walk_at"oi") (bA F__law_drawn hr (aA (pv 3) (aA (aH bI aE (pv 9)) aC))))
   (aB (aN (i:=11) nd rfl (by walk_at"oi") (dI fI (aH sK (pv 5) (fG (aA sM (aA sM aC)))) (aH bM (aH dF (pv 10) aE) (aH bI (bS fL rfl m.l6 iU (aA (pv 5) aC)) aE)) (fun _ _=>rfl)))
   (aB (aN (i:=12) nd rfl (by walk_at"oi") (bA F__law_drawn hr (aA (pv 3) (aA (aH bI aE (pv 9)) aC))))
   (aB (aN (i:=13) nd rfl (by walk_at"oi") (dI fI (pv 5) (aH bM (pv 10) (bS fL rfl m.l6 iU (aA (pv 5) aC))) (fun _ _=>rfl)))
   (aF (bP (wS PySem.F.plainAttrs_list PySem.F.slot_list_append PySem.F.type_list_append jQ (pv 8) (aA (bA F__law_door hr (aA (pv 12) (aA (bA F__law_name hr (aA (pv 3) (aA (aH bI (pv 9) aE) aC))) (aA (pv 13) (aA (pv 11) (aA (pv 1) (aA (pv 4) aC))))))) aC)))))))))
   (aB (aN (i:=14) nd rfl (by walk_at"oi") (fG aC))
   (aB (cS PassesOwn.never rfl (mI rfl m.jW (aA (bS fL rfl m.l6 iU (aA (pv 7) aC)) aC)) (aK (i:=9) nd rfl (by walk_at"oi")) (aB (aN (i:=10) nd rfl (by walk_at"oi") (aH fV (bA F__law_drawn hr (aA (bA F__law_cell_at hr (aA (pv 0) (aA aE aC))) (aA (pv 9) aC))) (aH bI (aH dF (pv 4) aE) aE)))
   (aF (bP (wS PySem.F.plainAttrs_list PySem.F.slot_list_append PySem.F.type_list_append jQ (pv 14) (aA (bV (aA (dI GB (dI fI (pv 7) (pv 9) (fun _ _=>rfl)) aE (fun _ _=>rfl)) (aA (aH bM (pv 10) (aH bI (dI GB (dI fI (pv 7) (pv 9) (fun _ _=>rfl)) aE (fun _ _=>rfl)) aE)) aC))) aC))))))
   (aF (aT (uE K_House_0 hr (aA (pv 7) (aA (pv 8) (aA (pv 14) (aA (pv 2) (aA (pv 1) aC))))))))))))))))),?_⟩
  refine aO (σ:=[some (.ref a),some (.int f),some (.int l),none,none,none,none,none,none,none,none,none,none,none,none]) rfl ?_;walk_at"cx";walk_at"go";rename_i pF G1 n1 S1 e1 sc hsc;generalize hcc:hO ns 0=c0;have hsc0:1<=sc:=by lia
  refine UG (fun i=> .str (c5 c0 (i:Int))) (by rw[sizeLine_eq];lia) (rest:=[some (.int c0)]) (by rfl) ?_ ?_
  ·intro i H1 hi s1 R hR;walk_at"go"
   subst_vars
   rw[Int.zero_add];exact hR _ (Same.refl _)
  intro H1 s1;generalize hne:(1+c0/2%5).toNat=n;have hn0:0<n:=by lia
  have hn5:n<=5:=by lia
  have hnl:((List.range n).map fun i:Nat=>V.str (c5 c0 (i:Int))).length=n:=by rw[List.length_map,List.length_range]
  have hnm:∀v∈(List.range n).map (fun i:Nat=>V.str (c5 c0 (i:Int))),∃i:Nat,i<n/\v= .str (c5 c0 (i:Int)):=fun v hv=>by
   obtain⟨i,hi,rfl⟩:=List.mem_map.mp hv;exact⟨i,List.mem_range.mp hi,rfl⟩
  have hat:∀i:Nat,i<n->((List.range n).map fun i:Nat=>V.str (c5 c0 (i:Int)))[i]? =some (.str (c5 c0 (i:Int))):=fun i hi=>by rw[List.getElem?_map,List.getElem?_range hi];rfl
  generalize hN:((List.range n).map fun i:Nat=>V.str (c5 c0 (i:Int)))=N at hnl hnm hat ⊢;walk_at"go";rename_i pN H2 n2 S2 eN;generalize hsh:hO ns 2=sh;rw[show ((N.length:Nat):Int).toNat=n by lia];refine aAO (fun i y H=>cB H y (d8 c0 sh sc i)) (fun _ _ _ _ ⟨q,e,h⟩ s=>⟨q,e,s _ _ h⟩) (by rw[sizeLine_eq];lia) (rest:=[some (.ref pN),some (.int sc),some (.int sh)]) (by rfl) ?_ ?_
  ·intro i H3 hi s3 R hR;have eN3:=s3 _ _ eN;walk_at"go";rw[Int.zero_add];refine vM (SqL.of eN3) (hat i hi) ?_;walk_at"go";rename_i q4 H4 n4 S4 e4
   subst_vars
   exact hR _ _ ⟨q4,rfl,e4⟩ S4
  intro ws H3 s3 hws;have hra:RoomsAt H3 ws ((List.range n).map (d8 c0 sh sc)):=yD (d8 c0 sh sc) hws;have hwl:ws.length=n:=by rw[Paired.length hra,List.length_map,List.length_range]
  have hrn:((List.range n).map (d8 c0 sh sc)).map (·.1)=(List.range n).map fun k:Nat=>c5 c0 ((k:Int)+0):=by rw[List.map_map];exact List.map_congr_left fun k _=>by rw[Int.add_zero];rfl
  have hnr:(((List.range n).map (d8 c0 sh sc)).map (·.1)).Nodup:=by rw[hrn];exact xK c0 0 n (Int.le_refl _) (by lia)
  have hmem:∀i:Nat,i<n->c5 c0 (i:Int)∈((List.range n).map (d8 c0 sh sc)).map (·.1):=fun i hi=>List.mem_map.mpr ⟨d8 c0 sh sc i,List.mem_map.mpr ⟨i,List.mem_range.mpr hi,rfl⟩,rfl⟩;have hsz:∀i:Nat,0<=bO sh (i:Int)%9 * sc:=fun i=>Int.mul_nonneg (Int.emod_nonneg _ (by decide)) (by lia);walk_at"go";rename_i pW H4 n4 S4 eW p H5 n5 S5 ep nn dn hn1 hn2;have eN5:H5 pN=some (.lst N):=S5 _ _ (S4 _ _ (s3 _ _ eN));have eW5:=S5 _ _ eW;have s05:Same H H5:=S1.trans (s1.trans (S2.trans (s3.trans (S4.trans S5))));have hPL5:=hPL.same s05;have hS5:=s05.seq hS;have hra5:=hra.sm (S4.trans S5);let Pv1:Nat->St->Hp->Prop:=fun i σ' H'=>TBut p H5 H'/\TabS H' PL gK qL/\(∃us ds,H' p=some (.lst us)/\Paired ((aM P w K mg base (some 4)).at' H') us ds/\(∀d∈ds,c9 (((List.range n).map (d8 c0 sh sc)).map (·.1)) d)/\(∀d∈ds,∀t,0<=d.2.2.2 t)/\ds.map (·.1)=(List.range i).map fun k:Nat=>c5 c0 ((k:Int)+8))/\∃x y z u v,σ'=[some (.ref a),some (.int f),some (.int l),some (.int c0),some (.int sc),some (.ref pN),some (.int sh),some (.ref pW),some (.ref p),x,y,z,u,v,none];refine oP Pv1 ⟨TBut.refl _ _,hPL5,⟨[],[],ep,.nil,(fun _ z=>nomatch z),(fun _ z=>nomatch z),rfl⟩,_,_,_,_,_,rfl⟩ ?_ ?_
  ·rintro i _ H' hi hq_;walk_at"g1";obtain⟨tb,hT,⟨us,ds,eu,hud,hds,hdt,hnm2⟩,x1,x2,x3,x4,x5,rfl⟩:=hq_;walk_at"g2";have hi8:i<8:=by lia
   have hul:us.length=i:=by
    have h5:ds.length=i:=by rw[←List.length_map (f:=fun d:aD=>d.1),hnm2,List.length_map,List.length_range]
    rw[Paired.length hud];exact h5
   have hpN:pN≠p:=fun z=>by rw[z,ep]at eN5;cases eN5;exact absurd hnl (by show ¬0=n;lia)
   have eN':=tb _ _ eN5 (fun ps z=>by cases z) hpN;walk_at"go";rename_i dd ed hd0 hd1 pA G1 m1 T1 eA pB G2 m2 T2 eB hx0 hx1;refine FE (SqL.of eB) hx0 (by rw[List.length_append];show _<(((N.length+2:Nat)):Int);lia) fun v hv=> ?_;have hve:d4 v/\(v= .non∨∃z,v= .str z/\z∈((List.range n).map (d8 c0 sh sc)).map (·.1)):=by
    rcases List.mem_append.mp hv with hv|hv
    ·obtain⟨j,hj,rfl⟩:=hnm v hv;exact⟨.inr ⟨_,rfl,HQ c0 _⟩,.inr ⟨_,rfl,hmem j hj⟩⟩
    ·have:v= .non:=by simpa using hv
     exact⟨.inl this,.inl this⟩
   obtain⟨hve,hvi⟩:=hve;clear hv;have tG2:TBut p H5 G2:=tb.same (T1.trans T2);have eN2:=(T1.trans T2) _ _ eN';have hT2:=hT.same (T1.trans T2);have eu2:=(T1.trans T2) _ _ eu;have hud2:Paired ((aM P w K mg base (some 4)).at' G2) us ds:=jF hud (T1.trans T2);clear eB eA;walk_at"go";rename_i kd ekd hk0 hk1 hy0 hy1;refine FE (SqL.of eN2) (by lia) (by lia) fun v2 hv2=> ?_;obtain⟨j2,hj2,rfl⟩:=hnm v2 hv2;walk_at"go";rename_i zn ezn hzn;refine WJ hk0 hzn (HQ c0 _) hve h0 (by lia) hT2 fun v6 lt H6 T6 hT6 hd6 hlt6=> ?_;have eu6:=T6 _ _ eu2 (fun ps z=>by cases z);walk_at"go";refine gX eu6 (by rw[sizeLine_eq];lia) fun H7 B7 e7=> ?_;walk_at"go";refine⟨(tG2.t T6).but B7,SU hT6 eu6 B7,⟨us++[v6],ds++[(zn,c5 c0 (j2:Int),v,lt)],e7,L2.Paired.snoc (Paired.imp' (fun _ _ h=>(aM P w K mg base (some 4)).but (aAS h T6) eu6 trivial B7) hud2) ((aM P w K mg base (some 4)).but hd6 eu6 trivial B7),?_,?_,?_⟩,_,_,_,_,_,rfl⟩
   ·intro d' hd';rcases List.mem_append.mp hd' with hd'|hd'
    ·exact hds d' hd'
    ·cases List.mem_singleton.mp hd';exact⟨hmem j2 hj2,hvi⟩
   ·intro d' hd';rcases List.mem_append.mp hd' with hd'|hd'
    ·exact hdt d' hd'
    ·cases List.mem_singleton.mp hd';exact hlt6
   ·rw[List.map_append,hnm2,List.range_succ,List.map_append,List.map_singleton,List.map_singleton,ezn,Int.zero_add]
  ·rintro _ H' hq_;walk_at"g1";obtain⟨tb,hT,⟨us,ds,eu,hud,hds,hdt,hnm2⟩,x1,x2,x3,x4,x5,rfl⟩:=hq_;walk_at"g2";have hdl:ds.length=(1+nn%8).toNat:=by rw[←List.length_map (f:=fun d:aD=>d.1),hnm2,List.length_map,List.length_range]
   have hpW:pW≠p:=fun z=>by rw[z,ep]at eW5;cases eW5;exact absurd hwl (by show ¬0=n;lia)
   have eW':=tb _ _ eW5 (fun ps z=>by cases z) hpW;have T5:SameT H H':=TBut.out (by
    cases hq:H p with
    | none=>rfl
    | some u =>
     have:=(S1.trans (s1.trans (S2.trans (s3.trans S4)))) _ _ hq;rw[n5]at this;cases this) s05 tb
   have hS':=T5.seq hS;have hra':RoomsAt H' ws ((List.range n).map (d8 c0 sh sc)):=Paired.imp' (fun _ _ ⟨q,e,h⟩=>⟨q,e,tb _ _ h (fun ps z=>by cases z) (fun z=>by rw[z,ep]at h;cases h)⟩) hra5;walk_at"go";rename_i pC H6 n6 S6 e6;rw[show ((ws.length:Nat):Int).toNat=n by lia];have eW6:=S6 _ _ eW';have hS6:=S6.seq hS';have hra6:=hra'.sm S6;have eu6:=S6 _ _ eu;have hud6:Paired ((aM P w K mg base (some 4)).at' H6) us ds:=jF hud S6;generalize hc3:hO ns 3=c3;let Pv2:Nat->St->Hp->Prop:=fun i σ' H'=>SameBut pC H6 H'/\(∃cs,H' pC=some (.lst cs)/\Paired (cB H') cs ((List.range i).map (BC c0 sh sc c3)))/\∃x y z u v,σ'=[some (.ref a),some (.int f),some (.int l),some (.int c0),some (.int sc),some (.ref pN),some (.int sh),some (.ref pW),some (.ref p),x,y,z,u,v,some (.ref pC)];refine oP Pv2 ⟨SameBut.refl,⟨[],e6,.nil⟩,_,_,_,_,_,rfl⟩ ?_ ?_
   ·rintro i _ G hi hq_;walk_at"g1";obtain⟨sb,⟨cs,ec,hcs⟩,y1,y2,y3,y4,y5,rfl⟩:=hq_;walk_at"g2";have hcl:cs.length=i:=by rw[Paired.length hcs,List.length_map,List.length_range]
    have sG:Same H' G:=SameBut.same n6 S6 sb;have hwi:ws[i]? =some ws[i]:=List.getElem?_eq_getElem (by lia);have hri:((List.range n).map (d8 c0 sh sc))[i]? =some (d8 c0 sh sc i):=by rw[List.getElem?_map,List.getElem?_range hi];rfl
    obtain⟨q,hq,hqt⟩:=Paired.at2 (hra'.sm sG) hwi hri;rw[hq]at hwi;have hqt':G q=some (.tup [.str (c5 c0 (i:Int)),.int (bO sh (i:Int)%9 * sc)]):=hqt;have eWG:=sG _ _ eW';have hSG:=sG.seq hS';have hs0:=hsz i;walk_at"go";rename_i nd2 ed2 hd20 hd21;rw[Int.zero_add];refine vM (SqL.of eWG) hwi ?_;walk_at"go";refine⟨q,_,0,_,rfl,rfl,SqT.of hqt',rfl,?_⟩;walk_at"go";refine vM (SqL.of eWG) hwi ?_;walk_at"go";refine⟨q,_,1,_,rfl,rfl,SqT.of hqt',rfl,?_⟩;generalize hz:bO sh (i:Int)%9 * sc=z0 at hs0 ⊢;walk_at"go";rename_i q7 G7 m7 T7 e7;have ec7:=T7 _ _ ec;refine gX ec7 (by rw[sizeLine_eq];lia) fun G8 B8 e8=> ?_;walk_at"go";have hq7:q7≠pC:=fun z=>by rw[z,ec7]at e7;cases e7
    refine⟨(sb.trans T7.but).trans B8,⟨cs++[.ref q7],e8,?_⟩,_,_,_,_,_,rfl⟩;rw[List.range_succ,List.map_append,List.map_singleton];refine L2.Paired.snoc (Paired.imp' (fun _ _ ⟨q,e,h⟩=>⟨q,e,B8 _ _ (T7 _ _ h) (fun z=>by rw[z,ec]at h;cases h)⟩) hcs) ⟨q7,rfl,?_⟩;rw[B8 _ _ e7 hq7,ed2];unfold BC;rw[hz,←hc3,Int.zero_add]
   ·rintro _ G hq_;walk_at"g1";obtain⟨sb,⟨cs,ec,hcs⟩,y1,y2,y3,y4,y5,rfl⟩:=hq_;walk_at"g2";have sG:Same H' G:=SameBut.same n6 S6 sb;have hnd:(ds.map (·.1)).Nodup:=by rw[hnm2];exact xK c0 8 _ (by decide) (by lia)
    have hszs:∀e∈(List.range n).map (d8 c0 sh sc),0<=e.2:=fun e he=>by
     obtain⟨i,_,rfl⟩:=List.mem_map.mp he;exact hsz i
    have hfit:rT ((List.range n).map (d8 c0 sh sc)) ((List.range n).map (BC c0 sh sc c3)):=KY (fun i:Nat=>c5 c0 (i:Int)) (fun i:Nat=>bO sh (i:Int)%9 * sc) (fun i:Nat=>bO c3 (i:Int) * (sc/1000+1)%(bO sh (i:Int)%9 * sc+1)) (by
      have:=hnr;rw[List.map_map]at this;exact this) fun i _=>by
     have h0:=hsz i;have h1:=Int.emod_nonneg (bO c3 (i:Int) * (sc/1000+1)) (show bO sh (i:Int)%9 * sc+1≠0 by lia);have h2:=Int.emod_lt_of_pos (bO c3 (i:Int) * (sc/1000+1)) (show 0<bO sh (i:Int)%9 * sc+1 by lia);exact⟨h1,by show _<=bO sh (i:Int)%9 * sc;lia⟩
    have hpr:∀p∈(List.range n).map (BC c0 sh sc c3),p.1∈((List.range n).map (d8 c0 sh sc)).map (·.1):=fun p hp=>by
     obtain⟨i,hi,rfl⟩:=List.mem_map.mp hp;exact hmem i (List.mem_range.mp hi)
    have hrl:((List.range n).map (d8 c0 sh sc)).length=n:=by rw[List.length_map,List.length_range]
    have hpl:((List.range n).map (BC c0 sh sc c3)).length=n:=by rw[List.length_map,List.length_range]
    walk_at"go";refine DM (rz:=(List.range n).map (d8 c0 sh sc)) (ds:=ds) (ps:=(List.range n).map (BC c0 sh sc c3)) rfl (by assumption) (sG _ _ eW') (hra'.sm sG) (SqL.of (sG _ _ eu)) (jF hud sG) (SqL.of ec) hcs hnr hnd hds hpr hfit (by lia) (by lia) (by lia) (by lia) (by lia) fun h G4 m4 T4 hh=> ?_;exact k _ _ _ _ _ (T5.snoc (sG.trans T4)) hh ⟨hnr,hnd,hds,hdt,hpr,hfit,hszs,by lia,by lia,by lia,by lia,by lia,by lia,by lia⟩
theorem EF (m:M K mg){cL PL:Addr}(hcL:m.cI.code= .ref cL)(hCL:PySem.W.CodeHd base cL PL)(hBL:base.BuiltinsAt mg PL):Fc P w K mg base "_law_house" 8 ["_law_script","_law_first","_law_last"] (rB K m.aI (aM P w K mg base (some 4)) PL):=⟨_,_,m.IE,m.kQ.F.kp,m.kQ.b,D4 m hcL hCL hBL⟩
theorem l9 (ss:List Str):Paired (fun (v:V) (x:Str)=>v= .str x) (ss.map V.str) ss:=by
 induction ss with
 | nil=>exact .nil
 | cons a l ih=>exact .cons rfl ih
theorem mE {ds:List aD}{z n:Str} (h:n∈gH ds z):n∈ds.map (·.1):=by
 unfold gH at h;obtain⟨d,hd,rfl⟩:=List.mem_map.mp h;exact List.mem_map.mpr ⟨d,(List.mem_filter.mp hd).1,rfl⟩
theorem rG {ds:List aD}{z n:Str} (h:n∈eU ds z):n∈ds.map (·.1):=by
 unfold eU at h;obtain⟨d,hd,rfl⟩:=List.mem_map.mp h;exact List.mem_map.mpr ⟨d,(List.mem_filter.mp hd).1,rfl⟩
theorem NM (ds:List aD)(z:Str):(gH ds z).length<=ds.length:=by unfold gH;rw[List.length_map];exact List.length_filter_le _ _
theorem O3 (ds:List aD)(z:Str):(eU ds z).length<=ds.length:=by unfold eU;rw[List.length_map];exact List.length_filter_le _ _
inductive TY (rz:List (Str×Int))(ds:List aD)(g I:Str->Int)(H H':Hp)(q:Addr):Prop
 | mk (p:Addr) (ss:List Str) (more:Int) (_:Same H H') (_:H' q=some (.tup [.ref p,.int more])) (_:H' p=some (.lst (ss.map V.str))) (_:∀n∈ss,n∈ds.map (·.1)/\0<g n) (_:ss=[]->EV rz ds g I) (_:ss.length<=8)
inductive zL (C:Addr)(D:aU)(vs:List V)(H:Hp)(Q:VK)(E:XK):Prop
 | mk (h pn pi:Addr) (f l:Int) (rz ps:List (Str×Int)) (ds:List aD) (g I:Str->Int) (_:vs=[.ref h,.ref pn,.ref pi]) (_:aR C D H h f l rz ps ds) (_:DrawnH rz ps ds f l) (_:H pn=some (.dK (cQ (ds.map (·.1)) g))) (_:H pi=some (.dK (cQ (rz.map (·.1)) I))) (_:(∀d∈ds,0<=g d.1)) (_:(∀e∈rz,0<=I e.1/\I e.1<=e.2)) (_:∀q H',TY rz ds g I H H' q->Q (.ref q) H'):zL C D vs H Q E
theorem U5 {C:Addr}{D:aU}{H:Hp}{Q:VK}{E:XK}{h pn pi:Addr}{f l:Int}{rz ps:List (Str×Int)}{ds:List aD}{g I:Str->Int} (hh:aR C D H h f l rz ps ds) (dh:DrawnH rz ps ds f l) (en:H pn=some (.dK (cQ (ds.map (·.1)) g))) (ei:H pi=some (.dK (cQ (rz.map (·.1)) I))) (hg:∀d∈ds,0<=g d.1) (hI:∀e∈rz,0<=I e.1/\I e.1<=e.2) (k:∀q H',TY rz ds g I H H' q->Q (.ref q) H'):zL C D [.ref h,.ref pn,.ref pi] H Q E:=⟨_,_,_,_,_,_,_,_,_,_,rfl,hh,dh,en,ei,hg,hI,k⟩
theorem FQ {ds:List aD}{g:Str->Int}{ss:List Str} (hs:∀n∈ss,n∈ds.map (·.1)) (h:0<(ss.map g).sum):ss.filter (fun n=>decide (0<g n))≠[]:=fun z=>by
 obtain⟨n,hn,hp⟩:=J6 h;have:n∈ss.filter (fun n=>decide (0<g n)):=List.mem_filter.mpr ⟨hn,decide_eq_true hp⟩;rw[z]at this;exact nomatch this
theorem KO {ds:List aD}{g:Str->Int}{ss:List Str} (hs:∀n∈ss,n∈ds.map (·.1)):∀n∈ss.filter (fun n=>decide (0<g n)),n∈ds.map (·.1)/\0<g n:=fun n hn=>by
 obtain⟨h1,h2⟩:=List.mem_filter.mp hn;exact⟨hs n h1,of_decide_eq_true h2⟩
theorem A6 (m:M K mg):FnOk P w K mg base CX0 6 m.m9 m.i9.d ["_law_house_here","_law_numbers_here","_law_inside"] (zL m.aI (aM P w K mg base (some 4))):=by
 refine m.i9.F.ok sc__law_excess (fun vs H Q E h=> ?_) (fun cdv A outer s H vs Q E hr h=> ?_)
 ·walk_at"g1";obtain⟨h,pn,pi,f,l,rz,ps,ds,g,I,rfl,hh,dh,en,ei,hg,hI,k⟩:=h;walk_at"g2";rfl
 ·walk_at"g1";obtain⟨h,pn,pi,f,l,rz,ps,ds,g,I,rfl,hh,dh,en,ei,hg,hI,k⟩:=h;walk_at"g2";have nd:=sc__law_excess.nd;walk_at"hu";have w_dc_House:=m.aX;have w_mc_House_rooms:= @hJ P w K mg base m;have w_mc_House_from_room:= @vZ P w K mg base m;have w_mc_House_into:= @EA P w K mg base m;have w_mc_House_holds:= @lF P w K mg base m;refine⟨_,(aB (aN (i:=3) nd rfl (by walk_at"oi") oZ)
   (aB (cS PassesOwn.never rfl (bH (dA 1 hr (pv 0))) (aK (i:=4) nd rfl (by walk_at"oi")) (aB (dU hu1 (pv 3) (pv 4) (bS (vS rfl) rfl m.NC HK (aA (cA (N:=["_law_name_here","_law_numbers_here"]) (nl:=1) (ci:=[1]) rfl (blk (s.heap.objs.size+1) rfl rfl rfl (by kernel_rfl)) (bH (d5 3 hr (pv 0) (aA (pv 4) aC))) (fun _ _ _ _=>(aK (i:=0) (show (["_law_name_here","_law_numbers_here"]:List Str).Nodup by decide +kernel) rfl (by walk_at"oi"))) (fun _ _ _ _=>dL) (fun _ _ _ _=>(bK hu1 (pv 1) (pv 0) (fun _ _=>rfl)))) aC)) rfl)
   (aF (b9 (aV i6 (bK hu1 (pv 3) (pv 4) (fun _ _=>rfl)) (bK hu1 (pv 2) (pv 4) (fun _ _=>rfl)) (aY _)) (aB (g7 (i:=5) nd rfl (by walk_at"oi") (N:=["_law_name_here","_law_numbers_here"]) (nl:=1) (ci:=[1]) rfl (blk (s.heap.objs.size+1) rfl rfl rfl (by kernel_rfl)) (bH (d5 3 hr (pv 0) (aA (pv 4) aC))) (fun _ _ _ _=>(aK (i:=0) (show (["_law_name_here","_law_numbers_here"]:List Str).Nodup by decide +kernel) rfl (by walk_at"oi"))) (fun _ _ _ _=>(fR (aV i6 (bK hu1 (pv 1) (pv 0) (fun _ _=>rfl)) aE (aY _)))) (fun _ _ _ _=>(pv 0)))
   (aF (aT (bV (aA (pv 5) (aA (aH fU (bK hu1 (pv 3) (pv 4) (fun _ _=>rfl)) (bK hu1 (pv 2) (pv 4) (fun _ _=>rfl))) aC)))))) bL))))
   (aB (cS PassesOwn.never rfl (bH (dA 1 hr (pv 0))) (aK (i:=4) nd rfl (by walk_at"oi")) (aB (aN (i:=6) nd rfl (by walk_at"oi") (bS (vS rfl) rfl m.NC HK (aA (cA (N:=["_law_name_here","_law_numbers_here"]) (nl:=1) (ci:=[1]) rfl (blk (s.heap.objs.size+1) rfl rfl rfl (by kernel_rfl)) (bH (d5 3 hr (pv 0) (aA (pv 4) aC))) (fun _ _ _ _=>(aK (i:=0) (show (["_law_name_here","_law_numbers_here"]:List Str).Nodup by decide +kernel) rfl (by walk_at"oi"))) (fun _ _ _ _=>dL) (fun _ _ _ _=>(bK hu1 (pv 1) (pv 0) (fun _ _=>rfl)))) aC)))
   (aB (aN (i:=7) nd rfl (by walk_at"oi") (aH fU (aH bI (aH fU (bK hu1 (pv 2) (pv 4) (fun _ _=>rfl)) (bK hu1 (pv 3) (pv 4) (fun _ _=>rfl))) (pv 6)) (d5 3 hr (pv 0) (aA (pv 4) aC))))
   (aF (b9 (aV i6 (pv 7) aE (aY _)) (aB (g7 (i:=5) nd rfl (by walk_at"oi") (N:=["_law_name_here","_law_numbers_here"]) (nl:=1) (ci:=[1]) rfl (blk (s.heap.objs.size+1) rfl rfl rfl (by kernel_rfl)) (bH (d5 3 hr (pv 0) (aA (pv 4) aC))) (fun _ _ _ _=>(aK (i:=0) (show (["_law_name_here","_law_numbers_here"]:List Str).Nodup by decide +kernel) rfl (by walk_at"oi"))) (fun _ _ _ _=>(fR (aV i6 (bK hu1 (pv 1) (pv 0) (fun _ _=>rfl)) aE (aY _)))) (fun _ _ _ _=>(pv 0)))
   (aF (aT (bV (aA (pv 5) (aA (pv 7) aC)))))) bL)))))
   (aF (aT (bV (aA (fG aC) (aA aE aC)))))))),?_⟩
  refine aO (σ:=[some (.ref h),some (.ref pn),some (.ref pi),none,none,none,none,none]) rfl ?_;walk_at"cx";walk_at"g1";obtain⟨dnr,dnd,dhin,dlt,hpr,dfit,dsz,dlr,dlp,dld,df0,df1,df2,df3⟩:=id dh;walk_at"g2";walk_at"g1";obtain⟨dx,qs,qp,qd,nk,kvs,e1,_⟩:=id hh.ex;walk_at"g2";have fl:=NM ds;have il:=O3 ds;walk_at"go";rename_i pL H1 n1 S1 eL;refine fC (aP hh S1) fun pR H2 n2 S2 eR=> ?_;walk_at"go";have s02:Same H H2:=S1.trans S2;have eL2:=S2 _ _ eL;have kT:∀(q:Addr) (H':Hp),TY rz ds g I H H' q->Q (.ref q) H':=k;let Pv1:Nat->St->Hp->Prop:=fun i σ' H'=>SameBut pL H2 H'/\H' pL=some (.dK (cQ ((rz.map (·.1)).take i) (eV ds g)))/\(∀z∈(rz.map (·.1)).take i,eV ds g z<=I z)/\∃x y,σ'=[some (.ref h),some (.ref pn),some (.ref pi),some (.ref pL),x,y,none,none];refine dN ((rz.map (·.1)).map V.str) Pv1 ⟨SameBut.refl,by rw[eL2];rfl,(fun _ z=>nomatch z),_,_,rfl⟩ (fun i σ' H' _ q=>SqL.of (q.1 _ _ eR fun z=>by rw[z,eL2]at eR;cases eR)) ?_ ?_
  ·rintro i x _ H' hx hq_;walk_at"g1";obtain⟨sb,ek,hok,y1,y2,rfl⟩:=hq_;walk_at"g2";rw[List.getElem?_map]at hx;obtain⟨z,hz,rfl⟩:=Option.map_eq_some_iff.mp hx;have hzm:z∈rz.map (·.1):=List.mem_of_getElem? hz;have hzn:=k5 dnr hz;have sH:Same H H':=SameBut.same n1 s02 sb;have hh':=aP hh sH;have en':=sH _ _ en;have ei':=sH _ _ ei;have e1':=sH _ _ e1;have flz:=fl z;walk_at"go";refine zR hh' dnr hzm (by lia) dhin fun pF G1 m1 T1 eF=> ?_;walk_at"go";refine dC (α:=Str) (xs:=gH ds z) (vs:=(gH ds z).map V.str) (fun v x=>v= .str x) (fun _=>true) (fun n y _=>y= .int (g n)) (fun _ _ _ _ h _=>h) (by rw[sizeLine_eq];lia) (rest:=[some (.ref pn)]) (by rfl) (SqL.of eF) (l9 _) ?_ ?_ ?_
   ·exact fun v x H1 _ _ s1 R hR=>hR _ (Same.refl _)
   ·rintro _ n G2 rfl hm - s2 R hR;have en2:=(T1.trans s2) _ _ en';walk_at"go";refine bN (.inl en2) (bX (mE hm)) ?_;exact hR _ _ rfl (Same.refl _)
   intro ys G2 s2 hys;rw[cT]at hys;have ey:ys=((gH ds z).map g).map V.int:=by rw[cY hys,List.map_map];rfl
   subst ey;walk_at"go";rename_i q3 G3 m3 T3 e3;refine GL (SqL.of e3) ?_;have sG:Same H' G3:=T1.trans (s2.trans T3);have ek3:=sG _ _ ek;walk_at"go";refine gM ek3 (by rw[o0,List.length_take,List.length_map,sizeLine_eq];lia) fun G4 B4 e4=> ?_;have e4':G4 pL=some (.dK (cQ ((rz.map (·.1)).take (i+1)) (eV ds g))):=by rw[e4,bW hz];exact congrArg (fun x=>some (HO.dK x)) (S0 (g:=eV ds g) hzn)
   have sH4:Same H G4:=SameBut.same n1 s02 ((sb.trans sG.but).trans B4);have ei4:=sH4 _ _ ei;have e14:=sH4 _ _ e1;have en4:=sH4 _ _ en;have hv4:bD (cQ ((rz.map (·.1)).take (i+1)) (eV ds g)) (.inr z)=some (.int (eV ds g z)):=bX (by rw[bW hz];exact List.mem_append_right _ (.head _));walk_at"go";refine bN (.inl e4') hv4 ?_;walk_at"go";refine bN (.inl ei4) (bX hzm) ?_;walk_at"go";refine cM (fun hc=> ?_) (fun hc=> ?_)
   ·walk_at"go";refine zR (aP hh sH4) dnr hzm (by lia) dhin fun pF2 G5 m5 T5 eF2=> ?_;walk_at"go";refine dC (α:=Str) (xs:=gH ds z) (vs:=(gH ds z).map V.str) (fun v x=>v= .str x) (fun n=>decide (0<g n)) (fun n y _=>y= .str n) (fun _ _ _ _ h _=>h) (by rw[sizeLine_eq];lia) (rest:=[some (.ref pn)]) (by rfl) (SqL.of eF2) (l9 _) ?_ ?_ ?_
    ·rintro _ n G6 rfl hm s6 R hR;have en6:=(T5.trans s6) _ _ en4;walk_at"go";refine bN (.inl en6) (bX (mE hm)) ?_;walk_at"go";exact hR _ (Same.refl _)
    ·rintro _ n G6 rfl hm - s6 R hR;walk_at"go";exact hR _ _ rfl (Same.refl _)
    intro ys G6 s6 hys;obtain rfl:=cY hys;walk_at"go";rename_i q7 G7 m7 T7 e7;have s47:Same G4 G7:=T5.trans (s6.trans T7);have e47:=s47 _ _ e4';have ei7:=s47 _ _ ei4;refine bN (.inl e47) hv4 ?_;walk_at"go";refine bN (.inl ei7) (bX hzm) ?_;walk_at"go";rename_i q8 G8 m8 T8 e8;have hI0:0<=I z:=by obtain⟨e,he,rfl⟩:=List.mem_map.mp hzm;exact(hI e he).1
    exact kT _ _ (.mk _ _ _ (sH4.trans (s47.trans T8)) e8 (T8 _ _ e7) (KO fun n hn=>mE hn) (fun y=>absurd y (FQ (ds:=ds) (fun n hn=>mE hn) (by unfold eV at hc;lia))) (Nat.le_trans (List.length_filter_le _ _) (by lia)))
   ·walk_at"go";refine⟨(sb.trans sG.but).trans B4,e4',fun z' hz'=> ?_,_,_,rfl⟩;rw[bW hz]at hz';rcases List.mem_append.mp hz' with hz'|hz'
    ·exact hok z' hz'
    ·cases List.mem_singleton.mp hz'
     lia
  ·rintro _ H' hq_;walk_at"g1";obtain⟨sb,ek,hok,y1,y2,rfl⟩:=hq_;walk_at"g2";rw[List.length_map,List.take_length]at ek hok;have sH:Same H H':=SameBut.same n1 s02 sb;have hh':=aP hh sH;have e1':=sH _ _ e1;walk_at"go";refine fC hh' fun pR2 H3 n3 S3 eR2=> ?_;have s03:Same H H3:=sH.trans S3;have en3:=s03 _ _ en;have ei3:=s03 _ _ ei;have ek3:=S3 _ _ ek;have e13:=s03 _ _ e1;walk_at"go";let Pv2:Nat->St->Hp->Prop:=fun i σ' H'=>Same H3 H'/\(∀e∈rz.take i,I e.1 - eV ds g e.1+nV ds g e.1<=e.2)/\∃x y u v,σ'=[some (.ref h),some (.ref pn),some (.ref pi),some (.ref pL),x,y,u,v];refine dN ((rz.map (·.1)).map V.str) Pv2 ⟨Same.refl _,(fun _ z=>nomatch z),_,_,_,_,rfl⟩ (fun i σ' H' _ q=>SqL.of (q.1 _ _ eR2)) ?_ ?_
   ·rintro i x _ G hx hq_;walk_at"g1";obtain⟨sG,hfu,y1,y2,y3,y4,rfl⟩:=hq_;walk_at"g2";rw[List.getElem?_map]at hx;obtain⟨z,hz,rfl⟩:=Option.map_eq_some_iff.mp hx;rw[List.getElem?_map]at hz;walk_at"g1";obtain⟨⟨z',sz'⟩,he,rfl⟩:=Option.map_eq_some_iff.mp hz;walk_at"g2";have hem:(z',sz')∈rz:=List.mem_of_getElem? he;have hzm:z'∈rz.map (·.1):=List.mem_map.mpr ⟨_,hem,rfl⟩;have s0G:Same H G:=s03.trans sG;have hhG:=aP hh s0G;have enG:=sG _ _ en3;have eiG:=sG _ _ ei3;have ekG:=sG _ _ ek3;have e1G:=sG _ _ e13;have ilz:=il z';show (_:TG) (V.str z') _ _ _;walk_at"go";refine zR hhG dnr hzm (by lia) dhin fun pF G1 m1 T1 eF=> ?_;walk_at"go";refine dC (α:=Str) (xs:=eU ds z') (vs:=(eU ds z').map V.str) (fun v x=>v= .str x) (fun _=>true) (fun n y _=>y= .int (g n)) (fun _ _ _ _ h _=>h) (by rw[sizeLine_eq];lia) (rest:=[some (.ref pn)]) (by rfl) (SqL.of eF) (l9 _) ?_ ?_ ?_
    ·exact fun v x H1 _ _ s1 R hR=>hR _ (Same.refl _)
    ·rintro _ n G2 rfl hm - s2 R hR;have en2:=(T1.trans s2) _ _ enG;walk_at"go";refine bN (.inl en2) (bX (rG hm)) ?_;exact hR _ _ rfl (Same.refl _)
    intro ys G2 s2 hys;rw[cT]at hys;have ey:ys=((eU ds z').map g).map V.int:=by rw[cY hys,List.map_map];rfl
    subst ey;walk_at"go";rename_i q3 G3 m3 T3 e3;refine GL (SqL.of e3) ?_;have sG3:Same G G3:=T1.trans (s2.trans T3);have ei3':=sG3 _ _ eiG;have ek3':=sG3 _ _ ekG;have e13':=sG3 _ _ e1G;have en3':=sG3 _ _ enG;walk_at"go";refine bN (.inl ei3') (bX hzm) ?_;walk_at"go";refine bN (.inl ek3') (bX hzm) ?_;walk_at"go";refine BO (i:=sz') (aP hhG sG3) dnr hem fun G4 T4=> ?_;have hcm:((eU ds z').map g).sum=nV ds g z':=rfl;rw[hcm];have en4:=T4 _ _ en3';have e14:=T4 _ _ e13';walk_at"go";refine cM (fun hc=> ?_) (fun hc=> ?_)
    ·walk_at"go";refine zR (aP hhG (sG3.trans T4)) dnr hzm (by lia) dhin fun pF2 G5 m5 T5 eF2=> ?_;walk_at"go";refine dC (α:=Str) (xs:=eU ds z') (vs:=(eU ds z').map V.str) (fun v x=>v= .str x) (fun n=>decide (0<g n)) (fun n y _=>y= .str n) (fun _ _ _ _ h _=>h) (by rw[sizeLine_eq];lia) (rest:=[some (.ref pn)]) (by rfl) (SqL.of eF2) (l9 _) ?_ ?_ ?_
     ·rintro _ n G6 rfl hm s6 R hR;have en6:=(T5.trans s6) _ _ en4;walk_at"go";refine bN (.inl en6) (bX (rG hm)) ?_;walk_at"go";exact hR _ (Same.refl _)
     ·rintro _ n G6 rfl hm - s6 R hR;walk_at"go";exact hR _ _ rfl (Same.refl _)
     intro ys G6 s6 hys;obtain rfl:=cY hys;walk_at"go";rename_i q7 G7 m7 T7 e7 q8 G8 m8 T8 e8;have hI1:I z'<=sz':=(hI _ hem).2;have hl0:0<=eV ds g z':=AD fun n hn=>by
      obtain⟨d,hd,rfl⟩:=List.mem_map.mp (mE hn);exact hg d hd
     exact kT _ _ (.mk _ _ _ (s0G.trans (sG3.trans (T4.trans (T5.trans (s6.trans (T7.trans T8)))))) e8 (T8 _ _ e7) (KO fun n hn=>rG hn) (fun y=>absurd y (FQ (ds:=ds) (fun n hn=>rG hn) (by rw[hcm];lia))) (Nat.le_trans (List.length_filter_le _ _) (by lia)))
    ·walk_at"go";refine⟨sG.trans (sG3.trans T4),fun e' he'=> ?_,_,_,_,_,rfl⟩;rw[bW he]at he';rcases List.mem_append.mp he' with he'|he'
     ·exact hfu e' he'
     ·cases List.mem_singleton.mp he';show I z' - eV ds g z'+nV ds g z'<=sz'
      lia
   ·rintro _ G hq_;walk_at"g1";obtain⟨sG,hfu,y1,y2,y3,y4,rfl⟩:=hq_;walk_at"g2";rw[List.length_map,List.length_map,List.take_length]at hfu;walk_at"go";rename_i q7 G7 m7 T7 e7 q8 G8 m8 T8 e8;exact kT _ _ (.mk _ [] _ (s03.trans (sG.trans (T7.trans T8))) e8 (T8 _ _ e7) (fun _ z=>nomatch z) (fun _ e he=>⟨hok _ (List.mem_map.mpr ⟨e,he,rfl⟩),hfu e he⟩) (Nat.zero_le _))
theorem BY (m:M K mg):Fc P w K mg base "_law_excess" 6 ["_law_house_here","_law_numbers_here","_law_inside"] (zL m.aI (aM P w K mg base (some 4))):=⟨_,_,m.ER,m.i9.F.kp,m.i9.b,A6 m⟩
inductive ZV (rz:List (Str×Int))(ds:List aD)(f l t:Int)(I:Str->Int)(H H':Hp)(p:Addr):Prop
 | mk (g:Str->Int) (_:H p=none) (_:Same H H') (_:H' p=some (.dK (cQ (ds.map (·.1)) g))) (_:∀d∈ds,0<=g d.1/\g d.1<=dZ f l d t) (_:EV rz ds g I)
inductive zF (C:Addr)(D:aU)(vs:List V)(H:Hp)(Q:VK)(E:XK):Prop
 | mk (h pi:Addr) (c t f l:Int) (rz ps:List (Str×Int)) (ds:List aD) (I:Str->Int) (_:vs=[.ref h,.int c,.int t,.ref pi]) (_:aR C D H h f l rz ps ds) (_:DrawnH rz ps ds f l) (_:H pi=some (.dK (cQ (rz.map (·.1)) I))) (_:(∀e∈rz,0<=I e.1/\I e.1<=e.2)) (_:∀p H',ZV rz ds f l t I H H' p->Q (.ref p) H'):zF C D vs H Q E
theorem aBW {C:Addr}{D:aU}{H:Hp}{Q:VK}{E:XK}{h pi:Addr}{c t f l:Int}{rz ps:List (Str×Int)}{ds:List aD}{I:Str->Int} (hh:aR C D H h f l rz ps ds) (dh:DrawnH rz ps ds f l) (ei:H pi=some (.dK (cQ (rz.map (·.1)) I))) (hI:∀e∈rz,0<=I e.1/\I e.1<=e.2) (k:∀p H',ZV rz ds f l t I H H' p->Q (.ref p) H'):zF C D [.ref h,.int c,.int t,.ref pi] H Q E:=⟨_,_,_,_,_,_,_,_,_,_,rfl,hh,dh,ei,hI,k⟩
theorem Z4 {rz ps:List (Str×Int)}{ds:List aD}{f l:Int} (dh:DrawnH rz ps ds f l) {d:aD} (hd:d∈ds) (t:Int):0<=dZ f l d t:=by
 unfold dZ
 split
 ·exact dh.lt0 d hd t
 ·exact Int.le_refl _
theorem AH (m:M K mg):FnOk P w K mg base CX0 9 m.lR m.iD.d ["_law_house_here","_law_cell","_law_turn","_law_inside"] (zF m.aI (aM P w K mg base (some 4))):=by
 refine m.iD.F.ok sc__law_numbers (fun vs H Q E h=> ?_) (fun cdv A outer s H vs Q E hr h=> ?_)
 ·walk_at"g1";obtain⟨h,pi,c,t,f,l,rz,ps,ds,I,rfl,hh,dh,ei,hI,k⟩:=h;walk_at"g2";rfl
 ·walk_at"g1";obtain⟨h,pi,c,t,f,l,rz,ps,ds,I,rfl,hh,dh,ei,hI,k⟩:=h;walk_at"g2";have nd:=sc__law_numbers.nd;walk_at"hu";have F__law_drawn:= @mM P w K mg base m;have F__law_excess:= @BY P w K mg base m;have w_dc_House:=m.aX;have w_mc_House_doors:= @hU P w K mg base m;have w_mc_House_lets:= @uU P w K mg base m;refine⟨_,(aB (aN (i:=4) nd rfl (by walk_at"oi") oZ)
   (aB (aN (i:=5) nd rfl (by walk_at"oi") (dA 1 hr (pv 0)))
   (aB (cS PassesOwn.never rfl (mI rfl m.jW (aA (bS fL rfl m.l6 iU (aA (pv 5) aC)) aC)) (aK (i:=6) nd rfl (by walk_at"oi")) (aB (aN (i:=7) nd rfl (by walk_at"oi") (d5 6 hr (pv 0) (aA (dI fI (pv 5) (pv 6) (fun _ _=>rfl)) (aA (pv 2) aC))))
   (aB (aN (i:=8) nd rfl (by walk_at"oi") (aH fV (bA F__law_drawn hr (aA (pv 1) (aA (pv 6) aC))) (aH bI (aH dF (pv 7) aE) aE)))
   (aF (dU hu1 (pv 4) (dI fI (pv 5) (pv 6) (fun _ _=>rfl)) (aH bM (pv 8) (aH bI (pv 7) aE)) rfl)))))
   (aB (QJ (bA F__law_excess hr (aA (pv 0) (aA (pv 4) (aA (pv 3) aC)))) (j4 (n:=2) rfl (aW (aK (i:=9) nd rfl (by walk_at"oi")) (aW (aK (i:=10) nd rfl (by walk_at"oi")) cV))))
   (aB (R1 PassesOwn.never (aV (aAT hu0) (pv 9) (fG aC) (aY _)) (aB (aN (i:=11) nd rfl (by walk_at"oi") (dI fI (pv 9) (aH bM (pv 1) (bS fL rfl m.l6 iU (aA (pv 9) aC))) (fun _ _=>rfl)))
   (aB (aN (i:=12) nd rfl (by walk_at"oi") (bS (NH rfl) rfl m.aCm aBt (aA (pv 10) (aA (aH dF (aH bI (bK hu1 (pv 4) (pv 11) (fun _ _=>rfl)) aE) aE) aC))))
   (aB (aN (i:=12) nd rfl (by walk_at"oi") (bS (QN rfl) rfl m.aCo Y5 (aA (pv 12) (aA (bK hu1 (pv 4) (pv 11) (fun _ _=>rfl)) aC))))
   (aB (dU hu1 (pv 4) (pv 11) (aH fU (bK hu1 (pv 4) (pv 11) (fun _ _=>rfl)) (pv 12)) rfl)
   (aF (QJ (bA F__law_excess hr (aA (pv 0) (aA (pv 4) (aA (pv 3) aC)))) (j4 (n:=2) rfl (aW (aK (i:=9) nd rfl (by walk_at"oi")) (aW (aK (i:=10) nd rfl (by walk_at"oi")) cV))))))))))
   (aF (aT (pv 4)))))))),?_⟩
  refine aO (σ:=[some (.ref h),some (.int c),some (.int t),some (.ref pi),none,none,none,none,none,none,none,none,none]) rfl ?_;walk_at"cx";walk_at"g1";obtain⟨dnr,dnd,dhin,dlt,hpr,dfit,dsz,dlr,dlp,dld,df0,df1,df2,df3⟩:=id dh;walk_at"g2";walk_at"g1";obtain⟨dx,qs,qp,qd,nk,kvs,e1,_⟩:=id hh.ex;walk_at"g2";walk_at"go";rename_i p H1 n1 S1 eP;refine fC (aP hh S1) fun pN H2 n2 S2 eN=> ?_;have s02:Same H H2:=S1.trans S2;have eP2:=S2 _ _ eP;have hNp:pN≠p:=fun z=>by rw[z,eP2]at eN;cases eN
  have nl:((ds.map (·.1)).map V.str).length=ds.length:=by rw[List.length_map,List.length_map]
  walk_at"go";rw[show ((((ds.map (·.1)).map V.str).length:Nat):Int).toNat=ds.length by lia];let Pv1:Nat->St->Hp->Prop:=fun i σ' H'=>SameBut p H2 H'/\(∃g,H' p=some (.dK (cQ ((ds.map (·.1)).take i) g))/\∀d∈ds.take i,0<=g d.1/\g d.1<=dZ f l d t)/\∃x y z,σ'=[some (.ref h),some (.int c),some (.int t),some (.ref pi),some (.ref p),some (.ref pN),x,y,z,none,none,none,none];refine oP Pv1 ⟨SameBut.refl,⟨fun _=>0,by rw[eP2];rfl,(fun _ z=>nomatch z)⟩,_,_,_,rfl⟩ ?_ ?_
  ·rintro i _ H' hi hq_;walk_at"g1";obtain⟨sb,⟨g,ek,hg⟩,y1,y2,y3,rfl⟩:=hq_;walk_at"g2";have sH:Same H H':=SameBut.same n1 s02 sb;have hh':=aP hh sH;have e1':=sH _ _ e1;have eN':=sb _ _ eN hNp;have hd:ds[i]? =some ds[i]:=List.getElem?_eq_getElem hi;have hdm:ds[i]∈ds:=List.getElem_mem hi;have hni:(ds.map (·.1))[i]? =some ds[i].1:=by rw[List.getElem?_map,hd];rfl
   have hvi:((ds.map (·.1)).map V.str)[i]? =some (.str ds[i].1):=by rw[List.getElem?_map,hni];rfl
   have hnn:=Z4 dh hdm t;generalize ds[i]=d at hd hdm hni hvi hnn;walk_at"go";rw[Int.zero_add];refine vM (SqL.of eN') hvi ?_;walk_at"go";refine JZ hh' dnd hdm df0 fun H3 S3=> ?_;generalize hlt:dZ f l d t=lt at hnn ⊢;walk_at"go";rename_i nn en hn0 hn1 hv0 hv1;refine vM (SqL.of (S3 _ _ eN')) hvi ?_;generalize nn * (lt/1000+1)%(lt+1)=vv at hv0 hv1 ⊢;have ek3:=S3 _ _ ek;refine gM ek3 (by rw[o0,List.length_take,List.length_map,sizeLine_eq];lia) fun H4 B4 e4=> ?_;have hnew:=k5 dnd hni;refine⟨(sb.trans S3.but).trans B4,⟨c8 g d.1 vv,by rw[e4,bW hni,GO hnew],fun d' hd'=> ?_⟩,_,_,_,rfl⟩;rw[bW hd]at hd';rcases List.mem_append.mp hd' with hd'|hd'
   ·unfold c8;rw[if_neg (fun z:d'.1=d.1=>hnew (by rw[←z,←List.map_take];exact List.mem_map.mpr ⟨d',hd',rfl⟩))];exact hg d' hd'
   ·cases List.mem_singleton.mp hd';unfold c8;rw[if_pos rfl];have:=hlt
    lia
  ·rintro _ H' hq_;walk_at"g1";obtain⟨sb,⟨g,ek,hg⟩,y1,y2,y3,rfl⟩:=hq_;walk_at"g2";rw[show (ds.map (·.1)).take ds.length=ds.map (·.1) by rw[←List.length_map (f:=fun d:aD=>d.1),List.take_length]]at ek;rw[List.take_length]at hg;have sH:Same H H':=SameBut.same n1 s02 sb;walk_at"go";refine U5 (aP hh sH) dh ek (sH _ _ ei) (fun d hd=>(hg d hd).1) hI fun q H3 hX=> ?_;walk_at"g1";obtain⟨pS,ss,more,S3,eq,eS,hss,hx,hsl⟩:=hX;walk_at"g2";walk_at"go";have hpS:pS≠p:=fun z=>by rw[z,S3 _ _ ek]at eS;cases eS
   refine TQ (W:=fun m' σ' H'=>SameBut p H2 H'/\(∃(g:Str->Int) (ss:List Str) (more:Int) (pS:Addr) (x1 x2 x3 x4 x5:Option V),H' p=some (.dK (cQ (ds.map (·.1)) g))/\(∀d∈ds,0<=g d.1/\g d.1<=dZ f l d t)/\H' pS=some (.lst (ss.map V.str))/\(∀n∈ss,n∈ds.map (·.1)/\0<g n)/\(ss=[]->EV rz ds g I)/\ss.length<=8/\m'=(((ds.map (·.1)).map g).sum).toNat/\σ'=[some (.ref h),some (.int c),some (.int t),some (.ref pi),some (.ref p),some (.ref pN),x1,x2,x3,some (.ref pS),some (.int more),x4,x5])) _ ⟨sb.trans S3.but,g,ss,more,pS,_,_,_,_,_,S3 _ _ ek,hg,eS,hss,hx,hsl,rfl,rfl⟩ ?_;clear hg hss hx hsl eS hpS ek sb sH eq;clear pS ss more S3 H3 q g y1 y2 y3 H';rintro m' _ H' hq_;walk_at"g1";obtain⟨sb,g,ss,more,pS,x1,x2,x3,x4,x5,ek,hg,eS,hss,hx,hsl,rfl,rfl⟩:=hq_;walk_at"g2";have sH:Same H H':=SameBut.same n1 s02 sb;walk_at"go";rename_i pZ H3 n3 S3 eZ;have eS3:=S3 _ _ eS;have ek3:=S3 _ _ ek;refine ZM (SqL.of eS3) (SqL.of eZ) ?_;walk_at"go";cases ss with
   | nil =>
    rw[if_neg (show ¬((!(([]:List Str).map V.str).isEmpty)=true) from fun z=>by cases z)];walk_at"go";exact k _ _ (.mk g (by
     cases hq:H p with
     | none=>rfl
     | some u=>rw[n1]at hq;cases hq) (sH.trans S3) ek3 hg (hx rfl))
   | cons z0 ss0 =>
    generalize hse:z0::ss0=ss at hss hx hsl eS eS3 ⊢;have hs0:0<ss.length:=by rw[←hse];exact Nat.succ_pos _
    have hie:(!(ss.map V.str).isEmpty)=true:=by rw[←hse];rfl
    rw[hie,if_pos rfl];refine aA0 ?_;have hsl':(ss.map V.str).length=ss.length:=List.length_map ..;walk_at"go";rename_i hi0 hi1;refine FE (SqL.of eS3) hi0 hi1 fun v hv=> ?_;obtain⟨n,hn,rfl⟩:=List.mem_map.mp hv;obtain⟨hnm,hgn⟩:=hss n hn;walk_at"go";refine bN (.inl ek3) (bX hnm) ?_;walk_at"go";refine bN (.inl ek3) (bX hnm) ?_;generalize hgv:g n=gv at hgn ⊢;walk_at"go";refine bN (.inl ek3) (bX hnm) ?_;rw[hgv];walk_at"go";generalize hmo:min (max more ((gv+1)/2)) gv=mo;have hmo0:1<=mo/\mo<=gv:=by lia
    refine gM ek3 (by rw[o0,List.length_map,sizeLine_eq];lia) fun H4 B4 e4=> ?_;rw[xS hnm]at e4;have sb4:SameBut p H2 H4:=(sb.trans S3.but).trans B4;have sH4:Same H H4:=SameBut.same n1 s02 sb4;have hsm:=GK (g:=g) (v:=gv - mo) dnd hnm;have hg':∀d∈ds,0<=c8 g n (gv - mo) d.1/\c8 g n (gv - mo) d.1<=dZ f l d t:=fun d hd=>by
     have h1:=hg d hd;unfold c8
     by_cases e:d.1=n
     ·rw[if_pos e];rw[e,hgv]at h1
      lia
     ·rw[if_neg e];exact h1
    have hs0':0<=((ds.map (·.1)).map (c8 g n (gv - mo))).sum:=AD fun x hx=>by
     obtain⟨d,hd,rfl⟩:=List.mem_map.mp hx;exact(hg' d hd).1
    walk_at"go";refine U5 (aP hh sH4) dh e4 (sH4 _ _ ei) (fun d hd=>(hg' d hd).1) hI fun q H5 hX=> ?_;walk_at"g1";obtain⟨pS',ss',more',S5,eq5,eS5,hss',hx',hsl5⟩:=hX;walk_at"g2";walk_at"go";refine⟨_,?_,sb4.trans S5.but,_,ss',more',pS',_,_,_,_,_,S5 _ _ e4,hg',eS5,hss',hx',hsl5,rfl,rfl⟩;rw[hgv]at hsm
    lia
theorem z8 (m:M K mg):Fc P w K mg base "_law_numbers" 9 ["_law_house_here","_law_cell","_law_turn","_law_inside"] (zF m.aI (aM P w K mg base (some 4))):=⟨_,_,m.CP,m.iD.F.kp,m.iD.b,AH m⟩
def Same2 (p q:Addr)(H H':Hp):Prop:=∀b u,H b=some u->b≠p->b≠q->H' b=some u
theorem Same2.refl (p q:Addr)(H:Hp):Same2 p q H H:=fun _ _ e _ _=>e
theorem Same2.same {p q:Addr}{H H1 H2:Hp} (t:Same2 p q H H1) (s:Same H1 H2):Same2 p q H H2:=fun b u e n hb=>s b u (t b u e n hb)
theorem Same2.fst {p q:Addr}{H H1 H2:Hp} (t:Same2 p q H H1) (s:SameBut p H1 H2):Same2 p q H H2:=fun b u e n hb=>s b u (t b u e n hb) n
theorem Same2.snd {p q:Addr}{H H1 H2:Hp} (t:Same2 p q H H1) (s:SameBut q H1 H2):Same2 p q H H2:=fun b u e n hb=>s b u (t b u e n hb) hb
theorem Same2.out {p q:Addr}{H H1 H2:Hp} (n1:H p=none) (n2:H q=none) (s:Same H H1) (t:Same2 p q H1 H2):Same H H2:=fun b u e=>t b u (s b u e) (fun z=>by rw[z,n1]at e;cases e) (fun z=>by rw[z,n2]at e;cases e)
theorem CS {H H':Hp}{p:Addr} (s:Same H H') (n:H' p=none):H p=none:=by
 cases hq:H p with
 | none=>rfl
 | some u=>rw[s _ _ hq]at n;cases n
theorem uH {H H':Hp}{p:Addr}{o:HO}{us:List V}{R:List aJ} (h:bJ H us R) (e:H p=some o) (ho:∀xs,o≠ .tup xs) (s:SameBut p H H'):bJ H' us R:=Paired.imp' (fun v r ⟨q,e1,h1⟩=>⟨q,e1,s _ _ h1 (fun z=>by
 rw[z,e]at h1;cases h1;exact ho _ rfl)⟩) h
theorem MQ {ks:List Str}(nd:ks.Nodup)(g:Str->Int):iX [] (cQ ks g)=cQ ks g:=by
 rw[vA _ _ (by rw[C0];exact v4 nd) (fun _ z=>by cases z)];rfl
def inJ (ds:List aD)(g I:Str->Int)(L:List Str)(z:Str):Int:=I z - (L.map (sLf ds g z)).sum+(L.map (sCf ds g z)).sum
theorem YT {ds:List aD}(nd:(ds.map (·.1)).Nodup){d:aD}(hd:d∈ds)(he:d.2.2.1= .non)(g I:Str->Int)(L:List Str):c8 (inJ ds g I L) d.2.1 (inJ ds g I L d.2.1 - g d.1)=inJ ds g I (L++[d.1]):=funext fun z=>by
 unfold c8 inJ;rw[List.map_append,List.sum_append,List.map_append,List.sum_append,List.map_singleton,List.map_singleton,zQ nd hd,AI nd hd,he,if_neg (show ¬V.non=V.str z from fun y=>by cases y)]
 by_cases c:z=d.2.1
 ·subst c;rw[if_pos rfl,if_pos rfl];simp only[List.sum_cons,List.sum_nil]
  lia
 ·rw[if_neg c,if_neg (fun y=>c y.symm)];simp only[List.sum_cons,List.sum_nil]
  lia
theorem ZX {ds:List aD}(nd:(ds.map (·.1)).Nodup){d:aD}(hd:d∈ds){y:Str}(he:d.2.2.1= .str y)(g I:Str->Int)(L:List Str):c8 (c8 (inJ ds g I L) d.2.1 (inJ ds g I L d.2.1 - g d.1)) y (c8 (inJ ds g I L) d.2.1 (inJ ds g I L d.2.1 - g d.1) y+g d.1)=inJ ds g I (L++[d.1]):=funext fun z=>by
 have e1:∀z,c8 (inJ ds g I L) d.2.1 (inJ ds g I L d.2.1 - g d.1) z=inJ ds g I L z - (if d.2.1=z then g d.1 else 0):=fun z=>by
  unfold c8
  by_cases c:z=d.2.1
  ·rw[if_pos c,if_pos c.symm,c]
  ·rw[if_neg c,if_neg (fun y=>c y.symm),Int.sub_zero]
 have e2:∀z,c8 (c8 (inJ ds g I L) d.2.1 (inJ ds g I L d.2.1 - g d.1)) y (c8 (inJ ds g I L) d.2.1 (inJ ds g I L d.2.1 - g d.1) y+g d.1) z=c8 (inJ ds g I L) d.2.1 (inJ ds g I L d.2.1 - g d.1) z+(if y=z then g d.1 else 0):=fun z=>by
  show (if z=y then _ else _)=_
  by_cases c:z=y
  ·rw[if_pos c,if_pos c.symm,c]
  ·rw[if_neg c,if_neg (fun y=>c y.symm),Int.add_zero]
 rw[e2,e1];unfold inJ;rw[List.map_append,List.sum_append,List.map_append,List.sum_append,List.map_singleton,List.map_singleton,zQ nd hd,AI nd hd,he];have e3:(if V.str y=V.str z then g d.1 else 0)=if y=z then g d.1 else 0:=by
  by_cases c:y=z
  ·rw[if_pos c,if_pos (by rw[c])]
  ·rw[if_neg c,if_neg (fun q=>c (by injection q))]
 rw[e3];simp only[List.sum_cons,List.sum_nil]
 lia
inductive aAC (rz ps:List (Str×Int))(ds:List aD)(f l:Int)(H H':Hp)(p:Addr):Prop
 | mk (us:List V) (R:List aJ) (I:Str->Int) (_:H p=none) (_:Same H H') (_:H' p=some (.lst us)) (_:bJ H' us R) (_:Lawn rz ps ds f l (l - f).toNat I R)
inductive qX (K:PySem.W.Frag)(C:Addr)(D:aU)(vs:List V)(H:Hp)(Q:VK)(E:XK):Prop
 | mk (h b:Addr) (f l:Int) (rz ps:List (Str×Int)) (ds:List aD) (cs:List Int) (_:vs=[.ref h,.ref b]) (_:aR C D H h f l rz ps ds) (_:DrawnH rz ps ds f l) (_:SqL K H b (cs.map V.int)) (_:∀p H',aAC rz ps ds f l H H' p->Q (.ref p) H'):qX K C D vs H Q E
theorem E8 {C:Addr}{D:aU}{H:Hp}{Q:VK}{E:XK}{h b:Addr}{f l:Int}{rz ps:List (Str×Int)}{ds:List aD}{cs:List Int} (hh:aR C D H h f l rz ps ds) (dh:DrawnH rz ps ds f l) (hS:SqL K H b (cs.map V.int)) (k:∀p H',aAC rz ps ds f l H H' p->Q (.ref p) H'):qX K C D [.ref h,.ref b] H Q E:=⟨_,_,_,_,_,_,_,_,rfl,hh,dh,hS,k⟩
theorem BI (m:M K mg):FnOk P w K mg base CX0 11 m.mX m.i8.d ["_law_house_here","_law_cells"] (qX K m.aI (aM P w K mg base (some 4))):=by
 refine m.i8.F.ok sc__law_lawful (fun vs H Q E h=> ?_) (fun cdv A outer s H vs Q E hr h=> ?_)
 ·walk_at"g1";obtain⟨h,b,f,l,rz,ps,ds,cs,rfl,hh,dh,hS,k⟩:=h;walk_at"g2";rfl
 ·walk_at"g1";obtain⟨h,b,f,l,rz,ps,ds,cs,rfl,hh,dh,hS,k⟩:=h;walk_at"g2";have nd:=sc__law_lawful.nd;walk_at"hu";have F__law_cell_at:= @j6 P w K mg base m;have F__law_numbers:= @z8 P w K mg base m;have w_dc_House:=m.aX;have w_mc_House_rooms:= @hJ P w K mg base m;have w_mc_House_found:= @lO P w K mg base m;have w_mc_House_door:= @d6 P w K mg base m;refine⟨_,(aB (aN (i:=2) nd rfl (by walk_at"oi") (fG aC))
   (aB (aN (i:=3) nd rfl (by walk_at"oi") (mH (zU rfl) rfl m.Q2 JJ (aA (cA (N:=["_law_room","_law_house_here"]) (nl:=1) (ci:=[0]) rfl (blk (s.heap.objs.size+1) rfl rfl rfl (by kernel_rfl)) (bH (dA 1 hr (pv 0))) (fun _ _ _ _=>(aK (i:=0) (show (["_law_room","_law_house_here"]:List Str).Nodup by decide +kernel) rfl (by walk_at"oi"))) (fun _ _ _ _=>dL) (fun _ _ _ _=>(bV (aA (pv 0) (aA (oS (P:=P) (w:=w) (K:=K) (mg:=mg) (base:=base) 3 hr (pv 1) (aA (pv 0) aC)) aC))))) aC)))
   (aB (cS PassesOwn.never rfl (vT rfl m.jW (aA (bB (pv 0) rfl) (aA (bB (pv 0) rfl) aC))) (aK (i:=4) nd rfl (by walk_at"oi")) (aB (aN (i:=5) nd rfl (by walk_at"oi") (bA F__law_cell_at hr (aA (pv 1) (aA (aH fU (pv 4) (bB (pv 0) rfl)) aC))))
   (aB (aN (i:=6) nd rfl (by walk_at"oi") (bA F__law_numbers hr (aA (pv 0) (aA (pv 5) (aA (pv 4) (aA (pv 3) aC))))))
   (aF (cS PassesOwn.never rfl (bH (bS (DV rfl) rfl m.zA vQ (aA (pv 6) aC))) (aK (i:=7) nd rfl (by walk_at"oi")) (aB (aN (i:=8) nd rfl (by walk_at"oi") (d5 1 hr (pv 0) (aA (pv 7) aC)))
   (aB (dU hu1 (pv 3) (bB (pv 8) rfl) (aH fU (bK hu1 (pv 3) (bB (pv 8) rfl) (fun _ _=>rfl)) (bK hu1 (pv 6) (pv 7) (fun _ _=>rfl))) rfl)
   (aB (b9 (aV JV (bB (pv 8) rfl) sM (aY _)) (aF (dU hu1 (pv 3) (bB (pv 8) rfl) (aH bI (bK hu1 (pv 3) (bB (pv 8) rfl) (fun _ _=>rfl)) (bK hu1 (pv 6) (pv 7) (fun _ _=>rfl))) rfl)) bL)
   (aF (b9 (aV i6 (bK hu1 (pv 6) (pv 7) (fun _ _=>rfl)) aE (aY _)) (aF (bP (wS PySem.F.plainAttrs_list PySem.F.slot_list_append PySem.F.type_list_append jQ (pv 2) (aA (bV (aA (pv 4) (aA (pv 7) (aA (bK hu1 (pv 6) (pv 7) (fun _ _=>rfl)) aC)))) aC)))) bL))))))))))
   (aF (aT (pv 2)))))),?_⟩
  refine aO (σ:=[some (.ref h),some (.ref b),none,none,none,none,none,none,none]) rfl ?_;walk_at"cx";walk_at"g1";obtain⟨dnr,dnd,dhin,dlt,hpr,dfit,dsz,dlr,dlp,dld,df0,df1,df2,df3⟩:=id dh;walk_at"g2";walk_at"g1";obtain⟨dx,qs,qp,qd,nk,kvs,e1,_⟩:=id hh.ex;walk_at"g2";have hm:=dh.most;walk_at"go";rename_i p H1 n1 S1 eP;refine fC (aP hh S1) fun pR H2 n2 S2 eR=> ?_;have s02:Same H H2:=S1.trans S2;walk_at"go";refine dC (α:=Str) (xs:=rz.map (·.1)) (vs:=(rz.map (·.1)).map V.str) (fun v x=>v= .str x) (fun _=>true) (fun n y H=>∃q,y= .ref q/\H q=some (.tup [.str n,.int (dJ ps n)])) (fun _ _ _ _ ⟨q,h1,h2⟩ s=>⟨q,h1,s _ _ h2⟩) (by rw[sizeLine_eq,List.length_map];lia) (rest:=[some (.ref h)]) (by rfl) (SqL.of eR) (l9 _) ?_ ?_ ?_
  ·exact fun v x H1 _ _ s1 R hR=>hR _ (Same.refl _)
  ·rintro _ n G2 rfl hm - s2 R hR;have e12:=(s02.trans s2) _ _ e1;walk_at"go";refine wP (aP hh (s02.trans s2)) dnr hm fun G3 T3=> ?_;walk_at"go";rename_i q4 G4 m4 T4 e4;exact hR _ _ ⟨q4,rfl,e4⟩ (T3.trans T4)
  intro ys H3 s3 hys;rw[cT]at hys;walk_at"go";rename_i pD H4 n4 S4 eD;have pr:wQ H4 ys (cQ (rz.map (·.1)) (dJ ps)):=by
   have key:∀{ks:List Str}{ys:List V},Paired (fun x y=>∃q,y=V.ref q/\H3 q=some (.tup [.str x,.int (dJ ps x)])) ks ys->wQ H4 ys (cQ ks (dJ ps)):=fun h=>by
    induction h with
    | nil=>exact .nil
    | cons a t ih =>
     obtain⟨q,e,hq⟩:=a;exact .cons ⟨q,e,S4 _ _ hq⟩ ih
   exact key hys
  refine HR eD pr fun pi H5 n5 S5 e5=> ?_;rw[MQ dnr]at e5;have s05:Same H H5:=s02.trans (s3.trans (S4.trans S5));have nP:H p=none:=n1;have nI:H pi=none:=CS (s02.trans (s3.trans S4)) n5;have eP5:H5 p=some (.lst []):=(S2.trans (s3.trans (S4.trans S5))) _ _ eP;have hpi:pi≠p:=fun z=>by rw[z,eP5]at e5;cases e5
  have e15:=s05 _ _ e1;clear hys pr eD eR;clear S4 n4 pD ys;walk_at"go";let Pv1:Nat->St->Hp->Prop:=fun i σ' H'=>Same H H'/\(∃us R I,H' p=some (.lst us)/\bJ H' us R/\H' pi=some (.dK (cQ (rz.map (·.1)) I))/\Lawn rz ps ds f l i I R)/\∃x y z u v,σ'=[some (.ref h),some (.ref b),some (.ref p),some (.ref pi),x,y,z,u,v];refine oP Pv1 ⟨s05,⟨[],[],_,eP5,.nil,e5,Lawn.start dnr dfit hm⟩,_,_,_,_,_,rfl⟩ ?_ ?_
  ·rintro i _ H' hi hq_;walk_at"g1";obtain⟨sH,⟨us,R,I,ep,hpl,ei,hL⟩,y1,y2,y3,y4,y5,rfl⟩:=hq_;walk_at"g2";have hh':=aP hh sH;have e1':=sH _ _ e1;have hS':=sH.seq hS;have hT:f+(i:Int)<l:=by lia
   have rl:=hL.len;have ul:us.length=R.length:=Paired.length hpl;walk_at"go";refine aBW hh' dh ei hL.bd fun pn H6 hX=> ?_;walk_at"g1";obtain⟨g,nn,S6,en,hg,hok⟩:=hX;walk_at"g2";walk_at"go";refine NY en (C0 _ _) (by rw[List.length_map];lia) fun pT H7 n7 S7 eT=> ?_;have hLp:=K6 (ds.map (·.1));have hLs:=RD dnd;generalize tJ (ds.map (·.1))=L at hLp hLs eT;have ndL:L.Nodup:=hLp.nodup_iff.mpr dnd;have Ll:L.length=ds.length:=by rw[hLp.length_eq,List.length_map]
   have s67:=S6.trans S7;have s07:Same H H7:=sH.trans s67;have en7:=S7 _ _ en;have ep7:=s67 _ _ ep;have ei7:=s67 _ _ ei;have hnp:pn≠p:=fun z=>by rw[z,ep]at nn;cases nn
   have hni:pn≠pi:=fun z=>by rw[z,ei]at nn;cases nn
   have hTp:pT≠p:=fun z=>by rw[z,S6 _ _ ep]at n7;cases n7
   have hTi:pT≠pi:=fun z=>by rw[z,S6 _ _ ei]at n7;cases n7
   have inJ0:inJ ds g I []=I:=funext fun z=>by unfold inJ;simp only[List.map_nil,List.sum_nil];lia
   walk_at"go";let Pv2:Nat->St->Hp->Prop:=fun j σ' G=>Same2 p pi H7 G/\(∃us,G p=some (.lst us)/\bJ G us (R++cF (f+(i:Int)) g (L.take j))/\G pi=some (.dK (cQ (rz.map (·.1)) (inJ ds g I (L.take j)))))/\∃x y,σ'=[some (.ref h),some (.ref b),some (.ref p),some (.ref pi),some (.int (f+(i:Int))),some (.int (hO cs (f+(i:Int) - f))),some (.ref pn),x,y];refine dN (L.map V.str) Pv2 ⟨Same2.refl _ _ _,⟨us,ep7,by rw[show R++cF (f+(i:Int)) g (L.take 0)=R from List.append_nil _];exact cJ hpl s67,by rw[List.take_zero,inJ0];exact ei7⟩,_,_,rfl⟩ (fun j σ' G _ q=>SqL.of (q.1 _ _ eT hTp hTi)) ?_ ?_
   ·rintro j x _ G hx hq_;walk_at"g1";obtain⟨s2,⟨vs,epG,hplG,eiG⟩,x1,x2,rfl⟩:=hq_;walk_at"g2";rw[List.getElem?_map]at hx;obtain⟨n,hn,rfl⟩:=Option.map_eq_some_iff.mp hx;have hnm:n∈ds.map (·.1):=hLp.mem_iff.mp (List.mem_of_getElem? hn);walk_at"g1";obtain⟨⟨n',st,e,lt⟩,hd,rfl⟩:=List.mem_map.mp hnm;walk_at"g2";have sG:Same H G:=Same2.out nP nI s07 s2;have hhG:=aP hh sG;have e1G:=sG _ _ e1;have enG:=s2 _ _ en7 hnp hni;obtain⟨hst,hend⟩:=dhin _ hd;have vl:vs.length<=200:=by
     have h1:vs.length=_:=Paired.length hplG;have h2:=DP (f+(i:Int)) g (L.take j);rw[List.length_append]at h1;rw[List.length_take]at h2
     lia
    show (_:TG) (V.str n') _ _ _;walk_at"go";refine sZ (d:=(n',st,e,lt)) hhG dnd hd fun v hv=> ?_;walk_at"g1";obtain⟨q2,C2,dx2,fs2,fp2,rfl,hq2,dcC,l1,l2,l3,l4,l5,mcE,hfp,hlt⟩:=DoorAt.ex hv;walk_at"g2";walk_at"go";have hts:=bW hn;generalize L.take j=Lj at hts hplG eiG ⊢;refine bN (.inl eiG) (bX hst) ?_;walk_at"go";refine bN (.inl enG) (bX hnm) ?_;walk_at"go";refine gM eiG (by rw[o0,List.length_map,sizeLine_eq];lia) fun G1 B1 e1'=> ?_;rw[xS hst]at e1';have hq2':G1 q2=some (.ins C2 dx2 fs2):=B1 _ _ hq2 (fun z=>by rw[z,eiG]at hq2;cases hq2);have en1:=B1 _ _ enG hni;have ep1:=B1 _ _ epG (fun z=>hpi z.symm);have hpl1:=uH hplG eiG (fun _ z=>by cases z) B1;have s21:=s2.snd B1;rcases hend with hend|⟨y,hend,hy⟩
    ·have hee:e= .non:=hend;subst hee;have ei1:=e1';rw[YT (d:=(n',st,.non,lt)) dnd hd rfl,←hts]at ei1;walk_at"go";refine bN (.inl en1) (bX hnm) ?_;walk_at"go";refine cM (fun hc=> ?_) (fun hc=> ?_)
     ·walk_at"go";refine bN (.inl en1) (bX hnm) ?_;walk_at"go";rename_i q8 G8 m8 T8 e8;have ep8:=T8 _ _ ep1;refine gX ep8 (by rw[sizeLine_eq];lia) fun G9 B9 e9=> ?_;have hq8:q8≠p:=fun z=>by rw[z,ep8]at e8;cases e8
      have hip:pi≠p:=hpi;walk_at"go";refine⟨(s21.same T8).fst B9,⟨vs++[.ref q8],e9,?_,B9 _ _ (T8 _ _ ei1) hip⟩,_,_,rfl⟩;rw[hts,nT,if_pos (show 0<g n' from hc),←List.append_assoc];exact L2.Paired.snoc (uH (cJ hpl1 T8) ep8 (fun _ z=>by cases z) B9) ⟨q8,rfl,B9 _ _ e8 hq8⟩
     ·walk_at"go";refine⟨s21,⟨vs,ep1,?_,ei1⟩,_,_,rfl⟩;rw[hts,nT,if_neg (show ¬0<g n' from hc)];exact hpl1
    ·have hee:e= .str y:=hend;subst hee;walk_at"go";refine bN (.inl e1') (bX hy) ?_;walk_at"go";refine bN (.inl en1) (bX hnm) ?_;walk_at"go";refine gM e1' (by rw[o0,List.length_map,sizeLine_eq];lia) fun G3 B3 e3'=> ?_;rw[xS hy]at e3';have hq3:G3 q2=some (.ins C2 dx2 fs2):=B3 _ _ hq2' (fun z=>by rw[z,e1']at hq2';cases hq2');have en3:=B3 _ _ en1 hni;have ep3:=B3 _ _ ep1 (fun z=>hpi z.symm);have hpl3:=uH hpl1 e1' (fun _ z=>by cases z) B3;have s23:=s21.snd B3;have ei3:=e3';rw[ZX (d:=(n',st,.str y,lt)) dnd hd rfl,←hts]at ei3;walk_at"go";refine bN (.inl en3) (bX hnm) ?_;walk_at"go";refine cM (fun hc=> ?_) (fun hc=> ?_)
     ·walk_at"go";refine bN (.inl en3) (bX hnm) ?_;walk_at"go";rename_i q8 G8 m8 T8 e8;have ep8:=T8 _ _ ep3;refine gX ep8 (by rw[sizeLine_eq];lia) fun G9 B9 e9=> ?_;have hq8:q8≠p:=fun z=>by rw[z,ep8]at e8;cases e8
      have hip:pi≠p:=hpi;walk_at"go";refine⟨(s23.same T8).fst B9,⟨vs++[.ref q8],e9,?_,B9 _ _ (T8 _ _ ei3) hip⟩,_,_,rfl⟩;rw[hts,nT,if_pos (show 0<g n' from hc),←List.append_assoc];exact L2.Paired.snoc (uH (cJ hpl3 T8) ep8 (fun _ z=>by cases z) B9) ⟨q8,rfl,B9 _ _ e8 hq8⟩
     ·walk_at"go";refine⟨s23,⟨vs,ep3,?_,ei3⟩,_,_,rfl⟩;rw[hts,nT,if_neg (show ¬0<g n' from hc)];exact hpl3
   ·rintro _ G hq_;walk_at"g1";obtain⟨s2,⟨vs,epG,hplG,eiG⟩,x1,x2,rfl⟩:=hq_;walk_at"g2";rw[List.length_map,List.take_length]at hplG eiG;refine⟨Same2.out nP nI s07 s2,⟨vs,_,_,epG,hplG,eiG,hL.step dnd dld hT hg hm hok hLp hLs⟩,_,_,_,_,_,rfl⟩
  ·rintro _ H' hq_;walk_at"g1";obtain⟨sH,⟨us,R,I,ep,hpl,ei,hL⟩,y1,y2,y3,y4,y5,rfl⟩:=hq_;walk_at"g2";walk_at"go";exact k _ _ (.mk us R I nP sH ep hpl hL)
theorem A2 (m:M K mg):Fc P w K mg base "_law_lawful" 11 ["_law_house_here","_law_cells"] (qX K m.aI (aM P w K mg base (some 4))):=⟨_,_,m.EH,m.i8.F.kp,m.i8.b,BI m⟩
theorem oH {α:Type}(f:α->V):∀l:List α,Paired (fun (v:V) (x:α)=>v=f x) (l.map f) l
 | []=> .nil
 | _::l=> .cons rfl (oH f l)
theorem aAU {ds:List aD}{f l:Int}{R:List aJ} (h:∀r∈R,0<r.2.2) (k:List Key):0<=goC ds f l R k:=by
 rw[iV];unfold wt;generalize hq:(R.filter fun r=>decide (dW ds (r.1,r.2.1,0)=some k)&&cnt (ds.map (·.1)) f l (r.1,r.2.1,0))=R';have h':∀r∈R',0<r.2.2:=fun r hr=>by rw[←hq]at hr;exact h r (List.mem_filter.mp hr).1
 clear hq
 induction R' with
 | nil=>exact Int.le_refl _
 | cons a t ih =>
  rw[List.map_cons,List.sum_cons];have:=ih fun r hr=>h' r (List.mem_cons_of_mem _ hr);have:=h' a (.head _)
  lia
structure PlanOk (rz ps:List (Str×Int))(ds:List aD)(f l:Int)(R:List aJ):Prop where
 lv:∀j:Nat,f+(j:Int)<l->∀z∈rz.map (·.1),goL ds f l R (aS (z,f+(j:Int)))<=cG ps (goL ds f l R) (goC ds f l R) z f j
 fu:∀j:Nat,f+(j:Int)<=l->∀e∈rz,cG ps (goL ds f l R) (goC ds f l R) e.1 f j<=e.2
 le:∀t n,cH R t n<=dQ ds f l t n
 tm:∀r∈R,f<=r.1/\r.1<l
 ps0:∀r∈R,0<r.2.2
 as:(R.map k4).Pairwise fun a b=>cO a b=true
 ln:R.length<=130
theorem PlanOk.len {rz ps:List (Str×Int)}{ds:List aD}{f l:Int}{R:List aJ} (h:PlanOk rz ps ds f l R) (dh:DrawnH rz ps ds f l):R.length<=130:=h.ln
theorem PlanOk.nn {rz ps:List (Str×Int)}{ds:List aD}{f l:Int}{R:List aJ} (h:PlanOk rz ps ds f l R) (hp:∀p∈ps,0<=p.2) {z:Str} (hz:z∈rz.map (·.1)):∀j:Nat,f+(j:Int)<=l->0<=cG ps (goL ds f l R) (goC ds f l R) z f j
 | 0,_=>JI hp z
 | j+1,hj=>by
  have h1:=h.lv j (by lia) z hz;have h2:=aAU (ds:=ds) (f:=f) (l:=l) h.ps0 (aS (z,f+(j:Int)));show 0<=cG ps (goL ds f l R) (goC ds f l R) z f j - goL ds f l R (aS (z,f+(j:Int)))+goC ds f l R (aS (z,f+(j:Int)))
  lia
theorem Lawn.ok {rz ps:List (Str×Int)}{ds:List aD}{f l:Int}{I:Str->Int}{R:List aJ} (h:Lawn rz ps ds f l (l - f).toNat I R) (h1:f<=l) (h2:l<=f+8):PlanOk rz ps ds f l R :=
 ⟨fun j hj=>h.lv j (by lia),fun j hj=>h.fu j (by lia),h.le,fun r hr=>⟨(h.tm r hr).1,by have:=(h.tm r hr).2;lia⟩,h.ps0,h.as,by have:=h.len;lia⟩
theorem PlanOk.nf {rz ps:List (Str×Int)}{ds:List aD}{f l:Int}{R:List aJ} (h:PlanOk rz ps ds f l R):M3 rz ps ds f l R :=
 ⟨h.le,fun e he j hj=>h.lv j hj e.1 (List.mem_map.mpr ⟨e,he,rfl⟩),fun e he j hj=>h.fu j hj e he⟩
def gO (ps:List (Str×Int))(ds:List aD)(f l:Int)(R:List aJ)(t:Int)(z:Str):Int:=cG ps (goL ds f l R) (goC ds f l R) z f (t - f).toNat
def psT (rz ps:List (Str×Int))(ds:List aD)(f l:Int)(R:List aJ)(t:Int):List (Str×Int):=rz.map fun e=>(e.1,gO ps ds f l R t e.1)
theorem PlanOk.bd {rz ps:List (Str×Int)}{ds:List aD}{f l t:Int}{R:List aJ} (h:PlanOk rz ps ds f l R) (dh:DrawnH rz ps ds f l) (h0:f<=t) (h1:t<=l):∀e∈rz,0<=gO ps ds f l R t e.1/\gO ps ds f l R t e.1<=e.2:=fun e he =>
 ⟨h.nn dh.fit.1 (List.mem_map.mpr ⟨e,he,rfl⟩) _ (by lia),h.fu _ (by lia) e he⟩
theorem J5 {rz ps:List (Str×Int)}{ds:List aD}{f l t:Int}{R:List aJ} (h:PlanOk rz ps ds f l R) (dh:DrawnH rz ps ds f l) (h0:f<=t) (h1:t<=l):rT rz (psT rz ps ds f l R t):=by
 have:=KY (l:=rz) (fun e:Str×Int=>e.1) (fun e=>e.2) (fun e=>gO ps ds f l R t e.1) dh.nr (h.bd dh h0 h1)
 rwa [show (rz.map fun e=>(e.1,e.2))=rz from List.map_id' rz]at this
theorem A5 {rz ps:List (Str×Int)}{ds:List aD}{f l t:Int}{R:List aJ} (nr:(rz.map (·.1)).Nodup) {z:Str} (hz:z∈rz.map (·.1)):dJ (psT rz ps ds f l R t) z=gO ps ds f l R t z:=by
 have key:∀rz:List (Str×Int),(rz.map (·.1)).Nodup->(z∉rz.map (·.1)->dJ (psT rz ps ds f l R t) z=0)/\(z∈rz.map (·.1)->dJ (psT rz ps ds f l R t) z=gO ps ds f l R t z):=fun rz=>by
  induction rz with
  | nil=>exact fun _=>⟨fun _=>rfl,fun h=>nomatch h⟩
  | cons a l ih =>
   intro nd;have nd':=List.nodup_cons.mp nd;obtain⟨i1,i2⟩:=ih nd'.2;unfold dJ psT at i1 i2 ⊢;refine⟨fun h=> ?_,fun h=> ?_⟩
   ·rw[List.map_cons,List.mem_cons,not_or]at h;rw[List.map_cons,List.filter_cons_of_neg (by simpa using fun y=>h.1 y.symm)];exact i1 h.2
   ·rw[List.map_cons]
    by_cases c:a.1=z
    ·have hn:z∉l.map (·.1):=by rw[←c];exact nd'.1
     rw[List.filter_cons_of_pos (by simpa using c),List.map_cons,List.sum_cons,i1 hn,c];exact Int.add_zero _
    ·rw[List.filter_cons_of_neg (by simpa using c)];exact i2 ((List.mem_cons.mp h).resolve_left fun y=>c y.symm)
 exact(key rz nr).2 hz
inductive t8 (K:PySem.W.Frag)(C:Addr)(D:aU)(vs:List V)(H:Hp)(Q:VK)(E:XK):Prop
 | mk (h a:Addr) (f l:Int) (rz ps:List (Str×Int)) (ds:List aD) (us:List V) (R:List aJ) (_:vs=[.ref h,.ref a]) (_:aR C D H h f l rz ps ds) (_:DrawnH rz ps ds f l) (_:SqL K H a us) (_:bJ H us R) (_:PlanOk rz ps ds f l R) (_:∀H',Same H H'->Q .non H'):t8 K C D vs H Q E
theorem WH {C:Addr}{D:aU}{H:Hp}{Q:VK}{E:XK}{h a:Addr}{f l:Int}{rz ps:List (Str×Int)}{ds:List aD}{us:List V}{R:List aJ} (hh:aR C D H h f l rz ps ds) (dh:DrawnH rz ps ds f l) (hS:SqL K H a us) (hp:bJ H us R) (ok:PlanOk rz ps ds f l R) (k:∀H',Same H H'->Q .non H'):t8 K C D [.ref h,.ref a] H Q E:=⟨_,_,_,_,_,_,_,_,_,rfl,hh,dh,hS,hp,ok,k⟩
theorem BK (m:M K mg):FnOk P w K mg base CX0 11 m.nK m.jC.d ["house","plan"] (t8 K m.aI (aM P w K mg base (some 4))):=by
 refine m.jC.F.ok sc_need_lawful (fun vs H Q E h=> ?_) (fun cdv A outer s H vs Q E hr h=> ?_)
 ·walk_at"g1";obtain⟨h,a,f,l,rz,ps,ds,us,R,rfl,hh,dh,hS,hpl,ok,k⟩:=h;walk_at"g2";rfl
 ·walk_at"g1";obtain⟨h,a,f,l,rz,ps,ds,us,R,rfl,hh,dh,hS,hpl,ok,k⟩:=h;walk_at"g2";have nd:=sc_need_lawful.nd;walk_at"hu";have F_faults:= @DG P w K mg base m;have w_dc_House:=m.aX;refine⟨_,(aF (b9 (aV i6 (bS fL rfl m.l6 iU (aA (bA F_faults hr (aA (pv 0) (aA (pv 1) aC))) aC)) aE (aY _)) (aF dO) bL)),?_⟩;refine aO (σ:=[some (.ref h),some (.ref a)]) rfl ?_;walk_at"cx";walk_at"g1";obtain⟨dnr,dnd,dhin,dlt,hpr,dfit,dsz,dlr,dlp,dld,df0,df1,df2,df3⟩:=id dh;walk_at"g2";have rl:=ok.len dh;walk_at"go";refine VJ hh dnr dnd dhin df0 df1 (by lia) (by lia) (by lia) (by lia) hS hpl (by lia) ok.nf fun p H1 n1 S1 e1=> ?_;walk_at"go";exact k _ S1
theorem BJ (m:M K mg):Fc P w K mg base "need_lawful" 11 ["house","plan"] (t8 K m.aI (aM P w K mg base (some 4))):=⟨_,_,m.EO,m.jC.F.kp,m.jC.b,BK m⟩
inductive VP (C:Addr)(D:aU)(rz ps:List (Str×Int))(ds:List aD)(f l t:Int)(R:List aJ)(H H':Hp)(q:Addr):Prop
 | mk (_:Same H H') (_:aR C D H' q t l rz (psT rz ps ds f l R t) ds)
inductive kZ (K:PySem.W.Frag)(C:Addr)(D:aU)(vs:List V)(H:Hp)(Q:VK)(E:XK):Prop
 | mk (h a:Addr) (f l t:Int) (rz ps:List (Str×Int)) (ds:List aD) (us:List V) (R:List aJ) (hv:V) (_:vs=[.ref h,.ref a,.int t,hv]) (_:aR C D H h f l rz ps ds) (_:DrawnH rz ps ds f l) (_:SqL K H a us) (_:bJ H us R) (_:PlanOk rz ps ds f l R) (_:f<=t) (_:t<=l) (_:(hv= .non∨∃q,hv= .ref q/\H q=some (.lst []))) (_:∀q H',VP C D rz ps ds f l t R H H' q->Q (.ref q) H'):kZ K C D vs H Q E
theorem FP {C:Addr}{D:aU}{H:Hp}{Q:VK}{E:XK}{h a:Addr}{f l t:Int}{rz ps:List (Str×Int)}{ds:List aD}{us:List V}{R:List aJ}{hv:V} (hh:aR C D H h f l rz ps ds) (dh:DrawnH rz ps ds f l) (hS:SqL K H a us) (hp:bJ H us R) (ok:PlanOk rz ps ds f l R) (h0:f<=t) (h1:t<=l) (hx:hv= .non∨∃q,hv= .ref q/\H q=some (.lst [])) (k:∀q H',VP C D rz ps ds f l t R H H' q->Q (.ref q) H'):kZ K C D [.ref h,.ref a,.int t,hv] H Q E:=⟨_,_,_,_,_,_,_,_,_,_,_,rfl,hh,dh,hS,hp,ok,h0,h1,hx,k⟩
theorem XE (m:M K mg):FnOk P w K mg base CX0 12 m.HW m.AV ["house","plan","turn","happenings"] (kZ K m.aI (aM P w K mg base (some 4))):=by
 refine m.Q1.ok sc_anew (fun vs H Q E h=> ?_) (fun cdv A outer s H vs Q E hr h=> ?_)
 ·walk_at"g1";obtain⟨h,a,f,l,t,rz,ps,ds,us,R',hv,rfl,hh,dh,hS,hpl,ok,h0,h1,hx,k⟩:=h;walk_at"g2";rfl
 ·walk_at"g1";obtain⟨h,a,f,l,t,rz,ps,ds,us,R',hv,rfl,hh,dh,hS,hpl,ok,h0,h1,hx,k⟩:=h;walk_at"g2";have nd:=sc_anew.nd;walk_at"hu";have F_need_lawful:= @BJ P w K mg base m;have F_there:= @yE P w K mg base m;have K_House_0:= @zP P w K mg base m;have w_dc_House:=m.aX;have w_mc_House_rooms:= @hJ P w K mg base m;have w_mc_House_doors:= @hU P w K mg base m;have w_mc_House_door:= @d6 P w K mg base m;have w_mc_House_holds:= @lF P w K mg base m;refine⟨_,(aB (bP (bA F_need_lawful hr (aA (pv 0) (aA (pv 1) aC))))
   (aB (b9 (PW.pt (MP (aV iZ (pv 2) (bB (pv 0) rfl) (aY _)) (FM (aV i6 (pv 2) (bB (pv 0) rfl) (aY _))))) (aF dO) bL)
   (aB (aN (i:=4) nd rfl (by walk_at"oi") (tI (aV QR (pv 3) sM (aY _)) (fG aC) (pv 3)))
   (aB (g7 (i:=5) nd rfl (by walk_at"oi") (N:=["name","house"]) (nl:=1) (ci:=[0]) rfl (blk (s.heap.objs.size+1) rfl rfl rfl (by kernel_rfl)) (bH (dA 1 hr (pv 0))) (fun _ _ _ _=>(aK (i:=0) (show (["name","house"]:List Str).Nodup by decide +kernel) rfl (by walk_at"oi"))) (fun _ _ _ _=>dL) (fun _ _ _ _=>(oS (P:=P) (w:=w) (K:=K) (mg:=mg) (base:=base) 1 hr (pv 1) (aA (pv 0) aC))))
   (aB (cS PassesOwn.never rfl (bH (pv 4)) (aK (i:=6) nd rfl (by walk_at"oi")) (aF dO))
   (aB (aN (i:=7) nd rfl (by walk_at"oi") (bA F_there hr (aA (pv 0) (aA (pv 1) aC))))
   (aB (g7 (i:=8) nd rfl (by walk_at"oi") (N:=["room","inside","turn"]) (nl:=1) (ci:=[7,2]) rfl (blk (s.heap.objs.size+1) rfl rfl rfl (by kernel_rfl)) (bH (dA 1 hr (pv 0))) (fun _ _ _ _=>(aK (i:=0) (show (["room","inside","turn"]:List Str).Nodup by decide +kernel) rfl (by walk_at"oi"))) (fun _ _ _ _=>dL) (fun _ _ _ _=>(bV (aA (pv 0) (aA (bK hu1 (pv 1) (bV (aA (pv 0) (aA (pv 2) aC))) (fun _ _=>rfl)) aC)))))
   (aB (aN (i:=8) nd rfl (by walk_at"oi") (aH sK (pv 8) (cA (N:=["happening"]) (nl:=1) (ci:=[]) rfl (blk (s.heap.objs.size+1) rfl rfl rfl (by kernel_rfl)) (bH (pv 4)) (fun _ _ _ _=>(aK (i:=0) (show (["happening"]:List Str).Nodup by decide +kernel) rfl (by walk_at"oi"))) (fun _ _ _ _=>(fR (aV jX (dI (k8 (K:=K)) (pv 0) aE (fun _ _=>rfl)) d0 (aY _)))) (fun _ _ _ _=>(bV (aA (dI (k8 (K:=K)) (pv 0) aE (fun _ _=>rfl)) (aA (dI (k8 (K:=K)) (pv 0) aE (fun _ _=>rfl)) aC)))))))
   (aF (aT (uE K_House_0 hr (aA (cA (N:=["room","house"]) (nl:=1) (ci:=[0]) rfl (blk (s.heap.objs.size+1) rfl rfl rfl (by kernel_rfl)) (bH (dA 1 hr (pv 0))) (fun _ _ _ _=>(aK (i:=0) (show (["room","house"]:List Str).Nodup by decide +kernel) rfl (by walk_at"oi"))) (fun _ _ _ _=>dL) (fun _ _ _ _=>(bV (aA (pv 0) (aA (oS (P:=P) (w:=w) (K:=K) (mg:=mg) (base:=base) 3 hr (pv 1) (aA (pv 0) aC)) aC))))) (aA (pv 5) (aA (pv 8) (aA (bB (pv 0) rfl) (aA (pv 2) aC)))))))))))))))),?_⟩
  refine aO (σ:=[some (.ref h),some (.ref a),some (.int t),some (hv),none,none,none,none,none]) rfl ?_;walk_at"cx";walk_at"g1";obtain⟨dnr,dnd,dhin,dlt,hpr,dfit,dsz,dlr,dlp,dld,df0,df1,df2,df3⟩:=id dh;walk_at"g2";walk_at"g1";obtain⟨dx,qs,qp,qd,nk,kvs,e1,_⟩:=id hh.ex;walk_at"g2";have rl:=ok.len dh;walk_at"go";refine WH hh dh hS hpl ok fun H1 S1=> ?_;have hh1:=aP hh S1;have e11:=S1 _ _ e1;walk_at"gs";refine wO (fun σ' G=>H1=G/\σ'=[some (.ref h),some (.ref a),some (.int t),some hv,none,none,none,none,none]) ?_ ?_
  rotate_left
  ·intro nx' hnx;walk_at"go";exact hnx _ _ ⟨rfl,rfl⟩
  rintro _ G ⟨hG,rfl⟩;subst hG;refine wO (fun σ' G=>∃qh,Same H1 G/\G qh=some (.lst [])/\σ'=[some (.ref h),some (.ref a),some (.int t),some hv,some (.ref qh),none,none,none,none]) ?_ ?_
  rotate_left
  ·intro nx' hnx;rcases hx with hx|⟨qh,hx,eh⟩
   ·subst hx;walk_at"go";rename_i qh G n2 S2 e2;exact hnx _ _ ⟨qh,S2,e2,rfl⟩
   ·subst hx;walk_at"go";exact hnx _ _ ⟨qh,Same.refl _,S1 _ _ eh,rfl⟩
  rintro _ H2 hq_;walk_at"g1";obtain⟨qh,S2,eh,rfl⟩:=hq_;walk_at"g2";have hh2:=aP hh1 S2;have e12:=S2 _ _ e11;walk_at"go";refine fC hh2 fun pD H3 n3 S3 eD=> ?_;walk_at"go";refine dC (α:=aD) (xs:=ds) (vs:=(ds.map (·.1)).map V.str) (fun v d=>v= .str d.1) (fun _=>true) (fun d y H=>(aM P w K mg base (some 4)).at' H y d) (fun _ _ _ _ h s=>(aM P w K mg base (some 4)).same h s) (by rw[sizeLine_eq];lia) (rest:=[some (.ref h)]) (by rfl) (SqL.of eD) (by rw[List.map_map];exact oH _ ds) ?_ ?_ ?_
  ·exact fun v x H1 _ _ s1 R hR=>hR _ (Same.refl _)
  ·rintro _ d G rfl hm - s R hR;have e1G:=(S3.trans s) _ _ e12;walk_at"go";refine sZ (aP hh2 (S3.trans s)) dnd hm fun v hv=> ?_;exact hR _ _ hv (Same.refl _)
  intro ys H4 s4 hys;rw[cT]at hys;have hdd:Paired ((aM P w K mg base (some 4)).at' H4) ys ds:=fZ hys;walk_at"go";rename_i pE H5 n5 S5 eE;have s25:Same H2 H5:=S3.trans (s4.trans S5);have s05:Same H H5:=S1.trans (S2.trans s25);let Pv1:Nat->St->Hp->Prop:=fun i σ' G=>H5=G/\σ'=[some (.ref h),some (.ref a),some (.int t),some hv,some (.ref qh),some (.ref pE),none,none,none];refine dN [] Pv1 ⟨rfl,rfl⟩ (fun i σ' G _ q=>by rw[←q.1];exact SqL.of (s25 _ _ eh)) (fun i x σ' G hx=>nomatch hx) ?_;rintro _ G ⟨hG,rfl⟩;subst hG;walk_at"go";refine⟨_,_,_,_,_,_,_,_,_,rfl,aP hh s05,dnr,dnd,dhin,df0,df1,(by lia),(by lia),(by lia),s05.seq hS,cJ hpl s05,(by lia),fun pI H6 n6 S6 eI=> ?_⟩;have s26:=s25.trans S6;have e16:=s26 _ _ e12;walk_at"go";refine fC (aP hh2 s26) fun pR H7 n7 S7 eR=> ?_;have eI7:=S7 _ _ eI;walk_at"go";refine dC (α:=Str×Int) (xs:=rz) (vs:=(rz.map (·.1)).map V.str) (fun v e=>v= .str e.1) (fun _=>true) (fun e y H=>cB H y (e.1,gO ps ds f l R' t e.1)) (fun _ _ _ _ ⟨q,h1,h2⟩ s=>⟨q,h1,s _ _ h2⟩) (by rw[sizeLine_eq];lia) (rest:=[some (.ref pI),some (.int t)]) (by rfl) (SqL.of eR) (by rw[List.map_map];exact oH _ rz) ?_ ?_ ?_
  ·exact fun v x H1 _ _ s1 R hR=>hR _ (Same.refl _)
  ·rintro _ ⟨z,sz⟩ G rfl hm - s R hR;have hz:z∈rz.map (·.1):=List.mem_map.mpr ⟨_,hm,rfl⟩;have eIG:=s _ _ eI7;have hv:=pO (ps:=ps) (L:=goL ds f l R') (C:=goC ds f l R') (f:=f) (fJ dnr f (l+1 - f).toNat) (p:=(z,t)) (pairsN_mem.mpr ⟨hz,(t - f).toNat,by lia,by lia⟩);show (_:TE) [some (.str z),some (.ref pI),some (.int t)] G R;walk_at"go";rename_i qk G1 m1 T1 e1k;refine fM (aS (z,t)) (.inl (T1 _ _ eIG)) e1k hv ?_;walk_at"go";rename_i qr G2 m2 T2 e2r;exact hR _ _ ⟨qr,rfl,e2r⟩ (T1.trans T2)
  intro ws H8 s8 hws;rw[cT]at hws;have hcp:Paired (cB H8) ws (psT rz ps ds f l R' t):=yD (fun e:Str×Int=>(e.1,gO ps ds f l R' t e.1)) hws;have wl:ws.length=rz.length:=(Paired.length hws).symm;walk_at"go";rename_i pP H9 n9 S9 eP;refine dC (α:=Str) (xs:=[]) (vs:=[]) (fun v x=>v= .str x) (fun _=>true) (fun _ _ _=>False) (fun _ _ _ _ h _=>h) (Nat.zero_le _) (rest:=[]) (by rfl) (SqL.of ((s26.trans (S7.trans (s8.trans S9))) _ _ eh)) .nil (fun _ _ _ _ h=>nomatch h) (fun _ _ _ _ h=>nomatch h) ?_;intro ys2 HA sA hys2;obtain rfl:ys2=[]:=by cases hys2;rfl
  walk_at"go";rename_i pQ HB nB SB eB pC HC nC SC eC;have s9B:=sA.trans SB;rw[List.append_nil]at eC;have s2C:Same H2 HC:=s26.trans (S7.trans (s8.trans (S9.trans (s9B.trans SC))));have e1C:=s2C _ _ e12;walk_at"go";refine fC (aP hh2 s2C) fun pR2 HD nD SD eR2=> ?_;walk_at"go";refine dC (α:=Str×Int) (xs:=rz) (vs:=(rz.map (·.1)).map V.str) (fun v e=>v= .str e.1) (fun _=>true) (fun e y H=>cB H y e) (fun _ _ _ _ ⟨q,h1,h2⟩ s=>⟨q,h1,s _ _ h2⟩) (by rw[sizeLine_eq];lia) (rest:=[some (.ref h)]) (by rfl) (SqL.of eR2) (by rw[List.map_map];exact oH _ rz) ?_ ?_ ?_
  ·exact fun v x H1 _ _ s1 R hR=>hR _ (Same.refl _)
  ·rintro _ ⟨z,sz⟩ G rfl hm - s R hR;have e1G:=(SD.trans s) _ _ e1C;show (_:TE) [some (.str z),some (.ref h)] G R;walk_at"go";refine BO (i:=sz) (aP hh2 (s2C.trans (SD.trans s))) dnr hm fun G1 T1=> ?_;walk_at"go";rename_i qr G2 m2 T2 e2r;exact hR _ _ ⟨qr,rfl,e2r⟩ (T1.trans T2)
  intro vs2 HE sE hvs2;rw[cT]at hvs2;have hra:RoomsAt HE vs2 rz:=fZ hvs2;walk_at"go";rename_i pW HF nF SF eW;have sCF:Same HC HF:=SD.trans (sE.trans SF);have e1F:=sCF _ _ e1C;have s8F:Same H8 HF:=S9.trans (s9B.trans (SC.trans sCF));have s4F:Same H4 HF:=S5.trans (S6.trans (S7.trans (s8.trans s8F)));walk_at"go";refine DM (rz:=rz) (ds:=ds) (ps:=psT rz ps ds f l R' t) rfl (by assumption) eW (hra.sm SF) (SqL.of ((S6.trans (S7.trans (s8.trans s8F))) _ _ eE)) (jF hdd s4F) (SqL.of (sCF _ _ eC)) (kC hcp s8F) dnr dnd dhin (fun p hp=>by
   obtain⟨e,he,rfl⟩:=List.mem_map.mp hp;exact List.mem_map.mpr ⟨e,he,rfl⟩) (J5 ok dh h0 h1) (by lia) (by lia) (by unfold psT;rw[List.length_map];lia) (by lia) (by lia) fun q HG nG SG hq=> ?_
  exact k _ _ ⟨S1.trans (S2.trans (s2C.trans (sCF.trans SG))),hq⟩
theorem MW (m:M K mg):FcV P w K mg base "anew" 12 [.non] ["house","plan","turn","happenings"] (kZ K m.aI (aM P w K mg base (some 4))):=by
 obtain⟨ds,h1,h2⟩:=m.Q0;exact⟨_,_,_,m.aBv,m.Q1.kp,h1,h2,XE m⟩
theorem aB5 {f l t a:Int}(d:aD)(h0:f<=t)(h1:t<=a):dZ t l d a=dZ f l d a:=by
 unfold dZ
 by_cases c:a<l
 ·rw[if_pos ⟨h1,c⟩,if_pos ⟨by lia,c⟩]
 ·rw[if_neg (fun z=>c z.2),if_neg (fun z=>c z.2)]
theorem wX {g:Int->Str->Bool}{a b:List aJ} (h:a.Perm b):wt g a=wt g b:=by
 induction h with
 | nil=>rfl
 | cons x _ ih=>rw[fX,fX,ih]
 | swap x y l=>rw[fX,fX,fX,fX];lia
 | trans _ _ h1 h2=>exact h1.trans h2
theorem M4 {a b:List aJ}(h:a.Perm b)(t:Int)(n:Str):cH a t n=cH b t n:=wX (g:=fun t' n'=>decide (t'=t)&&decide (n'=n)) h
theorem vD {g g':Int->Str->Bool}{R:List aJ} (h:∀r∈R,g r.1 r.2.1=g' r.1 r.2.1):wt g R=wt g' R:=by
 unfold wt;rw[List.filter_congr h]
theorem O2 (g:Int->Str->Bool)(a b:List aJ):wt g (a++b)=wt g a+wt g b:=by
 unfold wt;rw[List.filter_append,List.map_append,List.sum_append]
def cK (t:Int)(R:List aJ):List aJ:=R.filter fun r=>decide (r.1<t)
theorem yQ (g:Int->Str->Bool)(t:Int)(R:List aJ):wt g (cK t R)=wt (fun t' n=>g t' n&&decide (t'<t)) R:=by
 unfold wt cK;rw[List.filter_filter]
theorem F5 {ns:List Str}{f l t t':Int}{n:Str} (hft:f<=t) (h:t<=t'):cnt ns f l (t',n,0)=cnt ns t l (t',n,0):=by
 unfold cnt;show (decide (n∈ns)&&(decide (f<=t')&&decide (t'<l)))=(decide (n∈ns)&&(decide (t<=t')&&decide (t'<l)));rw[decide_eq_true (show f<=t' by lia),decide_eq_true h]
theorem OT {b:Int->Str->Bool}{u t f l:Int}{ns:List Str}{R R2:List aJ} (hb:∀t' n,b t' n=true->t'=u) (hft:f<=t) (h2:∀r∈R2,t<=r.1) :
  wt (fun t' n=>b t' n&&cnt ns f l (t',n,0)) (cK t R++R2)=if u<t then wt (fun t' n=>b t' n&&cnt ns f l (t',n,0)) R else wt (fun t' n=>b t' n&&cnt ns t l (t',n,0)) R2:=by
 rw[O2,yQ]
 by_cases c:u<t
 ·rw[if_pos c];have e1:wt (fun t' n=>b t' n&&cnt ns f l (t',n,0)) R2=0:=by
   rw[←sU R2];refine vD fun r hr=> ?_;have h3:=h2 r hr;cases hbr:b r.1 r.2.1 with
   | false=>rfl
   | true=>have:=hb _ _ hbr;lia
  have e2:(fun (t':Int) (n:Str)=>(b t' n&&cnt ns f l (t',n,0))&&decide (t'<t))=fun t' n=>b t' n&&cnt ns f l (t',n,0):=funext fun t'=>funext fun n=>by
   cases hbr:b t' n with
   | false=>rfl
   | true =>
    have:=hb _ _ hbr;rw[decide_eq_true (show t'<t by lia),Bool.and_true]
  rw[e1,e2,Int.add_zero]
 ·rw[if_neg c];have e1:wt (fun t' n=>(b t' n&&cnt ns f l (t',n,0))&&decide (t'<t)) R=0:=by
   rw[←sU R];refine vD fun r hr=> ?_;cases hbr:b r.1 r.2.1 with
   | false=>rfl
   | true =>
    have:=hb _ _ hbr;rw[decide_eq_false (show ¬r.1<t by lia),Bool.and_false]
  rw[e1,Int.zero_add];refine vD fun r hr=> ?_;rw[F5 hft (h2 r hr)]
section
variable {rz ps:List (Str×Int)}{ds:List aD}{f l t:Int}{R R2 P:List aJ}
theorem BL (hP:P.Perm (cK t R++R2))(hft:f<=t)(h2:∀r∈R2,t<=r.1)(z:Str)(u:Int):goL ds f l P (aS (z,u))=if u<t then goL ds f l R (aS (z,u)) else goL ds t l R2 (aS (z,u)):=by
 rw[kF,kF,kF,wX hP];exact OT (b:=fun t' n=>decide (dX ds (t',n,0)=some (aS (z,u)))) (fun t' n h=>C6 (of_decide_eq_true h)) hft h2
theorem JM (hP:P.Perm (cK t R++R2))(hft:f<=t)(h2:∀r∈R2,t<=r.1)(z:Str)(u:Int):goC ds f l P (aS (z,u))=if u<t then goC ds f l R (aS (z,u)) else goC ds t l R2 (aS (z,u)):=by
 rw[iV,iV,iV,wX hP];exact OT (b:=fun t' n=>decide (dW ds (t',n,0)=some (aS (z,u)))) (fun t' n h=>CW (of_decide_eq_true h)) hft h2
theorem qY (hP:P.Perm (cK t R++R2))(hft:f<=t)(h2:∀r∈R2,t<=r.1)(z:Str)(j:Nat)(hj:f+(j:Int)<=t):cG ps (goL ds f l P) (goC ds f l P) z f j=cG ps (goL ds f l R) (goC ds f l R) z f j:=vW fun q hq=>by
 rw[BL hP hft h2,JM hP hft h2,if_pos (by lia),if_pos (by lia)];exact⟨rfl,rfl⟩
theorem nU (nr:(rz.map (·.1)).Nodup)(hP:P.Perm (cK t R++R2))(hft:f<=t)(h2:∀r∈R2,t<=r.1){z:Str}(hz:z∈rz.map (·.1)):∀j:Nat,cG ps (goL ds f l P) (goC ds f l P) z f ((t - f).toNat+j)=cG (psT rz ps ds f l R t) (goL ds t l R2) (goC ds t l R2) z t j
 | 0=>by
  rw[Nat.add_zero,qY hP hft h2 z _ (by lia)];exact(A5 nr hz).symm
 | j+1=>by
  have ih:=nU nr hP hft h2 hz j;show cG ps (goL ds f l P) (goC ds f l P) z f ((t - f).toNat+j) - goL ds f l P (aS (z,f+(((t - f).toNat+j:Nat):Int)))+goC ds f l P (aS (z,f+(((t - f).toNat+j:Nat):Int)))=cG (psT rz ps ds f l R t) (goL ds t l R2) (goC ds t l R2) z t j - goL ds t l R2 (aS (z,t+(j:Int)))+goC ds t l R2 (aS (z,t+(j:Int)));rw[ih,show f+(((t - f).toNat+j:Nat):Int)=t+(j:Int) by lia,BL hP hft h2,JM hP hft h2,if_neg (by lia),if_neg (by lia)]
theorem LJ (hP:P.Perm (cK t R++R2))(hft:f<=t)(h2:∀r∈R2,t<=r.1)(z:Str){u:Int}(h0:f<=u)(h1:u<=t):gO ps ds f l P u z=gO ps ds f l R u z:=qY hP hft h2 z _ (by lia)
theorem xL (nr:(rz.map (·.1)).Nodup)(hP:P.Perm (cK t R++R2))(hft:f<=t)(h2:∀r∈R2,t<=r.1){z:Str}(hz:z∈rz.map (·.1)){u:Int}(h1:t<=u):gO ps ds f l P u z=gO (psT rz ps ds f l R t) ds t l R2 u z:=by
 have:=nU (ps:=ps) (ds:=ds) (l:=l) nr hP hft h2 hz (u - t).toNat;rw[show (t - f).toNat+(u - t).toNat=(u - f).toNat by lia]at this;exact this
theorem X0 (hP:P.Perm (cK t R++R2))(hft:f<=t)(h2:∀r∈R2,t<=r.1)(u:Int):mO ds f l P u=if u<=t then mO ds f l R u else mO ds f l R t+mO ds t l R2 u:=by
 rw[wC,wC,wC,wC,wX hP,O2,yQ]
 by_cases c:u<=t
 ·rw[if_pos c];have e1:wt (fun t' n=>(decide (t'<u)&&tR ds n)&&cnt (ds.map (·.1)) f l (t',n,0)) R2=0:=by
   rw[←sU R2];refine vD fun r hr=> ?_;have h3:=h2 r hr;rw[decide_eq_false (show ¬r.1<u by lia),Bool.false_and,Bool.false_and]
  rw[e1,Int.add_zero]
  congr 1
  funext t' n
  by_cases d:t'<u
  ·rw[decide_eq_true (show t'<t by lia),Bool.and_true]
  ·rw[decide_eq_false d,Bool.false_and,Bool.false_and,Bool.false_and]
 ·rw[if_neg c]
  congr 1
  ·congr 1
   funext t' n
   by_cases d:t'<t
   ·rw[decide_eq_true d,decide_eq_true (show t'<u by lia),Bool.and_true]
   ·rw[decide_eq_false d,Bool.and_false,Bool.false_and,Bool.false_and]
  ·refine vD fun r hr=> ?_;rw[F5 hft (h2 r hr)]
theorem QG {n:Str}{u:Int} (hft:f<=t) (h:t<=u):dQ ds t l u n=dQ ds f l u n:=by
 unfold dQ;cases cX ds n with
 | none=>rfl
 | some d=>exact aB5 d hft h
theorem aBn (a:PlanOk rz ps ds f l R)(b:PlanOk rz (psT rz ps ds f l R t) ds t l R2):((cK t R++R2).map k4).Pairwise fun a b=>cO a b=true:=by
 rw[List.map_append,List.pairwise_append];refine⟨a.as.sublist (List.filter_sublist.map _),b.as,fun x hx y hy=> ?_⟩;obtain⟨r,hr,rfl⟩:=List.mem_map.mp hx;obtain⟨r',hr',rfl⟩:=List.mem_map.mp hy;have e2:=of_decide_eq_true (List.mem_filter.mp hr).2;have e3:=(b.tm r' hr').1;exact FN (by lia)
theorem PlanOk.put (nr:(rz.map (·.1)).Nodup)(a:PlanOk rz ps ds f l R)(b:PlanOk rz (psT rz ps ds f l R t) ds t l R2)(hft:f<=t)(htl:t<=l)(l1:R.length<=64)(l2:R2.length<=64)(hP:P.Perm (cK t R++R2))(has:(P.map k4).Pairwise fun a b=>cO a b=true):PlanOk rz ps ds f l P:=by
 have h2:∀r∈R2,t<=r.1:=fun r hr=>(b.tm r hr).1;have hm:∀r∈P,(r∈R/\r.1<t)∨r∈R2:=fun r hr=>by
  rcases List.mem_append.mp (hP.mem_iff.mp hr) with h|h
  ·exact .inl ⟨(List.mem_filter.mp h).1,of_decide_eq_true (List.mem_filter.mp h).2⟩
  ·exact .inr h
 refine⟨fun j hj z hz=> ?_,fun j hj e he=> ?_,fun u n=> ?_,fun r hr=> ?_,fun r hr=> ?_,?_,?_⟩
 ·rw[BL hP hft h2]
  by_cases c:f+(j:Int)<t
  ·rw[if_pos c,qY hP hft h2 z j (by lia)];exact a.lv j hj z hz
  ·rw[if_neg c];have e:=nU (ps:=ps) (ds:=ds) (l:=l) nr hP hft h2 hz (j - (t - f).toNat);rw[show (t - f).toNat+(j - (t - f).toNat)=j by lia]at e;rw[e];have:=b.lv (j - (t - f).toNat) (by lia) z hz
   rwa [show t+((j - (t - f).toNat:Nat):Int)=f+(j:Int) by lia]at this
 ·have hz:e.1∈rz.map (·.1):=List.mem_map.mpr ⟨e,he,rfl⟩
  by_cases c:f+(j:Int)<=t
  ·rw[qY hP hft h2 e.1 j c];exact a.fu j hj e he
  ·have e':=nU (ps:=ps) (ds:=ds) (l:=l) nr hP hft h2 hz (j - (t - f).toNat);rw[show (t - f).toNat+(j - (t - f).toNat)=j by lia]at e';rw[e'];exact b.fu (j - (t - f).toNat) (by lia) e he
 ·rw[M4 hP,DN]
  by_cases c:u<t
  ·rw[nZ (R:=R2) (fun r hr e=>by have:=h2 r hr;lia),Int.add_zero];have e:cH (cK t R) u n=cH R u n:=by
    have e1:=yQ (fun t' n'=>decide (t'=u)&&decide (n'=n)) t R;refine e1.trans ?_;show wt _ R=wt (fun t' n'=>decide (t'=u)&&decide (n'=n)) R
    congr 1
    funext t' n'
    by_cases d:t'=u
    ·rw[d,decide_eq_true c,Bool.and_true]
    ·rw[decide_eq_false d,Bool.false_and,Bool.false_and]
   rw[e];exact a.le u n
  ·rw[nZ (R:=cK t R) (fun r hr e=>by have:=of_decide_eq_true (List.mem_filter.mp hr).2;lia),Int.zero_add,←QG hft (show t<=u by lia)];exact b.le u n
 ·rcases hm r hr with h|h
  ·exact a.tm r h.1
  ·have:=b.tm r h;lia
 ·rcases hm r hr with h|h
  ·exact a.ps0 r h.1
  ·exact b.ps0 r h
 ·exact has
 ·rw[hP.length_eq,List.length_append];have:(cK t R).length<=R.length:=List.length_filter_le _ _
  lia
end
theorem z9 {H:Hp}:∀{vs:List V}{rows:List aJ},bJ H vs rows->KRows H vs (rows.map k4)
 | _,_,.nil=> .nil
 | _,_,.cons h t=> .cons h (z9 t)
inductive OnR (t:Int)(R R2:List aJ)(H H':Hp)(p:Addr):Prop
 | mk (xs:List V) (P:List aJ) (_:H p=none) (_:Same H H') (_:H' p=some (.lst xs)) (_:bJ H' xs P) (_:P.Perm (cK t R++R2)) (_:(P.map k4).Pairwise fun a b=>cO a b=true)
inductive q0 (K:PySem.W.Frag)(vs:List V)(H:Hp)(Q:VK)(E:XK):Prop
 | mk (a b:Addr) (t:Int) (us ws:List V) (R R2:List aJ) (_:vs=[.ref a,.int t,.ref b]) (_:SqL K H a us) (_:bJ H us R) (_:H b=some (.lst ws)) (_:bJ H ws R2) (_:R.length<=200) (_:R2.length<=200) (_:((cK t R++R2).map k4).Pairwise (fun a b=>cO a b=true)) (_:∀p H',OnR t R R2 H H' p->Q (.ref p) H'):q0 K vs H Q E
theorem RT {H:Hp}{Q:VK}{E:XK}{a b:Addr}{t:Int}{us ws:List V}{R R2:List aJ} (hS:SqL K H a us) (hp:bJ H us R) (eb:H b=some (.lst ws)) (hp2:bJ H ws R2) (l1:R.length<=200) (l2:R2.length<=200) (nd:((cK t R++R2).map k4).Pairwise fun a b=>cO a b=true) (k:∀p H',OnR t R R2 H H' p->Q (.ref p) H'):q0 K [.ref a,.int t,.ref b] H Q E:=⟨_,_,_,_,_,_,_,rfl,hS,hp,eb,hp2,l1,l2,nd,k⟩
theorem P2 (m:M K mg):FnOk P w K mg base CX0 2 m.zB m.uO.d ["plan","turn","later"] (q0 K):=by
 refine m.uO.F.ok sc_onward (fun vs H Q E h=> ?_) (fun cdv A outer s H vs Q E hr h=> ?_)
 ·walk_at"g1";obtain⟨a,b,t,us,ws,R0,R2,rfl,hS,hpl,eb,hpl2,l1,l2,hnd,k⟩:=h;walk_at"g2";rfl
 ·walk_at"g1";obtain⟨a,b,t,us,ws,R0,R2,rfl,hS,hpl,eb,hpl2,l1,l2,hnd,k⟩:=h;walk_at"g2";have nd:=sc_onward.nd;walk_at"hu";refine⟨_,(aF (aT (bS D1 rfl m.zA vQ (aA (aH sK (cA (N:=["row","turn"]) (nl:=1) (ci:=[1]) rfl (blk (s.heap.objs.size+1) rfl rfl rfl (by kernel_rfl)) (bH (pv 0)) (fun _ _ _ _=>(aK (i:=0) (show (["row","turn"]:List Str).Nodup by decide +kernel) rfl (by walk_at"oi"))) (fun _ _ _ _=>(fR (aV iZ (dI (k8 (K:=K)) (pv 0) aE (fun _ _=>rfl)) (pv 1) (aY _)))) (fun _ _ _ _=>(pv 0))) (pv 2)) aC)))),?_⟩;refine aO (σ:=[some (.ref a),some (.int t),some (.ref b)]) rfl ?_;walk_at"cx";have wl:ws.length=R2.length:=Paired.length hpl2;walk_at"go";refine dC (α:=aJ) (xs:=R0) (vs:=us) (vE H) (fun r=>decide (r.1<t)) (fun r y H=>vE H y r) (fun _ _ _ _ ⟨q,h1,h2⟩ s=>⟨q,h1,s _ _ h2⟩) (by rw[sizeLine_eq];lia) (rest:=[some (.int t)]) (by rfl) hS hpl ?_ ?_ ?_
  ·rintro v ⟨t0,n0,j0⟩ G ⟨q,rfl,hq⟩ hm s R hR;have hq':G q=some (.tup [.int t0,.str n0,.int j0]):=s _ _ hq;walk_at"go";refine⟨q,_,0,_,rfl,rfl,SqT.of hq',rfl,?_⟩;walk_at"go";exact hR _ (Same.refl _)
  ·rintro v ⟨t0,n0,j0⟩ G ⟨q,rfl,hq⟩ hm - s R hR;walk_at"go";exact hR _ _ ⟨q,rfl,s _ _ hq⟩ (Same.refl _)
  intro ys H1 s1 hys;have hya:bJ H1 ys (cK t R0):=fZ hys;have yl:ys.length<=R0.length:=by
   have h1:ys.length=(cK t R0).length:=Paired.length hya;have h2:(cK t R0).length<=R0.length:=List.length_filter_le _ _
   lia
  have eb1:=s1 _ _ eb;walk_at"go";rename_i p1 H2 n2 S2 e2 p2 H3 n3 S3 e3;have s13:=S2.trans S3;have hpp:bJ H3 (ys++ws) (cK t R0++R2):=uB (cJ hya s13) (cJ hpl2 (s1.trans s13));refine OC (sh:=[true,false,true]) (SqL.of e3) (z9 hpp) hnd (fun r hr=>by
   obtain⟨e,_,rfl⟩:=List.mem_map.mp hr;rfl) (by decide) fun p4 H4 n4 S4 e4=> ?_
  exact k _ _ ⟨_,_,CS (s1.trans s13) n4,s1.trans (s13.trans S4),e4,cJ hpp S4,List.Perm.refl _,hnd⟩
theorem NX (m:M K mg):Fc P w K mg base "onward" 2 ["plan","turn","later"] (q0 K):=⟨_,_,m.U0,m.uO.F.kp,m.uO.b,P2 m⟩
theorem YA {rz ps:List (Str×Int)}{ds:List aD}{f l t:Int}{R:List aJ} (ok:PlanOk rz ps ds f l R) (dh:DrawnH rz ps ds f l) (h0:f<=t) (h1:t<=l) (h2:t<200000000000):DrawnH rz (psT rz ps ds f l R t) ds t l:=by
 walk_at"g1";obtain⟨dnr,dnd,dhin,dlt,hpr,dfit,dsz,dlr,dlp,dld,df0,df1,df2,df3⟩:=id dh;walk_at"g2";exact⟨dnr,dnd,dhin,dlt,fun p hp=>by
  obtain⟨e,he,rfl⟩:=List.mem_map.mp hp;exact List.mem_map.mpr ⟨e,he,rfl⟩,J5 ok dh h0 h1,dsz,dlr,by unfold psT;rw[List.length_map];lia,dld,by lia,h1,by lia,h2⟩
theorem jS {rz ps:List (Str×Int)}{ds:List aD}{f l u:Int}{R:List aJ} (nr:(rz.map (·.1)).Nodup) {z:Str} (hz:z∈rz.map (·.1)) (h0:f<=u) (h1:u<=l):bD (gE ps (goL ds f l R) (goC ds f l R) f (bF rz f (l+1 - f).toNat)) (aS (z,u))=some (.int (gO ps ds f l R u z)) :=
 pO (fJ nr f (l+1 - f).toNat) (p:=(z,u)) (pairsN_mem.mpr ⟨hz,(u - f).toNat,by lia,by lia⟩)
structure PutAt (C:Addr)(D:aU)(K:PySem.W.Frag)(rz ps:List (Str×Int))(ds:List aD)(f l t:Int)(R R2 P:List aJ)(H:Hp)(h a q b c:Addr)(us ws xs:List V):Prop where
 hh:aR C D H h f l rz ps ds
 hq:aR C D H q t l rz (psT rz ps ds f l R t) ds
 ha:SqL K H a us
 hb:SqL K H b ws
 hc:SqL K H c xs
 pa:bJ H us R
 pb:bJ H ws R2
 pc:bJ H xs P
theorem PutAt.same {C:Addr}{D:aU}{rz ps:List (Str×Int)}{ds:List aD}{f l t:Int}{R R2 P:List aJ}{H H':Hp}{h a q b c:Addr}{us ws xs:List V} (x:PutAt C D K rz ps ds f l t R R2 P H h a q b c us ws xs) (s:Same H H'):PutAt C D K rz ps ds f l t R R2 P H' h a q b c us ws xs :=
 ⟨aP x.hh s,aP x.hq s,s.seq x.ha,s.seq x.hb,s.seq x.hc,cJ x.pa s,cJ x.pb s,cJ x.pc s⟩
structure VE (rz ps:List (Str×Int))(ds:List aD)(f l t:Int)(R R2 P:List aJ):Prop where
 dh:DrawnH rz ps ds f l
 ok:PlanOk rz ps ds f l R
 ok2:PlanOk rz (psT rz ps ds f l R t) ds t l R2
 ok3:PlanOk rz ps ds f l P
 pm:P.Perm (cK t R++R2)
 h0:f<=t
 h1:t<=l
inductive t7 (K:PySem.W.Frag)(C:Addr)(D:aU)(vs:List V)(H:Hp)(Q:VK)(E:XK):Prop
 | mk (h a q b c:Addr) (f l t:Int) (rz ps:List (Str×Int)) (ds:List aD) (us ws xs:List V) (R R2 P:List aJ) (_:vs=[.ref h,.ref a,.int t,.ref q,.ref b,.ref c]) (_:PutAt C D K rz ps ds f l t R R2 P H h a q b c us ws xs) (_:VE rz ps ds f l t R R2 P) (_:∀H',Same H H'->Q (.bl true) H'):t7 K C D vs H Q E
theorem YS {C:Addr}{D:aU}{H:Hp}{Q:VK}{E:XK}{h a q b c:Addr}{f l t:Int}{rz ps:List (Str×Int)}{ds:List aD}{us ws xs:List V}{R R2 P:List aJ} (x:PutAt C D K rz ps ds f l t R R2 P H h a q b c us ws xs) (o:VE rz ps ds f l t R R2 P) (k:∀H',Same H H'->Q (.bl true) H'):t7 K C D [.ref h,.ref a,.int t,.ref q,.ref b,.ref c] H Q E:=⟨_,_,_,_,_,_,_,_,_,_,_,_,_,_,_,_,_,rfl,x,o,k⟩
theorem D5 (m:M K mg):FnOk P w K mg base CX0 14 m.qI m.kI.d ["_law_house_here","_law_plan","_law_turn","_law_later","_law_rest","_law_put"] (t7 K m.aI (aM P w K mg base (some 4))):=by
 refine m.kI.F.ok sc__law_right (fun vs H Q E h=> ?_) (fun cdv A outer s H vs Q E hr h=> ?_)
 ·walk_at"g1";obtain⟨h,a,q,b,c,f,l,t,rz,ps,ds,us,ws,xs,R,R2,P',rfl,x0,o,k⟩:=h;walk_at"g2";rfl
 ·walk_at"g1";obtain⟨h,a,q,b,c,f,l,t,rz,ps,ds,us,ws,xs,R,R2,P',rfl,x0,o,k⟩:=h;walk_at"g2";have nd:=sc__law_right.nd;walk_at"hu";have F_faults:= @DG P w K mg base m;have F_out_by:= @P0 P w K mg base m;have F_there:= @yE P w K mg base m;have w_dc_House:=m.aX;have w_mc_House_pairs:= @gZ P w K mg base m;refine⟨_,(aB (aN (i:=6) nd rfl (by walk_at"oi") (bA F_there hr (aA (pv 0) (aA (pv 5) aC))))
   (aB (aN (i:=7) nd rfl (by walk_at"oi") (bA F_there hr (aA (pv 0) (aA (pv 1) aC))))
   (aB (aN (i:=8) nd rfl (by walk_at"oi") (bA F_there hr (aA (pv 3) (aA (pv 4) aC))))
   (aB (cS PassesOwn.never rfl (bH (dA 1 hr (pv 0))) (j4 (n:=2) rfl (aW (aK (i:=9) nd rfl (by walk_at"oi")) (aW (aK (i:=10) nd rfl (by walk_at"oi")) cV))) (aB (b9 (PW.pt (vH (aV EU (pv 10) (pv 2) (aY _)) (sJ (aV M7 (bK hu1 (pv 6) (bV (aA (pv 9) (aA (pv 10) aC))) (fun _ _=>rfl)) (bK hu1 (pv 7) (bV (aA (pv 9) (aA (pv 10) aC))) (fun _ _=>rfl)) (aY _))))) (aF (aT wN)) bL)
   (aF (b9 (PW.pt (vH (aV ES (pv 10) (pv 2) (aY _)) (sJ (aV M7 (bK hu1 (pv 6) (bV (aA (pv 9) (aA (pv 10) aC))) (fun _ _=>rfl)) (bK hu1 (pv 8) (bV (aA (pv 9) (aA (pv 10) aC))) (fun _ _=>rfl)) (aY _))))) (aF (aT wN)) bL))))
   (aB (aN (i:=11) nd rfl (by walk_at"oi") (bA F_out_by hr (aA (pv 0) (aA (pv 1) (aA (pv 2) aC)))))
   (aB (cS PassesOwn.never rfl (vT rfl m.jW (aA (bB (pv 0) rfl) (aA (aH bI (bB (pv 0) rfl) aE) aC))) (aK (i:=10) nd rfl (by walk_at"oi")) (aB (aN (i:=12) nd rfl (by walk_at"oi") (bA F_out_by hr (aA (pv 0) (aA (pv 1) (aA (pv 10) aC)))))
   (aB (b9 (aV i6 (pv 10) (pv 2) (aY _)) (aF (aN (i:=12) nd rfl (by walk_at"oi") (aH bI (pv 11) (bA F_out_by hr (aA (pv 3) (aA (pv 4) (aA (pv 10) aC))))))) bL)
   (aF (b9 (aV M7 (bA F_out_by hr (aA (pv 0) (aA (pv 5) (aA (pv 10) aC)))) (pv 12) (aY _)) (aF (aT wN)) bL)))))
   (aF (aT (oM (aAV hu0) (bA F_faults hr (aA (pv 0) (aA (pv 5) aC))) (fG aC) (aY _)))))))))),?_⟩
  refine aO (σ:=[some (.ref h),some (.ref a),some (.int t),some (.ref q),some (.ref b),some (.ref c),none,none,none,none,none,none,none]) rfl ?_;walk_at"cx";walk_at"g1";obtain⟨dh,ok,ok2,ok3,pm,h0,h1⟩:=o;walk_at"g2";walk_at"g1";obtain⟨dnr,dnd,dhin,dlt,hpr,dfit,dsz,dlr,dlp,dld,df0,df1,df2,df3⟩:=id dh;walk_at"g2";walk_at"g1";obtain⟨dx,qs,qp,qd,nk,kvs,e1,_⟩:=id x0.hh.ex;walk_at"g2";have hR2:∀r∈R2,t<=r.1:=fun r hr=>(ok2.tm r hr).1;have n1:=ok.ln;have n2:=ok2.ln;have n3:=ok3.ln;walk_at"go";refine⟨_,_,_,_,_,_,_,_,_,rfl,x0.hh,dnr,dnd,dhin,df0,df1,(by lia),(by lia),(by lia),x0.hc,x0.pc,(by lia),fun pW H1 m1 S1 eW=> ?_⟩;have x1:=x0.same S1;walk_at"go";refine⟨_,_,_,_,_,_,_,_,_,rfl,x1.hh,dnr,dnd,dhin,df0,df1,(by lia),(by lia),(by lia),x1.ha,x1.pa,(by lia),fun pA H2 m2 S2 eA=> ?_⟩;have x2:=x1.same S2;walk_at"go";refine⟨_,_,_,_,_,_,_,_,_,rfl,x2.hq,dnr,dnd,dhin,(by lia),h1,(by lia),(by lia),(by lia),x2.hb,x2.pb,(by lia),fun pB H3 m3 S3 eB=> ?_⟩;have x3:=x2.same S3;have s03:=S1.trans (S2.trans S3);have e13:=s03 _ _ e1;walk_at"go";refine wF x3.hh df0 df1 (by lia) (by lia) (by lia) fun pP ys H4 m4 S4 eP hpp=> ?_;have eW4:=(S2.trans (S3.trans S4)) _ _ eW;have eA4:=(S3.trans S4) _ _ eA;have eB4:=S4 _ _ eB;have s04:=s03.trans S4;clear eW eA eB e13;walk_at"go";let Pv1:Nat->St->Hp->Prop:=fun i σ' G=>Same H4 G/\∃y z,σ'=[some (.ref h),some (.ref a),some (.int t),some (.ref q),some (.ref b),some (.ref c),some (.ref pW),some (.ref pA),some (.ref pB),y,z,none,none];refine dN ys Pv1 ⟨Same.refl _,_,_,rfl⟩ (fun i σ' G _ g=>SqL.of (g.1 _ _ eP)) ?_ ?_
  ·rintro i v _ G hv hq_;walk_at"g1";obtain⟨sG,y1,y2,rfl⟩:=hq_;walk_at"g2";have hi:i<ys.length:=(List.getElem?_eq_some_iff.mp hv).1;have hyl:ys.length=(bF rz f (l+1 - f).toNat).length:=Paired.length hpp;obtain⟨⟨z,u⟩,hrx⟩:∃r,(bF rz f (l+1 - f).toNat)[i]? =some r:=⟨_,List.getElem?_eq_getElem (by lia)⟩
   obtain⟨q1,rfl,hq1⟩:=Paired.at2 hpp hv hrx;have hq1':G q1=some (.tup [.str z,.int u]):=sG _ _ hq1;walk_at"g1";obtain⟨hz,j,hj,hu⟩:=pairsN_mem.mp (List.mem_of_getElem? hrx);walk_at"g2";have eWG:=sG _ _ eW4;have eAG:=sG _ _ eA4;have eBG:=sG _ _ eB4;have gW:=jS (ps:=ps) (ds:=ds) (R:=P') dnr hz (show f<=u by lia) (show u<=l by lia);have gA:=jS (ps:=ps) (ds:=ds) (R:=R) dnr hz (show f<=u by lia) (show u<=l by lia);have hfu:f<=u:=by lia
   have hul:u<=l:=by lia
   clear hu;walk_at"gs";refine wO (fun σ' G'=>Same H4 G'/\σ'=[some (.ref h),some (.ref a),some (.int t),some (.ref q),some (.ref b),some (.ref c),some (.ref pW),some (.ref pA),some (.ref pB),some (.str z),some (.int u),none,none]) ?_ ?_
   rotate_left
   ·intro nx' hnx;walk_at"go";refine cM (fun hc=> ?_) (fun hc=> ?_)
    ·walk_at"go";rename_i k1 G1 m1 T1 e1k;refine fM (aS (z,u)) (.inl (T1 _ _ eWG)) e1k gW ?_;walk_at"go";rename_i k2 G2 m2 T2 e2k;refine fM (aS (z,u)) (.inl ((T1.trans T2) _ _ eAG)) e2k gA ?_;rw[LJ pm h0 hR2 z (by lia) hc];walk_at"go";exact hnx _ _ ⟨sG.trans (T1.trans T2),rfl⟩
    ·walk_at"go";exact hnx _ _ ⟨sG,rfl⟩
   rintro _ G' ⟨sG',rfl⟩;have eWG':=sG' _ _ eW4;have eBG':=sG' _ _ eB4;walk_at"go";refine cM (fun hc=> ?_) (fun hc=> ?_)
   ·have gB:=jS (ps:=psT rz ps ds f l R t) (ds:=ds) (R:=R2) dnr hz hc (show u<=l by lia);walk_at"go";rename_i k1 G1 m1 T1 e1k;refine fM (aS (z,u)) (.inl (T1 _ _ eWG')) e1k gW ?_;walk_at"go";rename_i k2 G2 m2 T2 e2k;refine fM (aS (z,u)) (.inl ((T1.trans T2) _ _ eBG')) e2k gB ?_;rw[xL dnr pm h0 hR2 hz hc];walk_at"go";exact⟨sG'.trans (T1.trans T2),_,_,rfl⟩
   ·walk_at"go";exact⟨sG',_,_,rfl⟩
  ·rintro _ G hq_;walk_at"g1";obtain⟨sG,y1,y2,rfl⟩:=hq_;walk_at"g2";have s0G:=s04.trans sG;have xG:=x0.same s0G;walk_at"go";refine wW xG.hh dnd dhin xG.ha xG.pa (by lia) fun H5 S5=> ?_;have s05:=s0G.trans S5;have e15:=s05 _ _ e1;walk_at"go";let Pv2:Nat->St->Hp->Prop:=fun j σ' G=>Same H5 G/\∃y z,σ'=[some (.ref h),some (.ref a),some (.int t),some (.ref q),some (.ref b),some (.ref c),some (.ref pW),some (.ref pA),some (.ref pB),y1,y,some (.int (mO ds f l R t)),z];refine oP Pv2 ⟨Same.refl _,_,_,rfl⟩ ?_ ?_
   ·rintro j _ G1 hj hq_;walk_at"g1";obtain⟨sG1,z1,z2,rfl⟩:=hq_;walk_at"g2";have x6:=x0.same (s05.trans sG1);walk_at"gs";refine wW x6.hh dnd dhin x6.ha x6.pa (by lia) fun G2 T2=> ?_;have x7:=x6.same T2;walk_at"gs";refine wO (fun σ' G'=>Same G2 G'/\σ'=[some (.ref h),some (.ref a),some (.int t),some (.ref q),some (.ref b),some (.ref c),some (.ref pW),some (.ref pA),some (.ref pB),y1,some (.int (f+(j:Int))),some (.int (mO ds f l R t)),some (.int (mO ds f l P' (f+(j:Int))))]) ?_ ?_
    rotate_left
    ·intro nx' hnx;have eo:=X0 (ds:=ds) (l:=l) pm h0 hR2 (f+(j:Int));walk_at"go";refine cM (fun hc=> ?_) (fun hc=> ?_)
     ·rw[if_neg (by lia)]at eo;rw[eo]at hnx;walk_at"go";refine wW x7.hq dnd dhin x7.hb x7.pb (by lia) fun G3 T3=> ?_;walk_at"go";exact hnx _ _ ⟨T3,rfl⟩
     ·rw[if_pos (by lia)]at eo;rw[eo]at hnx;walk_at"go";exact hnx _ _ ⟨Same.refl _,rfl⟩
    rintro _ G3 ⟨T3,rfl⟩;have x8:=x7.same T3;walk_at"go";refine wW x8.hh dnd dhin x8.hc x8.pc (by lia) fun G4 T4=> ?_;walk_at"go";exact⟨sG1.trans (T2.trans (T3.trans T4)),_,_,rfl⟩
   ·rintro _ G1 hq_;walk_at"g1";obtain⟨sG1,z1,z2,rfl⟩:=hq_;walk_at"g2";have x6:=x0.same (s05.trans sG1);walk_at"go";refine VJ x6.hh dnr dnd dhin df0 df1 (by lia) (by lia) (by lia) (by lia) x6.hc x6.pc (by lia) ok3.nf fun pf G2 m2 T2 ef=> ?_;walk_at"go";rename_i pE G3 m3 T3 eE;refine Z8 (SqL.of (T3 _ _ ef)) (SqL.of eE) ?_;exact k _ (s05.trans (sG1.trans (T2.trans T3)))
theorem D9 (m:M K mg):Fc P w K mg base "_law_right" 14 ["_law_house_here","_law_plan","_law_turn","_law_later","_law_rest","_law_put"] (t7 K m.aI (aM P w K mg base (some 4))):=⟨_,_,m.HX,m.kI.F.kp,m.kI.b,D5 m⟩
inductive vR (K:PySem.W.Frag)(PL:Addr)(vs:List V)(H:Hp)(Q:VK)(E:XK):Prop
 | mk (a:Addr) (ns:List Int) (_:vs=[.ref a]) (_:SqL K H a (ns.map V.int)) (_:ns.length<=63) (_:H PL=some (.tbl #[])) (_:∀H',Q (.bl true) H'):vR K PL vs H Q E
theorem ZE (m:M K mg){cL PL:Addr}(hcL:m.cI.code= .ref cL)(hCL:PySem.W.CodeHd base cL PL)(hBL:base.BuiltinsAt mg PL):FnOk P w K mg base CX0 20 m.M8 m.M9 ["_law_script"] (vR K PL):=by
 refine m.aCl.ok sc_law (fun vs H Q E h=> ?_) (fun cdv A outer s H vs Q E hr h=> ?_)
 ·walk_at"g1";obtain⟨a,ns,rfl,hS,hlen,hPL,k⟩:=h;walk_at"g2";rfl
 ·walk_at"g1";obtain⟨a,ns,rfl,hS,hlen,hPL,k⟩:=h;walk_at"g2";have nd:=sc_law.nd;walk_at"hu";have FV_anew_1:=MW (P:=P) (w:=w) (base:=base) m;have F__law_cell_at:= @j6 P w K mg base m;have F__law_house:=EF (P:=P) (w:=w) (base:=base) m hcL hCL hBL;have F__law_lawful:= @A2 P w K mg base m;have F__law_right:= @D9 P w K mg base m;have F_onward:= @NX P w K mg base m;have w_dc_House:=m.aX;have w_mc_House_rooms:= @hJ P w K mg base m;have w_mc_House_found:= @lO P w K mg base m;refine⟨_,(aB (aN (i:=1) nd rfl (by walk_at"oi") (bA F__law_cell_at hr (aA (pv 0) (aA aE aC))))
   (aB (aN (i:=2) nd rfl (by walk_at"oi") (dI fI (fG (aA (aH bM (aH dF (pv 1) aE) aE) (aA (aH bM (aH dF (pv 1) aE) (KH 100000000000 (by decide) ⟨by decide,by decide,by decide⟩)) aC))) (mH N8 rfl m.V3 OO (aA (oM jX (aH bM (aH dF (pv 1) aE) aE) aE (aY _)) aC)) (fun _ _=>rfl)))
   (aB (aN (i:=3) nd rfl (by walk_at"oi") (bA F__law_house hr (aA (pv 0) (aA (pv 2) (aA (aH bI (aH bI (pv 2) aE) (aH bM (pv 1) aE)) aC)))))
   (aB (aN (i:=4) nd rfl (by walk_at"oi") (bA F__law_lawful hr (aA (pv 3) (aA (k6 KK (pv 0) (jU aE) (jU aE)) aC))))
   (aB (aN (i:=5) nd rfl (by walk_at"oi") (aH bI (pv 2) (aH bM (bA F__law_cell_at hr (aA (pv 0) (aA aE aC))) (aH bI (aH fU (bB (pv 3) rfl) (pv 2)) aE))))
   (aB (aN (i:=6) nd rfl (by walk_at"oi") (L4 FV_anew_1 hr (aA (pv 3) (aA (pv 4) (aA (pv 5) aC)))))
   (aB (aN (i:=7) nd rfl (by walk_at"oi") (bA F__law_lawful hr (aA (pv 6) (aA (k6 KK (pv 0) (jU aE) (jU aE)) aC))))
   (aB (aN (i:=8) nd rfl (by walk_at"oi") (bA F_onward hr (aA (pv 4) (aA (pv 5) (aA (pv 7) aC)))))
   (aB (b9 (sT (j9 (bA F__law_right hr (aA (pv 3) (aA (pv 4) (aA (pv 5) (aA (pv 6) (aA (pv 7) (aA (pv 8) aC))))))))) (aF (aT wN)) bL)
   (aB (aN (i:=9) nd rfl (by walk_at"oi") (aH bI (pv 5) (aH bM (bA F__law_cell_at hr (aA (pv 0) (aA aE aC))) (aH bI (aH fU (bB (pv 3) rfl) (pv 5)) aE))))
   (aB (aN (i:=10) nd rfl (by walk_at"oi") (L4 FV_anew_1 hr (aA (pv 6) (aA (pv 7) (aA (pv 9) aC)))))
   (aB (aN (i:=11) nd rfl (by walk_at"oi") (L4 FV_anew_1 hr (aA (pv 3) (aA (pv 8) (aA (pv 9) aC)))))
   (aF (aT (oM (aAi hu9) (cA (N:=["_law_room","_law_one"]) (nl:=1) (ci:=[10]) rfl (blk (s.heap.objs.size+1) rfl rfl rfl (by kernel_rfl)) (bH (dA 1 hr (pv 10))) (fun _ _ _ _=>(aK (i:=0) (show (["_law_room","_law_one"]:List Str).Nodup by decide +kernel) rfl (by walk_at"oi"))) (fun _ _ _ _=>dL) (fun _ _ _ _=>(oS (P:=P) (w:=w) (K:=K) (mg:=mg) (base:=base) 3 hr (pv 1) (aA (pv 0) aC)))) (cA (N:=["_law_room","_law_other"]) (nl:=1) (ci:=[11]) rfl (blk (s.heap.objs.size+1) rfl rfl rfl (by kernel_rfl)) (bH (dA 1 hr (pv 11))) (fun _ _ _ _=>(aK (i:=0) (show (["_law_room","_law_other"]:List Str).Nodup by decide +kernel) rfl (by walk_at"oi"))) (fun _ _ _ _=>dL) (fun _ _ _ _=>(oS (P:=P) (w:=w) (K:=K) (mg:=mg) (base:=base) 3 hr (pv 1) (aA (pv 0) aC)))) (aY _)))))))))))))))),?_⟩
  refine aO (σ:=[some (.ref a),none,none,none,none,none,none,none,none,none,none,none]) rfl ?_;walk_at"cx";walk_at"go";rename_i pF H1 n1 S1 eF f hf;generalize hcc:hO ns 1=c at hf ⊢;refine R7 (S1.seq hS) (by lia) (by lia) (by lia) (by lia) (.inl (S1 _ _ hPL)) fun h H2 rz ps ds T2 hh dh=> ?_;have hS2:SqL K H2 a (ns.map V.int):=T2.seq (S1.seq hS);walk_at"g1";obtain⟨dx,qs,qp,qd,nk,kvs,e1,_⟩:=id hh.ex;walk_at"g2";walk_at"go";rename_i pc H3 n3 S3 ec;have f0:=dh.f0;have f3:=dh.f3;generalize hl:f+1+c%8=l at hh dh e1;have f1:=dh.f1;have f2:=dh.f2;have hS3:=S3.seq hS2;have e13:=S3 _ _ e1;refine E8 (aP hh S3) dh (SqL.of ec) fun p H4 hX=> ?_;walk_at"g1";obtain⟨us,R,I,n4,S4,ep,hpl,hL⟩:=hX;walk_at"g2";have ok:PlanOk rz ps ds f l R:=hL.ok f1 f2;have rl:R.length<=64:=by have:=hL.len;lia
  have ul:us.length=R.length:=Paired.length hpl;have s24:=S3.trans S4;have hS4:=S4.seq hS3;have e14:=s24 _ _ e1;clear ec hL;walk_at"go";rename_i ht0 ht1;generalize hte:f+hO ns 4%(l - f+1)=t;have hft:f<=t:=by lia
  have htl:t<=l:=by lia
  clear hte ht0 ht1;refine t5 ?_;walk_at"go";show kZ K m.aI (aM P w K mg base (some 4)) [.ref h,.ref p,.int t,.non] _ _ _;refine FP (aP hh s24) dh (SqL.of ep) hpl ok hft htl (.inl rfl) fun q H5 hX=> ?_;obtain⟨S5,hq⟩:=hX;have dq:DrawnH rz (psT rz ps ds f l R t) ds t l:=YA ok dh hft htl (by lia);have s25:=s24.trans S5;have hS5:=S5.seq hS4;have e15:=s25 _ _ e1;walk_at"g1";obtain⟨dx',qs',qp',qd',nk',kvs',e1',_⟩:=id hq.ex;walk_at"g2";walk_at"go";rename_i pc2 H6 n6 S6 ec2;refine E8 (aP hq S6) dq (SqL.of ec2) fun b H7 hX=> ?_;walk_at"g1";obtain⟨ws,R2,I2,n7,S7,eb,hpl2,hL2⟩:=hX;walk_at"g2";have ok2:PlanOk rz (psT rz ps ds f l R t) ds t l R2:=hL2.ok htl (by lia);have rl2:R2.length<=64:=by have:=hL2.len;lia
  have s57:=S6.trans S7;have s47:=S5.trans s57;have hpl7:=cJ hpl s47;clear ec2 hL2;have h2:∀r∈R2,t<=r.1:=fun r hr=>(ok2.tm r hr).1;have hnd:=aBn ok ok2;walk_at"go";refine RT (SqL.of (s47 _ _ ep)) hpl7 eb hpl2 (by lia) (by lia) hnd fun pP H8 hX=> ?_;walk_at"g1";obtain⟨xs,P',n8,S8,eP,hplP,pm,hPa⟩:=hX;walk_at"g2";have ok3:PlanOk rz ps ds f l P':=PlanOk.put dh.nr ok ok2 hft htl rl rl2 pm hPa;have s28:=s25.trans (s57.trans S8);have x8:PutAt m.aI (aM P w K mg base (some 4)) K rz ps ds f l t R R2 P' H8 h p q b pP us ws xs:=⟨aP hh s28,aP hq (s57.trans S8),SqL.of ((s47.trans S8) _ _ ep),SqL.of (S8 _ _ eb),SqL.of eP,cJ hpl7 S8,cJ hpl2 S8,hplP⟩
  walk_at"go";refine YS x8 ⟨dh,ok,ok2,ok3,pm,hft,htl⟩ fun H9 S9=> ?_;have x9:=x8.same S9;have hS9:=(s57.trans (S8.trans S9)).seq hS5;have e19:=(s57.trans (S8.trans S9)) _ _ e15;walk_at"go";rename_i hu0' hu1';generalize hue:t+hO ns 5%(l - t+1)=u;have htu:t<=u:=by lia
  have hul:u<=l:=by lia
  clear hue hu0' hu1';refine t5 ?_;walk_at"go";show kZ K m.aI (aM P w K mg base (some 4)) [.ref q,.ref b,.int u,.non] _ _ _;refine FP x9.hq dq x9.hb x9.pb ok2 htu hul (.inl rfl) fun qa HA hX=> ?_;obtain⟨SA,hqa⟩:=hX;have xA:=x9.same SA;walk_at"go";refine t5 ?_;walk_at"go";show kZ K m.aI (aM P w K mg base (some 4)) [.ref h,.ref pP,.int u,.non] _ _ _;refine FP xA.hh dh xA.hc xA.pc ok3 (by lia) hul (.inl rfl) fun qb HB hX=> ?_;obtain⟨SB,hqb⟩:=hX;walk_at"g1";obtain⟨dxa,qsa,qpa,qda,nka,kvsa,e1a,_⟩:=id (aP hqa SB).ex;walk_at"g2";walk_at"g1";obtain⟨dxb,qsb,qpb,qdb,nkb,kvsb,e1b,_⟩:=id hqb.ex;walk_at"g2";have lr:=dh.lr;have nr:=dh.nr;walk_at"go";refine fC (aP hqa SB) fun pR HC nC SC eR=> ?_;walk_at"go";refine dC (α:=Str×Int) (xs:=rz) (vs:=(rz.map (·.1)).map V.str) (fun v e=>v= .str e.1) (fun _=>true) (fun e y _=>y= .int (gO ps ds f l P' u e.1)) (fun _ _ _ _ h _=>h) (by rw[sizeLine_eq];lia) (rest:=[some (.ref qa)]) (by rfl) (SqL.of eR) (by rw[List.map_map];exact oH _ rz) ?_ ?_ ?_
  ·exact fun v x H1 _ _ s1 R hR=>hR _ (Same.refl _)
  ·rintro _ ⟨z,sz⟩ G rfl hm - s R hR;have hz:z∈rz.map (·.1):=List.mem_map.mpr ⟨_,hm,rfl⟩;have e1G:=(SC.trans s) _ _ e1a;show (_:TE) [some (.str z),some (.ref qa)] G R;walk_at"go";refine wP (aP hqa (SB.trans (SC.trans s))) nr hz fun G1 T1=> ?_;refine hR _ _ ?_ T1;rw[A5 nr hz,←xL nr pm hft h2 hz htu]
  intro ys HD sD hys;rw[cT]at hys;have ey:ys=rz.map fun e=>V.int (gO ps ds f l P' u e.1):=cY hys;subst ey;have e1b':=(SC.trans sD) _ _ e1b;walk_at"go";rename_i pY HE nE SE eY;have e1b2:=SE _ _ e1b';refine fC (aP hqb (SC.trans (sD.trans SE))) fun pR2 HF nF SF eR2=> ?_;walk_at"go";refine dC (α:=Str×Int) (xs:=rz) (vs:=(rz.map (·.1)).map V.str) (fun v e=>v= .str e.1) (fun _=>true) (fun e y _=>y= .int (gO ps ds f l P' u e.1)) (fun _ _ _ _ h _=>h) (by rw[sizeLine_eq];lia) (rest:=[some (.ref qb)]) (by rfl) (SqL.of eR2) (by rw[List.map_map];exact oH _ rz) ?_ ?_ ?_
  ·exact fun v x H1 _ _ s1 R hR=>hR _ (Same.refl _)
  ·rintro _ ⟨z,sz⟩ G rfl hm - s R hR;have hz:z∈rz.map (·.1):=List.mem_map.mpr ⟨_,hm,rfl⟩;have e1G:=(SF.trans s) _ _ e1b2;show (_:TE) [some (.str z),some (.ref qb)] G R;walk_at"go";refine wP (aP hqb (SC.trans (sD.trans (SE.trans (SF.trans s))))) nr hz fun G1 T1=> ?_;refine hR _ _ ?_ T1;rw[A5 nr hz]
  intro ys2 HG sG hys2;rw[cT]at hys2;have ey2:ys2=rz.map fun e=>V.int (gO ps ds f l P' u e.1):=cY hys2;subst ey2;walk_at"go";rename_i pZ HH nH SH eZ;refine RP (SqL.of ((SF.trans (sG.trans SH)) _ _ eY)) (SqL.of eZ) (AK (by
   rw[List.all_map,List.all_eq_true];exact fun _ _=>rfl)) ?_
  exact k _
end
theorem all_mk {l:PySem.W.OpenLaw}{w:World}{K:PySem.W.Frag}{h:Heap}{mg:Str->Option Value}{fa:Addr} (X:K.In h) (G:h.Ns mainGlobals mg) (hfa:mg "law" =some (.ref fa))
  {f0:Addr}
  {f1:Addr}
  {f2:Addr}
  {f3:Addr}
  {f4:Addr}
  {f5:Addr}
  {f6:Addr}
  {f7:Addr}
  {f8:Addr}
  {f9:Addr}
  {f10:Addr}
  {f11:Addr}
  {f12:Addr}
  {f13:Addr}
  {f14:Addr}
  {f15:Addr}
  {f16:Addr}
  {f17:Addr}
  {f18:Addr}
  {f19:Addr}
  {f20:Addr}
  {f21:Addr}
  {f22:Addr}
  {f23:Addr}
  {f24:Addr}
  {f25:Addr}
  {f26:Addr}
  {f27:Addr}
  {f28:Addr}
  {f29:Addr}
  {f30:Addr}
  {f31:Addr}
  {f32:Addr}
  {f33:Addr}
  {f34:Addr}
  {C35:Addr}
  {C36:Addr}
  {C37:Addr}
  {C38:Addr}
  {C39:Addr}
  {C40:Addr}
  {C41:Addr}
  {C42:Addr}
  {f43:Addr}
  {f44:Addr}
  {f45:Addr}
  {f46:Addr}
  {f47:Addr}
  {f48:Addr}
  {f49:Addr}
  {f50:Addr}
  {f51:Addr}
  {f52:Addr}
  {f53:Addr}
  {f54:Addr}
  {f55:Addr}
  {f56:Addr}
  {f57:Addr}
  {f58:Addr}
  {f59:Addr}
  {f60:Addr}
  {f61:Addr}
  {f62:Addr}
  {f63:Addr}
  {f64:Addr}
  {zaa zab:Option Addr}{zac:Array (Option Value)}{zad zae zaf zag zah zai:Value}
  {T74:Addr}
  {zaj:Value}{zak:Option Addr}{zal:Nat}{zam:Array (Option Value)}
  {zan zao:Option Addr}{zap:Array (Option Value)}{zaq zar zas zat zau zav:Value}
  {zaw zax:Option Addr}{zay:Array (Option Value)}{zaz zba zbb zbc zbd zbe:Value}
  {zbf zbg:Option Addr}{zbh:Array (Option Value)}{zbi zbj zbk zbl zbm zbn:Value}
  {zbo:Addr}
  {zbp:Tok}
  {zbq:Value}{zbr:Option Addr}{zbs:Nat}{zbt:Array (Option Value)}
  {zbu zbv:Option Addr}{zbw:Array (Option Value)}{zbx zby zbz zca zcb zcc:Value}
  {zcd:Addr}
  {zce:Tok}
  {zcf:Value}{zcg:Option Addr}{zch:Nat}{zci:Array (Option Value)}
  {zcj zck:Option Addr}{zcl:Array (Option Value)}{zcm zcn zco zcp zcq zcr:Value}
  {zcs:Addr}
  {zct:Tok}
  {zcu:Value}{zcv:Option Addr}{zcw:Nat}{zcx:Array (Option Value)}
  {zcy:Tok}
  (y0:PySem.W.nsIn K mainGlobals "is_whole" =some (some (.ref f0)))
  (y1:PySem.W.nsIn K mainGlobals "is_name" =some (some (.ref f1)))
  (y2:PySem.W.nsIn K mainGlobals "need_name" =some (some (.ref f2)))
  (y3:PySem.W.nsIn K mainGlobals "need_whole" =some (some (.ref f3)))
  (y4:PySem.W.nsIn K mainGlobals "need_turns" =some (some (.ref f4)))
  (y5:PySem.W.nsIn K mainGlobals "need_each_once" =some (some (.ref f5)))
  (y6:PySem.W.nsIn K mainGlobals "rooms_spoken_of" =some (some (.ref f6)))
  (y7:PySem.W.nsIn K mainGlobals "need_rooms" =some (some (.ref f7)))
  (y8:PySem.W.nsIn K mainGlobals "added_people" =some (some (.ref f8)))
  (y9:PySem.W.nsIn K mainGlobals "need_space" =some (some (.ref f9)))
  (y10:PySem.W.nsIn K mainGlobals "added_up" =some (some (.ref f10)))
  (y11:PySem.W.nsIn K mainGlobals "rows_that_count" =some (some (.ref f11)))
  (y12:PySem.W.nsIn K mainGlobals "leaving" =some (some (.ref f12)))
  (y13:PySem.W.nsIn K mainGlobals "coming" =some (some (.ref f13)))
  (y14:PySem.W.nsIn K mainGlobals "there" =some (some (.ref f14)))
  (y15:PySem.W.nsIn K mainGlobals "most_through" =some (some (.ref f15)))
  (y16:PySem.W.nsIn K mainGlobals "door_faults" =some (some (.ref f16)))
  (y17:PySem.W.nsIn K mainGlobals "leave_faults" =some (some (.ref f17)))
  (y18:PySem.W.nsIn K mainGlobals "full_faults" =some (some (.ref f18)))
  (y19:PySem.W.nsIn K mainGlobals "faults" =some (some (.ref f19)))
  (y20:PySem.W.nsIn K mainGlobals "need_lawful" =some (some (.ref f20)))
  (y21:PySem.W.nsIn K mainGlobals "out_by" =some (some (.ref f21)))
  (y22:PySem.W.nsIn K mainGlobals "anew" =some (some (.ref f22)))
  (y23:PySem.W.nsIn K mainGlobals "onward" =some (some (.ref f23)))
  (y24:PySem.W.nsIn K mainGlobals "_law_cell_at" =some (some (.ref f24)))
  (y25:PySem.W.nsIn K mainGlobals "_law_drawn" =some (some (.ref f25)))
  (y26:PySem.W.nsIn K mainGlobals "_law_name" =some (some (.ref f26)))
  (y27:PySem.W.nsIn K mainGlobals "_law_letting" =some (some (.ref f27)))
  (y28:PySem.W.nsIn K mainGlobals "_law_door" =some (some (.ref f28)))
  (y29:PySem.W.nsIn K mainGlobals "_law_house" =some (some (.ref f29)))
  (y30:PySem.W.nsIn K mainGlobals "_law_excess" =some (some (.ref f30)))
  (y31:PySem.W.nsIn K mainGlobals "_law_numbers" =some (some (.ref f31)))
  (y32:PySem.W.nsIn K mainGlobals "_law_lawful" =some (some (.ref f32)))
  (y33:PySem.W.nsIn K mainGlobals "_law_right" =some (some (.ref f33)))
  (y34:PySem.W.nsIn K mainGlobals "law" =some (some (.ref f34)))
  (y35:PySem.W.nsIn K mainGlobals "Door" =some (some (.ref C35)))
  (y36:PySem.W.nsIn K mainGlobals "Since" =some (some (.ref C36)))
  (y37:PySem.W.nsIn K mainGlobals "Until" =some (some (.ref C37)))
  (y38:PySem.W.nsIn K mainGlobals "Beat" =some (some (.ref C38)))
  (y39:PySem.W.nsIn K mainGlobals "Told" =some (some (.ref C39)))
  (y40:PySem.W.nsIn K mainGlobals "Shut" =some (some (.ref C40)))
  (y41:PySem.W.nsIn K mainGlobals "Wider" =some (some (.ref C41)))
  (y42:PySem.W.nsIn K mainGlobals "House" =some (some (.ref C42)))
  (y43:Mk K C35 f43)
  (y44:Mk K C36 f46)
  (y45:Mk K C37 f48)
  (y46:Mk K C38 f50)
  (y47:Mk K C39 f52)
  (y48:Mk K C42 f54)
  (y49:Meth K C35 "lets" f44)
  (y50:Meth K C35 "is_exit" f45)
  (y51:Meth K C36 "lets" f47)
  (y52:Meth K C36 "is_exit" f45)
  (y53:Meth K C37 "lets" f49)
  (y54:Meth K C37 "is_exit" f45)
  (y55:Meth K C38 "lets" f51)
  (y56:Meth K C38 "is_exit" f45)
  (y57:Meth K C39 "lets" f53)
  (y58:Meth K C39 "is_exit" f45)
  (y59:Meth K C40 "is_exit" f45)
  (y60:Meth K C41 "is_exit" f45)
  (y61:Meth K C42 "rooms" f55)
  (y62:Meth K C42 "doors" f56)
  (y63:Meth K C42 "need_room" f57)
  (y64:Meth K C42 "holds" f58)
  (y65:Meth K C42 "found" f59)
  (y66:Meth K C42 "into" f60)
  (y67:Meth K C42 "from_room" f61)
  (y68:Meth K C42 "door" f62)
  (y69:Meth K C42 "lets" f63)
  (y70:Meth K C42 "pairs" f64)
  (y71:FnL K "is_whole" "is_whole" uC f0)
  (y72:FnL K "is_name" "is_name" vP f1)
  (y73:FnL K "need_name" "need_name" rR f2)
  (y74:FnL K "need_whole" "need_whole" oY f3)
  (y75:FnL K "need_turns" "need_turns" o7 f4)
  (y76:FnL K "need_each_once" "need_each_once" jH f5)
  (y77:FnL K "rooms_spoken_of" "rooms_spoken_of" iJ f6)
  (y78:FnL K "need_rooms" "need_rooms" oT f7)
  (y79:FnL K "added_people" "added_people" lJ f8)
  (y80:FnL K "need_space" "need_space" pH f9)
  (y81:FnL K "added_up" "added_up" tN f10)
  (y82:FnL K "rows_that_count" "rows_that_count" iH f11)
  (y83:FnL K "leaving" "leaving" u0 f12)
  (y84:FnL K "coming" "coming" yC f13)
  (y85:FnL K "there" "there" A4 f14)
  (y86:FnL K "most_through" "most_through" lC f15)
  (y87:FnL K "door_faults" "door_faults" mP f16)
  (y88:FnL K "leave_faults" "leave_faults" lI f17)
  (y89:FnL K "full_faults" "full_faults" mV f18)
  (y90:FnL K "faults" "faults" yL f19)
  (y91:FnL K "need_lawful" "need_lawful" mT f20)
  (y92:FnL K "out_by" "out_by" yP f21)
  (y93:K.lookup f22=some ⟨zad,zaa,.func (PySem.W.fnOf "anew" "anew" (dB vX) (cZ vX) (aG vX) (.ref T74) zae zaf zag zab zah zai),zac⟩)
  (y94:PySem.W.codeIn K zah "anew" =true)
  (y95:PySem.W.keepIn K (.ref f22)=true)
  (y96:K.lookup T74=some ⟨zaj,zak,.seq #[.none] zal,zam⟩)
  (y97:FnL K "onward" "onward" xT f23)
  (y98:FnL K "_law_cell_at" "_law_cell_at" lK f24)
  (y99:FnL K "_law_drawn" "_law_drawn" oR f25)
  (zcz:FnL K "_law_name" "_law_name" rP f26)
  (zda:K.lookup f27=some ⟨zaq,zan,.func (PySem.W.fnOf "_law_letting" "_law_letting" (dB cW) (cZ cW) (aG cW) .none zar zas zat zao zau zav),zap⟩)
  (zdb:PySem.W.codeIn K zau "_law_letting" =true)
  (zdc:PySem.W.keepIn K (.ref f27)=true)
  (zdd:FnL K "_law_door" "_law_door" rO f28)
  (zde:FnL K "_law_house" "_law_house" o6 f29)
  (zdf:FnL K "_law_excess" "_law_excess" mN f30)
  (zdg:FnL K "_law_numbers" "_law_numbers" lE f31)
  (zdh:FnL K "_law_lawful" "_law_lawful" mQ f32)
  (zdi:FnL K "_law_right" "_law_right" pV f33)
  (zdj:K.lookup f34=some ⟨zaz,zaw,.func (PySem.W.fnOf "law" "law" (dB qV) (cZ qV) (aG qV) .none zba zbb zbc zax zbd zbe),zay⟩)
  (zdk:PySem.W.codeIn K zbd "law" =true)
  (zdl:PySem.W.keepIn K (.ref f34)=true)
  (zdm:K.lookup f43=some ⟨zbi,zbf,.func (PySem.W.fnOf "__init__" "Door.__init__" (dB eM) (cZ eM) (aG eM) (.ref zbo) zbj zbk zbl zbg zbm zbn),zbh⟩)
  (zdn:PySem.W.codeIn K zbm "Door.__init__" =true)
  (zdo:PySem.W.keepIn K (.ref f43)=true)
  (zdp:K.lookup zbo=some ⟨zbq,zbr,.seq #[.none,.int 1 zbp] zbs,zbt⟩)
  (zdq:FnL K "lets" "Door.lets" rN f44)
  (zdr:FnL K "is_exit" "Door.is_exit" k3 f45)
  (zds:FnL K "__init__" "Since.__init__" jG f46)
  (zdt:FnL K "lets" "Since.lets" pM f47)
  (zdu:FnL K "__init__" "Until.__init__" jD f48)
  (zdv:FnL K "lets" "Until.lets" oV f49)
  (zdw:K.lookup f50=some ⟨zbx,zbu,.func (PySem.W.fnOf "__init__" "Beat.__init__" (dB d7) (cZ d7) (aG d7) (.ref zcd) zby zbz zca zbv zcb zcc),zbw⟩)
  (zdx:PySem.W.codeIn K zcb "Beat.__init__" =true)
  (zdy:PySem.W.keepIn K (.ref f50)=true)
  (zdz:K.lookup zcd=some ⟨zcf,zcg,.seq #[.int 0 zce] zch,zci⟩)
  (zea:FnL K "lets" "Beat.lets" rQ f51)
  (zeb:FnL K "__init__" "Told.__init__" j5 f52)
  (zec:FnL K "lets" "Told.lets" rM f53)
  (zed:K.lookup f54=some ⟨zcm,zcj,.func (PySem.W.fnOf "__init__" "House.__init__" (dB dY) (cZ dY) (aG dY) (.ref zcs) zcn zco zcp zck zcq zcr),zcl⟩)
  (zee:PySem.W.codeIn K zcq "House.__init__" =true)
  (zef:PySem.W.keepIn K (.ref f54)=true)
  (zeg:K.lookup zcs=some ⟨zcu,zcv,.seq #[.int 0 zct] zcw,zcx⟩)
  (zeh:FnL K "rooms" "House.rooms" mJ f55)
  (zei:FnL K "doors" "House.doors" mK f56)
  (zej:FnL K "need_room" "House.need_room" iI f57)
  (zek:FnL K "holds" "House.holds" mR f58)
  (zel:FnL K "found" "House.found" mW f59)
  (zem:FnL K "into" "House.into" pG f60)
  (zen:FnL K "from_room" "House.from_room" iL f61)
  (zeo:FnL K "door" "House.door" pU f62)
  (zep:FnL K "lets" "House.lets" pX f63)
  (zeq:FnL K "pairs" "House.pairs" mU f64)
  (zer:DCls K C35)
  (zes:DCls K C36)
  (zet:DCls K C37)
  (zeu:DCls K C38)
  (zev:DCls K C39)
  (zew:DCls K C40)
  (zex:DCls K C41)
  (zey:DCls K C42)
  (zez:PySem.W.specialIn K (.ref C35) "__getattribute__" =some (some (.builtin "type.__getattribute__")))
  (zfa:PySem.W.readsIn K C35 (.type "type")=true)
  (zfb:PySem.W.findCls K (.ref C35) (.type "type") "__init__" =some (.val (.ref f43)))
  (zfc:PySem.W.nsIn K mainGlobals "any" =some none)
  (zfd:PySem.W.nsIn K mainGlobals "sorted" =some none)
  (zfe:PySem.W.nsIn K mainGlobals "sum" =some none)
  (zff:PySem.W.nsIn K mainGlobals "range" =some none)
  (zfg:PySem.W.nsIn K mainGlobals "dict" =some none)
  (zfh:PySem.W.nsIn K mainGlobals "isinstance" =some none)
  (zfi:PySem.W.nsIn K mainGlobals "int" =some none)
  (zfj:PySem.W.nsIn K mainGlobals "str" =some none)
  (zfk:PySem.W.nsIn K mainGlobals "all" =some none)
  (zfl:PySem.W.nsIn K mainGlobals "list" =some none)
  (zfm:PySem.W.nsIn K mainGlobals "len" =some none)
  (zfn:PySem.W.nsIn K mainGlobals "max" =some none)
  (zfo:PySem.W.nsIn K mainGlobals "min" =some none)
  (zfp:PySem.W.nsIn K mainGlobals "bool" =some none)
  (zfq:PySem.W.nsIn K mainGlobals "LONGEST_NAME" =some (some (.int 8 zcy))) :
  ∃(fd:FuncData) (f2:Addr) (fd2:FuncData),mg "_law_letting" =some (.ref f2)/\(∃oc od osl,K.lookup f2=some ⟨oc,od,.func fd2,osl⟩)/\(∀(s:Shared) (v:Value),BindsTo s fd ⟨[v],[]⟩ [("_law_script",v)])/\∀(zfr:Heap) (cL PL:Addr),fd2.code= .ref cL->PySem.W.CodeHd zfr cL PL->zfr.BuiltinsAt mg PL->FnOk l.prog w K mg zfr CX0 20 fa fd ["_law_script"] (vR K PL):=by
 have e:=hfa.symm.trans (PySem.W.mg_of X G y34);cases e;exact⟨(PySem.W.fnOf "law" "law" (dB qV) (cZ qV) (aG qV) .none zba zbb zbc zax zbd zbe),f27,(PySem.W.fnOf "_law_letting" "_law_letting" (dB cW) (cZ cW) (aG cW) .none zar zas zat zao zau zav),PySem.W.mg_of X G y27,⟨_,_,_,zda⟩,fun s v=> .of_eq rfl,fun zfr cL PL h1 h2 h3=>ZE ⟨f0,y71.x1 fun _ _ _ _ _ _ _=>rfl,
  f1,y72.x1 fun _ _ _ _ _ _ _=>rfl,
  f2,y73.x2 fun _ _ _ _ _ _ _ _=>rfl,
  f3,y74.x3 fun _ _ _ _ _ _ _ _ _=>rfl,
  f4,y75.x2 fun _ _ _ _ _ _ _ _=>rfl,
  f5,y76.x1 fun _ _ _ _ _ _ _=>rfl,
  f6,y77.x2 fun _ _ _ _ _ _ _ _=>rfl,
  f7,y78.x2 fun _ _ _ _ _ _ _ _=>rfl,
  f8,y79.x2 fun _ _ _ _ _ _ _ _=>rfl,
  f9,y80.x2 fun _ _ _ _ _ _ _ _=>rfl,
  f10,y81.x1 fun _ _ _ _ _ _ _=>rfl,
  f11,y82.x2 fun _ _ _ _ _ _ _ _=>rfl,
  f12,y83.x2 fun _ _ _ _ _ _ _ _=>rfl,
  f13,y84.x2 fun _ _ _ _ _ _ _ _=>rfl,
  f14,y85.x2 fun _ _ _ _ _ _ _ _=>rfl,
  f15,y86.x3 fun _ _ _ _ _ _ _ _ _=>rfl,
  f16,y87.x2 fun _ _ _ _ _ _ _ _=>rfl,
  f17,y88.x3 fun _ _ _ _ _ _ _ _ _=>rfl,
  f18,y89.x2 fun _ _ _ _ _ _ _ _=>rfl,
  f19,y90.x2 fun _ _ _ _ _ _ _ _=>rfl,
  f20,y91.x2 fun _ _ _ _ _ _ _ _=>rfl,
  f21,y92.x3 fun _ _ _ _ _ _ _ _ _=>rfl,
  f22,_,lG y93 y94 y95,(hV (ds:=[]) 4 y96 (by rintro us h;obtain _|⟨_,_|⟨_,_|⟨_,_|⟨_,_|⟨_,us⟩⟩⟩⟩⟩:=us<;>first|(cases h;done)|exact⟨_,rfl,rfl⟩)),
  f23,y97.x3 fun _ _ _ _ _ _ _ _ _=>rfl,
  f24,y98.x2 fun _ _ _ _ _ _ _ _=>rfl,
  f25,y99.x2 fun _ _ _ _ _ _ _ _=>rfl,
  f26,zcz.x2 fun _ _ _ _ _ _ _ _=>rfl,
  f27,_,lG zda zdb zdc,(.all (by rintro us h;obtain _|⟨_,_|⟨_,_|⟨_,_|⟨_,us⟩⟩⟩⟩:=us<;>first|(cases h;done)|rfl)),
  f28,zdd.x6 fun _ _ _ _ _ _ _ _ _ _ _ _=>rfl,
  f29,zde.x3 fun _ _ _ _ _ _ _ _ _=>rfl,
  f30,zdf.x3 fun _ _ _ _ _ _ _ _ _=>rfl,
  f31,zdg.x4 fun _ _ _ _ _ _ _ _ _ _=>rfl,
  f32,zdh.x2 fun _ _ _ _ _ _ _ _=>rfl,
  f33,zdi.x6 fun _ _ _ _ _ _ _ _ _ _ _ _=>rfl,
  fa,_,lG zdj zdk zdl,(.all (by rintro us h;obtain _|⟨_,_|⟨_,us⟩⟩:=us<;>first|(cases h;done)|rfl)),
  f43,_,lG zdm zdn zdo,(hV (ds:=[]) 5 zdp (by rintro us h;obtain _|⟨_,_|⟨_,_|⟨_,_|⟨_,_|⟨_,_|⟨_,us⟩⟩⟩⟩⟩⟩:=us<;>first|(cases h;done)|exact⟨_,rfl,rfl⟩)),
  f44,zdq.x2 fun _ _ _ _ _ _ _ _=>rfl,
  f45,zdr.x1 fun _ _ _ _ _ _ _=>rfl,
  f46,zds.x6 fun _ _ _ _ _ _ _ _ _ _ _ _=>rfl,
  f47,zdt.x2 fun _ _ _ _ _ _ _ _=>rfl,
  f48,zdu.x6 fun _ _ _ _ _ _ _ _ _ _ _ _=>rfl,
  f49,zdv.x2 fun _ _ _ _ _ _ _ _=>rfl,
  f50,_,lG zdw zdx zdy,(hV (ds:=[]) 7 zdz (by rintro us h;obtain _|⟨_,_|⟨_,_|⟨_,_|⟨_,_|⟨_,_|⟨_,_|⟨_,_|⟨_,us⟩⟩⟩⟩⟩⟩⟩⟩:=us<;>first|(cases h;done)|exact⟨_,rfl,rfl⟩)),
  f51,zea.x2 fun _ _ _ _ _ _ _ _=>rfl,
  f52,zeb.x5 fun _ _ _ _ _ _ _ _ _ _ _=>rfl,
  f53,zec.x2 fun _ _ _ _ _ _ _ _=>rfl,
  f54,_,lG zed zee zef,(hV (ds:=[]) 6 zeg (by rintro us h;obtain _|⟨_,_|⟨_,_|⟨_,_|⟨_,_|⟨_,_|⟨_,_|⟨_,us⟩⟩⟩⟩⟩⟩⟩:=us<;>first|(cases h;done)|exact⟨_,rfl,rfl⟩)),
  f55,zeh.x1 fun _ _ _ _ _ _ _=>rfl,
  f56,zei.x1 fun _ _ _ _ _ _ _=>rfl,
  f57,zej.x2 fun _ _ _ _ _ _ _ _=>rfl,
  f58,zek.x2 fun _ _ _ _ _ _ _ _=>rfl,
  f59,zel.x2 fun _ _ _ _ _ _ _ _=>rfl,
  f60,zem.x2 fun _ _ _ _ _ _ _ _=>rfl,
  f61,zen.x2 fun _ _ _ _ _ _ _ _=>rfl,
  f62,zeo.x2 fun _ _ _ _ _ _ _ _=>rfl,
  f63,zep.x3 fun _ _ _ _ _ _ _ _ _=>rfl,
  f64,zeq.x1 fun _ _ _ _ _ _ _=>rfl,
  PySem.W.mg_of X G y0,
  PySem.W.mg_of X G y1,
  PySem.W.mg_of X G y2,
  PySem.W.mg_of X G y3,
  PySem.W.mg_of X G y4,
  PySem.W.mg_of X G y5,
  PySem.W.mg_of X G y6,
  PySem.W.mg_of X G y7,
  PySem.W.mg_of X G y8,
  PySem.W.mg_of X G y9,
  PySem.W.mg_of X G y10,
  PySem.W.mg_of X G y11,
  PySem.W.mg_of X G y12,
  PySem.W.mg_of X G y13,
  PySem.W.mg_of X G y14,
  PySem.W.mg_of X G y15,
  PySem.W.mg_of X G y16,
  PySem.W.mg_of X G y17,
  PySem.W.mg_of X G y18,
  PySem.W.mg_of X G y19,
  PySem.W.mg_of X G y20,
  PySem.W.mg_of X G y21,
  PySem.W.mg_of X G y22,
  PySem.W.mg_of X G y23,
  PySem.W.mg_of X G y24,
  PySem.W.mg_of X G y25,
  PySem.W.mg_of X G y26,
  PySem.W.mg_of X G y27,
  PySem.W.mg_of X G y28,
  PySem.W.mg_of X G y29,
  PySem.W.mg_of X G y30,
  PySem.W.mg_of X G y31,
  PySem.W.mg_of X G y32,
  PySem.W.mg_of X G y33,
  PySem.W.mg_of X G y34,
  ⟨[.none],.cons rfl (.nil),hV 3 y96 (by rintro us h;obtain _|⟨_,_|⟨_,_|⟨_,_|⟨_,us⟩⟩⟩⟩:=us<;>first|(cases h;done)|exact⟨_,rfl,rfl⟩)⟩,
  ⟨[.int 1 zbp],.cons ⟨_,rfl⟩ (.nil),hV 4 zdp (by rintro us h;obtain _|⟨_,_|⟨_,_|⟨_,_|⟨_,_|⟨_,us⟩⟩⟩⟩⟩:=us<;>first|(cases h;done)|exact⟨_,rfl,rfl⟩)⟩,
  ⟨[.none,.int 1 zbp],.cons rfl (.cons ⟨_,rfl⟩ (.nil)),hV 3 zdp (by rintro us h;obtain _|⟨_,_|⟨_,_|⟨_,_|⟨_,us⟩⟩⟩⟩:=us<;>first|(cases h;done)|exact⟨_,rfl,rfl⟩)⟩,
  ⟨[.int 0 zce],.cons ⟨_,rfl⟩ (.nil),hV 6 zdz (by rintro us h;obtain _|⟨_,_|⟨_,_|⟨_,_|⟨_,_|⟨_,_|⟨_,_|⟨_,us⟩⟩⟩⟩⟩⟩⟩:=us<;>first|(cases h;done)|exact⟨_,rfl,rfl⟩)⟩,
  ⟨[.int 0 zct],.cons ⟨_,rfl⟩ (.nil),hV 5 zeg (by rintro us h;obtain _|⟨_,_|⟨_,_|⟨_,_|⟨_,_|⟨_,_|⟨_,us⟩⟩⟩⟩⟩⟩:=us<;>first|(cases h;done)|exact⟨_,rfl,rfl⟩)⟩,
  C35,PySem.W.mg_of X G y35,
  C36,PySem.W.mg_of X G y36,
  C37,PySem.W.mg_of X G y37,
  C38,PySem.W.mg_of X G y38,
  C39,PySem.W.mg_of X G y39,
  C40,PySem.W.mg_of X G y40,
  C41,PySem.W.mg_of X G y41,
  C42,PySem.W.mg_of X G y42,
  zer,
  y43,
  y49,
  y50,
  zes,
  y44,
  y51,
  y52,
  zet,
  y45,
  y53,
  y54,
  zeu,
  y46,
  y55,
  y56,
  zev,
  y47,
  y57,
  y58,
  zew,
  y59,
  zex,
  y60,
  zey,
  y48,
  y61,
  y62,
  y63,
  y64,
  y65,
  y66,
  y67,
  y68,
  y69,
  y70,
  ⟨zez,zfa,zfb⟩,
  PySem.W.mg_none_of X G zfc,
  PySem.W.mg_none_of X G zfd,
  PySem.W.mg_none_of X G zfe,
  PySem.W.mg_none_of X G zff,
  PySem.W.mg_none_of X G zfg,
  PySem.W.mg_none_of X G zfh,
  PySem.W.mg_none_of X G zfi,
  PySem.W.mg_none_of X G zfj,
  PySem.W.mg_none_of X G zfk,
  PySem.W.mg_none_of X G zfl,
  PySem.W.mg_none_of X G zfm,
  PySem.W.mg_none_of X G zfn,
  PySem.W.mg_none_of X G zfo,
  PySem.W.mg_none_of X G zfp,
  ⟨zcy,PySem.W.mg_of X G zfq⟩⟩ h1 h2 h3⟩
theorem walk {l:PySem.W.OpenLaw}{q:Program}{loose:List Str}{XP:(Str->Option Value)->Heap->Prop}{YP:World->Heap->Prop}{d d2:DefRec}{K:Params->PySem.W.Frag} (hn:l.most=some 63) (hdf:d.params.defaults=[]) (hrec:d2∈PyProof.Rows.recsOf q) (hd2:d2.name= "_law_letting") (hnt:∀w:World,PySem.W.noTabs (K w.params)=true)
  (hY:∀(w:World) (h:Heap),YP w h->(K w.params).In h)
  (F:∀(w:World) (mg:Str->Option Value) (fa:Addr) (h:Heap),(K w.params).In h->h.Ns mainGlobals mg->mg d.name=some (.ref fa) →
   ∃(fd:FuncData) (f2:Addr) (fd2:FuncData),mg "_law_letting" =some (.ref f2)/\(∃oc od osl,(K w.params).lookup f2=some ⟨oc,od,.func fd2,osl⟩)/\(∀(s:Shared) (u:Value),BindsTo s fd ⟨[u],[]⟩ [("_law_script",u)])/\∀(zfr:Heap) (cL PL:Addr),fd2.code= .ref cL->PySem.W.CodeHd zfr cL PL->zfr.BuiltinsAt mg PL->FnOk l.prog w (K w.params) mg zfr CX0 20 fa fd ["_law_script"] (vR (K w.params) PL)) :
  PySem.W.WalkO q loose XP YP l.row.toRowW d [] (fun f vs=>PySem.call f vs) :=
 L2.walk_ofT2 (d2:=d2) (n:=63) (k:=20) (x:= "_law_script") (CX:=fun _=>CX0) (sp:=fun w PL=>vR (K w.params) PL) hn (by decide) hdf ⟨rfl,by decide,by decide⟩ hrec hnt hY (fun w mg fa h a b c=>by rw[hd2];exact F w mg fa h a b c) (fun _ _ _ a ns hl hS hP=>⟨a,ns,rfl,hS,hl,hP,fun _=>rfl⟩) fun _ _ _ _ _ z=>z
end Prf
open PySem PySem.W PyProof.Rows
set_option maxRecDepth 100000 in
set_option maxHeartbeats 0 in
theorem PySem.Challenge.cw_firstout_k65_whole_one_behind_the_other_holds : PySem.Challenge.rw_firstout_k65_whole_one_behind_the_other.Holds := by
 w_on;o_law;k_head;(case hw=>w_witness2)
 k_fill
 refine Prf.walk (l:=PySem.Challenge.rw_firstout_k65_whole_one_behind_the_other) rfl rfl (List.mem_of_find?_eq_some (p:=fun e=>e.name==("_law_letting" :Str)) rfl) rfl (fun w=>by kernel_rfl) (fun w h Y=>PySem.W.km_in_of Y) ?F
 case F =>
  intro w mg fa h KX G hmg;refine' Prf.all_mk KX G hmg ?_ ?_ ?_ ?_ ?_ ?_ ?_ ?_ ?_ ?_ ?_ ?_ ?_ ?_ ?_ ?_ ?_ ?_ ?_ ?_ ?_ ?_ ?_ ?_ ?_ ?_ ?_ ?_ ?_ ?_ ?_ ?_ ?_ ?_ ?_ ?_ ?_ ?_ ?_ ?_ ?_ ?_ ?_ ?_ ?_ ?_ ?_ ?_ ?_ ?_ ?_ ?_ ?_ ?_ ?_ ?_ ?_ ?_ ?_ ?_ ?_ ?_ ?_ ?_ ?_ ?_ ?_ ?_ ?_ ?_ ?_ ?_ ?_ ?_ ?_ ?_ ?_ ?_ ?_ ?_ ?_ ?_ ?_ ?_ ?_ ?_ ?_ ?_ ?_ ?_ ?_ ?_ ?_ ?_ ?_ ?_ ?_ ?_ ?_ ?_ ?_ ?_ ?_ ?_ ?_ ?_ ?_ ?_ ?_ ?_ ?_ ?_ ?_ ?_ ?_ ?_ ?_ ?_ ?_ ?_ ?_ ?_ ?_ ?_ ?_ ?_ ?_ ?_ ?_ ?_ ?_ ?_ ?_ ?_ ?_ ?_ ?_ ?_ ?_ ?_ ?_ ?_ ?_ ?_ ?_ ?_ ?_ ?_ ?_ ?_ ?_ ?_ ?_ ?_ ?_ ?_ ?_ ?_ ?_ ?_ ?_ ?_ ?_ ?_ ?_ ?_ ?_ ?_ ?_ ?_
  any_goals first|k_is|(apply L2.FnL.mk<;>k_is)|exact L2.FnL.mk (by k_is) (by k_is) (by k_is)|(apply L2.Meth.mk<;>k_is)|(apply L2.Mk.mk<;>k_is)|(refine' Prf.DCls.mk (L2.ICls.mk (L2.Cls.mk ?_ ?_ ?_ ?_) ?_ ?_ ?_ ?_) ?_<;>first|k_is|kernel_rfl)|fail
