import PyProof.Rows.All
import Wide.All
import OpenK.AllK
import Wide.FinOn
import Lean
import PyProof.EqAt
import PyProof.EqKinds
import PyProof.TupleCall
import KE.KSortTup
import PyProof.Rows.DictUnroll
import PyProof.DictItems
import KE.LcSums
import PyProof.IsiH_list
import KE.KDictOf
import PyProof.DictWalks
import PyProof.ListRange
import PyProof.EnumStmt
import PyProof.EnumMake
import KE.KDictSum
import PyProof.StrOps2
import PyProof.Rows.CallKwBuiltin
import KE.KRevSl
import PySem.Challenge.RW_firstout_k55_whole_signs_followed
namespace PySem.W.Fast
def tw7691085635877844075:=()
def tw4042512877396342923:=()
def tw1859388714800401003:=()
def tw13384988493110103245:=()
def tw6467581282383894542:=()
def tw10429726074850848494:=()
def tw1941222476097362479:=()
def tw8296877974465484753:=()
def tw15004482435870962130:=()
def tw4943952164532572374:=()
def tw2142780732908126678:=()
def tw14354348879428873655:=()
def tw6332470183374740439:=()
def tw2297277627479903737:=()
def tw1259009367620130843:=()
def tw1241097202185835835:=()
def tw9987008336133518493:=()
def tw15646234100123339421:=()
def tw14851219318144108382:=()
def tw2166785621183711519:=()
def tw17595870209964051260:=()
def tw3332913660642094293:=()
def tw12165660505212190746:=()
def tw5859333098532368657:=()
def tw18335399611850453573:=()
def tw6676115578708752399:=()
def tw15516636098578750940:=()
def tw13596481361844073257:=()
def tw2382538023049784955:=()
def tw11092359034673986332:=()
def tw1010936408034661451:=()
def tw5821312256491310289:=()
def tw14353308761802949639:=()
def tw7152703189803756142:=()
def tw8267981284503778114:=()
def tw9268744475548253143:=()
def tw3254884297854359315:=()
def tw7211022743426375626:=()
def tw10207682342830536732:=()
def tw5841759753768965366:=()
def tw6427206960012784174:=()
def tw909643506289514938:=()
def tw16796228868853767638:=()
def tw5815449630213604129:=()
def tw16792236459236802091:=()
def tw10919631877385488341:=()
def tw9057798364870319628:=()
def tw9100044497372441605:=()
def tw12554156502444281075:=()
def tw1949719730429633009:=()
def tw2985888297133195990:=()
def tw9713147901007098522:=()
def tw1918008298923028886:=()
def tw11752208966780416492:=()
def tw6130415285857599697:=()
def tw1128409746693448160:=()
def tw1365188404849685775:=()
def tw5312606231538179010:=()
def tw1357219749553016564:=()
def tw6671478430180114293:=()
def tw15352273490830518175:=()
def tw9292040637771485441:=()
def tw13463627615620444453:=()
def tw11533768296274688696:=()
def tw6610494342407731860:=()
def tw705832792491643764:=()
def tw18316799814155154887:=()
def tw4686366102507792629:=()
def tw7031862289333383519:=()
def tw9366617412180274668:=()
def tw9249708823824722269:=()
def tw2581975305268238587:=()
def tw5636652487898434174:=()
def tw5757954130900618181:=()
def tw5794987091379330785:=()
def tw4211242003094281425:=()
def tw7424176136988524606:=()
def tw8362457389446455928:=()
def tw2482875758368947010:=()
def tw14448921464820914277:=()
def tw3356199468842181595:=()
def tw16110975712699213084:=()
def tw6975336696696627508:=()
def tw9142498441261353547:=()
def tw5396090435176066078:=()
def tw13465254134380579565:=()
def tw17197710924712852720:=()
def tw13893180296759735959:=()
def tw17138885713451638998:=()
def tw17311135713847005658:=()
def tw2355330117286358875:=()
def tw10550840189290205475:=()
def tw3870245271130425056:=()
def tw1253565584724913052:=()
def tw8943215264895894201:=()
def tw18165705451396983806:=()
def tw13468556095112141725:=()
def tw10883173096628728898:=()
def tw9481811789033244697:=()
def tw15204713742504336974:=()
def tw12346134238547349731:=()
def tw15157367447600774136:=()
def tw2511204608090295977:=()
def tw11746219515150548462:=()
def tw13145463421239577780:=()
def tw12449550871391192:=()
def tw5824102947976270556:=()
def tw9096768819205063517:=()
def tw6897476134974585073:=()
def tw18196998892363365537:=()
def tw4086032739733186762:=()
def tw16156079747566275828:=()
def tw17696104008624417355:=()
def tw10759571213444686066:=()
def tw9603304658185006229:=()
def tw16001507627010424388:=()
def tw5253165550773402967:=()
def tw9384915339509098724:=()
def tw2473123204317651817:=()
def tw6204301344978790964:=()
def tw17128205781655287112:=()
def tw11324912778382509120:=()
def tw7706940000932702182:=()
def tw17402283364753595709:=()
def tw18059434612597112616:=()
def tw16220618664609205395:=()
def tw6617225961437352699:=()
def tw2274536897393060623:=()
def tw6033612371788867043:=()
def tw5139091035084343773:=()
def tw9239347918249913660:=()
def tw8447437760408875212:=()
def tw14010006834519771883:=()
def tw16140744933622037737:=()
def tw10707065838085370239:=()
def tw8216103539555653916:=()
def tw8984631542256213960:=()
def tw10750740530217701920:=()
def tw7391686175003327546:=()
def tw5214410402521598734:=()
def tw18234500923683648006:=()
def tw12869714427844175852:=()
def tw11179402644270999062:=()
def tw2376502101118032511:=()
def tw1150309970429659987:=()
def tw8711524231787109697:=()
def tw349778864965493740:=()
def tw6682834163756349111:=()
def tw5268510760440907353:=()
def tw17236468933613009594:=()
def tw8328558377482442861:=()
def tw1593314804283343686:=()
def tw166600017613079848:=()
def tw9216850679436444057:=()
def tw15893379991522611859:=()
def tw6993236068170378914:=()
def tw8365301204113888929:=()
def tw4315825061242389199:=()
def tw18000627292315788170:=()
def tw2342404338577381719:=()
def tw10254621409618276690:=()
def tw8812620473452273540:=()
def tw10756980828148329186:=()
def tw6986809492148160930:=()
def tw2465184743630727876:=()
def tw6291940657787018446:=()
def tw7541681517199409320:=()
def tw842878963061250434:=()
def tw9298386522457472075:=()
def tw7894021284649358340:=()
end PySem.W.Fast
set_option compiler.extract_closed false
local macro_rules| `(tactic| walk_at"oi")=> `(tactic| first|exact Or.inl rfl|exact Or.inr rfl)
set_option Elab.async false
set_option linter.all false
set_option maxRecDepth 100000
namespace L2
open PySem PySem.Spec PyProof.Rows
abbrev Key:=Sum Int Str
def vT:Key->Value->Bool
 | .inl k,v=>Value.isInt k v
 | .inr x,v=>Value.isStrOf x v
def aBC (w:World):Key->Int
 | .inl k=>hashInt k
 | .inr x=>hashStr w x
theorem cV:∀{k:Key}{v:Value},vT k v=true->(∃i t,k=Sum.inl i/\v=Value.int i t)∨(∃x t,k=Sum.inr x/\v=Value.str x t)
 | .inl i,v,h=>by
  obtain⟨t,e⟩:=Value.isInt_shape (k:=i) (v:=v) h;exact .inl ⟨i,t,rfl,e⟩
 | .inr x,v,h=>by
  obtain⟨t,e⟩:=Value.isStrOf_shape (x:=x) (v:=v) h;exact .inr ⟨x,t,rfl,e⟩
theorem NU (i:Int)(t:Tok):vT (.inl i) (.int i t)=true:=by simp[vT,Value.isInt]
theorem MD (x:Str)(t:Tok):vT (.inr x) (.str x t)=true:=by simp[vT,Value.isStrOf]
theorem ZX (a b:Int):decide ((Sum.inl a:Key)=Sum.inl b)=(a==b):=by
 by_cases e:a=b
 ·subst e;simp
 ·have h:¬(Sum.inl a:Key)=Sum.inl b:=fun q=>e (Sum.inl.inj q);rw[decide_eq_false h];exact(beq_eq_false_iff_ne.mpr e).symm
theorem X4 (a b:Str):decide ((Sum.inr a:Key)=Sum.inr b)=decide (a=b):=by
 by_cases e:a=b
 ·subst e;simp
 ·have h:¬(Sum.inr a:Key)=Sum.inr b:=fun q=>e (Sum.inr.inj q);rw[decide_eq_false h,decide_eq_false e]
theorem Y5 (a:Int)(b:Str):decide ((Sum.inl a:Key)=Sum.inr b)=false:=decide_eq_false (fun q=>nomatch q)
theorem Y3 (a:Str)(b:Int):decide ((Sum.inr a:Key)=Sum.inl b)=false:=decide_eq_false (fun q=>nomatch q)
def bO (prog:Program)(w:World):PySem.KeyKind prog w Key where
 is:=vT
 hash:=aBC w
 inj:=fun v a b ha hb=>by
  rcases cV ha with⟨i,t,rfl,rfl⟩|⟨x,t,rfl,rfl⟩
  ·rcases cV hb with⟨j,u,rfl,e⟩|⟨y,u,rfl,e⟩
   ·injection e with e1 _;rw[e1]
   ·exact nomatch e
  ·rcases cV hb with⟨j,u,rfl,e⟩|⟨y,u,rfl,e⟩
   ·exact nomatch e
   ·injection e with e1 _;rw[e1]
 byValue:=fun k v h=>by
  rcases cV h with⟨i,t,rfl,rfl⟩|⟨x,t,rfl,rfl⟩<;>rfl
 pyHash:=fun hv h=>by
  rcases cV hv with⟨i,t,rfl,rfl⟩|⟨x,t,rfl,rfl⟩
  ·exact wpAny_pyHash_int h
  ·exact wpAny_pyHash_str h
 eqBool:=fun hu hv h=>by
  rcases cV hu with⟨i,t,rfl,rfl⟩|⟨x,t,rfl,rfl⟩
  ·rcases cV hv with⟨j,u,rfl,rfl⟩|⟨y,u,rfl,rfl⟩
   ·rw[ZX]at h;exact wpAny_eqBool_int h
   ·rw[Y5]at h;exact SeqAt.EqAt.int_str i t y u _ _ _ _ h
  ·rcases cV hv with⟨j,u,rfl,rfl⟩|⟨y,u,rfl,rfl⟩
   ·rw[Y3]at h;exact SeqAt.EqAt.str_int x t j u _ _ _ _ h
   ·rw[X4]at h;exact wpAny_eqBool_str h
 «strs»:=fun k x t v h=>by
  rcases cV h with⟨i,u,rfl,e⟩|⟨y,u,rfl,e⟩
  ·exact nomatch e
  ·injection e with e1 _;subst e1;cases v<;>rfl
theorem HI (prog:Program)(w:World)(i:Int)(t:Tok):(bO prog w).is (.inl i) (.int i t)=true:=NU i t
theorem HM (prog:Program)(w:World)(x:Str)(t:Tok):(bO prog w).is (.inr x) (.str x t)=true:=MD x t
end L2
namespace L2
open PySem PySem.Spec PyProof.Rows
inductive V where
 | non|bl (b:Bool)|int (i:Int)|str (x:Str)|byt (b:Array UInt8)|flt (b:UInt64)|ref (a:Addr)|ty (n:String)
 deriving DecidableEq
def RelV:V->Value->Prop
 | .non,u=>u=Value.none
 | .bl b,u=>u=Value.bool b
 | .int i,u=>∃t,u=Value.int i t
 | .str x,u=>∃t,u=Value.str x t
 | .byt b,u=>∃t,u=Value.bytes b t
 | .flt b,u=>∃t,u=Value.float b t
 | .ref a,u=>u=Value.ref a
 | .ty n,u=>u=Value.type n
abbrev Vals:List V->List Value->Prop:=Paired RelV
theorem Vals.length {xs:List V}{us:List Value} (r:Vals xs us):xs.length=us.length:=Paired.length r
theorem Vals.get:∀{xs:List V}{us:List Value}{i:Nat}{x:V},Vals xs us->xs[i]? =some x->∃u,us[i]? =some u/\RelV x u
 | _,_,_,_,.nil,e=>by simp at e
 | _,_,0,_,.cons r _,e=>by simp at e;subst e;exact⟨_,rfl,r⟩
 | _,_,i+1,x,.cons _ t,e=>by
  obtain⟨u,h1,h2⟩:=Vals.get (i:=i) (x:=x) t (by simpa using e);exact⟨u,by simpa using h1,h2⟩
theorem Vals.set {x:V}{u:Value} (r:RelV x u):∀{xs:List V}{us:List Value} (i:Nat),Vals xs us->Vals (xs.set i x) (us.set i u)
 | _,_,_,.nil=> .nil
 | _,_,0,.cons _ t=> .cons r t
 | _,_,i+1,.cons q t=> .cons q (Vals.set r i t)
theorem Vals.append:∀{xs ys:List V}{us ws:List Value},Vals xs us->Vals ys ws->Vals (xs++ys) (us++ws)
 | _,_,_,_,.nil,s=>s
 | _,_,_,_,.cons r t,s=> .cons r (Vals.append t s)
theorem Vals.take:∀{xs:List V}{us:List Value} (n:Nat),Vals xs us->Vals (xs.take n) (us.take n)
 | _,_,0,_=> .nil
 | _,_,_+1,.nil=> .nil
 | _,_,n+1,.cons r t=> .cons r (Vals.take n t)
theorem Vals.drop:∀{xs:List V}{us:List Value} (n:Nat),Vals xs us->Vals (xs.drop n) (us.drop n)
 | _,_,0,r=>r
 | _,_,_+1,.nil=> .nil
 | _,_,n+1,.cons _ t=>Vals.drop n t
def RelO:Option V->Option Value->Prop
 | some v,some u=>RelV v u
 | none,none=>True
 | _,_=>False
def KV {κ:Type}:List (κ×V)->List (κ×Value)->Prop:=Paired fun (p:κ×V) (q:κ×Value)=>p.1=q.1/\RelV p.2 q.2
def kV:Key->V
 | .inl i=> .int i
 | .inr x=> .str x
inductive HO where
  | lst (xs:List V)
  | tup (xs:List V)
  | dK (kvs:List (Key×V))|dT (kvs:List (List Key×V))
  | set (S:Int->Bool) (n:Nat)
  | ins (C dx:Addr) (fs:List (Str×V))
  | own (x:Addr)
  | xd (fs:List (Str×V))
  | met (f x:Addr)
  | rng (lo hi:Int)
  | frz (o:Obj) (u:HO)
  | tbl (ps:Array Value)
  | ext (φ:Heap->Prop)
abbrev Hp:=Addr->Option HO
def upd (H:Hp)(a:Addr)(o:HO):Hp:=fun b=>if b=a then some o else H b
theorem aS {H:Hp}{a:Addr}{o:HO}:upd H a o a=some o:=by unfold upd;rw[if_pos rfl]
theorem aJ {H:Hp}{a b:Addr}{o:HO} (h:b≠a):upd H a o b=H b:=by unfold upd;rw[if_neg h]
theorem WK {H:Hp}{a:Addr}{o u:HO}:upd (upd H a o) a u=upd H a u:=by
 funext b;unfold upd;split<;>rfl
theorem aA6 {H:Hp}{a b:Addr}{o u:HO} (h:H a=some o) (h':H b=some u) (d:o≠u):a≠b:=by
 intro e;subst e;rw[h]at h';exact d (Option.some.inj h')
theorem bE {H:Hp}{a b:Addr}{o:HO} (h:H a=some o) (h':H b=none):a≠b:=by
 intro e;subst e;rw[h]at h';cases h'
section
variable (P:Program)(w:World)
def ObjOk (H:Hp)(h:Heap)(a:Addr):HO->Prop
 | .lst xs=>xs.length<=sizeLine/\∃(its:List Value) (n:Nat),Vals xs its/\h.get? a=some { cls:= .type "list",data:= .seq its.toArray n }
 | .tup xs=>xs.length<=sizeLine/\∃its:List Value,Vals xs its/\IsTup h a its.toArray
 | .dK kvs=>kvs.length<=sizeLine/\(a==sysModules)=false/\∃vs,KV kvs vs/\h.DictOf (bO P w) a vs
 | .dT kvs=>kvs.length<=sizeLine/\(a==sysModules)=false/\∃xs:List (List Key×Addr×Value),
   Paired (fun (p:List Key×V) (q:List Key×Addr×Value)=>p.1=q.1/\H q.2.1=some (.tup (p.1.map kV))/\RelV p.2 q.2.2) kvs xs ∧
   ∃o es ep,h.get? a=some o/\o.ExactDict/\o.data= .dict es ep/\es.toList=xs.map (entryOfKey (tupleKind (bO P w)))/\(xs.map (·.1)).Nodup
 | .set S n=>h.SetOf (intKind P w) a S n
 | .ins C dx fs=>H dx=some (.own a)/\fs.length<=1000/\dx≠a/\h.get? a=some (PySem.W.instObj C dx) ∧
   ∃mA,h.Ns1 dx mA/\(∀f,RelO (fs.lookup f) (mA f))/\PySem.Within mA (fs.map (·.1))
 | .own _=>∃o,h.get? a=some o
 | .xd fs=>∃mA,h.Ns1 a mA/\∀f,RelO (fs.lookup f) (mA f)
 | .rng lo hi=>∃t u v,h.get? a=some { cls:= .type "range",data:= .fields #[.int lo t,.int hi u,.int 1 v] }
 | .frz o u=>h.get? a=some o/\ObjOk H h a u
 | .tbl ps=>h.get? a=some { cls:= .none,data:= .fields ps }
 | .met f x=>h.get? a=some (PySem.W.methodObj (.ref f) (.ref x))
 | .ext φ=>φ h/\(∃o,h.get? a=some o)/\∀h1 h2:Heap,φ h1->(∀o,h1.get? a=some o->h2.get? a=some o)->φ h2
def HOk (H:Hp)(h:Heap):Prop:=∀a o,H a=some o->ObjOk P w H h a o
end
section
variable {P:Program}{w:World}{H H':Hp}{h h':Heap}{a:Addr}{o:HO}
theorem ObjOk.lt (x:ObjOk P w H h a o):a<h.objs.size:=by
 cases o with
 | lst xs=>obtain⟨_,_,_,_,e⟩:=x;exact Heap.lt_size e
 | tup xs=>obtain⟨_,_,_,p⟩:=x;exact p.lt
 | dK kvs=>obtain⟨_,_,_,_,o,_,_,e,_⟩:=x;exact Heap.lt_size e
 | dT kvs=>obtain⟨_,_,_,_,o,_,_,e,_⟩:=x;exact Heap.lt_size e
 | set S n=>obtain⟨o,_,_,_,e,_⟩:=x;exact Heap.lt_size e
 | ins C dx fs=>obtain⟨_,_,_,e,_⟩:=x;exact Heap.lt_size e
 | own y=>obtain⟨_,e⟩:=x;exact Heap.lt_size e
 | xd fs=>obtain⟨_,⟨_,_,_,e,_⟩,_⟩:=x;exact Heap.lt_size e
 | rng lo hi=>obtain⟨_,_,_,e⟩:=x;exact Heap.lt_size e
 | frz ob u=>obtain⟨e,_⟩:=x;exact Heap.lt_size e
 | tbl ps=>exact Heap.lt_size (show h.get? a=some _ from x)
 | met f y=>exact Heap.lt_size (show h.get? a=some _ from x)
 | ext φ=>obtain⟨_,⟨_,e⟩,_⟩:=x;exact Heap.lt_size e
theorem Paired.mapP {α β:Type}{F G:α->β->Prop}:∀{l₁:List α}{l₂:List β},Paired F l₁ l₂->(∀a b,F a b->G a b)->Paired G l₁ l₂
 | _,_,.nil,_=> .nil
 | _,_,.cons r t,f=> .cons (f _ _ r) (Paired.mapP t f)
theorem Paired.imp' {α β:Type}{F G:α->β->Prop} (f:∀a b,F a b->G a b) {l₁:List α}{l₂:List β} (r:Paired F l₁ l₂):Paired G l₁ l₂:=Paired.mapP r f
theorem ObjOk.stay (x:ObjOk P w H h a o)(k:∀b u,(b=a∨H b=some (.own a))->h.get? b=some u->h'.get? b=some u)
  (ho:∀b,H b=some (.own a)->H' b=some (.own a))(ht:∀b xs,H b=some (.tup xs)->H' b=some (.tup xs)):ObjOk P w H' h' a o:=by
 induction o with
 | lst xs=>obtain⟨z,its,n,r,e⟩:=x;exact⟨z,its,n,r,k _ _ (.inl rfl) e⟩
 | tup xs=>obtain⟨z,its,r,ob,e,c⟩:=x;exact⟨z,its,r,ob,k _ _ (.inl rfl) e,c⟩
 | dK kvs=>obtain⟨z,y,vs,r,ob,es,ep,e,c⟩:=x;exact⟨z,y,vs,r,ob,es,ep,k _ _ (.inl rfl) e,c⟩
 | dT kvs =>
  obtain⟨z,y,xs,r,ob,es,ep,e,c⟩:=x;exact⟨z,y,xs,Paired.mapP r fun p q z=>⟨z.1,ht _ _ z.2.1,z.2.2⟩,ob,es,ep,k _ _ (.inl rfl) e,c⟩
 | set S n=>obtain⟨ob,es,ep,t,e,c⟩:=x;exact⟨ob,es,ep,t,k _ _ (.inl rfl) e,c⟩
 | ins C dx fs =>
  obtain⟨d,z,ne,e,mA,⟨od,es,ep,e2,c⟩,r⟩:=x;exact⟨ho _ d,z,ne,k _ _ (.inl rfl) e,mA,⟨od,es,ep,k _ _ (.inr d) e2,c⟩,r⟩
 | own y=>obtain⟨ob,e⟩:=x;exact⟨ob,k _ _ (.inl rfl) e⟩
 | xd fs=>obtain⟨mA,⟨od,es,ep,e,c⟩,r⟩:=x;exact⟨mA,⟨od,es,ep,k _ _ (.inl rfl) e,c⟩,r⟩
 | rng lo hi=>obtain⟨t,u,v,e⟩:=x;exact⟨t,u,v,k _ _ (.inl rfl) e⟩
 | frz ob u ih=>obtain⟨e,q⟩:=x;exact⟨k _ _ (.inl rfl) e,ih q⟩
 | tbl ps =>
  have e:h.get? a=some { cls:= .none,data:= .fields ps }:=x;show h'.get? a=some { cls:= .none,data:= .fields ps };exact k a _ (.inl rfl) e
 | met f y =>
  have e:h.get? a=some (PySem.W.methodObj (.ref f) (.ref y)):=x;show h'.get? a=some (PySem.W.methodObj (.ref f) (.ref y));exact k a _ (.inl rfl) e
 | ext φ=>obtain⟨p,⟨o,e⟩,st⟩:=x;exact⟨st _ _ p fun o q=>k _ _ (.inl rfl) q,⟨o,k _ _ (.inl rfl) e⟩,st⟩
theorem HOk.lt (x:HOk P w H h)(e:H a=some o):a<h.objs.size:=(x a o e).lt
theorem HOk.fresh (x:HOk P w H h)(e:h.objs.size<=a):H a=none:=by
 cases q:H a with
 | none=>rfl
 | some u=>exact absurd (Nat.lt_of_lt_of_le (x.lt q) e) (Nat.lt_irrefl _)
theorem HOk.kept (x:HOk P w H h)(k:∀b u,h.get? b=some u->h'.get? b=some u):HOk P w H h':=fun a o e =>
 (x a o e).stay (fun b u _ q=>k b u q) (fun _ q=>q) fun _ _ q=>q
theorem HOk.laid (x:HOk P w H h)(k:∀b u,h.get? b=some u->h'.get? b=some u)(hp:h.objs.size<=a)(new:ObjOk P w (upd H a o) h' a o):HOk P w (upd H a o) h':=fun b u e=>by
 have hn:=x.fresh hp
 by_cases hb:b=a
 ·subst hb;rw[aS]at e;cases e;exact new
 ·rw[aJ hb]at e;exact(x b u e).stay (fun c v _ q=>k c v q) (fun c q=>by rw[aJ (bE q hn)];exact q) fun c xs q=>by rw[aJ (bE q hn)];exact q
end
def Rd (H:Hp)(a:Addr)(u:HO):Prop:=H a=some u∨∃o,H a=some (.frz o u)
theorem Rd.ok {P:Program}{w:World}{H:Hp}{h:Heap}{a:Addr}{u:HO} (r:Rd H a u) (x:HOk P w H h):ObjOk P w H h a u:=by
 rcases r with r|⟨o,r⟩
 ·exact x a u r
 ·obtain⟨_,q⟩:=x a _ r;exact q
def Mut:Option HO->Prop
 | some (.lst _)=>True
 | some (.dK _)=>True
 | some (.dT _)=>True
 | some (.set _ _)=>True
 | some (.ins _ _ _)=>True
 | some (.ext _)=>True
 | _=>False
section
variable {P:Program}{w:World}{H:Hp}{h h':Heap}{x e:Addr}{o':HO}
theorem HOk.write (ok:HOk P w H h)(mu:Mut (H x))(he:e=x∨H e=some (.own x))(k:∀b u,b≠e->h.get? b=some u->h'.get? b=some u)(heo:∃u,h'.get? e=some u)
  (new:ObjOk P w (upd H x o') h' x o'):HOk P w (upd H x o') h':=fun b u q=>by
 have nown:∀c y,H c=some (.own y)->c≠x:=fun c y r z=>by subst z;rw[r]at mu;exact mu
 have ntup:∀c xs,H c=some (.tup xs)->c≠x:=fun c xs r z=>by subst z;rw[r]at mu;exact mu
 by_cases hb:b=x
 ·subst hb;rw[aS]at q;cases q;exact new
 ·rw[aJ hb]at q
  by_cases hbe:b=e
  ·have q':H b=some (.own x):=by
    rcases he with z|z
    ·exact absurd (hbe.trans z) hb
    ·rw[hbe];exact z
   rw[q]at q';cases q';obtain⟨v,hv⟩:=heo;exact⟨v,by rw[hbe];exact hv⟩
  ·refine(ok b u q).stay (fun c v hc r=>k c v ?_ r) (fun c r=>by rw[aJ (nown c b r)];exact r) fun c xs r=>by rw[aJ (ntup c xs r)];exact r
   rcases hc with rfl|hc
   ·exact hbe
   ·rintro rfl;rcases he with z|z
    ·exact nown c b hc z
    ·rw[hc]at z;cases z;exact hb rfl
end
structure Un (fs ex:List Addr)(H H':Hp)(h h':Heap):Prop where
 keep:∀b o,h.get? b=some o->H b=none->b∉fs->b∉ex->h'.get? b=some o
 slot:∀b o,h.get? b=some o->H b=none->b∈fs->b∉ex->∃sl,h'.get? b=some { o with slots:=sl }
 free:∀b o,h.get? b=some o->H b=none->b∉ex->H' b=none
 there:∀b o,h.get? b=some o->b∉ex->∃o',h'.get? b=some o'
 tups:∀b xs,H b=some (.tup xs)->H' b=some (.tup xs)
 frzs:∀b o u,H b=some (.frz o u)->H' b=some (.frz o u)
 tbls:∀b ps,H b=some (.tbl ps)->∃more,H' b=some (.tbl (ps++more))
section
variable {fs fs' ex ex':List Addr}{H H1 H2:Hp}{h h1 h2 h':Heap}{a x e:Addr}{o:HO}
theorem Un.any (u:Un fs ex H H1 h h1){b:Addr}{ob:Obj} (q:h.get? b=some ob) (n:H b=none) (hx:b∉ex):∃sl,h1.get? b=some { ob with slots:=sl }:=by
 by_cases hb:b∈fs
 ·exact u.slot b ob q n hb hx
 ·exact⟨ob.slots,u.keep b ob q n hb hx⟩
theorem Un.kept (k:∀b u,h.get? b=some u->h'.get? b=some u):Un fs ex H H h h' :=
 ⟨fun b ob q _ _ _=>k b ob q,fun b ob q _ _ _=>⟨ob.slots,k b ob q⟩,fun _ _ _ n _=>n,fun b ob q _=>⟨ob,k b ob q⟩,fun _ _ q=>q,fun _ _ _ q=>q,fun _ ps q=>⟨#[],by rw[q];simp⟩⟩
theorem Un.refl:Un fs ex H H h h:=Un.kept fun _ _ q=>q
theorem Un.laid (k:∀b u,h.get? b=some u->h'.get? b=some u)(hp:h.objs.size<=a)(hn:H a=none):Un fs ex H (upd H a o) h h' where
 keep:=fun b u q _ _ _=>k b u q
 slot:=fun b u q _ _ _=>⟨u.slots,k b u q⟩
 free:=fun b u q n _=>by rw[aJ (Nat.ne_of_lt (Nat.lt_of_lt_of_le (Heap.lt_size q) hp))];exact n
 there:=fun b u q _=>⟨u,k b u q⟩
 tups:=fun b xs q=>by rw[aJ (bE q hn)];exact q
 frzs:=fun b u xs q=>by rw[aJ (bE q hn)];exact q
 tbls:=fun b ps q=>⟨#[],by rw[aJ (bE q hn),q];simp⟩
theorem Un.write (mu:Mut (H x))(he:e=x∨H e=some (.own x))(k:∀b u,b≠e->h.get? b=some u->h'.get? b=some u)(heo:∃u,h'.get? e=some u):Un fs ex H (upd H x o) h h':=by
 have hx:∀b,H b=none->b≠x:=fun b n z=>by subst z;rw[n]at mu;exact mu
 have hb:∀b,H b=none->b≠e:=fun b n z=>by
  subst z;rcases he with r|r
  ·exact hx b n r
  ·rw[n]at r;cases r
 have hm:∀b u,H b=some u->¬Mut (some u)->b≠x:=fun b u q nm z=>by subst z;rw[q]at mu;exact nm mu
 refine⟨fun b u q n _ _=>k b u (hb b n) q,fun b u q n _ _=>⟨u.slots,k b u (hb b n) q⟩,fun b u q n _=>by rw[aJ (hx b n)];exact n,fun b u q _=> ?_,
  fun b xs q=>by rw[aJ (hm b _ q fun z=>z)];exact q,fun b u xs q=>by rw[aJ (hm b _ q fun z=>z)];exact q,fun b ps q=>⟨#[],by rw[aJ (hm b _ q fun z=>z),q];simp⟩⟩
 by_cases hbe:b=e
 ·subst hbe;exact heo
 ·exact⟨u,k b u hbe q⟩
end
def trk (h:Heap)(H:Hp):List Addr:=(List.range h.objs.size).filter fun a=>(H a).isSome
def oE (h:Heap)(H:Hp):Heap:=PySem.W.hideAll h (trk h H)
theorem ML (h:Heap)(H:Hp):(oE h H).objs.size=h.objs.size:=PySem.W.hideAll_size _ _
theorem PJ {h:Heap}{H:Hp}{b:Addr}{o:Obj} (e:h.get? b=some o) (n:H b=none):(oE h H).get? b=some o :=
 PySem.W.hideAll_get _ e fun hm=>by
  have q:(H b).isSome=true:=(List.mem_filter.mp hm).2;rw[n]at q;simp at q
theorem VA {h:Heap}{H:Hp}{b:Addr}{o:Obj} (e:(oE h H).get? b=some o):h.get? b=some o/\H b=none:=by
 have e':h.get? b=some o:=PySem.W.of_hideAll (trk h H) e;refine⟨e',?_⟩;cases q:H b with
 | none=>rfl
 | some x =>
  have hm:b∈trk h H:=List.mem_filter.mpr ⟨List.mem_range.mpr (Heap.lt_size e'),by simp[q]⟩;have z:(oE h H).get? b=none:=PySem.W.hideAll_none (trk h H) hm;rw[z]at e;cases e
end L2
namespace L2
open PySem PySem.Spec PyProof.Rows
structure Mod (K:PySem.W.Frag)(mg:Str->Option Value)(base:Heap):Prop where
 kin:K.In base
 glob:base.Ns mainGlobals mg
 blt:∃mb,base.Ns builtinsNs mb/\∀x:Str,x≠ "__name__" ->mb x=bootBuiltins x
 nolimit:base.NoLimit
structure Cx where
 prog:Program
 w:World
 K:PySem.W.Frag
 mg:Str->Option Value
 base:Heap
 A:Around
 N:List Str
 s₀:Shared
 H₀:Hp
 env:Env
 outer:List Env
 stack:List Env
 ex:List Addr
 fn:Str->Bool
 calm:Bool
 pn:List (Addr×Obj)
 xe:Value->Shared->Prop
def frs (l:List Env):List Addr:=l.filterMap (·.frame)
abbrev Cx.fs (X:Cx):List Addr:=frs X.outer
def Vis (sc:Scope)(x:Str):Prop:=sc.names.lookup x=some .local∨sc.names.lookup x=some .cell∨sc.names.lookup x=some .free
def Loc (sc:Scope)(x:Str):Prop:=sc.names.lookup x=some .local∨sc.names.lookup x=some .cell
def aBx (env:Env)(h:Heap)(m:Str->Option Value)(x:Str)(u:Value):Prop :=
 (env.kindOf x=some .local/\m x=some u)∨((env.kindOf x=some .cell∨env.kindOf x=some .free)/\∃c,env.cells.lookup x=some c/\h.IsCell c (some u))
structure Cx.Ok (X:Cx):Prop where
 mod:Mod X.K X.mg X.base
 kind:X.env.scope.kind= .function
 glob:X.env.globals=mainGlobals
 blt:X.env.builtins=builtinsNs
 above:X.s₀.heap.objs.size<=X.env.locals
 inj:∀x y c,X.env.cells.lookup x=some c->X.env.cells.lookup y=some c->x=y
 has:∀x,(X.env.kindOf x=some .cell∨X.env.kindOf x=some .free)->∃c,X.env.cells.lookup x=some c
 cab:∀x c,X.fn x=true->X.env.cells.lookup x=some c->X.s₀.heap.objs.size<=c
 hd:X.calm=true->X.A.handled=none
 frames:X.A.frames=some X.stack
 stk:X.stack=X.outer∨(X.stack=X.env::X.outer/\X.env.frame=some X.env.locals)
 exf:∀b∈X.ex,b≠X.env.locals/\∀x c,X.env.cells.lookup x=some c->c≠b
 bs:∀b o,X.base.get? b=some o->X.s₀.heap.get? b=some o/\X.H₀ b=none
 bsz:X.base.objs.size<=X.s₀.heap.objs.size
 noex:∀b o,X.base.get? b=some o->b∉X.ex
 exfs:∀b∈X.ex,b∉X.fs
 funs:X.s₀.heap.FunFrames X.base X.outer
 frf:∀b∈X.fs,X.H₀ b=none
structure Inv (X:Cx)(pins:List (Addr×Obj))(σ:List (Option V))(H:Hp)(s:Shared):Prop where
 ok:X.Ok
 os:s.os=X.s₀.os
 bare:AllBare s.gens
 base:Un X.fs X.ex X.H₀ H X.s₀.heap s.heap
 loc:∃m,s.heap.Ns X.env.locals m/\∀(i:Nat) (x:Str) (v:V),X.N[i]? =some x->σ[i]? =some (some v)->Vis X.env.scope x->∃u,RelV v u/\aBx X.env s.heap m x u
 cell:∀x c,X.env.cells.lookup x=some c->∃v,s.heap.IsCell c v
 free:H X.env.locals=none
 freeC:∀x c,X.env.cells.lookup x=some c->H c=none
 pin:∀p∈X.pn++pins,s.heap.get? p.1=some p.2/\H p.1=none/\p.1≠X.env.locals/\p.1∉X.fs/\∀v,p.2.data≠ .cell v
 hok:HOk X.prog X.w H s.heap
 len:σ.length=X.N.length
section
variable {X:Cx}{pins:List (Addr×Obj)}{σ:List (Option V)}{H H':Hp}{s:Shared}{h':Heap}
theorem Cx.Ok.nofr (ok:X.Ok){b:Addr}{o:Obj} (e:X.base.get? b=some o):b∉X.fs:=fun hb=>by
 have:=(ok.funs.mem hb).1;rw[e]at this;cases this
theorem Inv.bs (I:Inv X pins σ H s):∀b o,X.base.get? b=some o->s.heap.get? b=some o/\H b=none:=fun b o e =>
 ⟨I.base.keep b o (I.ok.bs b o e).1 (I.ok.bs b o e).2 (I.ok.nofr e) (I.ok.noex b o e),I.base.free b o (I.ok.bs b o e).1 (I.ok.bs b o e).2 (I.ok.noex b o e)⟩
theorem Inv.bk (I:Inv X pins σ H s):∀b o,X.base.get? b=some o->s.heap.get? b=some o:=fun b o e=>(I.bs b o e).1
theorem Inv.mod (I:Inv X pins σ H s):Mod X.K X.mg X.base:=I.ok.mod
theorem Inv.kIn (I:Inv X pins σ H s):X.K.In s.heap:=I.ok.mod.kin.keeps I.bk
theorem Inv.lt (I:Inv X pins σ H s):X.env.locals<s.heap.objs.size:=let ⟨_,hn,_⟩:=I.loc;hn.lt
theorem Inv.sz (I:Inv X pins σ H s):X.s₀.heap.objs.size<=s.heap.objs.size:=Nat.le_trans I.ok.above (Nat.le_of_lt I.lt)
theorem Inv.nofs (I:Inv X pins σ H s){a:Addr}(h:s.heap.objs.size<=a):a∉X.fs:=fun hb=>by
 obtain⟨_,o,ho,_⟩:=I.ok.funs.mem hb;exact absurd (Nat.lt_of_lt_of_le (Heap.lt_size ho) (Nat.le_trans I.sz h)) (Nat.lt_irrefl _)
theorem Inv.cne (I:Inv X pins σ H s):∀x c,X.env.cells.lookup x=some c->c≠X.env.locals:=fun x c e z=>by
 obtain⟨v,o,ho,hd⟩:=I.cell x c e;obtain⟨m,⟨o',es,ep,ho',hd',_⟩,_⟩:=I.loc;rw[z,ho']at ho;cases ho;rw[hd']at hd;cases hd
theorem Inv.funs (I:Inv X pins σ H s):s.heap.FunFrames X.base X.outer:=by
 have all:∀(l:List Env),(∀b∈frs l,b∈X.fs)->X.s₀.heap.FunFrames X.base l->s.heap.FunFrames X.base l:=by
  intro l
  induction l with
  | nil=>intro _ _;trivial
  | cons env r ih =>
   intro hs hl;obtain⟨hk,⟨L,o,hf,hn,ho,hd⟩,hr⟩:=hl;have hL:L∈X.fs:=hs L (by unfold frs;rw[List.filterMap_cons,hf];exact List.mem_cons_self);obtain⟨sl,e⟩:=I.base.slot L o ho (I.ok.frf L hL) hL fun z=>I.ok.exfs L z hL;exact⟨hk,⟨L,_,hf,hn,e,hd⟩,ih (fun b hb=>hs b (by unfold frs;rw[List.filterMap_cons,hf];exact List.mem_cons_of_mem _ hb)) hr⟩
 exact all X.outer (fun _ hb=>hb) I.ok.funs
theorem Inv.stack (I:Inv X pins σ H s):s.heap.FunFrames X.base X.stack:=by
 rcases I.ok.stk with e|⟨e,hf⟩
 ·rw[e];exact I.funs
 ·rw[e];obtain⟨m,hn,_⟩:=I.loc;refine .cons (by rw[I.ok.kind];decide) hf hn ?_ I.funs;exact Heap.get?_none_of_le (Nat.le_trans I.ok.bsz I.ok.above)
theorem Inv.stkSub (I:Inv X pins σ H s):∀b∈frs X.stack,b∈X.env.locals::X.fs:=fun b hb=>by
 rcases I.ok.stk with e|⟨e,hf⟩
 ·rw[e]at hb;exact List.mem_cons_of_mem _ hb
 ·rw[e]at hb;unfold frs at hb;rw[List.filterMap_cons,hf]at hb;exact hb
theorem Inv.stkFree (I:Inv X pins σ H s):∀b∈frs X.stack,H b=none:=fun b hb=>by
 rcases List.mem_cons.mp (I.stkSub b hb) with e|hb
 ·rw[e];exact I.free
 ·obtain⟨_,o,ho,_⟩:=I.ok.funs.mem hb;exact I.base.free b o ho (I.ok.frf b hb) fun z=>I.ok.exfs b z hb
theorem Inv.step {g':Array GenState}{t':Nat}{d':Drawn}{ch:List Addr} (I:Inv X pins σ H s)
  (hch:∀b∈ch,(b∈X.ex∨X.s₀.heap.objs.size<=b)/\b≠X.env.locals/\(∀x c,X.env.cells.lookup x=some c->c≠b)/\∀p∈X.pn++pins,p.1≠b)
  (keep:∀b o,b≠X.env.locals->b∉X.fs->b∉ch->s.heap.get? b=some o->H b=none->h'.get? b=some o)
  (slot:∀b o,b≠X.env.locals->b∈X.fs->b∉ch->s.heap.get? b=some o->H b=none->∃sl,h'.get? b=some { o with slots:=sl })(free:∀b o,b∉ch->s.heap.get? b=some o->H b=none->H' b=none)
  (there:∀b o,b∉ch->s.heap.get? b=some o->∃o',h'.get? b=some o')
  (tups:∀b xs,H b=some (.tup xs)->H' b=some (.tup xs))(frzs:∀b o u,H b=some (.frz o u)->H' b=some (.frz o u))(tbls:∀b ps,H b=some (.tbl ps)->∃more,H' b=some (.tbl (ps++more)))
  (ns:∀m,s.heap.Ns X.env.locals m->h'.Ns X.env.locals m)(hok:HOk X.prog X.w H' h')(hg:AllBare g') :
  Inv X pins σ H' { s with heap:=h',gens:=g',drawn:=d',toks:=t' }:=by
 have neL:∀b o,X.s₀.heap.get? b=some o->b≠X.env.locals:=fun b o e=>Nat.ne_of_lt (Nat.lt_of_lt_of_le (Heap.lt_size e) I.ok.above);have neC:∀b o,X.s₀.heap.get? b=some o->b∉X.ex->b∉ch:=fun b o e hx hb=>by
  rcases (hch b hb).1 with z|z
  ·exact hx z
  ·exact absurd (Nat.lt_of_lt_of_le (Heap.lt_size e) z) (Nat.lt_irrefl _)
 have cellK:∀x c,X.env.cells.lookup x=some c->∀v,s.heap.IsCell c v->h'.IsCell c v:=fun x c e v ⟨o,ho,hd⟩=>by
  have nch:c∉ch:=fun z=>(hch c z).2.2.1 x c e rfl
  by_cases hc:c∈X.fs
  ·obtain⟨sl,q⟩:=slot c o (I.cne x c e) hc nch ho (I.freeC x c e);exact⟨_,q,hd⟩
  ·exact⟨o,keep c o (I.cne x c e) hc nch ho (I.freeC x c e),hd⟩
 refine⟨I.ok,I.os,hg,⟨fun b o e n hb hx=> ?_,fun b o e n hb hx=> ?_,fun b o e n hx=> ?_,fun b o e hx=> ?_,fun b xs e=>tups b xs (I.base.tups b xs e),fun b o xs e=>frzs b o xs (I.base.frzs b o xs e),fun b ps e=> ?_⟩,?_,fun x c e=> ?_,?_,fun x c e=> ?_,fun p hp=> ?_,hok,I.len⟩
 ·exact keep b o (neL b o e) hb (neC b o e hx) (I.base.keep b o e n hb hx) (I.base.free b o e n hx)
 ·obtain⟨sl,e1⟩:=I.base.slot b o e n hb hx;obtain⟨sl',e2⟩:=slot b _ (neL b o e) hb (neC b o e hx) e1 (I.base.free b o e n hx);exact⟨sl',e2⟩
 ·obtain⟨o',e1⟩:=I.base.there b o e hx;exact free b o' (neC b o e hx) e1 (I.base.free b o e n hx)
 ·obtain⟨o',e1⟩:=I.base.there b o e hx;exact there b o' (neC b o e hx) e1
 ·obtain⟨m1,e1⟩:=I.base.tbls b ps e;obtain⟨m2,e2⟩:=tbls b _ e1;exact⟨m1++m2,by rw[e2,Array.append_assoc]⟩
 ·obtain⟨m,hn,hl⟩:=I.loc;refine⟨m,ns m hn,fun i x v e1 e2 e3=> ?_⟩;obtain⟨u,r,l⟩:=hl i x v e1 e2 e3;refine⟨u,r,?_⟩;rcases l with l|⟨k,c,e,z⟩
  ·exact .inl l
  ·exact .inr ⟨k,c,e,cellK x c e _ z⟩
 ·obtain⟨v,z⟩:=I.cell x c e;exact⟨v,cellK x c e v z⟩
 ·obtain⟨m,⟨o,_,_,ho,_⟩,_⟩:=I.loc;exact free _ o (fun z=>(hch _ z).2.1 rfl) ho I.free
 ·obtain⟨v,o,ho,hd⟩:=I.cell x c e;exact free c o (fun z=>(hch c z).2.2.1 x c e rfl) ho (I.freeC x c e)
 ·obtain⟨e,n,ne,nf,d⟩:=I.pin p hp;have nch:p.1∉ch:=fun z=>(hch p.1 z).2.2.2 p hp rfl;exact⟨keep p.1 p.2 ne nf nch e n,free p.1 p.2 nch e n,ne,nf,d⟩
theorem Inv.un {t':Nat}(I:Inv X pins σ H s)(u:Un X.fs [] H H' s.heap h')(hok:HOk X.prog X.w H' h'):Inv X pins σ H' { s with heap:=h',toks:=t' }:=by
 obtain⟨m,⟨o,es,ep,ho,r⟩,_⟩:=id I.loc;obtain⟨sl,hL⟩:=u.any ho I.free (by simp);exact I.step (g':=s.gens) (d':=s.drawn) (ch:=[]) (fun _ z=>nomatch z) (fun b o _ hb _ e n=>u.keep b o e n hb (by simp)) (fun b o _ hb _ e n=>u.slot b o e n hb (by simp)) (fun b o _ e n=>u.free b o e n (by simp)) (fun b o _ e=>u.there b o e (by simp)) u.tups u.frzs u.tbls (fun m' hm=>by
  obtain⟨o',es',ep',ho',r'⟩:=hm;rw[ho]at ho';cases ho';exact⟨_,es',ep',hL,r'⟩) hok I.bare
theorem Inv.call {g':Array GenState}{t':Nat}{d':Drawn}{ch:List Addr} (I:Inv X pins σ H s) (u:Un (frs X.stack) ch H H' s.heap h') (hok:HOk X.prog X.w H' h') (hg:AllBare g')
  (hch:∀b∈ch,(b∈X.ex∨X.s₀.heap.objs.size<=b)/\b≠X.env.locals/\(∀x c,X.env.cells.lookup x=some c->c≠b)/\∀p∈X.pn++pins,p.1≠b) :
  Inv X pins σ H' { s with heap:=h',gens:=g',drawn:=d',toks:=t' }:=by
 obtain⟨m,⟨o,es,ep,ho,r⟩,_⟩:=id I.loc;obtain⟨sl,hL⟩:=u.any ho I.free fun z=>(hch _ z).2.1 rfl;exact I.step (ch:=ch) hch (fun b o hL hb hc e n=>u.keep b o e n (fun z=>(List.mem_cons.mp (I.stkSub b z)).elim hL hb) hc) (fun b o _ _ hc e n=>u.any e n hc) (fun b o hc e n=>u.free b o e n hc) (fun b o hc e=>u.there b o e hc) u.tups u.frzs u.tbls (fun m' hm=>by
  obtain⟨o',es',ep',ho',r'⟩:=hm;rw[ho]at ho';cases ho';exact⟨_,es',ep',hL,r'⟩) hok hg
theorem Inv.turned {t':Nat}{it:Addr} (I:Inv X pins σ H s) (k:∀b o,b≠it->s.heap.get? b=some o->h'.get? b=some o) (hn:H it=none) (hL:it≠X.env.locals)
  (h1:it∈X.ex∨X.s₀.heap.objs.size<=it)(h2:∀x c,X.env.cells.lookup x=some c->c≠it)(h3:∀p∈X.pn++pins,p.1≠it):Inv X pins σ H { s with heap:=h',toks:=t' }:=by
 have nit:∀b u,H b=some u->b≠it:=fun b u e z=>by rw[z,hn]at e;cases e
 refine I.step (g':=s.gens) (d':=s.drawn) (ch:=[it]) (fun b hb=> ?_) (fun b o _ _ hc e _=>k b o (fun z=>hc (by simp[z])) e) (fun b o _ _ hc e _=>⟨o.slots,k b o (fun z=>hc (by simp[z])) e⟩) (fun _ _ _ _ n=>n)
  (fun b o hc e=>⟨o,k b o (fun z=>hc (by simp[z])) e⟩) (fun _ _ e=>e) (fun _ _ _ e=>e) (fun b ps e=>⟨#[],by rw[e];simp⟩) (fun m hm=> ?_) (fun b u e=> ?_) I.bare
 ·have e:b=it:=by simpa using hb
  subst e;exact⟨h1,hL,h2,h3⟩
 ·obtain⟨o,es,ep,ho,r⟩:=hm;exact⟨o,es,ep,k _ o (Ne.symm hL) ho,r⟩
 ·refine(I.hok b u e).stay (fun c v hc q=>k c v ?_ q) (fun _ q=>q) fun _ _ q=>q;rcases hc with z|z
  ·rw[z];exact nit b u e
  ·exact nit c _ z
theorem Inv.tok (I:Inv X pins σ H s)(t:Nat):Inv X pins σ H { s with toks:=t }:=I.un (h':=s.heap) (t':=t) Un.refl I.hok
theorem Inv.kept {t':Nat}(I:Inv X pins σ H s)(k:∀b u,s.heap.get? b=some u->h'.get? b=some u):Inv X pins σ H { s with heap:=h',toks:=t' }:=I.un (Un.kept k) (I.hok.kept k)
theorem Inv.laid {a:Addr}{o:HO}{t':Nat} (I:Inv X pins σ H s) (k:∀b u,s.heap.get? b=some u->h'.get? b=some u) (hp:s.heap.objs.size<=a) (new:ObjOk X.prog X.w (upd H a o) h' a o) :
  Inv X pins σ (upd H a o) { s with heap:=h',toks:=t' }:=I.un (Un.laid k hp (I.hok.fresh hp)) (I.hok.laid k hp new)
theorem Inv.write {x e:Addr}{o:HO}{t':Nat} (I:Inv X pins σ H s) (mu:Mut (H x)) (he:e=x∨H e=some (.own x)) (k:∀b u,b≠e->s.heap.get? b=some u->h'.get? b=some u) (heo:∃u,h'.get? e=some u)
  (new:ObjOk X.prog X.w (upd H x o) h' x o):Inv X pins σ (upd H x o) { s with heap:=h',toks:=t' }:=I.un (Un.write mu he k heo) (I.hok.write mu he k heo new)
theorem Inv.weak {σ':List (Option V)}(I:Inv X pins σ H s)(hl:σ'.length=σ.length)(w:∀(i:Nat) v,σ'[i]? =some (some v)->σ[i]? =some (some v)):Inv X pins σ' H s :=
 ⟨I.ok,I.os,I.bare,I.base,let ⟨m,hn,hl'⟩:=I.loc;⟨m,hn,fun i x v e1 e2 e3=>hl' i x v e1 (w i v e2) e3⟩,I.cell,I.free,I.freeC,I.pin,I.hok,hl.trans I.len⟩
theorem Inv.pins_of {pins':List (Addr×Obj)}(I:Inv X pins σ H s)(h:∀p∈pins',s.heap.get? p.1=some p.2/\H p.1=none/\p.1≠X.env.locals/\p.1∉X.fs/\∀v,p.2.data≠ .cell v):Inv X pins' σ H s :=
 ⟨I.ok,I.os,I.bare,I.base,I.loc,I.cell,I.free,I.freeC,fun p hp=>(List.mem_append.mp hp).elim (fun z=>I.pin p (List.mem_append_left _ z)) (h p),I.hok,I.len⟩
theorem FR {N:List Str}(hN:N.Nodup){i j:Nat}{x:Str} (a:N[i]? =some x) (b:N[j]? =some x):i=j:=by
 obtain⟨h1,e1⟩:=List.getElem?_eq_some_iff.mp a;obtain⟨h2,e2⟩:=List.getElem?_eq_some_iff.mp b;exact(List.getElem_inj hN).mp (e1.trans e2.symm)
theorem NN {M:Model}{A:Around}{E:Value->Shared->Prop}{i:Nat}{x:Str}{v:V}{u:Value}{Q:Unit->Shared->Prop} (I:Inv X pins σ H s) (hN:X.N.Nodup) (hi:X.N[i]? =some x) (hx:Loc X.env.scope x) (r:RelV v u)
  (h:∀s',Inv X pins (σ.set i (some v)) H s'->(∃a,Heap.SameBut a s.heap s'.heap/\(a=X.env.locals∨X.env.cells.lookup x=some a))->Q () s')(hf:X.fn x=true∨X.env.scope.names.lookup x=some .local:=by first|exact .inl rfl|exact .inr rfl|assumption):wpAny M A (storeName X.env x u) Q E s:=by
 obtain⟨m,hn,hl⟩:=id I.loc;have hcls:(X.env.scope.kind== .class||(X.env.scope.kind== .module&&X.env.locals !=X.env.globals))=false:=by rw[I.ok.kind];rfl
 have hiσ:i<σ.length:=by rw[I.len];exact(List.getElem?_eq_some_iff.mp hi).1
 have cne:=I.cne;have tracked:∀{a:Addr}{h':Heap},(∃o,s.heap.get? a=some o/\H a=none)->Heap.SameBut a s.heap h'->HOk X.prog X.w H h':=fun {a h'} ha hs b ob e=>by
  obtain⟨_,_,hfree⟩:=ha;refine(I.hok b ob e).stay (fun c w' hc q=>(hs.2 c ?_).trans q) (fun _ q=>q) fun _ _ q=>q;rintro rfl;rcases hc with rfl|hc
  ·rw[hfree]at e;cases e
  ·rw[hfree]at hc;cases hc
 rcases hx with hk|hk
 ·refine wpAny_storeName_local hk hn (fun h' hn' hs=> ?_) hcls;obtain⟨oL,_,_,hoL,_⟩:=id hn;refine h _ ⟨I.ok,I.os,I.bare,⟨fun b o e n hb hx=> ?_,fun b o e n hb hx=> ?_,I.base.free,fun b o e hx=> ?_,I.base.tups,I.base.frzs,I.base.tbls⟩,⟨_,hn',fun j y v' e1 e2 e3=> ?_⟩,fun y c e=> ?_,I.free,I.freeC,fun p hp=> ?_,tracked ⟨oL,hoL,I.free⟩ hs,by simpa using I.len⟩ ⟨_,hs,.inl rfl⟩
  ·exact(hs.2 b (Nat.ne_of_lt (Nat.lt_of_lt_of_le (Heap.lt_size e) I.ok.above))).trans (I.base.keep b o e n hb hx)
  ·obtain⟨sl,e1⟩:=I.base.slot b o e n hb hx;exact⟨sl,(hs.2 b (Nat.ne_of_lt (Nat.lt_of_lt_of_le (Heap.lt_size e) I.ok.above))).trans e1⟩
  ·obtain⟨o',e1⟩:=I.base.there b o e hx;exact⟨o',(hs.2 b (Nat.ne_of_lt (Nat.lt_of_lt_of_le (Heap.lt_size e) I.ok.above))).trans e1⟩
  ·by_cases hj:j=i
   ·subst hj;rw[hi]at e1;cases e1;rw[List.getElem?_set_self hiσ]at e2;cases e2;exact⟨u,r,.inl ⟨hk,by simp⟩⟩
   ·rw[List.getElem?_set_ne (Ne.symm hj)]at e2;obtain⟨u',r',q⟩:=hl j y v' e1 e2 e3;refine⟨u',r',?_⟩;rcases q with⟨k,e⟩|⟨k,c,e,z⟩
    ·refine .inl ⟨k,?_⟩;have:y≠x:=fun e=>hj (FR hN e1 (e▸hi));simp[this,e]
    ·exact .inr ⟨k,c,e,z.sameBut hs (cne y c e)⟩
  ·obtain⟨w',z⟩:=I.cell y c e;exact⟨w',z.sameBut hs (cne y c e)⟩
  ·obtain⟨e,n,ne,nf,d⟩:=I.pin p hp;exact⟨(hs.2 p.1 ne).trans e,n,ne,nf,d⟩
 ·have hfn:X.fn x=true:=by
   rcases hf with z|z
   ·exact z
   ·rw[z]at hk;cases hk
  obtain⟨c,hc⟩:=I.ok.has x (.inl hk);obtain⟨w',z⟩:=I.cell x c hc;refine wpAny_storeName_cell I.ok.kind hk hc z (fun h' hc' hs=> ?_);obtain⟨oc,hoc,hocd⟩:=id z;refine h { s with heap:=h' } ⟨I.ok,I.os,I.bare,⟨fun b o e n hb hx=> ?_,fun b o e n hb hx=> ?_,I.base.free,fun b o e hx=> ?_,I.base.tups,I.base.frzs,I.base.tbls⟩,⟨m,hn.sameBut hs (Ne.symm (cne x c hc)),fun j y v' e1 e2 e3=> ?_⟩,fun y c' e=> ?_,I.free,I.freeC,fun p hp=> ?_,tracked ⟨oc,hoc,I.freeC x c hc⟩ hs,by simpa using I.len⟩ ⟨c,hs,.inr hc⟩
  ·exact(hs.2 b (Nat.ne_of_lt (Nat.lt_of_lt_of_le (Heap.lt_size e) (I.ok.cab x c hfn hc)))).trans (I.base.keep b o e n hb hx)
  ·obtain⟨sl,e1⟩:=I.base.slot b o e n hb hx;exact⟨sl,(hs.2 b (Nat.ne_of_lt (Nat.lt_of_lt_of_le (Heap.lt_size e) (I.ok.cab x c hfn hc)))).trans e1⟩
  ·obtain⟨o',e1⟩:=I.base.there b o e hx;exact⟨o',(hs.2 b (Nat.ne_of_lt (Nat.lt_of_lt_of_le (Heap.lt_size e) (I.ok.cab x c hfn hc)))).trans e1⟩
  ·by_cases hj:j=i
   ·subst hj;rw[hi]at e1;cases e1;rw[List.getElem?_set_self hiσ]at e2;cases e2;exact⟨u,r,.inr ⟨.inl hk,c,hc,hc'⟩⟩
   ·rw[List.getElem?_set_ne (Ne.symm hj)]at e2;obtain⟨u',r',q⟩:=hl j y v' e1 e2 e3;refine⟨u',r',?_⟩;rcases q with q|⟨k,c',e,z'⟩
    ·exact .inl q
    ·refine .inr ⟨k,c',e,z'.sameBut hs ?_⟩;rintro rfl;exact hj (FR hN e1 (I.ok.inj _ _ _ e hc▸hi))
  ·by_cases hcc:c'=c
   ·subst hcc;exact⟨_,hc'⟩
   ·obtain⟨w2,z2⟩:=I.cell y c' e;exact⟨w2,z2.sameBut hs hcc⟩
  ·obtain⟨e,n,ne,nf,d⟩:=I.pin p hp;refine⟨(hs.2 p.1 ?_).trans e,n,ne,nf,d⟩;intro q;rw[q,hoc]at e;have q':oc=p.2:=Option.some.inj e;exact d w' (by rw[←q'];exact hocd)
theorem DQ {M:Model}{A:Around}{E:Value->Shared->Prop}{i:Nat}{x:Str}{v:V}{u:Value}{Q:Unit->Shared->Prop} (I:Inv X pins σ H s) (hN:X.N.Nodup) (hi:X.N[i]? =some x) (hx:Loc X.env.scope x) (r:RelV v u)
  (h:∀s',Inv X pins (σ.set i (some v)) H s'->Q () s')(hf:X.fn x=true∨X.env.scope.names.lookup x=some .local:=by first|exact .inl rfl|exact .inr rfl|assumption):wpAny M A (storeName X.env x u) Q E s :=
 NN I hN hi hx r (fun s' I' _=>h s' I') hf
theorem Inv.call' {s':Shared}{ch:List Addr} (I:Inv X pins σ H s) (ho:s'.os=s.os) (u:Un (frs X.stack) ch H H' s.heap s'.heap) (hok:HOk X.prog X.w H' s'.heap) (hg:AllBare s'.gens)
  (hch:∀b∈ch,(b∈X.ex∨X.s₀.heap.objs.size<=b)/\b≠X.env.locals/\(∀x c,X.env.cells.lookup x=some c->c≠b)/\∀p∈X.pn++pins,p.1≠b):Inv X pins σ H' s':=by
 obtain⟨h',g',d',t',o'⟩:=s';have e:o'=s.os:=ho;subst e;exact I.call (g':=g') (t':=t') (d':=d') u hok hg hch
end
abbrev XK:=Value->Option Addr->Hp->Prop
abbrev St:=List (Option V)
abbrev VK:=V->Hp->Prop
abbrev TE:=St->Hp->VK->Prop
abbrev TT:=St->Hp->(Bool->Hp->Prop)->Prop
abbrev TA:=St->Hp->(List V->Hp->Prop)->Prop
structure dE where
 nx:St->Hp->Prop
 rt:VK
 bk:St->Hp->Prop:=fun _ _=>False
 ct:St->Hp->Prop:=fun _ _=>False
abbrev TS:=dE->St->Hp->Prop
def EP (X:Cx)(pins:List (Addr×Obj))(σ:St)(Q:VK)(u:Value)(s':Shared):Prop:=∃v H',Inv X pins σ H' s'/\RelV v u/\Q v H'
def TP (X:Cx)(pins:List (Addr×Obj))(σ:St)(Q:Bool->Hp->Prop)(b:Bool)(s':Shared):Prop:=∃H',Inv X pins σ H' s'/\Q b H'
def AP (X:Cx)(pins:List (Addr×Obj))(σ:St)(Q:List V->Hp->Prop)(us:List Value)(s':Shared):Prop:=∃vs H',Inv X pins σ H' s'/\Vals vs us/\Q vs H'
def SP (X:Cx)(pins:List (Addr×Obj))(D:dE)(f:Flow)(s':Shared):Prop :=
 match f with
 | .next=>∃σ' H',Inv X pins σ' H' s'/\D.nx σ' H'
 | .brk=>∃σ' H',Inv X pins σ' H' s'/\D.bk σ' H'
 | .cont=>∃σ' H',Inv X pins σ' H' s'/\D.ct σ' H'
 | .ret u=>∃v σ' H',Inv X pins σ' H' s'/\RelV v u/\D.rt v H'
def PE (X:Cx)(e:Expr)(t:TE):Prop :=
 ∀(pins:List (Addr×Obj)) (s:Shared) (σ:St) (H:Hp) (Q:VK),Inv X pins σ H s->t σ H Q->wpAny (model X.prog X.w) X.A (eval e X.env) (EP X pins σ Q) X.xe s
def PT (X:Cx)(e:Expr)(t:TT):Prop :=
 ∀(pins:List (Addr×Obj)) (s:Shared) (σ:St) (H:Hp) (Q:Bool->Hp->Prop),Inv X pins σ H s->t σ H Q->wpAny (model X.prog X.w) X.A (isTrue e X.env (eval e X.env)) (TP X pins σ Q) X.xe s
def PW (X:Cx)(e:Expr)(t:TT):Prop :=
 ∀(whole:Sem Value) (pins:List (Addr×Obj)) (s:Shared) (σ:St) (H:Hp) (Q:Bool->Hp->Prop),Inv X pins σ H s->t σ H Q->wpAny (model X.prog X.w) X.A (isTrue e X.env whole) (TP X pins σ Q) X.xe s
theorem PW.pt {X:Cx}{e:Expr}{t:TT} (h:PW X e t):PT X e t:=h _
def PA (X:Cx)(es:List Expr)(t:TA):Prop :=
 ∀(pos:Pos) (pins:List (Addr×Obj)) (s:Shared) (σ:St) (H:Hp) (Q:List V->Hp->Prop),Inv X pins σ H s->t σ H Q->wpAny (model X.prog X.w) X.A (spliced (backTo pos (starEach es X.env))) (AP X pins σ Q) X.xe s
def PS (X:Cx)(st:Stmt)(t:TS):Prop :=
 ∀(pins:List (Addr×Obj)) (s:Shared) (σ:St) (H:Hp) (D:dE),Inv X pins σ H s->t D σ H->wpAny (model X.prog X.w) X.A (exec st X.env) (SP X pins D) X.xe s
def PSs (X:Cx)(st:List Stmt)(t:TS):Prop :=
 ∀(pins:List (Addr×Obj)) (s:Shared) (σ:St) (H:Hp) (D:dE),Inv X pins σ H s->t D σ H->wpAny (model X.prog X.w) X.A (execs st X.env) (SP X pins D) X.xe s
theorem thn {α:Type}{t:Sem α}{Q Q':α->Shared->Prop}{M:Model}{A:Around}{E:Value->Shared->Prop}{s:Shared} (h:wpAny M A t Q E s) (hQ:∀a s,Q a s->Q' a s):wpAny M A t Q' E s:=wpAny_mono h hQ fun _ _ x=>x
end L2
namespace L2
open PySem PySem.Spec PyProof.Rows
section
variable {X:Cx}
def iX (i:Nat):TE:=fun σ H Q=>∃v,σ[i]? =some (some v)/\Q v H
def tC (v:V):TE:=fun _ H Q=>Q v H
theorem MF {i:Nat}{x:Str}{pos:Pos} (hN:X.N[i]? =some x) (hv:Vis X.env.scope x) (hd:(x==("__debug__" :Str))=false:=by decide) (hcd:(x==("__classdict__" :Str))=false:=by decide):PE X (.Name x pos) (iX i):=by
 intro pins s σ H Q I h;obtain⟨v,e,h⟩:=h;obtain⟨m,hn,hl⟩:=I.loc;obtain⟨u,r,l⟩:=hl i x v hN e hv;have fin:EP X pins σ Q u s:=⟨v,H,I,r,h⟩
 rcases l with⟨hk,hm⟩|⟨hk,c,hc,hcell⟩
 ·exact wpAny_Name (wpAny_loadName_local I.ok.kind hk hn hm fin) hd
 ·rcases hk with hk|hk
  ·exact wpAny_Name (wpAny_loadName_cell I.ok.kind hk hc hcell fin) hd
  ·exact wpAny_Name (wpAny_loadName_free I.ok.kind hk hc hcell fin hcd) hd
theorem aF {i j pos}:PE X (.Constant (.int i) j pos) (tC (.int i)):=fun _ _ _ H _ I h=>wpAny_Constant_int ⟨.int i,H,I.tok _,⟨_,rfl⟩,h⟩
theorem vJ {b j pos}:PE X (.Constant (.bool b) j pos) (tC (.bl b)):=fun _ _ _ H _ I h=>Constant_bool ⟨.bl b,H,I,rfl,h⟩
theorem oI {j pos}:PE X (.Constant .none j pos) (tC .non):=fun _ _ _ H _ I h=>Constant_none ⟨.non,H,I,rfl,h⟩
theorem gO {x j pos}:PE X (.Constant (.str x) j pos) (tC (.str x)):=fun _ _ _ H _ I h=>Calls.Constant_str ⟨.str x,H,I.tok _,⟨_,rfl⟩,h⟩
def Gl (X:Cx)(x:Str):Prop:=X.env.kindOf x=some .globalImplicit
theorem rW {E:Value->Shared->Prop}{pins:List (Addr×Obj)}{s:Shared}{σ:St}{H:Hp}{x:Str}{u:Value}{pos:Pos}{Q:Value->Shared->Prop} (I:Inv X pins σ H s) (hg:Gl X x) (hm:X.mg x=some u) (h:Q u s)
  (hd:(x==("__debug__" :Str))=false:=by decide):wpAny (model X.prog X.w) X.A (eval (.Name x pos) X.env) Q E s :=
 Calls.Name_function_global I.ok.kind hg (Calls.loadGlobal_global (by rw[I.ok.glob];exact I.mod.glob.keeps I.bk) hm h) hd
theorem uB {E:Value->Shared->Prop}{pins:List (Addr×Obj)}{s:Shared}{σ:St}{H:Hp}{x:Str}{u:Value}{pos:Pos}{Q:Value->Shared->Prop} (I:Inv X pins σ H s) (hg:Gl X x) (hm:X.mg x=none) (hv:bootBuiltins x=some u) (h:Q u s)
  (hn:x≠ "__name__" :=by decide)(hd:(x==("__debug__" :Str))=false:=by decide):wpAny (model X.prog X.w) X.A (eval (.Name x pos) X.env) Q E s:=by
 obtain⟨mb,h1,h2⟩:=I.mod.blt;exact Calls.Name_function_global I.ok.kind hg (Calls.loadGlobal_builtin (by rw[I.ok.glob];exact I.mod.glob.keeps I.bk) hm (by rw[I.ok.blt];exact h1.keeps I.bk) ((h2 x hn).trans hv) h) hd
theorem W0 {x:Str}{v:V}{u:Value}{pos:Pos} (hg:Gl X x) (hm:X.mg x=some u) (r:RelV v u) (hd:(x==("__debug__" :Str))=false:=by decide):PE X (.Name x pos) (tC v) :=
 fun _ _ _ H _ I h=>rW I hg hm ⟨v,H,I,r,h⟩ hd
theorem U7 {x:Str}{v:V}{u:Value}{pos:Pos} (hg:Gl X x) (hm:X.mg x=none) (hv:bootBuiltins x=some u) (r:RelV v u) (hn:x≠ "__name__" :=by decide) (hd:(x==("__debug__" :Str))=false:=by decide):PE X (.Name x pos) (tC v) :=
 fun _ _ _ H _ I h=>uB I hg hm hv ⟨v,H,I,r,h⟩ hn hd
variable {a b:Expr}{ta tb:TE}{pos:Pos}
def PC (X:Cx)(op:CmpOp)(a b:Expr)(t:TE):Prop :=
 ∀(pins:List (Addr×Obj)) (s:Shared) (σ:St) (H:Hp) (Q:VK),Inv X pins σ H s->t σ H Q →
  wpAny (model X.prog X.w) X.A (eval a X.env) (fun v s₁=>wpAny (model X.prog X.w) X.A (eval b X.env) (fun u s₂=>wpAny (model X.prog X.w) X.A (compareOp op v u) (EP X pins σ Q) X.xe s₂) X.xe s₁) X.xe s
def tB (t:TE):TT:=fun σ H Q=>t σ H fun x H1=>∃c,x= .bl c/\Q c H1
theorem F5 {op:CmpOp}{t:TE} (h:PC X op a b t) (h1:behindInMarks op b=false:=by first|exact nobehind _ (by decide) (by decide)|rfl):PT X (.Compare a [op] [b] pos) (tB t):=by
 intro pins s σ H Q I hw;refine wpAny_isTrue_Compare1 (thn (h pins s σ H _ I hw) fun v s1 h1=>thn h1 fun u s2 h2=>thn h2 fun c s3 ⟨x,H1,I1,r1,q1⟩=> ?_) h1;obtain⟨d,rfl,q⟩:=q1;cases r1;exact wpAny_truthy_bool ⟨H1,I1,q⟩
theorem iL {e:Expr}{t:TE} (h:PE X e t) (he:∀whole,isTrue e X.env whole=(do let v ←whole;standAt e.pos;holding [v] (truthy v)):=by intro _;rfl):PT X e (tB t):=by
 intro pins s σ H Q I hw;refine isTrue_plain (thn (h pins s σ H _ I hw) fun v s1 ⟨x,H1,I1,r1,q1⟩=> ?_) (he _);obtain⟨d,rfl,q⟩:=q1;cases r1;exact wpAny_truthy_bool ⟨H1,I1,q⟩
variable {tA tB':TT}{rest:List Expr}
def Y7 (t u:TT):TT:=fun σ H Q=>t σ H fun c H1=>if c=true then u σ H1 Q else Q false H1
def tOr (t u:TT):TT:=fun σ H Q=>t σ H fun c H1=>if c=true then Q true H1 else u σ H1 Q
def X7 (t:TT):TT:=fun σ H Q=>t σ H fun c H1=>Q (!c) H1
theorem rT (ha:PT X a tA):PW X (.BoolOp .And [a] pos) tA:=by
 intro wh pins s σ H Q I h;refine isTrue_and (thn (ha pins s σ H Q I h) fun c s1 e=> ?_);cases c with
 | true=>exact isTrue_and_nil e
 | false=>exact e
theorem NH (ha:PT X a tA):PW X (.BoolOp .Or [a] pos) tA:=by
 intro wh pins s σ H Q I h;refine isTrue_or (thn (ha pins s σ H Q I h) fun c s1 e=> ?_);cases c with
 | false=>exact isTrue_or_nil e
 | true=>exact e
theorem uV (ha:PT X a tA)(hb:PW X (.BoolOp .And (b::rest) pos) tB'):PW X (.BoolOp .And (a::b::rest) pos) (Y7 tA tB'):=by
 intro wh pins s σ H Q I h;refine isTrue_and (thn (ha pins s σ H _ I h) fun c s1 ⟨H1,I1,q1⟩=> ?_);cases c with
 | true=>exact hb wh pins s1 σ H1 Q I1 q1
 | false=>exact⟨H1,I1,q1⟩
theorem ST (ha:PT X a tA)(hb:PW X (.BoolOp .Or (b::rest) pos) tB'):PW X (.BoolOp .Or (a::b::rest) pos) (tOr tA tB'):=by
 intro wh pins s σ H Q I h;refine isTrue_or (thn (ha pins s σ H _ I h) fun c s1 ⟨H1,I1,q1⟩=> ?_);cases c with
 | true=>exact⟨H1,I1,q1⟩
 | false=>exact hb wh pins s1 σ H1 Q I1 q1
theorem oN (ha:PT X a tA):PT X (.UnaryOp .Not a pos) (X7 tA):=by
 intro pins s σ H Q I h;exact isTrue_not (ha pins s σ H (fun c H1=>Q (!c) H1) I h)
def aBc (ta tb:TE):TE:=fun σ H Q=>ta σ H fun x H1=>∃c,x= .bl c/\if c=true then tb σ H1 Q else Q (.bl false) H1
def aBb (ta:TE):TE:=fun σ H Q=>ta σ H fun x H1=>∃c,x= .bl c/\Q (.bl (!c)) H1
theorem OY {op}{t:TE} (h:PE X a t):PE X (.BoolOp op [a] pos) t:=fun pins s σ H Q I hw=>BoolOp_one (h pins s σ H Q I hw)
theorem L0 (ha:PE X a ta)(hb:PE X (.BoolOp .And (b::rest) pos) tb):PE X (.BoolOp .And (a::b::rest) pos) (aBc ta tb):=by
 intro pins s σ H Q I h;refine BoolOp_and (thn (ha pins s σ H _ I h) fun v s1 ⟨x,H1,I1,r1,q1⟩=> ?_);obtain⟨c,rfl,q1⟩:=q1;cases r1;refine wpAny_truthy_bool ?_;cases c with
 | true=>exact hb pins s1 σ H1 Q I1 q1
 | false=>exact⟨.bl false,H1,I1,rfl,q1⟩
theorem ZA (ha:PE X a ta):PE X (.UnaryOp .Not a pos) (aBb ta):=by
 intro pins s σ H Q I h;refine UnaryOp_ (thn (ha pins s σ H _ I h) fun v s1 ⟨x,H1,I1,r1,q1⟩=> ?_);obtain⟨c,rfl,q1⟩:=q1;cases r1;exact not_of (wpAny_truthy_bool ⟨.bl (!c),H1,I1,rfl,q1⟩)
def tIf (t:TT)(ta tb:TE):TE:=fun σ H Q=>t σ H fun c H1=>if c=true then ta σ H1 Q else tb σ H1 Q
theorem wW {c:Expr}(hc:PT X c tA)(ha:PE X a ta)(hb:PE X b tb):PE X (.IfExp c a b pos) (tIf tA ta tb):=by
 intro pins s σ H Q I h;refine wpAny_IfExp (thn (hc pins s σ H _ I h) fun d s1 ⟨H1,I1,q1⟩=> ?_);cases d with
 | true=>exact ha pins s1 σ H1 Q I1 q1
 | false=>exact hb pins s1 σ H1 Q I1 q1
end
end L2
namespace L2
open PySem PySem.Spec PyProof.Rows
def SqL (K:PySem.W.Frag)(H:Hp)(a:Addr)(xs:List V):Prop :=
 Rd H a (.lst xs) ∨
  ∃(o:Obj) (its:Array Value) (n:Nat),K.lookup a=some o/\o.cls= .type "list" /\o.dict=none/\o.data= .seq its n/\its.size<=sizeLine/\Vals xs its.toList
def SqT (K:PySem.W.Frag)(H:Hp)(a:Addr)(xs:List V):Prop :=
 Rd H a (.tup xs) ∨
  ∃(o:Obj) (its:Array Value) (n:Nat),K.lookup a=some o/\o.cls= .type "tuple" /\o.data= .seq its n/\its.size<=sizeLine/\Vals xs its.toList
def aBD:Value->Option V
 | .none=>some .non
 | .bool b=>some (.bl b)
 | .int i _=>some (.int i)
 | .str x _=>some (.str x)
 | .bytes b _=>some (.byt b)
 | .float b _=>some (.flt b)
 | .ref a=>some (.ref a)
 | .type n=>some (.ty n)
 | _=>none
theorem RelV.abs {x:V}{u:Value} (r:RelV x u):aBD u=some x:=by
 cases x with
 | non=>cases r;rfl
 | bl _=>cases r;rfl
 | int _=>obtain⟨t,rfl⟩:=r;rfl
 | str _=>obtain⟨t,rfl⟩:=r;rfl
 | byt _=>obtain⟨t,rfl⟩:=r;rfl
 | flt _=>obtain⟨t,rfl⟩:=r;rfl
 | ref _=>cases r;rfl
 | ty _=>cases r;rfl
theorem RelV.inj {x y:V}{u:Value} (r:RelV x u) (q:RelV y u):x=y:=Option.some.inj (r.abs.symm.trans q.abs)
theorem Vals.inj:∀{xs ys:List V}{us:List Value},Vals xs us->Vals ys us->xs=ys
 | _,_,_,.nil,.nil=>rfl
 | _,_,_,.cons r t,.cons r' t'=>by rw[r.inj r',Vals.inj t t']
section
variable {X:Cx}{pins:List (Addr×Obj)}{σ:St}{H:Hp}{s:Shared}{a:Addr}{xs ys:List V}
theorem SqL.of {K:PySem.W.Frag}(h:H a=some (.lst xs)):SqL K H a xs:= .inl (.inl h)
theorem SqT.of {K:PySem.W.Frag}(h:H a=some (.tup xs)):SqT K H a xs:= .inl (.inl h)
theorem Inv.list (I:Inv X pins σ H s)(h:SqL X.K H a xs):∃its:List Value,Vals xs its/\PlainL s.heap a its.toArray/\xs.length<=sizeLine:=by
 rcases h with h|⟨o,its,n,hk,hc,hd,hs,hz,r⟩
 ·obtain⟨z,its,n,r,e⟩:=h.ok I.hok;exact⟨its,r,⟨_,n,e,rfl,rfl,rfl⟩,z⟩
 ·refine⟨its.toList,r,⟨o,n,I.kIn a o hk,hc,hd,by simpa using hs⟩,?_⟩;have e:=r.length;simp only[Array.length_toList]at e
  lia
theorem Inv.tuple (I:Inv X pins σ H s)(h:SqT X.K H a xs):∃its:List Value,Vals xs its/\IsTup s.heap a its.toArray/\xs.length<=sizeLine:=by
 rcases h with h|⟨o,its,n,hk,hc,hs,hz,r⟩
 ·obtain⟨z,its,r,p⟩:=h.ok I.hok;exact⟨its,r,p,z⟩
 ·refine⟨its.toList,r,⟨o,I.kIn a o hk,hc,n,by simpa using hs⟩,?_⟩;have e:=r.length;simp only[Array.length_toList]at e
  lia
theorem Inv.list_inj (I:Inv X pins σ H s)(h:SqL X.K H a xs)(h':SqL X.K H a ys):xs=ys:=by
 obtain⟨its,r,⟨o,n,e,_,_,d⟩,_⟩:=I.list h;obtain⟨its',r',⟨o',n',e',_,_,d'⟩,_⟩:=I.list h';rw[e]at e';cases e';rw[d]at d';injection d' with d1 _;have:its=its':=by simpa using congrArg Array.toList d1
 subst this;exact r.inj r'
end
abbrev Cx.wish (X:Cx)(E:Value->Shared->Prop):Cx:={ X with xe:=E }
abbrev Cx.nox (X:Cx):Cx:=X.wish fun _ _=>False
theorem Cx.Ok.wish {X:Cx}(ok:X.Ok)(E:Value->Shared->Prop):(X.wish E).Ok :=
 ⟨ok.mod,ok.kind,ok.glob,ok.blt,ok.above,ok.inj,ok.has,ok.cab,ok.hd,ok.frames,ok.stk,ok.exf,ok.bs,ok.bsz,ok.noex,ok.exfs,ok.funs,ok.frf⟩
theorem Cx.Ok.unwish {X:Cx}{E:Value->Shared->Prop} (ok:(X.wish E).Ok):X.Ok :=
 ⟨ok.mod,ok.kind,ok.glob,ok.blt,ok.above,ok.inj,ok.has,ok.cab,ok.hd,ok.frames,ok.stk,ok.exf,ok.bs,ok.bsz,ok.noex,ok.exfs,ok.funs,ok.frf⟩
section
variable {X:Cx}{pins:List (Addr×Obj)}{σ:St}{H:Hp}{s:Shared}{E:Value->Shared->Prop}
theorem Inv.wish (I:Inv X pins σ H s)(E:Value->Shared->Prop):Inv (X.wish E) pins σ H s:=⟨I.ok.wish E,I.os,I.bare,I.base,I.loc,I.cell,I.free,I.freeC,I.pin,I.hok,I.len⟩
theorem Inv.unwish (I:Inv (X.wish E) pins σ H s):Inv X pins σ H s:=⟨I.ok.unwish,I.os,I.bare,I.base,I.loc,I.cell,I.free,I.freeC,I.pin,I.hok,I.len⟩
theorem SP.unwish {D:dE}{f:Flow}{s':Shared} (h:SP (X.wish E) pins D f s'):SP X pins D f s':=by
 cases f with
 | next=>obtain⟨σ',H',I,q⟩:=h;exact⟨σ',H',I.unwish,q⟩
 | brk=>obtain⟨σ',H',I,q⟩:=h;exact⟨σ',H',I.unwish,q⟩
 | cont=>obtain⟨σ',H',I,q⟩:=h;exact⟨σ',H',I.unwish,q⟩
 | ret u=>obtain⟨v,σ',H',I,r,q⟩:=h;exact⟨v,σ',H',I.unwish,r,q⟩
theorem PE.nox {e:Expr}{t:TE} (h:PE X.nox e t):PE X e t:=fun pins s σ H Q I hw =>
 wpAny_mono (h pins s σ H Q (I.wish _) hw) (fun _ _ ⟨v,H',I',r,q⟩=>⟨v,H',I'.unwish,r,q⟩) fun _ _ z=>False.elim z
theorem PSs.nox {st:List Stmt}{t:TS} (h:PSs X.nox st t):PSs X st t:=fun pins s σ H D I hw =>
 wpAny_mono (h pins s σ H D (I.wish _) hw) (fun _ _ q=>q.unwish) fun _ _ z=>False.elim z
end
section
variable {X:Cx}{st:Stmt}{rest:List Stmt}{t u:TS}{e:Expr}{te:TE}{pos:Pos}
def SX:TS:=fun D σ H=>D.nx σ H
def KA (t u:TS):TS:=fun D σ H=>t { D with nx:=u D } σ H
theorem bP:PSs X [] SX:=fun _ _ σ H _ I h=>wpAny_execs_nil ⟨σ,H,I,h⟩
theorem aC (h1:PS X st t)(h2:PSs X rest u):PSs X (st::rest) (KA t u):=by
 intro pins s σ H D I h;refine wpAny_execs_cons (thn (h1 pins s σ H { D with nx:=u D } I h) fun f s1 q=> ?_);cases f with
 | next =>
  obtain⟨σ',H',I',q⟩:=q;exact h2 pins s1 σ' H' D I' q
 | ret v=>exact q
 | brk=>exact q
 | cont=>exact q
theorem aE (h1:PS X st t):PSs X [st] t:=by
 intro pins s σ H D I h;refine wpAny_execs_cons (thn (h1 pins s σ H D I h) fun f s1 q=> ?_);cases f with
 | next=>exact wpAny_execs_nil q
 | ret v=>exact q
 | brk=>exact q
 | cont=>exact q
theorem Inv.quiet {pins:List (Addr×Obj)}{σ:St}{H:Hp}{s:Shared} (I:Inv X pins σ H s):interactive X.env=false:=by simp[interactive,I.ok.kind]
def SR (te:TE):TS:=fun D σ H=>te σ H fun _ H1=>D.nx σ H1
theorem bU (he:PE X e te)(hs:swapsWith e none pos.line X.env=pure false:=by rfl):PS X (.Expr e pos) (SR te):=by
 intro pins s σ H D I h;exact wpAny_Expr_any (thn (he pins s σ H _ I h) fun v s1 ⟨x,H1,I1,r1,q1⟩=>⟨σ,H1,I1,q1⟩) I.quiet hs
def YO (te:TE):TS:=fun D σ H=>te σ H D.rt
theorem aT (he:PE X e te):PS X (.Return (some e) pos) (YO te):=by
 intro pins s σ H D I h;exact wpAny_Return_some (thn (he pins s σ H _ I h) fun v s1 ⟨x,H1,I1,r1,q1⟩=>⟨x,σ,H1,I1,r1,q1⟩)
def KU (c:TT)(t u:TS):TS:=fun D σ H=>c σ H fun b H1=>if b=true then t D σ H1 else u D σ H1
theorem cF {c:Expr}{a b:List Stmt}{tc:TT} (hc:PT X c tc) (ha:PSs X a t) (hb:PSs X b u):PS X (.If c a b pos) (KU tc t u):=by
 intro pins s σ H D I h;refine wpAny_If (thn (hc pins s σ H _ I h) fun d s1 ⟨H1,I1,q1⟩=> ?_);cases d with
 | true=>exact ha pins s1 σ H1 D I1 q1
 | false=>exact hb pins s1 σ H1 D I1 q1
def ZY:TS:=fun _ _ _=>False
theorem fN:PS X st ZY:=fun _ _ _ _ _ _ h=>h.elim
end
abbrev TG:=V->St->Hp->(St->Hp->Prop)->Prop
abbrev TGs:=List V->St->Hp->(St->Hp->Prop)->Prop
def PG (X:Cx)(target:Expr)(t:TG):Prop :=
 ∀(pins:List (Addr×Obj)) (s:Shared) (σ:St) (H:Hp) (v:V) (u:Value) (Q:St->Hp->Prop),Inv X pins σ H s->RelV v u->t v σ H Q →
  wpAny (model X.prog X.w) X.A (assign target X.env u) (fun _ s'=>∃σ' H',Inv X pins σ' H' s'/\Q σ' H') X.xe s
def PGs (X:Cx)(ts:List Expr)(t:TGs):Prop :=
 ∀(pins:List (Addr×Obj)) (s:Shared) (σ:St) (H:Hp) (vs:List V) (us:List Value) (Q:St->Hp->Prop),Inv X pins σ H s->Vals vs us->t vs σ H Q →
  wpAny (model X.prog X.w) X.A (assignInOrder ((assignEach ts X.env).map (·.2)) us) (fun _ s'=>∃σ' H',Inv X pins σ' H' s'/\Q σ' H') X.xe s
abbrev J7:=V->V->V->Hp->(Hp->Prop)->Prop
def Z5 (X:Cx)(t:J7):Prop :=
 ∀(pins:List (Addr×Obj)) (s:Shared) (σ:St) (H:Hp) (o i v:V) (ov iv u:Value) (Q:Hp->Prop),Inv X pins σ H s->RelV o ov->RelV i iv->RelV v u->t o i v H Q →
  wpAny (model X.prog X.w) X.A (setItem ov iv u) (fun _ s'=>∃H',Inv X pins σ H' s'/\Q H') X.xe s
section
variable {X:Cx}{pos:Pos}
def cA (i:Nat):TG:=fun v σ H Q=>Q (σ.set i (some v)) H
theorem aK {i:Nat}{x:Str} (hN:X.N.Nodup) (hi:X.N[i]? =some x) (hx:Loc X.env.scope x) (hf:X.fn x=true∨X.env.scope.names.lookup x=some .local:=by first|exact .inl rfl|exact .inr rfl|assumption):PG X (.Name x pos) (cA i):=by
 intro pins s σ H v u Q I r h;exact wpAny_assign_Name (DQ I hN hi hx r (fun s' I'=>⟨_,H,I',h⟩) hf)
def AO:TGs:=fun vs σ H Q=>vs=[]/\Q σ H
def jK (t:TG)(u:TGs):TGs:=fun vs σ H Q=>∃v r,vs=v::r/\t v σ H fun σ' H'=>u r σ' H' Q
theorem c4:PGs X [] AO:=by
 intro pins s σ H vs us Q I r h;obtain⟨e,h⟩:=h;subst e;cases r;exact assignInOrder_nil ⟨σ,H,I,h⟩
theorem aW {e:Expr}{es:List Expr}{t:TG}{u:TGs} (h1:PG X e t) (h2:PGs X es u)
  (hs:(assignEach (e::es) X.env).map (·.2)=assign e X.env::(assignEach es X.env).map (·.2):=by rfl):PGs X (e::es) (jK t u):=by
 intro pins s σ H vs us Q I r h;obtain⟨v,vr,e1,h⟩:=h;subst e1;cases r with
 | cons r rr =>
  rw[hs];refine assignInOrder_cons (thn (h1 pins s σ H _ _ _ I r h) fun _ s1 ⟨σ1,H1,I1,q1⟩=> ?_);exact h2 pins s1 σ1 H1 _ _ Q I1 rr q1
def xN (K:PySem.W.Frag)(n:Nat)(t:TGs):TG:=fun v σ H Q=>∃a xs,v= .ref a/\SqT K H a xs/\xs.length=n/\t xs σ H Q
theorem lM {es:List Expr}{k:Nat}{t:TGs}{n:Nat} (hc:X.calm=true) (h:PGs X es t)
  (hn:(assignEach es X.env).length=n:=by rfl)(hst:(assignEach es X.env).findIdx? (·.1)=none:=by rfl):PG X (.Tuple es k pos) (xN X.K n t):=by
 intro pins s σ H v u Q I r hw;obtain⟨a,xs,e1,hq,hl,hw⟩:=hw;subst e1;cases r;obtain⟨its,rv,ht,hz⟩:=I.tuple hq;refine assign_Tuple_tuple (I.ok.hd hc) ht (by simp[hn,←hl,rv.length]) hst fun h' hx=> ?_;have I1:Inv X pins σ H { s with heap:=h' }:=I.kept (t':=s.toks) fun b o e=>hx b o (Nat.ne_of_lt (Heap.lt_size e)) e;exact h pins _ σ H xs _ Q I1 (by simpa using rv) hw
def YB (to ti:TE)(t:J7):TG:=fun v σ H Q=>to σ H fun o H1=>ti σ H1 fun i H2=>t o i v H2 fun H3=>Q σ H3
theorem aAf {o i:Expr}{to ti:TE}{t:J7} (ho:PE X o to) (hi:PE X i ti) (hs:Z5 X t)
  (ha:∀v,assign (.Subscript o i pos) X.env v=(do
   let ov ←holding [v] (eval o X.env);let iv ←holding [v,ov] (eval i X.env)
   standAt pos
   holding [v,ov,iv] (setItem ov iv v)
   release [v,ov,iv] []):=by intro _;rfl):PG X (.Subscript o i pos) (YB to ti t):=by
 intro pins s σ H v u Q I r h;rw[ha];refine wpAny_bind (wpAny_holding (thn (ho pins s σ H _ I h) fun ov s1 ⟨x,H1,I1,r1,q1⟩=> ?_));refine wpAny_bind (wpAny_holding (thn (hi pins s1 σ H1 _ I1 q1) fun iv s2 ⟨y,H2,I2,r2,q2⟩=> ?_));refine wpAny_bind (wpAny_standAt (wpAny_bind (wpAny_holding (thn (hs pins s2 σ H2 x y v ov iv u _ I2 r1 r2 r q2) fun _ s3 ⟨H3,I3,q3⟩=> ?_))));exact wpAny_release ⟨σ,H3,I3,q3⟩
def K8 (te:TE)(g:TG):TS:=fun D σ H=>te σ H fun x H1=>g x σ H1 D.nx
theorem YV {tg e:Expr}{te:TE}{g:TG} (he:PE X e te) (hg:PG X tg g) (hs:swapsWithSole [tg] e pos.line X.env=pure false:=by rfl) (hw:swappedStores [tg] e X.env=pure none:=by rfl)
  (h1:(assignEach [tg] X.env).map (·.2)=[assign tg X.env]:=by rfl):PS X (.Assign [tg] e pos) (K8 te g):=by
 intro pins s σ H D I h;refine wpAny_Assign_stores (thn (he pins s σ H _ I h) fun v s1 ⟨x,H1,I1,r1,q1⟩=> ?_) hs hw;rw[h1];exact thn (hg pins s1 σ H1 x v _ I1 r1 q1) fun _ s2 q=>q
theorem aQ {i:Nat}{x:Str}{e:Expr}{te:TE}{pos':Pos} (hN:X.N.Nodup) (hi:X.N[i]? =some x) (hx:Loc X.env.scope x) (he:PE X e te) (hs:swapsWith e (some (.Name x pos')) pos.line X.env=pure false:=by rfl) (hf:X.fn x=true∨X.env.scope.names.lookup x=some .local:=by first|exact .inl rfl|exact .inr rfl|assumption) :
  PS X (.Assign [.Name x pos'] e pos) (K8 te (cA i)):=by
 intro pins s σ H D I h;refine wpAny_Assign_Name (thn (he pins s σ H _ I h) fun v s1 ⟨y,H1,I1,r1,q1⟩=> ?_) hs;exact DQ I1 hN hi hx r1 (fun s2 I2=>⟨_,H1,I2,q1⟩) hf
end
section
variable {X:Cx}{pos:Pos}
def OU (c:TT)(tb:TS):TS:=fun D σ H=>∃W:Nat->St->Hp->Prop,(∃m,W m σ H)/\∀m σ H,W m σ H →
 c σ H fun b H1=>if b=true then ∃N:St->Hp->Prop,(∀σ' H',N σ' H'->∃m',m'<m/\W m' σ' H')/\tb { D with nx:=N,ct:=N,bk:=D.nx } σ H1 else D.nx σ H1
theorem R4 {c:Expr}{body:List Stmt}{tc:TT}{tb:TS} (hp:PassesOwn (model X.prog X.w) X.A X.env X.xe) (hc:PT X c tc) (hb:PSs X body tb):PS X (.While c body [] pos) (OU tc tb):=by
 intro pins s σ H D I h;obtain⟨W,⟨m0,w0⟩,turn⟩:=h;refine wpAny_While (codeAny_whileLoop (fun n s'=>∃σ' H',Inv X pins σ' H' s'/\W n σ' H') ?_ m0 ⟨σ,H,I,w0⟩);rintro n s1 ⟨σ1,H1,I1,w1⟩;refine wpAny_passesOwn hp (thn (hc pins s1 σ1 H1 _ I1 (turn n σ1 H1 w1)) fun b s2 ⟨H2,I2,q2⟩=> ?_);cases b with
 | true =>
  obtain⟨N,hN,q2⟩:=q2;rw[if_pos rfl];refine wpAny_passesOwn hp (thn (hb pins s2 σ1 H2 _ I2 q2) fun f s3 q3=> ?_);cases f with
  | next =>
   obtain⟨σ3,H3,I3,n3⟩:=q3;obtain⟨m',hm,w3⟩:=hN σ3 H3 n3;exact⟨m',hm,σ3,H3,I3,w3⟩
  | cont =>
   obtain⟨σ3,H3,I3,n3⟩:=q3;obtain⟨m',hm,w3⟩:=hN σ3 H3 n3;exact⟨m',hm,σ3,H3,I3,w3⟩
  | brk=>exact q3
  | ret v=>exact q3
 | false =>
  rw[if_neg Bool.false_ne_true];exact wpAny_execs_nil ⟨σ1,H2,I2,q2⟩
end
structure It where
 go:Nat->Hp->Prop
 yld:Nat->Hp->V->Hp->Prop
 stop:Nat->Hp->Prop
def nU (X:Cx)(pins:List (Addr×Obj))(H:Hp)(b:Addr):Prop :=
 H b=none/\b≠X.env.locals/\b∉X.fs/\(b∈X.ex∨X.s₀.heap.objs.size<=b)/\(∀x c,X.env.cells.lookup x=some c->c≠b)/\∀p∈X.pn++pins,p.1≠b
theorem Inv.fpOk {X:Cx}{pins:List (Addr×Obj)}{σ:St}{H H':Hp}{s:Shared}{b:Addr} (I:Inv X pins σ H s) (hb:s.heap.objs.size<=b) (hn:H' b=none):nU X pins H' b:=by
 refine⟨hn,Nat.ne_of_gt (Nat.lt_of_lt_of_le I.lt hb),I.nofs hb,.inr (Nat.le_trans I.sz hb),fun x c e z=> ?_,fun p hp z=> ?_⟩
 ·obtain⟨v,q⟩:=I.cell x c e;exact absurd (Nat.lt_of_lt_of_le q.lt (by rw[z];exact hb)) (Nat.lt_irrefl _)
 ·exact absurd (Nat.lt_of_lt_of_le (Heap.lt_size (I.pin p hp).1) (by rw[z];exact hb)) (Nat.lt_irrefl _)
structure uE (P:Program)(w:World)(K:PySem.W.Frag)(tg:Expr)(J:It)(fp:List Addr)(it:Addr)(tn:Nat->Heap->Prop):Prop where
 mem:it∈fp
 obj:∀i h,tn i h->∀b∈fp,∃o,h.get? b=some o/\∀v,o.data≠ .cell v
 keep:∀i h h',tn i h->(∀b∈fp,∀o,h.get? b=some o->h'.get? b=some o)->tn i h'
 item:∀(X:Cx),X.prog=P->X.w=w->X.K=K->X.calm=true->∀(i:Nat) (pins:List (Addr×Obj)) (s:Shared) (σ:St) (H:Hp) (E:Value->Shared->Prop),Inv X pins σ H s->(∀b∈fp,nU X pins H b)->tn i s.heap->J.go i H →
  wpAny (model P w) X.A (pyNext (.ref it)) (fun r s1=>∃u,r=some u ∧
   wpAny (model P w) X.A (letOwnedTupleGo tg (.ref it) u) (fun _ s2=>∃x H',Inv X pins σ H' s2/\RelV x u/\J.yld i H x H'/\tn (i+1) s2.heap/\∀b∈fp,H' b=none) E s1) E s
 done:∀(X:Cx),X.prog=P->X.w=w->X.K=K->X.calm=true->∀(i:Nat) (pins:List (Addr×Obj)) (s:Shared) (σ:St) (H:Hp) (E:Value->Shared->Prop),Inv X pins σ H s->(∀b∈fp,nU X pins H b)->tn i s.heap->J.stop i H →
  wpAny (model P w) X.A (pyNext (.ref it)) (fun r s1=>r=none/\Inv X pins σ H s1) E s
 self:∀(A:Around) (i:Nat) (s:Shared) (Q:Value->Shared->Prop) (E:Value->Shared->Prop),tn i s.heap->Q (.ref it) s->wpAny (model P w) A (pyIter (.ref it)) Q E s
abbrev TI:=St->Hp->(It->Hp->Prop)->Prop
def PIE (X:Cx)(pins:List (Addr×Obj))(σ:St)(tg:Expr)(R:It->Hp->Prop)(itv:Value)(s2:Shared):Prop :=
 ∃(it:Addr) (fp:List Addr) (tn:Nat->Heap->Prop) (J:It) (H':Hp),itv= .ref it/\Inv X pins σ H' s2/\uE X.prog X.w X.K tg J fp it tn/\tn 0 s2.heap/\(∀b∈fp,nU X pins H' b)/\R J H'
def PI (X:Cx)(tg iter:Expr)(wi:TI):Prop :=
 ∀(pins:List (Addr×Obj)) (s:Shared) (σ:St) (H:Hp) (R:It->Hp->Prop),Inv X pins σ H s->wi σ H R →
  wpAny (model X.prog X.w) X.A (eval iter X.env) (fun v s1=>wpAny (model X.prog X.w) X.A (pyIter v) (PIE X pins σ tg R) X.xe s1) X.xe s
theorem LH {M:Model}{A:Around}{E:Value->Shared->Prop}{s:Shared}{tg:Expr}{it:Addr}{u:Value}{o:Obj}{n:String}{vs:Array Value}{Q:Unit->Shared->Prop} (ho:s.heap.get? it=some o) (hc:o.cls= .type n) (hd:o.data= .fields vs)
  (hn:["enumerate","zip","dict_itemiterator","dict_reverseitemiterator","odict_iterator","itertools.zip_longest","itertools.pairwise"].contains n=false)(hQ:Q () s):wpAny M A (letOwnedTupleGo tg (.ref it) u) Q E s:=by
 unfold letOwnedTupleGo;cases tg<;>first
  | exact wpAny_pure hQ
  | (cases u<;>first
    | exact wpAny_pure hQ
    | (refine wpAny_bind (wpAny_load ho ?_);rw[hc,hd];show wpAny M A (if (["enumerate","zip","dict_itemiterator","dict_reverseitemiterator","odict_iterator","itertools.zip_longest","itertools.pairwise"].contains n&&vs[0]? ==some (rawInt _))=true then _ else _) Q E s;rw[if_neg (by intro h;rw[hn,Bool.false_and]at h;cases h)];exact wpAny_pure hQ))
def Itl (K:PySem.W.Frag)(a:Addr):It :=
 ⟨fun i H=>∃xs x,SqL K H a xs/\xs[i]? =some x,fun i H x H'=>H'=H/\∀xs,SqL K H a xs->xs[i]? =some x,fun i H=>∃xs,SqL K H a xs/\xs.length<=i⟩
def Itr (lo:Int)(n:Nat):It:=⟨fun i _=>i<n,fun i H x H'=>H'=H/\x= .int (lo+i),fun i _=>n<=i⟩
theorem M3 {P:Program}{w:World}{K:PySem.W.Frag}{tg:Expr} (a it:Addr):uE P w K tg (Itl K a) [it] it (fun i h=>h.IsListIter it a i) where
 mem:=by simp
 obj:=fun i h st b hb=>by
  have e:b=it:=by simpa using hb
  subst e;obtain⟨o,e,c,d⟩:=st;exact⟨o,e,fun v z=>by rw[d]at z;cases z⟩
 keep:=fun i h h' st k=>st.at fun o e=>k it (by simp) o e
 item:=by
  intro X hP hw hK hc i pins s σ H E I hf st hg;subst hP hw hK;obtain⟨xs,x,hq,hx⟩:=hg;obtain⟨its,rv,p,hz⟩:=I.list hq;obtain⟨u,hu,ru⟩:=rv.get hx;obtain⟨f0,f1,f2,f3,f4,f5⟩:=hf it (by simp);refine wpAny_pyNext_list_item st p.isList (x:=u) (by simpa using hu) fun h' st' sb=> ?_;have I1:Inv X pins σ H { s with heap:=h' }:=I.turned (t':=s.toks) (fun b o hb e=>(sb.2 b hb).trans e) f0 f1 f3 f4 f5;obtain⟨o,e,c,d⟩:=id st';exact⟨u,rfl,LH (s:={ s with heap:=h' }) e c d (by decide) ⟨x,H,I1,ru,⟨rfl,fun ys hy=>by rw[I.list_inj hy hq];exact hx⟩,st',fun b hb=>(hf b hb).1⟩⟩
 done:=by
  intro X hP hw hK hc i pins s σ H E I hf st hg;subst hP hw hK;obtain⟨xs,hq,hx⟩:=hg;obtain⟨its,rv,p,hz⟩:=I.list hq;obtain⟨f0,f1,f2,f3,f4,f5⟩:=hf it (by simp);have hl:=rv.length;exact wpAny_pyNext_list_end (I.ok.hd hc) st p.isList (by simp;lia) fun h' eb=>⟨rfl,I.turned (t':=s.toks) (fun b o hb e=>eb b o hb e) f0 f1 f3 f4 f5⟩
 self:=fun _ _ _ _ _ st h=>wpAny_pyIter_listiter st h
theorem KH {P:Program}{w:World}{K:PySem.W.Frag}{tg:Expr} (it:Addr) (lo:Int) (n:Nat):uE P w K tg (Itr lo n) [it] it (fun i h=>IsRangeIter h it (lo+(i:Nat) * 1) ((n:Int) - (i:Nat)) 1) where
 mem:=by simp
 obj:=fun i h st b hb=>by
  have e:b=it:=by simpa using hb
  subst e;exact⟨_,st,fun v z=>by
   have z':Data.fields _=Data.cell v:=z;cases z'⟩
 keep:=fun i h h' st k=>k it (by simp) _ st
 item:=by
  intro X hP hw hK hc i pins s σ H E I hf st hg;subst hP hw hK;obtain⟨f0,f1,f2,f3,f4,f5⟩:=hf it (by simp);have W:=Walks.range (prog:=X.prog) (w:=X.w) (I.ok.hd hc) it lo 1 n;refine W.item i s _ _ hg st fun v h' tk hv st' kk=> ?_;obtain⟨t,rfl⟩:=hv;have I1:Inv X pins σ H { s with heap:=h',toks:=tk }:=I.turned (fun b o hb e=>kk b o (by simpa using hb) e) f0 f1 f3 f4 f5;refine⟨_,rfl,LH (s:={ s with heap:=h',toks:=tk }) (n:= "range_iterator") st' rfl rfl (by decide) ⟨.int (lo+i),H,I1,⟨t,?_⟩,⟨rfl,rfl⟩,st',fun b hb=>(hf b hb).1⟩⟩;rw[Int.mul_one]
 done:=by
  intro X hP hw hK hc i pins s σ H E I hf st hg;subst hP hw hK;obtain⟨f0,f1,f2,f3,f4,f5⟩:=hf it (by simp);exact wpAny_pyNext_range_end (I.ok.hd hc) st (by have:n<=i:=hg;lia) fun h' eb=>⟨rfl,I.turned (t':=s.toks) (fun b o hb e=>eb b o hb e) f0 f1 f3 f4 f5⟩
 self:=fun _ _ _ _ _ st h=>wpAny_pyIter_rangeiter st h
end L2
namespace L2
open PySem PySem.Spec PyProof.Rows
section
variable {X:Cx}{tg:Expr}
def SV (K:PySem.W.Frag)(tl:TE):TI:=fun σ H R=>tl σ H fun x H1=>∃a,x= .ref a/\(∃xs,SqL K H1 a xs)/\R (Itl K a) H1
theorem bI {l:Expr}{tl:TE} (hl:PE X l tl):PI X tg l (SV X.K tl):=by
 intro pins s σ H R I h;refine thn (hl pins s σ H _ I h) fun v s1 ⟨x,H1,I1,r1,q1⟩=> ?_;obtain⟨a,e,⟨xs,hq⟩,q⟩:=q1;subst e;cases r1;obtain⟨its,rv,p,hz⟩:=I1.list hq;refine wpAny_pyIter_list p.isList ?_;refine⟨s1.heap.objs.size,[s1.heap.objs.size],_,_,H1,rfl,I1.kept (t':=s1.toks) fun b o e=>Heap.get?_push_of_some _ e,M3 a _,⟨_,Heap.get?_push_size _ rfl,rfl,rfl⟩,fun b hb=> ?_,q⟩;have e:b=s1.heap.objs.size:=by simpa using hb
 subst e;exact I1.fpOk (Nat.le_refl _) (I1.hok.fresh (Nat.le_refl _))
theorem EF {pins:List (Addr×Obj)}{σ:St}{H:Hp}{s:Shared}{R:It->Hp->Prop}{E:Value->Shared->Prop}{lo hi:Int}{t u v:Tok}{tk:Nat} (I:Inv X pins σ H s) (h1: -(2^62)<=lo) (h2:lo<2^62) (h3: -(2^62)<=hi) (h4:hi<2^62)
  (q:R (Itr lo (hi - lo).toNat) H):wpAny (model X.prog X.w) X.A (pyIter (.ref s.heap.objs.size)) (PIE X pins σ tg R) E { s with heap:=s.heap.push { cls:= .type "range",data:= .fields #[.int lo t,.int hi u,.int 1 v] },toks:=tk }:=by
 refine wpAny_pyIter_range (IsRange.new ..) (small_one h1 h2 h3 h4) ?_;have I1:Inv X pins σ H { s with heap:=s.heap.push { cls:= .type "range",data:= .fields #[.int lo t,.int hi u,.int 1 v] },toks:=tk }:=I.kept fun b o e=>Heap.get?_push_of_some _ e;refine⟨(s.heap.push { cls:= .type "range",data:= .fields #[.int lo t,.int hi u,.int 1 v] }).objs.size,[(s.heap.push { cls:= .type "range",data:= .fields #[.int lo t,.int hi u,.int 1 v] }).objs.size],_,_,H,rfl,
  I1.kept (t':=tk) fun b o e=>Heap.get?_push_of_some _ e,KH _ lo (hi - lo).toNat,?_,fun b hb=> ?_,q⟩
 ·have e1:lo+((0:Nat):Int) * 1=lo:=by simp
  have e2:(((hi - lo).toNat:Nat):Int) - ((0:Nat):Int)=Builtin.Range.rangeSize lo hi 1:=by rw[rangeSize_one];split<;>lia
  show IsRangeIter _ _ (lo+((0:Nat):Int) * 1) ((((hi - lo).toNat:Nat):Int) - ((0:Nat):Int)) 1;rw[e1,e2];exact Heap.get?_push_size _ rfl
 ·have e:b=(s.heap.push { cls:= .type "range",data:= .fields #[.int lo t,.int hi u,.int 1 v] }).objs.size:=by simpa using hb
  subst e;exact I1.fpOk (Nat.le_refl _) (I1.hok.fresh (Nat.le_refl _))
def TF (ta:TA):TI:=fun σ H R=>ta σ H fun vs H1=>∃j:Int,vs=[.int j]/\ -(2^62)<=j/\j<2^62/\R (Itr 0 j.toNat) H1
def TQ (ta:TA):TI:=fun σ H R=>ta σ H fun vs H1=>∃i j:Int,vs=[.int i,.int j]/\(-(2^62)<=i/\i<2^62/\ -(2^62)<=j/\j<2^62)/\R (Itr i (j - i).toNat) H1
theorem jI {a:Expr}{ta:TA}{p pos:Pos} (hg:Gl X "range") (hm:X.mg "range" =none) (ha:PA X [a] ta) (hs:starEach [a] X.env=[(false,eval a X.env)]:=by rfl):PI X tg (.Call (.Name "range" p) [a] [] pos) (TF ta):=by
 intro pins s σ H R I h;refine Call_ (uB I hg hm boot_range (PyProof.Rows.callWith_type1 (thn (ha pos pins s σ H _ I h) fun us s1 ⟨vs,H1,I1,r1,q1⟩=> ?_) hs rfl));obtain⟨j,e,q1,q2,q⟩:=q1;subst e;cases r1 with
 | cons r rr =>
  cases rr;obtain⟨t,rfl⟩:=r;exact call_range_1 (EF I1 (by lia) (by lia) q1 q2 (by simpa using q))
theorem uM {a b:Expr}{ta:TA}{p pos:Pos} (hg:Gl X "range") (hm:X.mg "range" =none) (ha:PA X [a,b] ta) (hs:starEach [a,b] X.env=[(false,eval a X.env),(false,eval b X.env)]:=by rfl) (hs2:starEach [b] X.env=[(false,eval b X.env)]:=by rfl) :
  PI X tg (.Call (.Name "range" p) [a,b] [] pos) (TQ ta):=by
 intro pins s σ H R I h;refine Call_ (uB I hg hm boot_range (PyProof.Rows.callWith_type1 (thn (ha pos pins s σ H _ I h) fun us s1 ⟨vs,H1,I1,r1,q1⟩=> ?_) (by rw[hs,hs2]) (by rw[hs2];rfl)));obtain⟨i,j,e,⟨q1,q2,q3,q4⟩,q⟩:=q1;subst e;cases r1 with
 | cons r rr =>
  cases rr with
  | cons r' rr =>
   cases rr;obtain⟨t,rfl⟩:=r;obtain⟨t',rfl⟩:=r';exact call_range_2 (EF I1 q1 q2 q3 q4 q)
def X1 (wi:TI)(g:TG)(tb:TS):TS:=fun D σ H=>wi σ H fun J H1=>∃W:Nat->Nat->St->Hp->Prop,(∃m,W 0 m σ H1)/\∀i m σ H,W i m σ H →
 (J.stop i H/\D.nx σ H)∨(J.go i H/\∃N:St->Hp->Prop,(∀σ' H',N σ' H'->∃m',m'<m/\W (i+1) m' σ' H')/\∀x H',J.yld i H x H'->g x σ H' fun σ2 H2=>tb { D with nx:=N,ct:=N,bk:=D.nx } σ2 H2)
def lL (fp:List Addr)(h:Heap):List (Addr×Obj):=fp.filterMap fun b=>(h.get? b).map fun o=>(b,o)
theorem jZ {fp:List Addr}{h:Heap}{b:Addr}{o:Obj} (hb:b∈fp) (e:h.get? b=some o):(b,o)∈lL fp h:=List.mem_filterMap.mpr ⟨b,hb,by rw[e];rfl⟩
theorem CA {fp:List Addr}{h:Heap}{p:Addr×Obj} (hp:p∈lL fp h):p.1∈fp/\h.get? p.1=some p.2:=by
 obtain⟨b,hb,e⟩:=List.mem_filterMap.mp hp;cases q:h.get? b with
 | none=>rw[q]at e;cases e
 | some o =>
  rw[q]at e;have e':(b,o)=p:=Option.some.inj e;subst e';exact⟨hb,q⟩
theorem Inv.pinned {pins:List (Addr×Obj)}{σ:St}{H:Hp}{s:Shared}{fp:List Addr} (I:Inv X pins σ H s) (hf:∀b∈fp,nU X pins H b) (ho:∀b∈fp,∃o,s.heap.get? b=some o/\∀v,o.data≠ .cell v):Inv X (pins++lL fp s.heap) σ H s :=
 I.pins_of fun p hp=>(List.mem_append.mp hp).elim (fun z=>I.pin p (List.mem_append_right _ z)) fun z=>by
  obtain⟨hb,e⟩:=CA z;obtain⟨f0,f1,f2,_⟩:=hf p.1 hb;obtain⟨o,e',d⟩:=ho p.1 hb;rw[e]at e';cases e';exact⟨e,f0,f1,f2,d⟩
theorem Inv.unpinned {pins pl:List (Addr×Obj)}{σ:St}{H:Hp}{s:Shared} (I:Inv X (pins++pl) σ H s):Inv X pins σ H s:=I.pins_of fun p hp=>I.pin p (List.mem_append_right _ (List.mem_append_left _ hp))
theorem cG {iter:Expr}{body:List Stmt}{wi:TI}{g:TG}{tb:TS}{pos:Pos} (hp:PassesOwn (model X.prog X.w) X.A X.env X.xe) (hc:X.calm=true) (hi:PI X tg iter wi) (hg:PG X tg g) (hb:PSs X body tb)
  (hs:∀x,foldedSetIterable iter X.env x=pure x:=by intro _;rfl):PS X (.For tg iter body [] pos) (X1 wi g tb):=by
 intro pins s σ H D I h;refine wpAny_For (thn (hi pins s σ H _ I h) fun v s1 h1=>thn h1 fun itv s2 h2=> ?_) hs;obtain⟨it,fp,tn,J,H2,e,I2,T,st2,f2,W,⟨m0,w0⟩,turn⟩:=h2;subst e;have stat:∀{H':Hp},(∀b∈fp,H' b=none)->∀b∈fp,nU X pins H' b:=fun hn b hb=>⟨hn b hb,(f2 b hb).2⟩
 refine codeAny_forLoop_any (fun n s'=>∃i σ' H',Inv X pins σ' H' s'/\tn i s'.heap/\(∀b∈fp,H' b=none)/\W i n σ' H') ?_ m0 ⟨0,σ,H2,I2,st2,fun b hb=>(f2 b hb).1,w0⟩;rintro n s3 ⟨i,σ3,H3,I3,st3,fr3,w3⟩;rcases turn i n σ3 H3 w3 with⟨stop,qn⟩|⟨go,N,hN,step⟩
 ·refine wpAny_passesOwn hp (thn (T.done X rfl rfl rfl hc i pins s3 σ3 H3 X.xe I3 (stat fr3) st3 stop) fun r s4 ⟨hr,I4⟩=> ?_);subst hr;exact wpAny_execs_nil ⟨σ3,H3,I4,qn⟩
 ·refine wpAny_passesOwn hp (thn (T.item X rfl rfl rfl hc i pins s3 σ3 H3 X.xe I3 (stat fr3) st3 go) fun r s4 ⟨u,hr,h4⟩=> ?_);subst hr;refine wpAny_passesOwn hp (thn h4 fun _ s5 ⟨x,H5,I5,r5,y5,st5,fr5⟩=> ?_);have I5':=I5.pinned (stat fr5) (T.obj _ _ st5);refine wpAny_passesOwn hp (thn (hg _ s5 σ3 H5 x u _ I5' r5 (step x H5 y5)) fun _ s6 ⟨σ6,H6,I6,q6⟩=> ?_);refine wpAny_passesOwn hp (thn (hb _ s6 σ6 H6 _ I6 q6) fun f s7 q7=> ?_);have again:∀{σ7:St}{H7:Hp},Inv X (pins++lL fp s5.heap) σ7 H7 s7->N σ7 H7->∃m,m<n/\∃i σ' H',Inv X pins σ' H' s7/\tn i s7.heap/\(∀b∈fp,H' b=none)/\W i m σ' H':=fun {σ7 H7} I7 n7=>by
   obtain⟨m',hm,w7⟩:=hN σ7 H7 n7;refine⟨m',hm,i+1,σ7,H7,I7.unpinned,T.keep _ _ _ st5 fun b hb o e=>(I7.pin (b,o) (List.mem_append_right _ (List.mem_append_right _ (jZ hb e)))).1,fun b hb=> ?_,w7⟩;obtain⟨o,e,d⟩:=T.obj _ _ st5 b hb;exact(I7.pin (b,o) (List.mem_append_right _ (List.mem_append_right _ (jZ hb e)))).2.1
  cases f with
  | next=>obtain⟨σ7,H7,I7,n7⟩:=q7;exact again I7 n7
  | cont=>obtain⟨σ7,H7,I7,n7⟩:=q7;exact again I7 n7
  | brk=>obtain⟨σ7,H7,I7,q7⟩:=q7;exact⟨σ7,H7,I7.unpinned,q7⟩
  | ret v=>obtain⟨x7,σ7,H7,I7,r7,q7⟩:=q7;exact⟨x7,σ7,H7,I7.unpinned,r7,q7⟩
end
theorem R6 {K:PySem.W.Frag}{a:Addr}{xs:List V}{g:TG}{tb:TS}{D:dE}{σ:St}{H:Hp} (Pv:Nat->St->Hp->Prop) (h0:Pv 0 σ H) (hl:∀i σ H,i<=xs.length->Pv i σ H->SqL K H a xs)
  (hs:∀i x σ H,xs[i]? =some x->Pv i σ H->g x σ H fun σ2 H2=>tb { D with nx:=Pv (i+1),ct:=Pv (i+1),bk:=D.nx } σ2 H2)(hd:∀σ H,Pv xs.length σ H->D.nx σ H) :
  ∃W:Nat->Nat->St->Hp->Prop,(∃m,W 0 m σ H)/\∀i m σ H,W i m σ H →
   ((Itl K a).stop i H/\D.nx σ H)∨((Itl K a).go i H/\∃N:St->Hp->Prop,(∀σ' H',N σ' H'->∃m',m'<m/\W (i+1) m' σ' H')/\∀x H',(Itl K a).yld i H x H'->g x σ H' fun σ2 H2=>tb { D with nx:=N,ct:=N,bk:=D.nx } σ2 H2):=by
 refine⟨fun i m σ H=>m=xs.length - i/\i<=xs.length/\Pv i σ H,⟨xs.length,by simp,Nat.zero_le _,h0⟩,?_⟩;rintro i m σ H ⟨rfl,hi,p⟩;have q:=hl i σ H hi p
 by_cases hlt:i<xs.length
 ·refine .inr ⟨⟨xs,xs[i],q,by simp[hlt]⟩,Pv (i+1),fun σ' H' p'=>⟨xs.length - (i+1),by lia,rfl,hlt,p'⟩,fun x H' y=> ?_⟩;obtain⟨e,y⟩:=y;subst e;exact hs i x σ _ (y xs q) p
 ·have e:i=xs.length:=by lia
  subst e;exact .inl ⟨⟨xs,q,Nat.le_refl _⟩,hd σ H p⟩
theorem NR {lo:Int}{n:Nat}{g:TG}{tb:TS}{D:dE}{σ:St}{H:Hp} (Pv:Nat->St->Hp->Prop) (h0:Pv 0 σ H)
  (hs:∀i σ H,i<n->Pv i σ H->g (.int (lo+i)) σ H fun σ2 H2=>tb { D with nx:=Pv (i+1),ct:=Pv (i+1),bk:=D.nx } σ2 H2)(hd:∀σ H,Pv n σ H->D.nx σ H) :
  ∃W:Nat->Nat->St->Hp->Prop,(∃m,W 0 m σ H)/\∀i m σ H,W i m σ H →
   ((Itr lo n).stop i H/\D.nx σ H)∨((Itr lo n).go i H/\∃N:St->Hp->Prop,(∀σ' H',N σ' H'->∃m',m'<m/\W (i+1) m' σ' H')/\∀x H',(Itr lo n).yld i H x H'->g x σ H' fun σ2 H2=>tb { D with nx:=N,ct:=N,bk:=D.nx } σ2 H2):=by
 refine⟨fun i m σ H=>m=n - i/\i<=n/\Pv i σ H,⟨n,by simp,Nat.zero_le _,h0⟩,?_⟩;rintro i m σ H ⟨rfl,hi,p⟩
 by_cases hlt:i<n
 ·refine .inr ⟨hlt,Pv (i+1),fun σ' H' p'=>⟨n - (i+1),by lia,rfl,hlt,p'⟩,fun x H' y=> ?_⟩;obtain⟨e,y⟩:=y;subst e y;exact hs i σ _ hlt p
 ·have e:i=n:=by lia
  subst e;exact .inl ⟨Nat.le_refl _,hd σ H p⟩
end L2
namespace L2
open PySem PySem.Spec PyProof.Rows
abbrev R2:=V->V->Hp->VK->Prop
def OpR (X:Cx)(f:Value->Value->Sem Value)(r:R2):Prop :=
 ∀(pins:List (Addr×Obj)) (s:Shared) (σ:St) (H:Hp) (x y:V) (v u:Value) (Q:VK),Inv X pins σ H s->RelV x v->RelV y u->r x y H Q →
  wpAny (model X.prog X.w) X.A (f v u) (EP X pins σ Q) X.xe s
def d4 (X:Cx)(f:Value)(r:List V->Hp->VK->Prop):Prop :=
 ∀(pins:List (Addr×Obj)) (s:Shared) (σ:St) (H:Hp) (xs:List V) (us:List Value) (Q:VK),Inv X pins σ H s->Vals xs us->r xs H Q →
  wpAny (model X.prog X.w) X.A (call f us) (EP X pins σ Q) X.xe s
def tOp (r:R2)(ta tb:TE):TE:=fun σ H Q=>ta σ H fun x H1=>tb σ H1 fun y H2=>r x y H2 Q
def rI (C:Int->Int->Prop)(g:Int->Int->V):R2:=fun x y H Q=>∃i j,x= .int i/\y= .int j/\C i j/\Q (g i j) H
def rI0 (g:Int->Int->V):R2:=fun x y H Q=>∃i j,x= .int i/\y= .int j/\Q (g i j) H
section
variable {X:Cx}{a b c:Expr}{ta tb tc:TE}{pos:Pos}
theorem PR (ha:PE X a ta)(hb:PE X b tb){pins:List (Addr×Obj)}{s:Shared}{σ:St}{H:Hp}{R:V->V->Hp->Prop} (I:Inv X pins σ H s)
  (h:ta σ H fun x H1=>tb σ H1 fun y H2=>R x y H2){Q:Value->Shared->Prop}{f:Value->Value->Sem Value}
  (hf:∀v u s2 x y H2,Inv X pins σ H2 s2->RelV x v->RelV y u->R x y H2->wpAny (model X.prog X.w) X.A (f v u) Q X.xe s2) :
  wpAny (model X.prog X.w) X.A (eval a X.env) (fun v s₁=>wpAny (model X.prog X.w) X.A (eval b X.env) (fun u s₂=>wpAny (model X.prog X.w) X.A (f v u) Q X.xe s₂) X.xe s₁) X.xe s:=by
 refine thn (ha pins s σ H _ I h) fun v s1 ⟨x,H1,I1,r1,q1⟩=> ?_;refine thn (hb pins s1 σ H1 _ I1 q1) fun u s2 ⟨y,H2,I2,r2,q2⟩=> ?_;exact hf v u s2 x y H2 I2 r1 r2 q2
theorem aI {op:Operator}{r:R2} (ho:OpR X (binaryOp op) r) (ha:PE X a ta) (hb:PE X b tb):PE X (.BinOp a op b pos) (tOp r ta tb):=by
 intro pins s σ H Q I h;exact wpAny_BinOp (PR ha hb I h fun v u s2 x y H2 I2 rx ry q=>ho pins s2 σ H2 x y v u Q I2 rx ry q)
theorem opI {f:Value->Value->Sem Value}{C:Int->Int->Prop}{g:Int->Int->Int}
  (rule:∀(i j:Int) (t u:Tok) (s:Shared) (Q:Value->Shared->Prop) (E:Value->Shared->Prop),C i j->Q (.int (g i j) s.toks) { s with toks:=s.toks+1 }->wpAny (model X.prog X.w) X.A (f (.int i t) (.int j u)) Q E s) :
  OpR X f (rI C fun i j=> .int (g i j)):=by
 intro pins s σ H x y v u Q I rx ry h;obtain⟨i,j,rfl,rfl,hc,q⟩:=h;obtain⟨t,rfl⟩:=rx;obtain⟨t',rfl⟩:=ry;exact rule i j t t' s _ _ hc ⟨.int (g i j),H,I.tok _,⟨_,rfl⟩,q⟩
theorem XZ {f:Value->Value->Sem Value}{g:Int->Int->Int}
  (rule:∀(i j:Int) (t u:Tok) (s:Shared) (Q:Value->Shared->Prop) (E:Value->Shared->Prop),Q (.int (g i j) s.toks) { s with toks:=s.toks+1 }->wpAny (model X.prog X.w) X.A (f (.int i t) (.int j u)) Q E s) :
  OpR X f (rI0 fun i j=> .int (g i j)):=by
 intro pins s σ H x y v u Q I rx ry h;obtain⟨i,j,rfl,rfl,q⟩:=h;obtain⟨t,rfl⟩:=rx;obtain⟨t',rfl⟩:=ry;exact rule i j t t' s _ _ ⟨.int (g i j),H,I.tok _,⟨_,rfl⟩,q⟩
theorem KC {f:Value->Value->Sem Value}{g:Int->Int->Bool}
  (rule:∀(i j:Int) (t u:Tok) (s:Shared) (Q:Value->Shared->Prop) (E:Value->Shared->Prop),Q (.bool (g i j)) s->wpAny (model X.prog X.w) X.A (f (.int i t) (.int j u)) Q E s) :
  OpR X f (rI0 fun i j=> .bl (g i j)):=by
 intro pins s σ H x y v u Q I rx ry h;obtain⟨i,j,rfl,rfl,q⟩:=h;obtain⟨t,rfl⟩:=rx;obtain⟨t',rfl⟩:=ry;exact rule i j t t' s _ _ ⟨.bl (g i j),H,I,rfl,q⟩
def aAr (i j:Int):Prop:=0<j/\j<1073741824
def YY (i j:Int):Prop:=0<=j/\j<=1000000/\i.natAbs<2^64
def CMul (i j:Int):Prop:=(-(2^64)<i/\i<2^64)∨(-(2^64)<j/\j<2^64)
theorem CMul.ok {i j:Int}(h:CMul i j):IntMulOk i j:=by
 rcases h with⟨h1,h2⟩|⟨h1,h2⟩
 ·exact .of_left (intBits_le_64 h1 h2)
 ·exact .of_right (intBits_le_64 h1 h2)
theorem K7 (k:Nat):(0:Int)<=2^k:=by
 rw[two_pow_cast];exact Int.natCast_nonneg _
theorem bS:OpR X (binaryOp .Add) (rI0 fun i j=> .int (i+j)):=XZ fun _ _ _ _ _ _ _ q=>add_int q
theorem jW:OpR X (binaryOp .Sub) (rI0 fun i j=> .int (i - j)):=XZ fun _ _ _ _ _ _ _ q=>sub_int q
theorem oH:OpR X (binaryOp .Mult) (rI CMul fun i j=> .int (i * j)):=opI fun _ _ _ _ _ _ _ hc q=>mul_int q hc.ok
theorem d8:OpR X (binaryOp .FloorDiv) (rI aAr fun i j=> .int (i/j)):=opI fun i j _ _ _ _ _ hc q=>by
 have h1:(0:Int)<j:=hc.1;have h2:j<1073741824:=hc.2;exact floordiv_int (by lia) (by rw[Int.fdiv_eq_ediv_of_nonneg i (by lia)];exact q) (.inl (PyProof.noPylong_small (by lia)))
theorem bN:OpR X (binaryOp .Mod) (rI (fun _ j=>0<j) fun i j=> .int (i%j)):=opI fun i j _ _ _ _ _ hc q=>by
 have h1:(0:Int)<j:=hc;exact mod_int' (by lia) (by rw[Int.fmod_eq_emod_of_nonneg i (by lia)];exact q)
theorem Z7:OpR X (binaryOp .Pow) (rI YY fun i j=> .int (i^j.toNat)):=opI fun _ _ _ _ _ _ _ hc q=>pow_int_small hc.1 hc.2.1 hc.2.2 q
theorem OT:OpR X (binaryOp .RShift) (rI (fun _ j=>0<=j) fun i j=> .int (i/2^j.toNat)):=opI fun i j _ _ _ _ _ hc q =>
 rshift_int hc (by rw[Int.fdiv_eq_ediv_of_nonneg i (K7 _)];exact q)
end
def YH:V->V->Bool
 | .non,.non=>true| .non,.int _=>true| .int _,.non=>true| .non,.bl _=>true| .bl _,.non=>true| .non,.str _=>true| .str _,.non=>true
 | .int _,.int _=>true| .bl _,.bl _=>true| .str _,.str _=>true| .byt _,.byt _=>true
 | .int _,.str _=>true| .str _,.int _=>true| .bl _,.str _=>true| .str _,.bl _=>true
 | _,_=>false
def rEq:R2:=fun x y H Q=>YH x y=true/\Q (.bl (decide (x=y))) H
def rNe:R2:=fun x y H Q=>YH x y=true/\Q (.bl (!decide (x=y))) H
theorem JP {i j:Int}:decide (V.int i=V.int j)=(i==j):=by
 rw[Bool.eq_iff_iff];simp
theorem NV {i j:Bool}:decide (V.bl i=V.bl j)=(i==j):=by
 rw[Bool.eq_iff_iff];simp
theorem II {i j:Str}:decide (V.str i=V.str j)=(i==j):=by
 rw[Bool.eq_iff_iff];simp
theorem IZ {i j:Array UInt8}:decide (V.byt i=V.byt j)=(i.toList==j.toList):=by
 rw[Bool.eq_iff_iff];cases i;cases j;simp
section
variable {X:Cx}{a b c:Expr}{ta tb tc:TE}{pos:Pos}
theorem bR {pins:List (Addr×Obj)}{σ:St}{H:Hp}{s:Shared}{Q:VK}{k k':Bool} (I:Inv X pins σ H s) (q:Q (.bl k) H) (e:k=k'):EP X pins σ Q (.bool k') s:=by
 subst e;exact⟨.bl k,H,I,rfl,q⟩
theorem gU:OpR X (compareOp .Eq) rEq:=by
 intro pins s σ H x y v u Q I rx ry h;obtain⟨hs,q⟩:=h;cases x with
 | non =>
  cases rx;cases y with
  | non=>cases ry;exact PySem.EqNone.eq_none_none (bR I q (by simp))
  | bl j=>cases ry;exact PySem.EqNone.eq_none_bool (bR I q (by simp))
  | int j=>obtain⟨t',rfl⟩:=ry;exact PySem.EqNone.eq_none_int (bR I q (by simp))
  | str j=>obtain⟨t',rfl⟩:=ry;exact PySem.EqNone.eq_none_str (bR I q (by simp))
  | _=>exact absurd (show false=true from hs) Bool.false_ne_true
 | bl i =>
  cases rx;cases y with
  | non=>cases ry;exact PySem.EqNone.eq_bool_none (bR I q (by simp))
  | bl j=>cases ry;exact eq_bool (bR I q NV)
  | str j=>obtain⟨t',rfl⟩:=ry;exact PySem.EqMixed.eq_bool_str (bR I q (by simp))
  | _=>exact absurd (show false=true from hs) Bool.false_ne_true
 | int i =>
  obtain⟨t,rfl⟩:=rx;cases y with
  | non=>cases ry;exact PySem.EqNone.eq_int_none (bR I q (by simp))
  | int j=>obtain⟨t',rfl⟩:=ry;exact eq_int (bR I q JP)
  | str j=>obtain⟨t',rfl⟩:=ry;exact PySem.EqMixed.eq_int_str (bR I q (by simp))
  | _=>exact absurd (show false=true from hs) Bool.false_ne_true
 | str i =>
  obtain⟨t,rfl⟩:=rx;cases y with
  | non=>cases ry;exact PySem.EqNone.eq_str_none (bR I q (by simp))
  | bl j=>cases ry;exact PySem.EqMixed.eq_str_bool (bR I q (by simp))
  | int j=>obtain⟨t',rfl⟩:=ry;exact PySem.EqMixed.eq_str_int (bR I q (by simp))
  | str j=>obtain⟨t',rfl⟩:=ry;exact eq_str (bR I q II)
  | _=>exact absurd (show false=true from hs) Bool.false_ne_true
 | byt i =>
  obtain⟨t,rfl⟩:=rx;cases y with
  | byt j=>obtain⟨t',rfl⟩:=ry;exact PySem.W.eq_bytes (bR I q IZ)
  | _=>exact absurd (show false=true from hs) Bool.false_ne_true
 | _=>cases y<;>exact absurd (show false=true from hs) Bool.false_ne_true
theorem aAE:OpR X (compareOp .NotEq) rNe:=by
 intro pins s σ H x y v u Q I rx ry h;obtain⟨hs,q⟩:=h;cases x with
 | non =>
  cases rx;cases y with
  | non=>cases ry;exact PySem.EqNone.ne_none_none (bR I q (by simp))
  | bl j=>cases ry;exact PySem.EqNone.ne_none_bool (bR I q (by simp))
  | int j=>obtain⟨t',rfl⟩:=ry;exact PySem.EqNone.ne_none_int (bR I q (by simp))
  | str j=>obtain⟨t',rfl⟩:=ry;exact PySem.EqNone.ne_none_str (bR I q (by simp))
  | _=>exact absurd (show false=true from hs) Bool.false_ne_true
 | bl i =>
  cases rx;cases y with
  | non=>cases ry;exact PySem.EqNone.ne_bool_none (bR I q (by simp))
  | bl j=>cases ry;exact ne_bool (bR I q (congrArg not NV))
  | str j=>obtain⟨t',rfl⟩:=ry;exact PySem.EqMixed.ne_bool_str (bR I q (by simp))
  | _=>exact absurd (show false=true from hs) Bool.false_ne_true
 | int i =>
  obtain⟨t,rfl⟩:=rx;cases y with
  | non=>cases ry;exact PySem.EqNone.ne_int_none (bR I q (by simp))
  | int j=>obtain⟨t',rfl⟩:=ry;exact ne_int (bR I q (congrArg not JP))
  | str j=>obtain⟨t',rfl⟩:=ry;exact PySem.EqMixed.ne_int_str (bR I q (by simp))
  | _=>exact absurd (show false=true from hs) Bool.false_ne_true
 | str i =>
  obtain⟨t,rfl⟩:=rx;cases y with
  | non=>cases ry;exact PySem.EqNone.ne_str_none (bR I q (by simp))
  | bl j=>cases ry;exact PySem.EqMixed.ne_str_bool (bR I q (by simp))
  | int j=>obtain⟨t',rfl⟩:=ry;exact PySem.EqMixed.ne_str_int (bR I q (by simp))
  | str j=>obtain⟨t',rfl⟩:=ry;exact ne_str (bR I q (congrArg not II))
  | _=>exact absurd (show false=true from hs) Bool.false_ne_true
 | byt i =>
  obtain⟨t,rfl⟩:=rx;cases y with
  | byt j=>obtain⟨t',rfl⟩:=ry;exact PySem.W.ne_bytes (bR I q (congrArg not IZ))
  | _=>exact absurd (show false=true from hs) Bool.false_ne_true
 | _=>cases y<;>exact absurd (show false=true from hs) Bool.false_ne_true
theorem mP:OpR X (compareOp .Lt) (rI0 fun i j=> .bl (decide (i<j))):=KC fun _ _ _ _ _ _ _ q=>lt_int q
theorem KW:OpR X (compareOp .LtE) (rI0 fun i j=> .bl (decide (i<=j))):=KC fun _ _ _ _ _ _ _ q=>le_int q
theorem tU:OpR X (compareOp .Gt) (rI0 fun i j=> .bl (decide (j<i))):=KC fun _ _ _ _ _ _ _ q=>gt_int q
theorem JU:OpR X (compareOp .GtE) (rI0 fun i j=> .bl (decide (j<=i))):=KC fun _ _ _ _ _ _ _ q=>ge_int q
theorem Z1:OpR X (compareOp .Is) (fun x y H Q=>y= .non/\Q (.bl (decide (x= .non))) H):=by
 intro pins s σ H x y v u Q I rx ry h;obtain⟨rfl,q⟩:=h;cases ry;refine is_none_gen (bR I q ?_);cases x<;>first
  | (cases rx;rfl)
  | (obtain⟨t,rfl⟩:=rx;rfl)
theorem VR:OpR X (compareOp .IsNot) (fun x y H Q=>y= .non/\Q (.bl (!decide (x= .non))) H):=by
 intro pins s σ H x y v u Q I rx ry h;obtain⟨rfl,q⟩:=h;cases ry;refine isnot_none_gen (bR I q ?_);cases x<;>first
  | (cases rx;rfl)
  | (obtain⟨t,rfl⟩:=rx;rfl)
theorem bH (b:Expr){op:CmpOp}(h:op≠ .In:=by decide)(h2:op≠ .NotIn:=by decide):behindInMarks op b=false:=by
 have e1:(op==CmpOp.In)=false:=by cases op<;>first|rfl|exact absurd rfl h
 have e2:(op==CmpOp.NotIn)=false:=by cases op<;>first|rfl|exact absurd rfl h2
 cases b<;>simp[behindInMarks,e1,e2]
theorem nA {op:CmpOp}{r:R2} (ho:OpR X (compareOp op) r) (ha:PE X a ta) (hb:PE X b tb) (hm:behindInMarks op b=false):PE X (.Compare a [op] [b] pos) (tOp r ta tb):=by
 intro pins s σ H Q I h;exact wpAny_Compare1 (PR ha hb I h fun v u s2 x y H2 I2 rx ry q=>ho pins s2 σ H2 x y v u Q I2 rx ry q) hm
def LC (t:TE):TT:=fun σ H Q=>t σ H fun x H'=>∃k,x= .bl k/\Q k H'
theorem bC {op:CmpOp}{r:R2} (ho:OpR X (compareOp op) r) (ha:PE X a ta) (hb:PE X b tb) (hm:behindInMarks op b=false):PT X (.Compare a [op] [b] pos) (LC (tOp r ta tb)):=by
 intro pins s σ H Q I h;refine wpAny_isTrue_Compare1 (thn (ha pins s σ H _ I h) fun v s1 ⟨x,H1,I1,r1,q1⟩=>thn (hb pins s1 σ H1 _ I1 q1) fun u s2 ⟨y,H2,I2,r2,q2⟩ =>
  thn (ho pins s2 σ H2 x y v u _ I2 r1 r2 q2) fun c s3 ⟨z,H3,I3,r3,k,e,q3⟩=> ?_) hm
 subst e;cases r3;exact wpAny_truthy_bool ⟨H3,I3,q3⟩
def FO (r r':R2)(ta tb tc:TE):TE:=fun σ H Q=>ta σ H fun x H1=>tb σ H1 fun y H2=>r x y H2 fun z H3=>∃k,z= .bl k ∧
 (if k=true then tc σ H3 fun w' H4=>r' y w' H4 Q else Q (.bl false) H3)
theorem EM {op op':CmpOp}{r r':R2} (ho:OpR X (compareOp op) r) (ho':OpR X (compareOp op') r') (ha:PE X a ta) (hb:PE X b tb) (hc:PE X c tc)
  (hm:lastMarks [op,op'] [b,c]=false:=by with_unfolding_all rfl):PE X (.Compare a [op,op'] [b,c] pos) (FO r r' ta tb tc):=by
 intro pins s σ H Q I h;refine Compare_chain (thn (ha pins s σ H _ I h) fun v s1 ⟨x,H1,I1,r1,q1⟩=>chain_link (thn (hb pins s1 σ H1 _ I1 q1) fun u s2 ⟨y,H2,I2,r2,q2⟩ =>
  thn (ho pins s2 σ H2 x y v u _ I2 r1 r2 q2) fun d s3 ⟨z,H3,I3,r3,k,e,q3⟩=> ?_)) hm
 subst e;cases r3;refine wpAny_truthy_bool ?_;cases k with
 | false=>exact ite_ff ⟨.bl false,H3,I3,rfl,q3⟩
 | true=>exact ite_tt (chain_last (thn (hc pins s3 σ H3 _ I3 q3) fun w' s4 ⟨z',H4,I4,r4,q4⟩=>ho' pins s4 σ H4 y z' u w' Q I4 r2 r4 q4))
theorem Q7 {op op':CmpOp}{r r':R2} (ho:OpR X (compareOp op) r) (ho':OpR X (compareOp op') r') (ha:PE X a ta) (hb:PE X b tb) (hc:PE X c tc)
  (hm:lastMarks [op,op'] [b,c]=false:=by with_unfolding_all rfl):PT X (.Compare a [op,op'] [b,c] pos) (LC (FO r r' ta tb tc)):=by
 intro pins s σ H Q I h;refine isTrue_chain (thn (ha pins s σ H _ I h) fun v s1 ⟨x,H1,I1,r1,q1⟩=>test_link (thn (hb pins s1 σ H1 _ I1 q1) fun u s2 ⟨y,H2,I2,r2,q2⟩ =>
  thn (ho pins s2 σ H2 x y v u _ I2 r1 r2 q2) fun d s3 ⟨z,H3,I3,r3,k,e,q3⟩=> ?_)) hm
 subst e;cases r3;refine wpAny_truthy_bool ?_;cases k with
 | false =>
  obtain⟨k',e',q'⟩:=q3;cases e';exact ite_ff ⟨H3,I3,q'⟩
 | true =>
  refine ite_tt (test_last (thn (hc pins s3 σ H3 _ I3 q3) fun w' s4 ⟨z',H4,I4,r4,q4⟩=>thn (ho' pins s4 σ H4 y z' u w' _ I4 r2 r4 q4) fun d' s5 ⟨z2,H5,I5,r5,k2,e2,q5⟩=> ?_));subst e2;cases r5;exact wpAny_truthy_bool ⟨H5,I5,q5⟩
theorem rR:(sizeLine:Nat)<2^63:=by rw[sizeLine_eq];decide
theorem LK:OpR X (binaryOp .Add) (fun x y H Q=>∃i j,x= .str i/\y= .str j/\i.length+j.length<=sizeLine/\Q (.str (i++j)) H):=by
 intro pins s σ H x y v u Q I rx ry h;obtain⟨i,j,rfl,rfl,hz,q⟩:=h;obtain⟨t,rfl⟩:=rx;obtain⟨t',rfl⟩:=ry;exact add_str (fun t' tk=>⟨.str (i++j),H,I.tok _,⟨_,rfl⟩,q⟩) hz
theorem jM {x:V}{us:List Value} (r:Vals [x] us):∃u,us=[u]/\RelV x u:=by
 cases r with
 | cons r1 r2=>cases r2;exact⟨_,rfl,r1⟩
theorem aBd {x y:V}{us:List Value} (r:Vals [x,y] us):∃u w',us=[u,w']/\RelV x u/\RelV y w':=by
 cases r with
 | cons r1 r2 =>
  cases r2 with
  | cons r3 r4=>cases r4;exact⟨_,_,rfl,r1,r3⟩
theorem NW:d4 X (.type "int") (fun xs H Q=>(∃i,xs=[.int i]/\Q (.int i) H)∨∃k,xs=[.bl k]/\Q (.int (if k then 1 else 0)) H):=by
 intro pins s σ H xs us Q I r h;rcases h with⟨i,rfl,q⟩|⟨k,rfl,q⟩
 ·obtain⟨u,rfl,t,rfl⟩:=jM r;exact call_int_int ⟨.int i,H,I,⟨_,rfl⟩,q⟩
 ·obtain⟨u,rfl,r1⟩:=jM r;cases r1;exact call_int_bool ⟨.int (if k then 1 else 0),H,I.tok _,⟨_,rfl⟩,q⟩
end
end L2
namespace L2
open PySem PySem.Spec PyProof.Rows
structure ObjM (h:Heap)(x dx C:Addr)(mA:Str->Option Value):Prop where
 obj:h.get? x=some (PySem.W.instObj C dx)
 ns:h.Ns1 dx mA
 ne:dx≠x
theorem M5 {h:Heap}{dx:Addr}{mA:Str->Option Value} (n:h.Ns1 dx mA):∃od,h.get? dx=some od/\∀name,PySem.W.lookIn name od=some (mA name):=by
 obtain⟨o,es,ep,ho,hd,hk,_,hm⟩:=n;refine⟨o,ho,fun name=> ?_⟩;have e:=hm name;unfold nsFind findBy at e;rw[←Array.find?_toList]at e;unfold PySem.W.lookIn;rw[hd]
 dsimp only
 split
 ·rename_i y q;rw[q]at e;exact congrArg some e
 ·rename_i q;rw[q]at e;have a:es.toList.any (·.refKey)=false:=by
   rw[List.any_eq_false];intro y hy;obtain⟨z,t,hkey⟩:=hk y (Array.mem_toList_iff.mp hy);simp[DictEntry.refKey,hkey]
  have a':¬es.toList.any (·.refKey)=true:=by rw[a];exact Bool.false_ne_true
  rw[if_neg a'];exact congrArg some e
theorem ObjM.look {h:Heap}{x dx C:Addr}{mA:Str->Option Value} (I:ObjM h x dx C mA):∃od,PySem.W.InstAt h x (PySem.W.instObj C dx) C (some od)/\∀name,PySem.W.lookIn name od=some (mA name) :=
 let ⟨od,ho,hl⟩:=M5 I.ns
 ⟨od,⟨I.obj,rfl,rfl,ho⟩,hl⟩
section
variable {prog:Program}{w:World}{A:Around}{E:Value->Shared->Prop}{s:Shared}{K:PySem.W.Frag}{x dx C f:Addr}{mA:Str->Option Value}{name:Str}{v:Value}
theorem VM {expr:Bool}{Q:Value->Shared->Prop} (X:K.In s.heap) (I:ObjM s.heap x dx C mA) (hg:PySem.W.plainGet K C name=true) (hh:PySem.W.hasDictIn K C=true)
  (ha:PySem.W.findIn K (.ref C) name=some none)(hv:mA name=some v)(hv':PySem.W.handedIn v=true)(h:Q v { s with toks:=s.toks+1 }) :
  wpAny (model prog w) A (getAttr (.ref x) name expr) Q E s:=by
 obtain⟨od,J,hl⟩:=I.look;exact PySem.W.get_value X J (PySem.W.plainGet_of hg).1 (PySem.W.findObj_own hh ha rfl (by rw[hl,hv])) hv' h
theorem RE {pl:Sem Bool}{Q:Value×List Value->Shared->Prop} (X:K.In s.heap) (I:ObjM s.heap x dx C mA) (hg:PySem.W.plainGet K C name=true)
  (hf:PySem.W.findIn K (.ref C) name=some (some (.ref f)))(ht:PySem.W.isFn K (.ref f)=true)(hv:mA name=none)(h:Q (.ref f,[.ref x]) s) :
  wpAny (model prog w) A (getMethod (.ref x) name pl) Q E s:=by
 obtain⟨od,J,hl⟩:=I.look;exact PySem.W.method_fn X J (PySem.W.plainGet_of hg).1 (PySem.W.plainGet_of hg).2 hf (beq_iff_eq.mp ht) (by show (PySem.W.lookIn name od).map (·.isSome)=some false;rw[hl,hv];rfl) h
theorem V4 {ns:List Str}{Q:Unit->Shared->Prop} (X:K.In s.heap) (I:ObjM s.heap x dx C mA)
  (hs:PySem.W.findIn K (.ref C) "__setattr__" =some (some (.builtin "object.__setattr__")))(hp:PySem.W.plainOver K C=true)(ht:PySem.W.takerIn K C name=some none)(hh:PySem.W.hasDictIn K C=true)
  (hw:PySem.Within mA ns)(hsz:ns.length<=sizeLine)
  (h:∀h',ObjM h' x dx C (fun y=>if y=name then some v else mA y)->Heap.SameBut dx s.heap h'->Q () { s with heap:=h',toks:=s.toks+2 }) :
  wpAny (model prog w) A (setAttr (.ref x) name v) Q E s:=by
 obtain⟨od,J,hl⟩:=I.look;refine PySem.W.set_plain X J hs (PySem.W.osa_open (s:={ s with toks:=s.toks+1 }) (r:=none) X J hp ht fun b=> ?_);obtain⟨cd,hc,hd'⟩:=PySem.W.any_some hh;have hx:s.heap.get? x=some ⟨.ref C,some dx,.plain,#[]⟩:=I.obj;refine wpAny_bind (wpAny_pure (wpAny_bind (wpAny_bind (wpAny_loadPart hx (wpAny_bind (PySem.W.Looks.here (s:={ s with toks:=s.toks+1 }) (PySem.W.looks_clsIn X hc) ?_))))));rw[hd'];refine wpAny_pure (a:=some dx) (wpAny_bind (wpAny_pure (wpAny_bind ?_)));refine wpAny_nsSet1 (s:={ s with toks:=s.toks+1 }) I.ns fun h' hn2 hs2=> ?_;obtain⟨oD,esD,epD,hoD,hdD,hcD⟩:=hn2.count (PySem.Within.cons name v hw);refine wpAny_bind (wpAny_lookBehind hoD (by rw[hdD];exact pastItsLine_dict (Nat.le_trans hcD (by rw[List.length_cons];lia))) ?_);exact wpAny_pure (h _ ⟨(hs2.2 _ (Ne.symm I.ne)).trans I.obj,hn2,I.ne⟩ hs2)
theorem RN {R:Result->Shared->Prop}{vs:List Value}{kw:List (Str×Value)} (X:K.In s.heap) (hm:PySem.W.makesIn K C=true)
  (hi:PySem.W.findIn K (.ref C) "__init__" =some (some (.ref f)))(hf:PySem.W.typeIn K (.ref f)=some (.type "function"))
  (h:codeAny (model prog w) (A.under (.builtin "type.__call__" ⟨.ref C::vs,kw⟩)) (.call (.ref f) ⟨.ref (s.heap.objs.size+1)::vs,kw⟩) (PySem.W.InitBack (s.heap.objs.size+1) R)
   { s with heap:=(s.heap.push PySem.W.emptyDict).push (PySem.W.instObj C s.heap.objs.size) }) :
  codeAny (model prog w) A (.call (.ref C) ⟨vs,kw⟩) R s:=by
 obtain⟨hh,g,d,t,os⟩:=s;exact PySem.W.make_core (PySem.W.makes_of X hm) (PySem.W.looks_findIn X hi) (fun self=>PySem.W.bind_fn X self hf) (.inl rfl) h
end
def cI (f:Str)(v:V):List (Str×V)->List (Str×V)
 | []=>[(f,v)]
 | (g,x)::r=>if g=f then (g,v)::r else (g,x)::cI f v r
theorem lB (f g:Str)(v:V):∀fs:List (Str×V),(cI f v fs).lookup g=if g=f then some v else fs.lookup g
 | []=>by
  show List.lookup g [(f,v)]=_
  by_cases h:g=f
  ·have hb:(g==f)=true:=beq_iff_eq.mpr h;simp only[List.lookup,hb,if_pos h]
  ·have hb:(g==f)=false:=beq_eq_false_iff_ne.mpr h;simp only[List.lookup,hb,if_neg h]
 | (k,x)::r=>by
  have ih:=lB f g v r;rw[show cI f v ((k,x)::r)=(if k=f then (k,v)::r else (k,x)::cI f v r) from rfl]
  by_cases hk:k=f
  ·rw[if_pos hk]
   by_cases h:g=k
   ·have hb:(g==k)=true:=beq_iff_eq.mpr h;simp only[List.lookup,hb,if_pos (h.trans hk)]
   ·have hb:(g==k)=false:=beq_eq_false_iff_ne.mpr h;simp only[List.lookup,hb,if_neg (fun e:g=f=>h (e.trans hk.symm))]
  ·rw[if_neg hk]
   by_cases h:g=k
   ·have hb:(g==k)=true:=beq_iff_eq.mpr h;simp only[List.lookup,hb,if_neg (fun e:g=f=>hk (h.symm.trans e))]
   ·have hb:(g==k)=false:=beq_eq_false_iff_ne.mpr h;simp only[List.lookup,hb];exact ih
theorem u7 (f:Str)(v:V):∀fs:List (Str×V),f∈(cI f v fs).map (·.1)/\∀g,g∈fs.map (·.1)->g∈(cI f v fs).map (·.1)
 | []=>⟨by simp[cI],fun g h=>by simp at h⟩
 | (k,x)::r=>by
  obtain⟨i1,i2⟩:=u7 f v r;rw[show cI f v ((k,x)::r)=(if k=f then (k,v)::r else (k,x)::cI f v r) from rfl]
  by_cases hk:k=f
  ·rw[if_pos hk];subst hk;exact⟨by simp,fun g h=>by simpa using h⟩
  ·rw[if_neg hk];refine⟨?_,fun g h=> ?_⟩
   ·rw[List.map_cons];exact List.mem_cons_of_mem _ i1
   ·rw[List.map_cons]at h ⊢;rcases List.mem_cons.mp h with e|e
    ·exact List.mem_cons.mpr (.inl e)
    ·exact List.mem_cons_of_mem _ (i2 g e)
theorem wG (f:Str)(v:V):∀fs:List (Str×V),(cI f v fs).length<=fs.length+1
 | []=>by simp[cI]
 | (k,x)::r=>by
  have ih:=wG f v r;rw[show cI f v ((k,x)::r)=(if k=f then (k,v)::r else (k,x)::cI f v r) from rfl]
  by_cases hk:k=f
  ·rw[if_pos hk,List.length_cons,List.length_cons];lia
  ·rw[if_neg hk,List.length_cons,List.length_cons];lia
theorem RelO.some_of {v:V}{o:Option Value} (r:RelO (some v) o):∃u,o=some u/\RelV v u:=by
 cases o with
 | none=>exact(show False from r).elim
 | some u=>exact⟨u,rfl,r⟩
theorem RelO.none_of {o:Option Value}(r:RelO none o):o=none:=by
 cases o with
 | none=>rfl
 | some u=>exact(show False from r).elim
theorem uQ {v:V}{u:Value} (r:RelV v u):PySem.W.handedIn u=true:=by
 cases v with
 | non=>cases (show u=Value.none from r);rfl
 | bl b=>cases (show u=Value.bool b from r);rfl
 | int i=>obtain⟨t,e⟩:=(show ∃t,u=Value.int i t from r);cases e;rfl
 | str x=>obtain⟨t,e⟩:=(show ∃t,u=Value.str x t from r);cases e;rfl
 | byt b=>obtain⟨t,e⟩:=(show ∃t,u=Value.bytes b t from r);cases e;rfl
 | flt b=>obtain⟨t,e⟩:=(show ∃t,u=Value.float b t from r);cases e;rfl
 | ref a=>cases (show u=Value.ref a from r);rfl
 | ty n=>cases (show u=Value.type n from r);rfl
section
variable {P:Program}{w:World}{H H':Hp}{h h':Heap}{a C dx:Addr}{fs fs':List (Str×V)}
theorem vK (hok:HOk P w H h)(e:H a=some (.ins C dx fs)):∃mA,ObjM h a dx C mA/\(∀f,RelO (fs.lookup f) (mA f))/\PySem.Within mA (fs.map (·.1))/\fs.length<=1000/\H dx=some (.own a):=by
 obtain⟨d,z,ne,ob,mA,n,r,q⟩:=(show ObjOk P w H h a (.ins C dx fs) from hok a _ e)
 exact⟨mA,⟨ob,n,ne⟩,r,q,z,d⟩
end
structure Cls (K:PySem.W.Frag)(C:Addr):Prop where
 pg:PySem.W.plainGet K C Str.empty=true
 hd:PySem.W.hasDictIn K C=true
 po:PySem.W.plainOver K C=true
 sa:PySem.W.findIn K (.ref C) "__setattr__" =some (some (.builtin "object.__setattr__"))
theorem Cls.get {K:PySem.W.Frag}{C:Addr} (c:Cls K C) (f:Str):PySem.W.plainGet K C f=true:=c.pg
def NoAttr (K:PySem.W.Frag)(C:Addr)(f:Str):Prop:=PySem.W.findIn K (.ref C) f=some none
theorem NoAttr.taker {K:PySem.W.Frag}{C:Addr}{f:Str} (n:NoAttr K C f):PySem.W.takerIn K C f=some none:=by
 unfold PySem.W.takerIn;rw[show PySem.W.findIn K (.ref C) f=some none from n];rfl
structure Meth (K:PySem.W.Frag)(C:Addr)(m:Str)(f:Addr):Prop where
 at_:PySem.W.findIn K (.ref C) m=some (some (.ref f))
 fn:PySem.W.isFn K (.ref f)=true
 kp:PySem.W.keepIn K (.ref f)=true
section
variable {X:Cx}{pins:List (Addr×Obj)}{σ:St}{H:Hp}{s:Shared}{a C dx:Addr}{fs:List (Str×V)}{f:Str}{v:V}{A:Around}{E:Value->Shared->Prop}
theorem LE {b:Bool}{Q:Value->Shared->Prop} (I:Inv X pins σ H s) (e:H a=some (.ins C dx fs)) (c:Cls X.K C) (n:NoAttr X.K C f) (l:fs.lookup f=some v)
  (h:∀u s',Inv X pins σ H s'->RelV v u->Q u s'):wpAny (model X.prog X.w) A (getAttr (.ref a) f b) Q E s:=by
 obtain⟨mA,O,r,_,_,_⟩:=vK I.hok e;obtain⟨u,hu,ru⟩:=RelO.some_of (v:=v) (o:=mA f) (by rw[←l];exact r f);exact VM I.kIn O (c.get f) c.hd n hu (uQ ru) (h u _ (I.tok _) ru)
theorem yR {m:Str}{g:Addr}{pl:Sem Bool}{Q:Value×List Value->Shared->Prop} (I:Inv X pins σ H s) (e:H a=some (.ins C dx fs)) (c:Cls X.K C) (k:Meth X.K C m g) (l:fs.lookup m=none)
  (h:Q (.ref g,[.ref a]) s):wpAny (model X.prog X.w) A (getMethod (.ref a) m pl) Q E s:=by
 obtain⟨mA,O,r,_,_,_⟩:=vK I.hok e;have hn:mA m=none:=RelO.none_of (by rw[←l];exact r m);exact RE I.kIn O (c.get m) k.at_ k.fn hn h
theorem LM {y:V}{u:Value}{Q:Unit->Shared->Prop} (I:Inv X pins σ H s) (e:H a=some (.ins C dx fs)) (c:Cls X.K C) (n:NoAttr X.K C f) (hl:fs.length<1000) (ry:RelV y u)
  (h:∀s',Inv X pins σ (upd H a (.ins C dx (cI f y fs))) s'->Q () s'):wpAny (model X.prog X.w) A (setAttr (.ref a) f u) Q E s:=by
 obtain⟨mA,O,r,wi,_,ho⟩:=vK I.hok e;have hz:(fs.map (·.1)).length<=sizeLine:=by rw[List.length_map,sizeLine_eq];lia
 refine V4 I.kIn O c.sa c.po n.taker c.hd wi hz fun h' O' sb=>h _ ?_;have hd:∃o,h'.get? dx=some o:=let ⟨o,_,_,e',_⟩:=O'.ns;⟨o,e'⟩;refine I.write (x:=a) (e:=dx) (by rw[e];exact True.intro) (.inr ho) (fun b q hb z=>(sb.2 b hb).trans z) hd ?_;refine⟨by rw[aJ O.ne];exact ho,?_,O.ne,O'.obj,_,O'.ns,fun g=> ?_,fun g hg=> ?_⟩
 ·have:=wG f y fs;lia
 ·show RelO ((cI f y fs).lookup g) (if g=f then some u else mA g);rw[lB]
  by_cases q:g=f
  ·rw[if_pos q,if_pos q];exact ry
  ·rw[if_neg q,if_neg q];exact r g
 ·by_cases q:g=f
  ·rw[q];exact(u7 f y fs).1
  ·refine(u7 f y fs).2 g (wi g fun z=>hg ?_);show (if g=f then some u else mA g)=none;rw[if_neg q];exact z
theorem Inv.made (I:Inv X pins σ H s):Inv X pins σ (upd (upd H s.heap.objs.size (.own (s.heap.objs.size+1))) (s.heap.objs.size+1) (.ins C s.heap.objs.size []))
  { s with heap:=(s.heap.push PySem.W.emptyDict).push (PySem.W.instObj C s.heap.objs.size) }:=by
 have e1:(s.heap.push PySem.W.emptyDict).get? s.heap.objs.size=some PySem.W.emptyDict:=Heap.get?_push_size s.heap rfl;have e2:((s.heap.push PySem.W.emptyDict).push (PySem.W.instObj C s.heap.objs.size)).get? (s.heap.objs.size+1)=some (PySem.W.instObj C s.heap.objs.size):=by
  have:=Heap.get?_push_size (s.heap.push PySem.W.emptyDict) (o:=PySem.W.instObj C s.heap.objs.size) rfl
  rwa [Heap.size_push]at this
 have e3:(s.heap.push PySem.W.emptyDict).Ns s.heap.objs.size (fun _=>none):=⟨PySem.W.emptyDict,#[],_,e1,rfl,(fun e he=>absurd he (by simp)),fun _=>rfl⟩
 have I1:=I.laid (a:=s.heap.objs.size) (o:= .own (s.heap.objs.size+1)) (h':=s.heap.push PySem.W.emptyDict) (t':=s.toks) (fun b u q=>Heap.get?_push_of_some _ q) (Nat.le_refl _) ⟨_,e1⟩;refine I1.laid (a:=s.heap.objs.size+1) (o:= .ins C s.heap.objs.size []) (t':=s.toks) (fun b u q=>Heap.get?_push_of_some _ q) (Nat.le_of_eq (Heap.size_push _ _)) ?_;have ne:s.heap.objs.size≠s.heap.objs.size+1:=Nat.ne_of_lt (Nat.lt_succ_self _);refine⟨by rw[aJ ne,aS],Nat.zero_le _,ne,e2,fun _=>none,(Heap.Ns1.of_empty e3).at fun o q=>Heap.get?_push_of_some _ q,fun _=>True.intro,fun y hy=>absurd rfl hy⟩
theorem W5 {prog:Program}{w:World}{env:Env}{e:Expr}{f:Str}{pos:Pos}{s:Shared}{Q:Value->Shared->Prop} (hb:attributeBase e f env (eval e env)=eval e env)
  (h:wpAny (model prog w) A (eval e env) (fun o s₁=>wpAny (model prog w) A (getAttr o f true) Q E s₁) E s):wpAny (model prog w) A (eval (.Attribute e f pos) env) Q E s :=
 Attribute_any_ h (by rw[arm_eval_Attribute,hb])
end
def RO (K:PySem.W.Frag)(ta:TE)(f:Str):TE:=fun σ H Q=>ta σ H fun x H1=>∃a C dx fs v,x= .ref a/\H1 a=some (.ins C dx fs)/\Cls K C/\NoAttr K C f/\fs.lookup f=some v/\Q v H1
def YD (K:PySem.W.Frag)(ta tv:TE)(f:Str):TS:=fun D σ H=>tv σ H fun y H1=>ta σ H1 fun x H2=>∃a C dx fs,x= .ref a/\H2 a=some (.ins C dx fs)/\Cls K C/\NoAttr K C f/\fs.length<1000 ∧
 D.nx σ (upd H2 a (.ins C dx (cI f y fs)))
def Y4 (X:Cx)(op:Operator)(rd:V->V->Hp->VK->Prop):Prop :=
 ∀(pins:List (Addr×Obj)) (s:Shared) (σ:St) (H:Hp) (x y:V) (u v:Value) (Q:VK),Inv X pins σ H s->RelV x u->RelV y v->rd x y H Q->wpAny (model X.prog X.w) X.A (inplaceOp op u v) (EP X pins σ Q) X.xe s
section
variable {X:Cx}{o e value:Expr}{f:Str}{pos pos' tpos:Pos}{ta tv:TE}
theorem bA (he:PE X e ta)(hb:attributeBase e f X.env (eval e X.env)=eval e X.env):PE X (.Attribute e f pos) (RO X.K ta f):=by
 intro pins s σ H Q I h;refine W5 hb (thn (he pins s σ H _ I h) fun u s1 ⟨x,H1,I1,rx,a,C,dx,fs,v,ex,ea,c,n,l,q⟩=> ?_);subst ex;obtain rfl:u=Value.ref a:=rx;exact LE I1 ea c n l fun u' s2 I2 ru=>⟨v,H1,I2,ru,q⟩
theorem eJ (ha:PE X o ta)(hv:PE X value tv)(hs:swapsWith value (some (.Attribute o f pos')) pos.line X.env=pure false):PS X (.Assign [.Attribute o f pos'] value pos) (YD X.K ta tv f):=by
 intro pins s σ H D I h;refine plainObj_wpAny_Assign_Attribute (thn (hv pins s σ H _ I h) fun u s1 ⟨y,H1,I1,ry,q⟩=>thn (ha pins s1 σ H1 _ I1 q) fun ov s2 ⟨x,H2,I2,rx,a,C,dx,fs,ex,ea,c,n,l,q2⟩=> ?_) hs;subst ex;obtain rfl:ov=Value.ref a:=rx;exact LM I2 ea c n l ry fun s3 I3=>⟨σ,_,I3,q2⟩
def XU:V->V->Hp->VK->Prop:=fun x y H Q=>∃i j,x= .int i/\y= .int j/\Q (.int (i+j)) H
theorem Z4:Y4 X .Add XU:=by
 rintro pins s σ H x y u v Q I rx ry ⟨i,j,rfl,rfl,q⟩;obtain⟨t,rfl⟩:=(show ∃t,u=Value.int i t from rx)
 obtain⟨t',rfl⟩:=(show ∃t',v=Value.int j t' from ry)
 exact PyProof.Rows.iadd_int ⟨.int (i+j),H,I.tok _,⟨_,rfl⟩,q⟩
end
section
variable {X:Cx}{pins:List (Addr×Obj)}{σ:St}{H:Hp}{s:Shared}{A:Around}{E:Value->Shared->Prop}{Q:Value->Shared->Prop}{c:Value}{b:Bool}
inductive iY (K:PySem.W.Frag)(H:Hp):V->Value->Prop where
 | non:iY K H .non (.type "NoneType")
 | bl (x:Bool):iY K H (.bl x) (.type "bool")
 | int (i:Int):iY K H (.int i) (.type "int")
 | str (x:Str):iY K H (.str x) (.type "str")
 | flt (x:UInt64):iY K H (.flt x) (.type "float")
 | lst {a:Addr}{xs:List V} (e:H a=some (.lst xs)):iY K H (.ref a) (.type "list")
 | frz {a:Addr}{o:Obj}{xs:List V} (e:H a=some (.frz o (.lst xs))):iY K H (.ref a) (.type "list")
 | tup {a:Addr}{xs:List V} (e:H a=some (.tup xs)):iY K H (.ref a) (.type "tuple")
 | dK {a:Addr}{kvs:List (Key×V)} (e:H a=some (.dK kvs)):iY K H (.ref a) (.type "dict")
 | dT {a:Addr}{kvs:List (List Key×V)} (e:H a=some (.dT kvs)):iY K H (.ref a) (.type "dict")
 | ins {a C dx:Addr}{fs:List (Str×V)} (e:H a=some (.ins C dx fs)) (cl:Cls K C) (ha:PySem.W.findIn K (.ref C) "__class__" =some (some (.builtin "object.__class__")))
   (hn:PySem.W.specialIn K (.builtin "object.__class__") "__get__" =some (some (.builtin "getset_descriptor.__get__")))(htk:PySem.W.takesIn K (.builtin "object.__class__")=some true)
   (hm:PySem.W.mroIn K C (.type "object")=some true):iY K H (.ref a) (.ref C)
theorem M0 {x:V}{u t:Value} (I:Inv X pins σ H s) (rx:RelV x u) (ty:iY X.K H x t) (e:PySem.W.kitOne X.K t c=some b) (h:∀tk,Q (.bool b) { s with toks:=tk }) :
  wpAny (model X.prog X.w) A (call (.builtin "isinstance") [u,c]) Q E s:=by
 cases ty with
 | non=>cases (show u=Value.none from rx);exact PySem.W.kia_one PySem.W.kitx_none I.kIn True.intro e (fun z=>nomatch z) h
 | bl y=>cases (show u=Value.bool y from rx);exact PySem.W.kia_one PySem.W.kitx_bool I.kIn True.intro e (fun z=>nomatch z) h
 | int i=>obtain⟨t,q⟩:=(show ∃t,u=Value.int i t from rx);cases q;exact PySem.W.kia_one PySem.W.kitx_int I.kIn True.intro e (fun z=>nomatch z) h
 | str y=>obtain⟨t,q⟩:=(show ∃t,u=Value.str y t from rx);cases q;exact PySem.W.kia_one PySem.W.kitx_str I.kIn True.intro e (fun z=>nomatch z) h
 | flt y=>obtain⟨t,q⟩:=(show ∃t,u=Value.float y t from rx);cases q;exact PySem.W.kia_one PySem.W.kitx_float I.kIn True.intro e (fun z=>nomatch z) h
 | @lst a xs ea =>
  cases (show u=Value.ref a from rx);obtain⟨_,_,n,_,h1⟩:=(show ObjOk X.prog X.w H s.heap a (.lst xs) from I.hok a _ ea)
  exact PySem.W.kia_one PySem.W.kitx_list I.kIn ⟨_,h1,rfl⟩ e (fun z=>nomatch z) h
 | @frz a ob xs ea =>
  cases (show u=Value.ref a from rx);obtain⟨_,_,_,n,_,h1⟩:=(show ObjOk X.prog X.w H s.heap a (.frz ob (.lst xs)) from I.hok a _ ea)
  exact PySem.W.kia_one PySem.W.kitx_list I.kIn ⟨_,h1,rfl⟩ e (fun z=>nomatch z) h
 | @tup a xs ea =>
  cases (show u=Value.ref a from rx);obtain⟨_,_,_,p⟩:=(show ObjOk X.prog X.w H s.heap a (.tup xs) from I.hok a _ ea)
  obtain⟨o,h1,h2,_⟩:=p;exact PySem.W.kia_one PySem.W.kitx_tuple I.kIn ⟨o,h1,h2⟩ e (fun z=>nomatch z) h
 | @dK a kvs ea =>
  cases (show u=Value.ref a from rx);obtain⟨_,_,vs,_,p⟩:=(show ObjOk X.prog X.w H s.heap a (.dK kvs) from I.hok a _ ea)
  obtain⟨o,es,ep,h1,h2,_⟩:=p;exact PySem.W.kia_one PySem.W.kitx_dict I.kIn ⟨o,h1,h2.1⟩ e (fun z=>nomatch z) h
 | @dT a kvs ea =>
  cases (show u=Value.ref a from rx);obtain⟨_,_,xs,_,o,es,ep,h1,h2,_⟩:=(show ObjOk X.prog X.w H s.heap a (.dT kvs) from I.hok a _ ea)
  exact PySem.W.kia_one PySem.W.kitx_dict I.kIn ⟨o,h1,h2.1⟩ e (fun z=>nomatch z) h
 | @ins a C dx fs ea cl ha hn htk hm =>
  cases (show u=Value.ref a from rx);obtain⟨mA,O,_⟩:=vK I.hok ea;obtain⟨od,J,_⟩:=O.look;exact PySem.W.kia_one (PySem.W.kitx_own (cl.get _) cl.hd ha hn htk hm) I.kIn J e (fun z=>nomatch z) h
end
end L2
namespace L2
open PySem PySem.Spec PyProof.Rows
structure Room (k:Nat)(A:Around):Prop where
 hd:A.handled=none
 dp:A.depth+3 * k+5<recursionLimit
 un:A.units+16 * k+200<cLine
theorem Room.mono {j k:Nat}{A:Around} (r:Room k A) (h:j<=k):Room j A:=⟨r.hd,by have:=r.dp;lia,by have:=r.un;lia⟩
theorem Room.deeper {k:Nat}{A:Around} (r:Room (k+1) A) (env:Env):Room k (A.deeper env) :=
 ⟨r.hd,by have:=r.dp;show A.depth+1+3 * k+5<_;lia,by have:=r.un;show A.units+3+16 * k+200<_;lia⟩
theorem LI {A:Around}{C:Addr}{us:List Value}{kw:List (Str×Value)}:(A.under (.builtin "type.__call__" ⟨.ref C::us,kw⟩)).depth=A.depth+1:=by
 first|rfl|simp[Around.under,Code.weight,Code.isCreation,Code.isGuard,Code.isCaller,Code.frames,Code.isFrame,guardIds]
theorem J6 {A:Around}{C:Addr}{us:List Value}{kw:List (Str×Value)}:(A.under (.builtin "type.__call__" ⟨.ref C::us,kw⟩)).units=A.units+1:=by
 first|rfl|simp[Around.under,Code.cUnits,Code.frames,Code.isFrame]
theorem Room.make {k:Nat}{A:Around} (r:Room (k+1) A) (C:Addr) (us:List Value) (kw:List (Str×Value)):Room k (A.under (.builtin "type.__call__" ⟨.ref C::us,kw⟩)) :=
 ⟨r.hd,by have:=r.dp;rw[LI];lia,by have:=r.un;rw[J6];lia⟩
theorem Room.depth {k:Nat}{A:Around} (r:Room k A):A.depth<recursionLimit:=by have:=r.dp;lia
theorem Room.units0 {k:Nat}{A:Around} (r:Room k A):A.units<cLine:=by have:=r.un;lia
def KI:TA:=fun _ H Q=>Q [] H
def SQ (ta:TE)(tr:TA):TA:=fun σ H Q=>ta σ H fun x H1=>tr σ H1 fun xs H2=>Q (x::xs) H2
section
variable {X:Cx}{e:Expr}{es:List Expr}{te:TE}{t:TA}{pos:Pos}
theorem aB:PA X [] KI:=fun _ _ _ _ H Q I h=>Calls.spliced_nil ⟨[],H,I,.nil,h⟩
theorem aA (ha:PE X e te)(hr:PA X es t)(hs:starEach (e::es) X.env=(false,eval e X.env)::starEach es X.env:=by rfl):PA X (e::es) (SQ te t):=by
 intro pos pins s σ H Q I h;rw[hs];show wpAny _ _ (spliced ((false,eval e X.env)::backTo pos (starEach es X.env))) _ _ s;refine Calls.spliced_cons (thn (ha pins s σ H _ I h) fun u s1 ⟨x,H1,I1,r1,q1⟩=> ?_);exact thn (hr pos pins s1 σ H1 _ I1 q1) fun us s2 ⟨xs,H2,I2,r2,q2⟩=>⟨x::xs,H2,I2,.cons r1 r2,q2⟩
def YF (t:TA):TE:=fun σ H Q=>t σ H fun xs H1=>xs.length<=sizeLine/\∀p,H1 p=none->Q (.ref p) (upd H1 p (.tup xs))
def aAn (t:TA):TE:=fun σ H Q=>t σ H fun xs H1=>xs.length<=sizeLine/\∀p,H1 p=none->Q (.ref p) (upd H1 p (.lst xs))
theorem dM {x1}(h:PA X es t):PE X (.Tuple es x1 pos) (YF t):=by
 intro pins s σ H Q I hq;refine wpAny_Tuple_spliced (thn (h pos pins s σ H _ I hq) fun us s1 ⟨xs,H1,I1,r,z,q⟩=>⟨by rw[←r.length];exact z,?_⟩);have hf:H1 s1.heap.objs.size=none:=I1.hok.fresh (Nat.le_refl _);refine⟨.ref s1.heap.objs.size,upd H1 s1.heap.objs.size (.tup xs),I1.laid (t':=s1.toks) (fun b u e=>Heap.get?_push_of_some _ e) (Nat.le_refl _) ?_,rfl,q _ hf⟩;exact⟨z,us,r,⟨_,Heap.get?_push_size _ rfl,rfl,_,rfl⟩⟩
theorem dO (h:PA X es t):PE X (.List es pos) (aAn t):=by
 intro pins s σ H Q I hq;refine wpAny_List_spliced (thn (h pos pins s σ H _ I hq) fun us s1 ⟨xs,H1,I1,r,z,q⟩=>⟨by rw[←r.length];exact z,?_⟩);have hf:H1 s1.heap.objs.size=none:=I1.hok.fresh (Nat.le_refl _);refine⟨.ref s1.heap.objs.size,upd H1 s1.heap.objs.size (.lst xs),I1.laid (t':=s1.toks) (fun b u e=>Heap.get?_push_of_some _ e) (Nat.le_refl _) ?_,rfl,q _ hf⟩;exact⟨z,us,0,r,Heap.get?_push_size _ rfl⟩
end
abbrev Sp:=List V->Hp->VK->XK->Prop
abbrev CXT:=List Env->Hp->Shared->XK->Value->Shared->Prop
structure Env0 (P:Program)(w:World)(K:PySem.W.Frag)(mg:Str->Option Value)(base:Heap)(A:Around)(outer:List Env)(s:Shared)(H:Hp):Prop where
 frames:A.frames=some outer
 mod:Mod K mg base
 bs:∀b o,base.get? b=some o->s.heap.get? b=some o/\H b=none
 bsz:base.objs.size<=s.heap.objs.size
 funs:s.heap.FunFrames base outer
 frf:∀b∈frs outer,H b=none
 hok:HOk P w H s.heap
 bare:AllBare s.gens
def CE (outer:List Env)(P:Program)(w:World)(H:Hp)(s:Shared)(Q:VK)(u:Value)(s':Shared):Prop :=
 ∃v H',s'.os=s.os/\AllBare s'.gens/\Un (frs outer) [] H H' s.heap s'.heap/\HOk P w H' s'.heap/\RelV v u/\Q v H'
def CR (CX:CXT)(outer:List Env)(P:Program)(w:World)(H:Hp)(s:Shared)(Q:VK)(E:XK)(r:Result)(s':Shared):Prop :=
 match r with
 | .ok (.ret u)=>CE outer P w H s Q u s'
 | .ok _=>False
 | .error e=>CX outer H s E e s'
structure FnOk (P:Program)(w:World)(K:PySem.W.Frag)(mg:Str->Option Value)(base:Heap)(CX:CXT)(k:Nat)(f:Addr)(fd:FuncData)(ps:List Str)(sp:Sp):Prop where
 len:∀vs H Q E,sp vs H Q E->vs.length=ps.length
 run:∀(A:Around) (outer:List Env) (s:Shared) (H:Hp) (args:Args) (us:List Value) (vs:List V) (Q:VK) (E:XK),Room k A->Env0 P w K mg base A outer s H->BindsTo s fd args (ps.zip us)->Vals vs us->sp vs H Q E →
  codeAny (model P w) A (.call (.ref f) args) (CR CX outer P w H s Q E) s
theorem FnOk.mono {P:Program}{w:World}{K:PySem.W.Frag}{mg:Str->Option Value}{base:Heap}{CX:CXT}{j k:Nat}{f:Addr}{fd:FuncData}{ps:List Str}{sp:Sp} (F:FnOk P w K mg base CX j f fd ps sp) (h:j<=k) :
  FnOk P w K mg base CX k f fd ps sp:=⟨F.len,fun A outer s H args us vs Q E hr=>F.run A outer s H args us vs Q E (hr.mono h)⟩
theorem Env0.make {P:Program}{w:World}{K:PySem.W.Frag}{mg:Str->Option Value}{base:Heap}{A:Around}{outer:List Env}{s:Shared}{H:Hp} (e:Env0 P w K mg base A outer s H) (C:Addr) (us:List Value) (kw:List (Str×Value)) :
  Env0 P w K mg base (A.under (.builtin "type.__call__" ⟨.ref C::us,kw⟩)) outer s H:=⟨by first|exact e.frames|(simpa [Around.under,Code.envs,Code.isFrame,pushEnvs] using e.frames),e.mod,e.bs,e.bsz,e.funs,e.frf,e.hok,e.bare⟩
section
variable {X:Cx}{pins:List (Addr×Obj)}{σ:St}{H:Hp}{s s':Shared}
theorem Inv.env0 (I:Inv X pins σ H s):Env0 X.prog X.w X.K X.mg X.base X.A X.stack s H :=
 ⟨I.ok.frames,I.ok.mod,I.bs,Nat.le_trans I.ok.bsz I.sz,I.stack,I.stkFree,I.hok,I.bare⟩
theorem Inv.after {Q:VK}{u:Value} (I:Inv X pins σ H s) (h:CE X.stack X.prog X.w H s Q u s'):EP X pins σ Q u s':=by
 obtain⟨v,H',os,bare,un,hok,r,q⟩:=h;obtain⟨hh,g,d,t,os'⟩:=s';obtain rfl:os'=s.os:=os;exact⟨v,H',I.call (h':=hh) (g':=g) (d':=d) (t':=t) (ch:=[]) un hok bare (fun b z=>absurd z (by simp)),r,q⟩
end
def sP (sp:Sp)(dvs:List V)(E:XK)(t:TA):TE:=fun σ H Q=>t σ H fun vs H1=>sp (vs++dvs) H1 Q E
def KN (C:Addr)(sp:Sp)(dvs:List V)(E:XK)(t:TA):TE:=fun σ H Q=>t σ H fun vs H1=>∀x dx,H1 x=none->H1 dx=none->dx≠x →
 sp (.ref x::(vs++dvs)) (upd (upd H1 dx (.own x)) x (.ins C dx [])) (fun v H2=>v= .non/\Q (.ref x) H2) E
def Binds (K:PySem.W.Frag)(fd:FuncData)(ps:List Str)(ds:List Value):Prop :=
 ∀(s:Shared) (us:List Value),K.In s.heap->(us++ds).length=ps.length->BindsTo s fd ⟨us,[]⟩ (ps.zip (us++ds))
theorem Binds.all {K:PySem.W.Frag}{fd:FuncData}{ps:List Str} (h:∀us:List Value,us.length=ps.length->bindArgs fd ⟨us,[]⟩=pure (ps.zip us)):Binds K fd ps []:=fun s us _ hl=>by
 rw[List.append_nil]at hl ⊢;exact .of_eq (h us hl)
def uD (CX:CXT)(X:Cx)(E:XK):Prop:=∀(pins:List (Addr×Obj)) (σ:St) (H:Hp) (s:Shared) (e:Value) (s':Shared),Inv X pins σ H s->CX X.stack H s E e s'->X.xe e s'
section
variable {X:Cx}{CX:CXT}{k:Nat}{f C:Addr}{fd:FuncData}{ps:List Str}{sp:Sp}{dvs:List V}{ds:List Value}{E:XK}{x m:Str}{p pos apos:Pos}{e o:Expr}{es:List Expr}{ta:TE}{t:TA}
theorem rM {pins:List (Addr×Obj)}{σ:St}{H:Hp}{s:Shared}{Q:VK}{us:List Value}{vs:List V} (F:FnOk X.prog X.w X.K X.mg X.base CX k f fd ps sp) (hr:Room k X.A) (hb:Binds X.K fd ps ds) (hd:Vals dvs ds) (hx:uD CX X E)
  (I:Inv X pins σ H s)(r:Vals vs us)(h:sp (vs++dvs) H Q E):wpAny (model X.prog X.w) X.A (call (.ref f) us) (EP X pins σ Q) X.xe s:=by
 have r2:Vals (vs++dvs) (us++ds):=r.append hd;have hl:(us++ds).length=ps.length:=by rw[←r2.length];exact F.len _ _ _ _ h
 refine wpAny_call (codeAny_mono (F.run X.A X.stack s H ⟨us,[]⟩ (us++ds) (vs++dvs) Q E hr I.env0 (hb s us I.kIn hl) r2 h) fun r s' hq=> ?_);cases r with
 | error e=>exact hx pins σ H s e s' I hq
 | ok fl =>
  cases fl with
  | ret u=>exact I.after hq
  | next=>exact False.elim hq
  | brk=>exact False.elim hq
  | cont=>exact False.elim hq
theorem U8 (F:FnOk X.prog X.w X.K X.mg X.base CX k f fd ps sp)(hr:Room k X.A)(hg:Gl X x)(hm:X.mg x=some (.ref f))(hk:PySem.W.keepIn X.K (.ref f)=true)(hb:Binds X.K fd ps ds)(hd:Vals dvs ds)(hx:uD CX X E)
  (ha:PA X (e::es) t)(hdb:(x==("__debug__" :Str))=false:=by decide)(he:starEach (e::es) X.env=(false,eval e X.env)::starEach es X.env:=by rfl)(hpl:(backTo pos (starEach es X.env)).any (·.1)=false:=by rfl) :
  PE X (.Call (.Name x p) (e::es) [] pos) (sP sp dvs E t):=by
 intro pins s σ H Q I h;refine wpAny_Call_Name_kw (rW I hg hm ?_ hdb);refine PySem.W.callWith_K (h₀:=X.base) I.ok.mod.kin hk (thn (ha pos pins s σ H _ I h) fun us s1 ⟨vs,H1,I1,r,q⟩=>⟨I1.kIn,?_⟩) he hpl;exact rM F hr hb hd hx I1 r q
structure Mk (K:PySem.W.Frag)(C f:Addr):Prop where
 makes:PySem.W.makesIn K C=true
 init:PySem.W.findIn K (.ref C) "__init__" =some (some (.ref f))
 fn:PySem.W.isFn K (.ref f)=true
 kp:PySem.W.keepIn K (.ref C)=true
theorem RI {pins:List (Addr×Obj)}{σ:St}{H:Hp}{s:Shared}{Q:VK}{us:List Value}{vs:List V} (M:Mk X.K C f) (F:FnOk X.prog X.w X.K X.mg X.base CX k f fd ps sp) (hr:Room (k+1) X.A) (hb:Binds X.K fd ps ds) (hd:Vals dvs ds)
  (hx:uD CX X E)(I:Inv X pins σ H s)(r:Vals vs us)
  (h:∀x dx,H x=none->H dx=none->dx≠x->sp (.ref x::(vs++dvs)) (upd (upd H dx (.own x)) x (.ins C dx [])) (fun v H2=>v= .non/\Q (.ref x) H2) E) :
  wpAny (model X.prog X.w) X.A (call (.ref C) us) (EP X pins σ Q) X.xe s:=by
 have hq:=h (s.heap.objs.size+1) s.heap.objs.size (I.hok.fresh (Nat.le_succ _)) (I.hok.fresh (Nat.le_refl _)) (Nat.ne_of_lt (Nat.lt_succ_self _));have I2:=Inv.made (C:=C) I;have r2:Vals (V.ref (s.heap.objs.size+1)::(vs++dvs)) (Value.ref (s.heap.objs.size+1)::(us++ds)):= .cons rfl (r.append hd);have hl:(Value.ref (s.heap.objs.size+1)::us++ds).length=ps.length:=by
  have e:=r2.length;rw[F.len _ _ _ _ hq]at e;exact e.symm
 refine wpAny_call (RN (f:=f) I.kIn M.makes M.init (beq_iff_eq.mp M.fn) (codeAny_mono (F.run _ X.stack _ _ ⟨Value.ref (s.heap.objs.size+1)::us,[]⟩ (Value.ref (s.heap.objs.size+1)::(us++ds)) _ _ E (hr.make C us [])
  (I2.env0.make C us []) (hb _ (Value.ref (s.heap.objs.size+1)::us) I2.kIn hl) r2 hq) fun r s' hq'=> ?_))
 cases r with
 | error e=>exact hx pins σ _ _ e s' I2 hq'
 | ok fl =>
  cases fl with
  | ret u =>
   obtain⟨v,H',I3,rv,ev,q3⟩:=I2.after hq';subst ev;exact⟨rv,⟨V.ref (s.heap.objs.size+1),H',I3,rfl,q3⟩⟩
  | next=>exact False.elim hq'
  | brk=>exact False.elim hq'
  | cont=>exact False.elim hq'
theorem VH (M:Mk X.K C f)(F:FnOk X.prog X.w X.K X.mg X.base CX k f fd ps sp)(hr:Room (k+1) X.A)(hg:Gl X x)(hm:X.mg x=some (.ref C))(hb:Binds X.K fd ps ds)(hd:Vals dvs ds)(hx:uD CX X E)
  (ha:PA X (e::es) t)(hdb:(x==("__debug__" :Str))=false:=by decide)(he:starEach (e::es) X.env=(false,eval e X.env)::starEach es X.env:=by rfl)(hpl:(backTo pos (starEach es X.env)).any (·.1)=false:=by rfl) :
  PE X (.Call (.Name x p) (e::es) [] pos) (KN C sp dvs E t):=by
 intro pins s σ H Q I h;refine wpAny_Call_Name_kw (rW I hg hm ?_ hdb);refine PySem.W.callWith_K (h₀:=X.base) I.ok.mod.kin M.kp (thn (ha pos pins s σ H _ I h) fun us s1 ⟨vs,H1,I1,r,q⟩=>⟨I1.kIn,?_⟩) he hpl;exact RI M F hr hb hd hx I1 r q
end
section
variable {X:Cx}{CX:CXT}{k:Nat}{f C:Addr}{fd:FuncData}{ps ks:List Str}{sp:Sp}{E:XK}{x m:Str}{p pos apos kpos:Pos}{e o:Expr}{es:List Expr}{kws:List Keyword}{te ta:TE}{t tk:TA}{nm:Option Str}
variable {g:List Value->List Value->List Value}{gV:List V->List V->List V}
end
structure aN (N P:List Str)(sc:Scope):Prop where
 kind:sc.kind= .function
 co:sc.isCoroutine=false
 gen:sc.isGenerator=false
 nd:N.Nodup
 pre:N.take P.length=P
 par:∀x∈P,sc.names.lookup x=some .local∨sc.names.lookup x=some .cell
 nofree:∀y∈sc.names,y.2≠ .free
theorem BD {kindOf:Str->Option NameKind}{x:Str}:∀{binds:List (Str×Value)}{m:Str->Option Value},(∀v,(x,v)∉binds)->bindL kindOf binds m x=m x
 | [],_,_=>rfl
 | (n,v)::r,m,h=>by
  unfold bindL;rw[BD fun w hw=>h w (List.mem_cons_of_mem _ hw)]
  split
  ·have:x≠n:=by rintro rfl;exact h v List.mem_cons_self
   simp[this]
  ·rfl
theorem BU {kindOf:Str->Option NameKind}{x:Str}:∀{binds:List (Str×Value)}{m:Str->Option Value},(∀v,(x,v)∉binds)->bindC kindOf binds m x=m x
 | [],_,_=>rfl
 | (n,v)::r,m,h=>by
  unfold bindC;rw[BU fun w hw=>h w (List.mem_cons_of_mem _ hw)]
  split
  ·rfl
  ·have:x≠n:=by rintro rfl;exact h v List.mem_cons_self
   simp[this]
theorem CK {kindOf:Str->Option NameKind}{x:Str}{v:Value}:∀{P:List Str}{vs:List Value}{i:Nat}{m:Str->Option Value},P.Nodup->P[i]? =some x->vs[i]? =some v->kindOf x=some .local →
  bindL kindOf (P.zip vs) m x=some v
 | [],_,_,_,_,h,_,_=>by simp at h
 | _::_,[],_,_,_,_,h,_=>by simp at h
 | p::P,w::vs,0,m,nd,h1,h2,hk=>by
  simp at h1 h2;subst h1;subst h2;show bindL kindOf ((p,w)::P.zip vs) m p=_;unfold bindL;rw[BD fun v hv=>(List.nodup_cons.mp nd).1 (List.of_mem_zip hv).1,if_pos hk];simp
 | p::P,w::vs,i+1,m,nd,h1,h2,hk=>by
  show bindL kindOf ((p,w)::P.zip vs) m x=_;unfold bindL;exact CK (i:=i) (List.nodup_cons.mp nd).2 (by simpa using h1) (by simpa using h2) hk
theorem CF {kindOf:Str->Option NameKind}{x:Str}{v:Value}:∀{P:List Str}{vs:List Value}{i:Nat}{m:Str->Option Value},P.Nodup->P[i]? =some x->vs[i]? =some v->kindOf x≠some .local →
  bindC kindOf (P.zip vs) m x=some v
 | [],_,_,_,_,h,_,_=>by simp at h
 | _::_,[],_,_,_,_,h,_=>by simp at h
 | p::P,w::vs,0,m,nd,h1,h2,hk=>by
  simp at h1 h2;subst h1;subst h2;show bindC kindOf ((p,w)::P.zip vs) m p=_;unfold bindC;rw[BU fun v hv=>(List.nodup_cons.mp nd).1 (List.of_mem_zip hv).1,if_neg hk];simp
 | p::P,w::vs,i+1,m,nd,h1,h2,hk=>by
  show bindC kindOf ((p,w)::P.zip vs) m x=_;unfold bindC;exact CF (i:=i) (List.nodup_cons.mp nd).2 (by simpa using h1) (by simpa using h2) hk
def start (N:List Str)(vs:List V):St:=vs.map some++List.replicate (N.length - vs.length) none
def sQ (CX:CXT)(P:Program)(w:World)(K:PySem.W.Frag)(mg:Str->Option Value)(base:Heap)(N:List Str)(qual:Str)(scope:Scope)(f:Addr)(cd:Value)(A:Around)(outer:List Env)(s:Shared)(H:Hp)(E:XK):Cx where
 prog:=P
 w:=w
 K:=K
 mg:=mg
 base:=base
 A:=A.deeper (envOfC qual scope s.heap.objs.size f cd)
 N:=N
 s₀:=s
 H₀:=H
 env:=envOfC qual scope s.heap.objs.size f cd
 outer:=outer
 stack:=envOfC qual scope s.heap.objs.size f cd::outer
 ex:=[]
 calm:=true
 fn:=fun _=>true
 pn:=[]
 xe:=fun e s'=>wpAny (model P w) (A.deeper (envOfC qual scope s.heap.objs.size f cd)) (leaving (envOfC qual scope s.heap.objs.size f cd) e) (fun _ s''=>CX outer H s E e s'') (fun e' s''=>CX outer H s E e' s'') s'
theorem tO {sc:Scope}{n:Nat}{x:Str} (h:sc.names.lookup x=some .cell):∃c,(cellsFrom n sc.names []).lookup x=some c:=by
 have q:=PySem.W.cellsFrom_some sc.names n [] (.inl h);exact Option.isSome_iff_exists.mp q
theorem BX {CX:CXT}{P:Program}{w:World}{K:PySem.W.Frag}{mg:Str->Option Value}{base:Heap}{N ps:List Str}{qual:Str}{scope:Scope}{f:Addr}{cd:Value}{A:Around}{outer:List Env}{s s1:Shared}{H:Hp}{E:XK}{us:List Value}{vs:List V}
  (S:aN N ps scope)(hd:A.handled=none)(e0:Env0 P w K mg base A outer s H)(hl:vs.length=ps.length)(r:Vals vs us)
  (x:InCallC s s.heap.objs.size (bindL (envOfC qual scope s.heap.objs.size f cd).kindOf (ps.zip us) fun _=>none) (cellsFrom (s.heap.objs.size+1) scope.names []) (bindC (envOfC qual scope s.heap.objs.size f cd).kindOf (ps.zip us) fun _=>none) s1) :
  Inv (sQ CX P w K mg base N qual scope f cd A outer s H E) [] (start N vs) H s1:=by
 have hpl:ps.length<=N.length:=by have:=congrArg List.length S.pre;rw[List.length_take]at this;lia
 obtain⟨h1,tk,rfl,hk⟩:=x.done;have noA:∀b:Addr,b∉(sQ CX P w K mg base N qual scope f cd A outer s H E).ex:=fun b z=>absurd (show b∈([]:List Addr) from z) (by simp);refine⟨⟨e0.mod,S.kind,rfl,rfl,Nat.le_refl _,fun y z c h1 h2=> ?_,fun y hy=> ?_,fun y c _ h=> ?_,fun _=>hd,Around.frames_deeper e0.frames,.inr ⟨rfl,rfl⟩,fun b z=>absurd z (noA b),e0.bs,e0.bsz,fun b _ _=>noA b,fun b z=>absurd z (noA b),e0.funs,e0.frf⟩,
  rfl,e0.bare,Un.kept hk,⟨_,x.toInCall.ns,fun i y v h1 h2 h3=> ?_⟩,fun y c h=>⟨_,x.cell y c h⟩,e0.hok.fresh (Nat.le_refl _),fun y c h=> ?_,fun p hp=>absurd (show p∈([]:List (Addr×Obj)) from hp) (by simp),e0.hok.kept hk,?_⟩
 ·exact name_of_addr x.apart (PySem.mem_of_lookup h1) (PySem.mem_of_lookup h2)
 ·have hy:scope.names.lookup y=some .cell∨scope.names.lookup y=some .free:=hy;rcases hy with hy|hy
  ·exact tO hy
  ·exact absurd rfl (S.nofree _ (PySem.mem_of_lookup hy))
 ·exact Nat.le_of_lt (x.above y c (PySem.mem_of_lookup h))
 ·have hi:i<vs.length:=by
   unfold start at h2
   by_cases hi:i<vs.length
   ·exact hi
   ·rw[List.getElem?_append_right (by simpa using hi)]at h2;rw[List.getElem?_replicate]at h2
    split at h2<;>cases h2
  have ha:vs[i]? =some v:=by
   unfold start at h2;rw[List.getElem?_append_left (by simpa using hi),List.getElem?_map]at h2;cases e:vs[i]? with
   | none=>rw[e]at h2;cases h2
   | some a=>rw[e]at h2;cases h2;rfl
  obtain⟨u,hu,rv⟩:=r.get ha;have hp:ps[i]? =some y:=by
   rw[←S.pre,List.getElem?_take_of_lt (by lia)];exact h1
  have ndP:ps.Nodup:=by rw[←S.pre];exact S.nd.sublist (List.take_sublist _ _)
  refine⟨u,rv,?_⟩;rcases S.par y (List.mem_of_getElem? hp) with k|k
  ·exact .inl ⟨k,CK ndP hp hu k⟩
  ·obtain⟨c,e⟩:=tO (n:=s.heap.objs.size+1) k;refine .inr ⟨.inl k,c,e,?_⟩;have q:=x.cell y c e;rw[CF ndP hp hu (by show scope.names.lookup y≠_;rw[k];decide)]at q;exact q
 ·exact e0.hok.fresh (Nat.le_of_lt (x.above y c (PySem.mem_of_lookup h)))
 ·unfold start;show _=N.length;rw[List.length_append,List.length_map,List.length_replicate]
  lia
theorem aBi {CX:CXT}{P:Program}{w:World}{K:PySem.W.Frag}{mg:Str->Option Value}{base:Heap}{k:Nat}{f:Addr}{name qual:Str}{params:Arguments}{body:List Stmt}{scope:Scope}{dV kV doc pm cdv ct oc:Value}{an od:Option Addr}
  {osl:Array (Option Value)}{N ps:List Str}{sp:Sp} (lk:K.lookup f=some ⟨oc,od,.func (PySem.W.fnOf name qual params body scope dV kV doc pm an cdv ct),osl⟩) (hcd:PySem.W.codeIn K cdv qual=true) (S:aN N ps scope)
  (len:∀vs H Q E,sp vs H Q E->vs.length=ps.length)
  (hbody:∀(A:Around) (outer:List Env) (s:Shared) (H:Hp) (vs:List V) (Q:VK) (E:XK),Room k (A.deeper (envOfC qual scope s.heap.objs.size f cdv))->sp vs H Q E →
   ∃t,PSs (sQ CX P w K mg base N qual scope f cdv A outer s H E) body t/\t { nx:=fun _ H'=>Q .non H',rt:=Q } (start N vs) H) :
  FnOk P w K mg base CX (k+1) f (PySem.W.fnOf name qual params body scope dV kV doc pm an cdv ct) ps sp:=by
 refine⟨len,fun A outer s H args us vs Q E hr e0 hb r hsp=> ?_⟩;have hl:=len _ _ _ _ hsp;have KX:K.In s.heap:=e0.mod.kin.keeps fun b o e=>(e0.bs b o e).1;have lim:s.heap.NoLimit:=e0.mod.nolimit.keeps fun b o e=>(e0.bs b o e).1;have hkind:∀y∈ps.zip us,scope.names.lookup y.1=some .local∨(scope.names.lookup y.1=some .cell/\((cellsFrom (s.heap.objs.size+1) scope.names []).lookup y.1).isSome=true):=fun⟨n,v⟩ hy=>by
  rcases S.par n (List.of_mem_zip hy).1 with q|q
  ·exact .inl q
  ·exact .inr ⟨q,PySem.W.cellsFrom_some _ _ _ (.inl q)⟩
 refine codeAny_call_function hr.depth (KX _ _ lk) rfl S.co S.gen rfl (PySem.W.codeRec_of KX hcd) (hb _ _ _ _ ?_);refine wpAny_newFunctionEnv_cells S.kind hkind fun env he s1 x=> ?_;subst he;refine⟨lim.keeps x.toInCall.keep,codeAny_func ?_⟩;obtain⟨t,ht,hq⟩:=hbody A outer s H vs Q E (hr.deeper _) hsp;have I:Inv (sQ CX P w K mg base N qual scope f cdv A outer s H E) [] (start N vs) H s1:=BX S hr.hd e0 hl r x;refine wpAny_mono (ht [] s1 (start N vs) H _ I hq) (fun fl s' hs=> ?_) fun e s' hs=>hs;have fin:∀{σ':St}{H':Hp}{v:V}{u:Value},Inv (sQ CX P w K mg base N qual scope f cdv A outer s H E) [] σ' H' s'->RelV v u->Q v H'->CE outer P w H s Q u s' :=
  fun {σ' H' v u} J rv q=>⟨v,H',J.os,J.bare,J.base,J.hok,rv,q⟩
 cases fl with
 | ret u =>
  obtain⟨v,σ',H',J,rv,q⟩:=hs;exact fin J rv q
 | next =>
  obtain⟨σ',H',J,q⟩:=hs;exact fin (v:=V.non) (u:=Value.none) J rfl q
 | brk =>
  obtain⟨_,_,_,q⟩:=hs;exact False.elim q
 | cont =>
  obtain⟨_,_,_,q⟩:=hs;exact False.elim q
end L2
namespace L2
open PySem PySem.Spec PyProof.Rows
section
variable {X:Cx}{x:Str}{p pos:Pos}{e:Expr}{es:List Expr}{t:TA}{id T:String}{r:List V->Hp->VK->Prop}
def tCB (r:List V->Hp->VK->Prop)(t:TA):TE:=fun σ H Q=>t σ H fun vs H1=>r vs H1 Q
theorem bM (hc:d4 X (.builtin id) r)(hg:Gl X x)(hm:X.mg x=none)(hv:bootBuiltins x=some (.builtin id))(ha:PA X (e::es) t)(hn:x≠ "__name__" :=by decide)(hdb:(x==("__debug__" :Str))=false:=by decide)
  (he:starEach (e::es) X.env=(false,eval e X.env)::starEach es X.env:=by rfl)(hpl:(backTo pos (starEach es X.env)).any (·.1)=false:=by rfl):PE X (.Call (.Name x p) (e::es) [] pos) (tCB r t):=by
 intro pins s σ H Q I h;refine wpAny_Call_Name_kw (uB I hg hm hv ?_ hn hdb);exact PyProof.Rows.callWith_builtin1 (thn (ha pos pins s σ H _ I h) fun us s1 ⟨vs,H1,I1,r1,q1⟩=>hc pins s1 σ H1 vs us Q I1 r1 q1) he hpl
theorem lK (hc:d4 X (.type T) r)(hg:Gl X x)(hm:X.mg x=none)(hv:bootBuiltins x=some (.type T))(ha:PA X (e::es) t)(hn:x≠ "__name__" :=by decide)(hdb:(x==("__debug__" :Str))=false:=by decide)
  (he:starEach (e::es) X.env=(false,eval e X.env)::starEach es X.env:=by rfl)(hpl:(backTo pos (starEach es X.env)).any (·.1)=false:=by rfl):PE X (.Call (.Name x p) (e::es) [] pos) (tCB r t):=by
 intro pins s σ H Q I h;refine wpAny_Call_Name_kw (uB I hg hm hv ?_ hn hdb);exact PyProof.Rows.callWith_type1 (thn (ha pos pins s σ H _ I h) fun us s1 ⟨vs,H1,I1,r1,q1⟩=>hc pins s1 σ H1 vs us Q I1 r1 q1) he hpl
end
end L2
namespace HT
open PySem PyProof.Rows
section
open PySem.SeqAt
open PySem.AutoSeq1 (wpAny_loadPart')
open PySem.MeetsSeq PySem.MeetsSeq2 PySem.MeetsSeq3
end
section
variable {prog:Program}{w:World}{A:Around}{E:Value->Shared->Prop}{s:Shared}
def sIx (n d:Nat):Option Int->Nat
 | none=>d
 | some v=>if v<0 then (v+(n:Int)).toNat else min v.toNat n
end
end HT
namespace L2
open PySem PySem.Spec PyProof.Rows
abbrev TO:=St->Hp->(Option Int->Hp->Prop)->Prop
def PO (X:Cx)(e:Option Expr)(t:TO):Prop :=
 ∀(pins:List (Addr×Obj)) (s:Shared) (σ:St) (H:Hp) (Q:Option Int->Hp->Prop),Inv X pins σ H s->t σ H Q →
  wpAny (model X.prog X.w) X.A (evalPart e X.env) (fun u s'=>∃o H',Inv X pins σ H' s'/\IsPart u o/\Q o H') X.xe s
def IX:TO:=fun _ H Q=>Q none H
def TL (t:TE):TO:=fun σ H Q=>t σ H fun x H1=>∃i,x= .int i/\Q (some i) H1
section
variable {X:Cx}{e:Expr}{te:TE}{lo hi:Option Expr}{tl th:TO}{pos p2:Pos}
theorem vX:PO X none IX:=by
 intro pins s σ H Q I h;rw[evalPart_none];exact wpAny_pure ⟨none,H,I,.none,h⟩
theorem mW (h:PE X e te):PO X (some e) (TL te):=by
 intro pins s σ H Q I hw;rw[evalPart_some];refine thn (h pins s σ H _ I hw) fun u s1 ⟨x,H1,I1,r1,q1⟩=> ?_;obtain⟨i,rfl,q⟩:=q1;obtain⟨t,rfl⟩:=r1;exact⟨some i,H1,I1,.int i t,q⟩
def SlR (X:Cx)(r:V->Option Int->Option Int->Hp->VK->Prop):Prop :=
 ∀(pins:List (Addr×Obj)) (s:Shared) (σ:St) (H:Hp) (x:V) (v vl vu:Value) (lo hi:Option Int) (sl:Addr) (Q:VK),Inv X pins σ H s->RelV x v->s.heap.IsSliceOf sl vl vu .none->IsPart vl lo->IsPart vu hi->r x lo hi H Q →
  ∃T id,typeLookup (.type T) "__getitem__" =pure (some (.builtin id))/\s.TypeIs v T/\wpAny (model X.prog X.w) X.A (getItem v (.ref sl)) (EP X pins σ Q) X.xe s
def tSl (r:V->Option Int->Option Int->Hp->VK->Prop)(te:TE)(tl th:TO):TE:=fun σ H Q=>te σ H fun x H1=>tl σ H1 fun l H2=>th σ H2 fun u H3=>r x l u H3 Q
theorem nW {r:V->Option Int->Option Int->Hp->VK->Prop}(hr:SlR X r)(he:PE X e te)(hl:PO X lo tl)(hu:PO X hi th):PE X (.Subscript e (.Slice lo hi none p2) pos) (tSl r te tl th):=by
 intro pins s σ H Q I h;refine Subscript_ (thn (he pins s σ H _ I h) fun v s1 ⟨x,H1,I1,r1,q1⟩=> ?_);refine wpAny_Slice (thn (hl pins s1 σ H1 _ I1 q1) fun vl s2 ⟨l,H2,I2,pl,q2⟩=>thn (hu pins s2 σ H2 _ I2 q2) fun vu s3 ⟨u,H3,I3,pu,q3⟩=> ?_);rw[evalPart_none];refine wpAny_pure ?_;have I4:Inv X pins σ H3 { s3 with heap:=s3.heap.push { cls:= .type "slice",data:= .fields #[vl,vu,.none] } }:=I3.kept (t':=s3.toks) fun b ob q=>Heap.get?_push_of_some _ q;obtain⟨T,id,hT,ht,hg⟩:=hr pins { s3 with heap:=s3.heap.push { cls:= .type "slice",data:= .fields #[vl,vu,.none] } } σ H3 x v vl vu l u s3.heap.objs.size Q I4 r1 (Heap.IsSliceOf.new ..) pl pu q3;show wpAny (model X.prog X.w) X.A (subscriptTail e (.Slice lo hi none p2) v (.ref s3.heap.objs.size)) (EP X pins σ Q) X.xe { s3 with heap:=s3.heap.push { cls:= .type "slice",data:= .fields #[vl,vu,.none] } };exact tail_any (ops:=[.ref s3.heap.objs.size,v]) ht hT hg (by with_unfolding_all rfl)
def xF (xs:List V)(lo hi:Option Int):List V:=(xs.drop (HT.sIx xs.length 0 lo)).take (HT.sIx xs.length xs.length hi - HT.sIx xs.length 0 lo)
theorem G0 (xs:List V)(lo hi:Option Int):(xF xs lo hi).length<=xs.length:=by
 unfold xF;rw[List.length_take,List.length_drop]
 lia
end
end L2
namespace L2
open PySem PySem.Spec PyProof.Rows
def ixN (n:Nat)(i:Int):Option Nat:=if 0<=i then (if i<n then some i.toNat else none) else if -(n:Int)<=i then some (i+n).toNat else none
def atI {α:Type}(xs:List α)(i:Int):Option α:=(ixN xs.length i).bind fun j=>xs[j]?
theorem AV {n:Nat}{i:Int}{j:Nat} (h:ixN n i=some j):seqIndex? i n=some j/\j<n/\ -(n:Int)<=i/\i<n:=by
 unfold ixN at h
 by_cases h0:0<=i
 ·rw[if_pos h0]at h
  by_cases h1:i<n
  ·rw[if_pos h1]at h;have e:i.toNat=j:=Option.some.inj h;exact⟨by rw[seqIndex_of h0 h1,e],by lia,by lia,h1⟩
  ·rw[if_neg h1]at h;cases h
 ·rw[if_neg h0]at h
  by_cases h1: -(n:Int)<=i
  ·rw[if_pos h1]at h;have e:(i+n).toNat=j:=Option.some.inj h;exact⟨by rw[seqIndex_neg (by lia) h1,e],by lia,h1,by lia⟩
  ·rw[if_neg h1]at h;cases h
theorem zT {α:Type}{xs:List α}{i:Int}{v:α} (h:atI xs i=some v):∃j,seqIndex? i xs.length=some j/\xs[j]? =some v/\j<xs.length/\ -(xs.length:Int)<=i/\i<xs.length:=by
 unfold atI at h;cases e:ixN xs.length i with
 | none=>rw[e]at h;cases h
 | some j =>
  rw[e]at h;obtain⟨h1,h2,h3,h4⟩:=AV e;exact⟨j,h1,h,h2,h3,h4⟩
theorem vV {α:Type}{xs:List α}{j:Nat}{v:α} (h:xs[j]? =some v):atI xs (j:Int)=some v:=by
 have hj:j<xs.length:=(List.getElem?_eq_some_iff.mp h).1;have e:ixN xs.length (j:Int)=some j:=by
  unfold ixN;rw[if_pos (by lia),if_pos (by lia)];simp
 unfold atI;rw[e];exact h
def WN (b:Expr):Prop:=∀o i,subscripted b false o i=operate [o,i] (getItem o i)
def IxR (X:Cx)(r:R2):Prop :=
 ∀(value slice:Expr) (pins:List (Addr×Obj)) (s:Shared) (σ:St) (H:Hp) (x y:V) (v u:Value) (Q:VK),Inv X pins σ H s->RelV x v->RelV y u->r x y H Q →
  subscripted slice false v u=operate [v,u] (getItem v u)->wpAny (model X.prog X.w) X.A (subscriptTail value slice v u) (EP X pins σ Q) X.xe s
def MtR (X:Cx)(id:String)(r:V->List V->Hp->VK->Prop):Prop :=
 ∀(pins:List (Addr×Obj)) (s:Shared) (σ:St) (H:Hp) (x:V) (xs:List V) (v:Value) (us:List Value) (Q:VK),Inv X pins σ H s->RelV x v->Vals xs us->r x xs H Q →
  wpAny (model X.prog X.w) X.A (call (.builtin id) (v::us)) (EP X pins σ Q) X.xe s
section
variable {X:Cx}{a b:Expr}{ta tb:TE}{pos:Pos}
theorem dH {r:R2}(hr:IxR X r)(ha:PE X a ta)(hb:PE X b tb)(hs:WN b):PE X (.Subscript a b pos) (tOp r ta tb):=by
 intro pins s σ H Q I h;exact Subscript_ (PR ha hb I h fun v u s2 x y H2 I2 rx ry q=>hr a b pins s2 σ H2 x y v u Q I2 rx ry q (hs _ _))
def F2 (K:PySem.W.Frag):R2:=fun x y H Q=>∃p xs i v,x= .ref p/\y= .int i/\SqL K H p xs/\atI xs i=some v/\Q v H
def aAp (K:PySem.W.Frag):R2:=fun x y H Q=>∃p xs i v,x= .ref p/\y= .int i/\SqT K H p xs/\atI xs i=some v/\Q v H
def aBs:R2:=fun x y H Q=>∃z i c,x= .str z/\y= .int i/\z.length<=sizeLine/\atI z.cps.toList i=some c/\Q (.str ⟨#[c]⟩) H
theorem gT:IxR X (F2 X.K):=by
 intro value slice pins s σ H x y v u Q I rx ry h hs;obtain⟨p,xs,i,z,rfl,rfl,hq,he,q⟩:=h;cases rx;obtain⟨t,rfl⟩:=ry;obtain⟨its,r,pl,hz⟩:=I.list hq;obtain⟨j,h1,h2,h3,h4,h5⟩:=zT he;obtain⟨w,ew,rw'⟩:=r.get h2;have hl:=r.length;have hn:=rR;have fin:EP X pins σ Q w s:=⟨z,H,I,rw',q⟩
 by_cases h0:0<=i
 ·have hj:i.toNat=j:=by
   rw[seqIndex_of h0 h5]at h1;exact Option.some.inj h1
  exact item_listR pl.isList h0 (by lia) (by rw[hj];simpa using ew) fin hs
 ·have hj:(i+(its.toArray.size:Int)).toNat=j:=by
   rw[seqIndex_neg (by lia) h4]at h1;rw[List.size_toArray,←hl];exact Option.some.inj h1
  exact subscriptTail_builtinR (x:=w) pl.isList.typeIs slot_list_getitem.lookup
   (wpAny_getItem_list_neg (Q:=fun r s'=>r=w/\EP X pins σ Q r s') pl.isList (by lia) (by rw[List.size_toArray]<;>lia) (by lia) (by rw[hj];simpa using ew) ⟨rfl,fin⟩) hs
theorem ZU:IxR X (aAp X.K):=by
 intro value slice pins s σ H x y v u Q I rx ry h hs;obtain⟨p,xs,i,z,rfl,rfl,hq,he,q⟩:=h;cases rx;obtain⟨t,rfl⟩:=ry;obtain⟨its,r,pl,hz⟩:=I.tuple hq;obtain⟨j,h1,h2,h3,h4,h5⟩:=zT he;obtain⟨w,ew,rw'⟩:=r.get h2;have hl:=r.length;have hn:=rR;have fin:EP X pins σ Q w s:=⟨z,H,I,rw',q⟩
 exact subscriptTail_builtinR (x:=w) pl.typeIs slot_tuple_getitem.lookup
  (getItem_tuple (j:=j) (Q:=fun r s'=>r=w/\EP X pins σ Q r s') pl (by lia) (by lia) (by rw[List.size_toArray,←hl];exact h1) (by simpa using ew) ⟨rfl,fin⟩) hs
theorem aAa:IxR X aBs:=by
 intro value slice pins s σ H x y v u Q I rx ry h hs;obtain⟨z,i,c,rfl,rfl,hz,he,q⟩:=h;obtain⟨t,rfl⟩:=rx;obtain⟨t',rfl⟩:=ry;obtain⟨j,h1,h2,h3,h4,h5⟩:=zT he;have hl:z.cps.toList.length=z.length:=by simp[Str.length]
 rw[hl]at h1 h4 h5;have hn:=rR;exact tail_any (typeIs_str s z t) slot_str_getitem.lookup (getItem_str (c:=c) (by
  have e1:decide (i< -(2^63:Int))=false:=decide_eq_false (by lia);have e2:decide (i≥2^63)=false:=decide_eq_false (by lia);rw[e1,e2,Bool.or_false]) (by rw[h1];simpa using h2) ⟨.str ⟨#[c]⟩,H,I.tok _,⟨_,rfl⟩,q⟩) hs
theorem LA (its:List Value)(n j:Nat)(u:Value):Obj.mapSeq (·.setIfInBounds j u) { cls:= .type "list",data:= .seq its.toArray n }={ cls:= .type "list",data:= .seq (its.set j u).toArray n }:=by
 simp[Obj.mapSeq]
theorem Inv.lst {pins:List (Addr×Obj)}{σ:St}{H:Hp}{s:Shared}{p:Addr}{xs:List V} (I:Inv X pins σ H s) (h:H p=some (.lst xs)) :
  ∃(its:List Value) (n:Nat),Vals xs its/\s.heap.get? p=some { cls:= .type "list",data:= .seq its.toArray n }/\xs.length<=sizeLine:=by
 obtain⟨z,its,n,r,e⟩:=I.hok p _ h;exact⟨its,n,r,e,z⟩
theorem Inv.lstUpd {pins:List (Addr×Obj)}{σ:St}{H:Hp}{s:Shared}{p:Addr}{xs ys:List V}{its its':List Value}{n n':Nat}{f:Obj->Obj} (I:Inv X pins σ H s) (h:H p=some (.lst xs))
  (ho:s.heap.get? p=some { cls:= .type "list",data:= .seq its.toArray n })(hf:f { cls:= .type "list",data:= .seq its.toArray n }={ cls:= .type "list",data:= .seq its'.toArray n' })(r:Vals ys its')(hz:ys.length<=sizeLine)(t:Nat) :
  Inv X pins σ (upd H p (.lst ys)) { s with heap:=s.heap.update p f,toks:=t }:=by
 have e:(s.heap.update p f).get? p=some { cls:= .type "list",data:= .seq its'.toArray n' }:=by
  rw[Heap.get?_update_self f ho (by rw[hf]<;>rfl),hf]
 refine I.write (x:=p) (e:=p) (by rw[h];trivial) (.inl rfl) (fun b u hb q=>(Heap.get?_update_other _ _ (Ne.symm hb)).trans q) ⟨_,e⟩ ?_;exact⟨hz,its',n',r,e⟩
def TN:V->V->V->Hp->(Hp->Prop)->Prop:=fun o i v H Q=>∃p xs k j,o= .ref p/\i= .int k/\H p=some (.lst xs)/\ixN xs.length k=some j/\Q (upd H p (.lst (xs.set j v)))
theorem R5:Z5 X TN:=by
 intro pins s σ H o i v ov iv u Q I ro ri rv h;obtain⟨p,xs,k,j,rfl,rfl,hp,hj,q⟩:=h;cases ro;obtain⟨t,rfl⟩:=ri;obtain⟨its,n,r,ho,hz⟩:=I.lst hp;obtain⟨h1,h2,h3,h4⟩:=AV hj;have hl:=r.length;have hn:=rR;have I':Inv X pins σ (upd H p (.lst (xs.set j v))) { s with heap:=s.heap.update p (Obj.mapSeq (·.setIfInBounds j u)) } :=
  I.lstUpd hp ho (LA its n j u) (r.set rv j) (by rw[List.length_set];exact hz) s.toks
 by_cases h0:0<=k
 ·have hk:k.toNat=j:=by
   rw[seqIndex_of h0 h4]at h1;exact Option.some.inj h1
  exact PySem.W.ki_setAt ho h0 (by lia) (by rw[List.size_toArray,←hl];exact h4) (by rw[hk];exact⟨_,I',q⟩)
 ·have hk:(k+(its.toArray.size:Int)).toNat=j:=by
   rw[seqIndex_neg (by lia) h3]at h1;rw[List.size_toArray,←hl];exact Option.some.inj h1
  exact PySem.W.ki_setBack ho (by lia) (by rw[List.size_toArray,←hl];exact h3) (by lia) (by rw[hk];exact⟨_,I',q⟩)
theorem FN (lo hi:Option Int)(n:Nat):(sliceBounds lo hi none n).1=((HT.sIx n 0 lo:Nat):Int)/\(sliceBounds lo hi none n).2.1=((HT.sIx n n hi:Nat):Int)/\(sliceBounds lo hi none n).2.2=1:=by
 refine⟨?_,?_,rfl⟩
 ·cases lo with
  | none=>simp[sliceBounds,HT.sIx]
  | some i =>
   simp only[sliceBounds,HT.sIx,Option.getD_none,show (1:Int)>0 by decide,if_true]
   by_cases h:i<0
   ·simp only[h,if_true]<;>lia
   ·simp only[h,if_false]<;>lia
 ·cases hi with
  | none=>simp[sliceBounds,HT.sIx]
  | some i =>
   simp only[sliceBounds,HT.sIx,Option.getD_none,show (1:Int)>0 by decide,if_true]
   by_cases h:i<0
   ·simp only[h,if_true]<;>lia
   ·simp only[h,if_false]<;>lia
theorem CZ (its:List Value)(lo hi:Option Int):slicePick its.toArray lo hi none=((its.drop (HT.sIx its.length 0 lo)).take (HT.sIx its.length its.length hi - HT.sIx its.length 0 lo)).toArray:=by
 obtain⟨h1,h2,h3⟩:=FN lo hi its.toArray.size;unfold slicePick;rw[h1,h2,h3];simp only[sliceRange_one,pick_run,List.size_toArray]<;>rfl
def QU (K:PySem.W.Frag):V->Option Int->Option Int->Hp->VK->Prop:=fun x lo hi H Q=>∃a xs,x= .ref a/\SqL K H a xs/\∀p,H p=none->Q (.ref p) (upd H p (.lst (xF xs lo hi)))
theorem UY:SlR X (QU X.K):=by
 intro pins s σ H x v vl vu lo hi sl Q I rx hs pl pu h;obtain⟨a,xs,rfl,hx,q⟩:=h;cases rx;obtain⟨its,r,ht,hz⟩:=I.list hx;have hlen:=r.length;refine⟨"list",_,slot_list_getitem.lookup,ht.isList.typeIs,?_⟩;refine wpAny_getItem_list_slice ht.isList hs pl pu .none (by simp) ?_ (by rw[List.size_toArray]<;>lia);rw[CZ,←hlen];refine⟨.ref s.heap.objs.size,_,I.laid (t':=s.toks) (o:= .lst (xF xs lo hi)) (fun b ob q=>Heap.get?_push_of_some _ q) (Nat.le_refl _) ?_,rfl,q _ (I.hok.fresh (Nat.le_refl _))⟩;exact⟨Nat.le_trans (G0 xs lo hi) hz,_,0,(r.drop (HT.sIx xs.length 0 lo)).take (HT.sIx xs.length xs.length hi - HT.sIx xs.length 0 lo),Heap.get?_push_size _ rfl⟩
def qA:V->Bool
 | .non=>true
 | .bl _=>true
 | .int _=>true
 | .str _=>true
 | _=>false
def eqV:V->V->Bool
 | .non,.non=>true
 | .bl a,.bl b=>a==b
 | .bl a,.int b=>(if a then 1 else 0)==b
 | .int a,.bl b=>a==(if b then 1 else 0)
 | .int a,.int b=>a==b
 | .str a,.str b=>a==b
 | _,_=>false
theorem aAt {A:Around}{s:Shared}{y x:V}{u v:Value} (ry:RelV y u) (rx:RelV x v) (fy:qA y=true) (fx:qA x=true):SeqAt.EqAt A s u v (eqV y x):=by
 cases y with
 | non =>
  cases ry;cases x with
  | non=>cases rx;exact SeqAt.EqAt.same _
  | bl b=>cases rx;exact SeqAt.EqAt.none_bool b
  | int b=>obtain⟨t,rfl⟩:=rx;exact SeqAt.EqAt.none_int b t
  | str b=>obtain⟨t,rfl⟩:=rx;exact SeqAt.EqAt.none_str b t
  | _=>exact absurd (show false=true from fx) Bool.false_ne_true
 | bl a =>
  cases ry;cases x with
  | non=>cases rx;exact SeqAt.EqAt.bool_none a
  | bl b=>cases rx;exact SeqAt.EqAt.bool_bool a b
  | int b=>obtain⟨t,rfl⟩:=rx;exact SeqAt.EqAt.bool_int a b t
  | str b=>obtain⟨t,rfl⟩:=rx;exact SeqAt.EqAt.bool_str a b t
  | _=>exact absurd (show false=true from fx) Bool.false_ne_true
 | int a =>
  obtain⟨t',rfl⟩:=ry;cases x with
  | non=>cases rx;exact SeqAt.EqAt.int_none a t'
  | bl b=>cases rx;exact SeqAt.EqAt.int_bool a t' b
  | int b=>obtain⟨t,rfl⟩:=rx;exact SeqAt.EqAt.int_int a t' b t
  | str b=>obtain⟨t,rfl⟩:=rx;exact SeqAt.EqAt.int_str a t' b t
  | _=>exact absurd (show false=true from fx) Bool.false_ne_true
 | str a =>
  obtain⟨t',rfl⟩:=ry;cases x with
  | non=>cases rx;exact SeqAt.EqAt.str_none a t'
  | bl b=>cases rx;exact SeqAt.EqAt.str_bool a t' b
  | int b=>obtain⟨t,rfl⟩:=rx;exact SeqAt.EqAt.str_int a t' b t
  | str b=>obtain⟨t,rfl⟩:=rx;exact SeqAt.EqAt.str_str a t' b t
  | _=>exact absurd (show false=true from fx) Bool.false_ne_true
 | _=>exact absurd (show false=true from fy) Bool.false_ne_true
def eqU (x:V)(u:Value):Bool:=match u with
 | .none=>eqV .non x
 | .bool b=>eqV (.bl b) x
 | .int i _=>eqV (.int i) x
 | .str z _=>eqV (.str z) x
 | _=>false
theorem MS {x y:V}{u:Value} (r:RelV y u) (f:qA y=true):eqU x u=eqV y x:=by
 cases y with
 | non=>cases r;rfl
 | bl b=>cases r;rfl
 | int i=>obtain⟨t,rfl⟩:=r;rfl
 | str z=>obtain⟨t,rfl⟩:=r;rfl
 | _=>exact absurd (show false=true from f) Bool.false_ne_true
theorem AN {x:V}:∀{xs:List V}{us:List Value},Vals xs us->xs.all qA=true->us.any (eqU x)=xs.any fun y=>eqV y x
 | _,_,.nil,_=>rfl
 | y::xs,u::us,.cons r t,f=>by
  rw[List.all_cons,Bool.and_eq_true]at f;rw[List.any_cons,List.any_cons,MS r f.1,AN t f.2]
theorem xJ {A:Around}{s:Shared}{x:V}{v:Value} (rx:RelV x v) (fx:qA x=true):∀{xs:List V}{us:List Value},Vals xs us->xs.all qA=true->∀u∈us,SeqAt.EqAt A s u v (eqU x u)
 | _,_,.nil,_=>fun u hu=>by cases hu
 | y::xs,u::us,.cons r t,f=>fun u' hu=>by
  rw[List.all_cons,Bool.and_eq_true]at f;rcases List.mem_cons.mp hu with rfl|hu
  ·rw[MS r f.1];exact aAt r rx f.1 fx
  ·exact xJ rx fx t f.2 u' hu
def inV (x:V)(xs:List V):Bool:=xs.any fun y=>eqV y x
def rIn (K:PySem.W.Frag)(neg:Bool):R2:=fun x y H Q=>∃p xs,y= .ref p/\(SqL K H p xs∨SqT K H p xs)/\qA x=true/\xs.all qA=true/\Q (.bl (if neg then !inV x xs else inV x xs)) H
theorem NM:OpR X (compareOp .In) (rIn X.K false):=by
 intro pins s σ H x y v u Q I rx ry h;obtain⟨p,xs,rfl,hq,fx,fs,q⟩:=h;cases ry;rcases hq with hq|hq
 ·obtain⟨its,r,pl,hz⟩:=I.list hq;refine SeqAt.in_listAt (eqU x) pl.isList (fun w hw=>xJ rx fx r fs w (by simpa using hw)) ⟨.bl _,H,I,rfl,?_⟩;rw[show its.toArray.any (eqU x)=its.any (eqU x) by simp,AN r fs];exact q
 ·obtain⟨its,r,pl,hz⟩:=I.tuple hq;refine SeqAt.in_tupleAt (eqU x) pl (fun w hw=>xJ rx fx r fs w (by simpa using hw)) ⟨.bl _,H,I,rfl,?_⟩;rw[show its.toArray.any (eqU x)=its.any (eqU x) by simp,AN r fs];exact q
theorem FF:d4 X (.builtin "len") (fun xs H Q=>∃p ys,xs=[.ref p]/\(SqL X.K H p ys∨SqT X.K H p ys)/\Q (.int ys.length) H):=by
 intro pins s σ H xs us Q I r h;obtain⟨p,ys,rfl,hq,q⟩:=h;obtain⟨u,rfl,rx⟩:=jM r;cases rx;have hn:=rR;rcases hq with hq|hq
 ·obtain⟨its,r',pl,hz⟩:=I.list hq;have hlen:=r'.length;exact Calls.call_len_list pl.isList (by simp only[List.size_toArray]<;>lia) ⟨.int ys.length,H,I.tok _,⟨s.toks+1,by rw[List.size_toArray,hlen]⟩,q⟩
 ·obtain⟨its,r',pl,hz⟩:=I.tuple hq;have hlen:=r'.length;exact len_tuple pl (by simp only[List.size_toArray]<;>lia) ⟨.int ys.length,H,I.tok _,⟨s.toks+1,by rw[List.size_toArray,hlen]⟩,q⟩
theorem ES:d4 X (.builtin "len") (fun xs H Q=>∃z,xs=[.str z]/\z.length<=sizeLine/\Q (.int z.length) H):=by
 intro pins s σ H xs us Q I r h;obtain⟨z,rfl,hz,q⟩:=h;obtain⟨u,rfl,t,rfl⟩:=jM r;have hn:=rR;exact len_str (by lia) ⟨.int z.length,H,I.tok _,⟨_,rfl⟩,q⟩
def tyV (K:PySem.W.Frag)(T:String)(x:V)(H:Hp):Prop:=match x with
 | .str _=>T= "str"
 | .int _=>T= "int"
 | .ref p=>(T= "list" /\∃xs,SqL K H p xs)∨(T= "tuple" /\∃o,K.lookup p=some o/\o.cls= .type "tuple" /\o.dict=none) ∨
   (T= "dict" /\((∃kvs,H p=some (.dK kvs))∨∃kvs,H p=some (.dT kvs)))∨(T= "set" /\∃S n,H p=some (.set S n))
 | _=>False
theorem XV {pins:List (Addr×Obj)}{σ:St}{H:Hp}{s:Shared}{T:String}{x:V}{v:Value} (I:Inv X pins σ H s) (r:RelV x v) (ty:tyV X.K T x H) :
  s.TypeIs v T/\∀a,v= .ref a->∃ob,s.heap.get? a=some ob/\ob.dict=none:=by
 cases x with
 | str z =>
  obtain⟨t,rfl⟩:=r;cases (show T= "str" from ty);exact⟨typeIs_str s z t,fun _ e=>nomatch e⟩
 | int i =>
  obtain⟨t,rfl⟩:=r;cases (show T= "int" from ty);exact⟨typeIs_int s i t,fun _ e=>nomatch e⟩
 | ref p =>
  cases r;rcases ty with⟨rfl,xs,hq⟩|⟨rfl,o,hk,hc,hd⟩|⟨rfl,hk⟩|⟨rfl,S,n,hk⟩
  ·obtain⟨its,_,pl,_⟩:=I.list hq;refine⟨pl.isList.typeIs,fun a e=> ?_⟩;cases e;obtain⟨o,n,e,c,hd,_⟩:=pl;exact⟨o,e,hd⟩
  ·refine⟨⟨o,I.kIn p o hk,hc⟩,fun a e=> ?_⟩;cases e;exact⟨o,I.kIn _ o hk,hd⟩
  ·have z:∃o,s.heap.get? p=some o/\o.ExactDict:=by
    rcases hk with⟨kvs,hk⟩|⟨kvs,hk⟩
    ·obtain⟨_,_,_,_,o,_,_,e,ex,_⟩:=I.hok p _ hk;exact⟨o,e,ex⟩
    ·obtain⟨_,_,_,_,o,_,_,e,ex,_⟩:=I.hok p _ hk;exact⟨o,e,ex⟩
   obtain⟨o,e,ex⟩:=z;refine⟨⟨o,e,ex.1⟩,fun a e2=> ?_⟩;cases e2;exact⟨o,e,ex.2.1⟩
  ·obtain⟨o,_,_,_,e,ex,_⟩:=I.hok p _ hk;refine⟨⟨o,e,ex.1⟩,fun a e2=> ?_⟩;cases e2;exact⟨o,e,ex.2.1⟩
 | _=>exact False.elim ty
def tBM (K:PySem.W.Frag)(T:String)(r:V->List V->Hp->VK->Prop)(to:TE)(t:TA):TE:=fun σ H Q=>to σ H fun x H1=>tyV K T x H1/\t σ H1 fun xs H2=>r x xs H2 Q
variable {o e:Expr}{es:List Expr}{to:TE}{t:TA}{name:Str}{apos cpos:Pos}{T id:String}{r:V->List V->Hp->VK->Prop}
theorem v4 (pa:PlainAttrs T)(slot:Slot T name id)(hty:typeOf (.builtin id)=pure (.type "method_descriptor"))(hm:MtR X id r)(ho:PE X o to)(ha:PA X (e::es) t)
  (hbase:attributeBase o name X.env (eval o X.env)=eval o X.env:=by rfl)
  (hfew:((backTo cpos (starEach (e::es) X.env)).all (fun x=> !x.1)&&(backToKw cpos (keywordEach [] X.env)).all (fun x=>x.1.isSome)
   && decide ((e::es).length+([]:List Keyword).length+(if ([]:List Keyword).isEmpty then 0 else 1)<30))=true:=by rfl)
  (hline:(apos.endLine==cpos.line)=true:=by rfl)(hs:starEach (e::es) X.env=(false,eval e X.env)::starEach es X.env:=by rfl)(hplain:(backTo cpos (starEach es X.env)).any (·.1)=false:=by rfl) :
  PE X (.Call (.Attribute o name apos) (e::es) [] cpos) (tBM X.K T r to t):=by
 intro pins s σ H Q I h;refine wpAny_Call_method_late hbase hfew hline rfl (thn (ho pins s σ H _ I h) fun v s1 ⟨x,H1,I1,r1,ty,q1⟩=> ?_);obtain⟨h1,h2⟩:=XV I1 r1 ty;refine⟨T,id,pa,slot,hty,h1,h2,?_⟩;have hA:=ha cpos pins s1 σ H1 _ I1 q1;rw[hs]at hA ⊢;refine Calls.callWith_builtin (by show (false||(backTo cpos (starEach es X.env)).any (·.1))=false;rw[hplain]<;>rfl) (Calls.evalArgs_plain ?_);exact thn hA fun us s2 ⟨vs,H2,I2,r2,q2⟩=>hm pins s2 σ H2 x vs v us Q I2 r1 r2 q2
end
end L2
namespace L2
open PySem PySem.Spec PyProof.Rows
def MtM (X:Cx)(id:String)(r:V->List V->Hp->VK->Prop):Prop :=
 ∀(pins:List (Addr×Obj)) (s:Shared) (σ:St) (H:Hp) (x:V) (xs:List V) (v:Value) (us:List Value) (Q:VK),Inv X pins σ H s->RelV x v->Vals xs us->r x xs H Q →
  wpAny (model X.prog X.w) X.A (call (.builtin id) (v::us)) (EP X pins σ Q) X.xe s
theorem Vals.one:∀{x:V}{us:List Value},Vals [x] us->∃u,us=[u]/\RelV x u
 | _,_,.cons r .nil=>⟨_,rfl,r⟩
theorem Vals.eraseIdx:∀{xs:List V}{us:List Value} (i:Nat),Vals xs us->Vals (xs.eraseIdx i) (us.eraseIdx i)
 | _,_,_,.nil=> .nil
 | _,_,0,.cons _ t=>t
 | _,_,i+1,.cons r t=> .cons r (Vals.eraseIdx i t)
theorem Vals.rep {xs:List V}{us:List Value} (h:Vals xs us):∀k:Nat,Vals (List.replicate k xs).flatten (List.replicate k us).flatten
 | 0=> .nil
 | k+1=>by
  rw[List.replicate_succ,List.replicate_succ,List.flatten_cons,List.flatten_cons];exact Vals.append h (Vals.rep h k)
theorem CL {α:Type}:∀(l:List α) (i:Nat),(l.eraseIdx i).length<=l.length
 | [],_=>Nat.le_refl _
 | _::_,0=>Nat.le_succ _
 | _::r,i+1=>Nat.succ_le_succ (CL r i)
theorem BP (its:List Value):∀(k:Nat) (acc:List Value),
  List.foldl (fun x1 x2=>x1++x2) acc.toArray (List.replicate k its.toArray)=(acc++(List.replicate k its).flatten).toArray
 | 0,acc=>by simp
 | k+1,acc=>by
  have e:acc.toArray++its.toArray=(acc++its).toArray:=by simp
  have e2:(acc++its)++(List.replicate k its).flatten=acc++(List.replicate (k+1) its).flatten:=by
   rw[List.replicate_succ,List.flatten_cons,List.append_assoc]
  rw[←e2,←BP its k (acc++its),←e,List.replicate_succ,List.foldl_cons]
section
variable {X:Cx}{pins:List (Addr×Obj)}{σ:St}{H:Hp}{s:Shared}{l b:Addr}{xs ys zs:List V}
theorem Inv.lset {its its':List Value}{n:Nat}{f:Array Value->Array Value}{t':Nat} (I:Inv X pins σ H s) (hH:H l=some (.lst xs))
  (e:s.heap.get? l=some { cls:= .type "list",data:= .seq its.toArray n })(hf:f its.toArray=its'.toArray)(hv:Vals ys its')(hz:ys.length<=sizeLine) :
  Inv X pins σ (upd H l (.lst ys)) { s with heap:=s.heap.update l (Obj.mapSeq f),toks:=t' }:=by
 have q:=PySem.IsL.update e f;rw[hf]at q;refine I.write (x:=l) (e:=l) (by rw[hH];exact trivial) (.inl rfl) (fun b' u hb hu=>(Heap.get?_update_other s.heap (Obj.mapSeq f) (Ne.symm hb)).trans hu) ⟨_,q⟩ ?_;exact⟨hz,its',_,hv,q⟩
theorem Inv.lnew {its:List Value}{t':Nat} (I:Inv X pins σ H s) (hv:Vals ys its) (hz:ys.length<=sizeLine) :
  Inv X pins σ (upd H s.heap.objs.size (.lst ys)) { s with heap:=s.heap.push { cls:= .type "list",data:= .seq its.toArray },toks:=t' } :=
 I.laid (fun _ _ q=>Heap.get?_push_of_some _ q) (Nat.le_refl _) ⟨hz,its,0,hv,Heap.get?_push_size _ rfl⟩
theorem Inv.fresh (I:Inv X pins σ H s):H s.heap.objs.size=none:=I.hok.fresh (Nat.le_refl _)
theorem Inv.lstM (I:Inv X pins σ H s)(hH:H l=some (.lst xs)):xs.length<=sizeLine/\∃(its:List Value) (n:Nat),Vals xs its/\xs.length=its.length/\s.heap.get? l=some { cls:= .type "list",data:= .seq its.toArray n }:=by
 obtain⟨z,its,n,r,e⟩:=I.hok l _ hH;exact⟨z,its,n,r,r.length,e⟩
theorem EA {n:Nat}(h:n<=sizeLine):Builtin.List.listTooLong n=false:=by
 unfold Builtin.List.listTooLong;exact decide_eq_false (by lia)
end
section
variable {X:Cx}
def IG:V->List V->Hp->VK->Prop:=fun x vs H Q=>∃l xs y,x= .ref l/\vs=[y]/\H l=some (.lst xs)/\xs.length<sizeLine/\Q .non (upd H l (.lst (xs++[y])))
theorem lI:MtM X "list.append" IG:=by
 intro pins s σ H x vs v us Q I rx rv h;obtain⟨l,xs,y,rfl,rfl,hH,hz,q⟩:=h;cases rx;obtain⟨u,rfl,ru⟩:=rv.one;obtain⟨z,its,n,r,hl,e⟩:=I.lstM hH;refine call_meets F.slot_list_append ⟨_,e,rfl⟩ F.entry_list_append (F.args_list_append_2 _ _) (PySem.list_append l its.toArray n u (by rw[List.size_toArray];lia)) ⟨e,?_⟩;refine⟨.non,_,I.lset (its':=its++[u]) hH e (by simp) (r.append (.cons ru .nil)) ?_,rfl,q⟩;rw[List.length_append,List.length_singleton]
 lia
def JO:V->List V->Hp->VK->Prop:=fun x vs H Q=>∃l b xs zs,x= .ref l/\vs=[.ref b]/\H l=some (.lst xs)/\H b=some (.lst zs)/\xs.length+zs.length<=sizeLine/\Q .non (upd H l (.lst (xs++zs)))
theorem L5:MtM X "list.extend" JO:=by
 intro pins s σ H x vs v us Q I rx rv h;obtain⟨l,b,xs,zs,rfl,rfl,hH,hB,hz,q⟩:=h;cases rx;obtain⟨u,rfl,ru⟩:=rv.one;cases ru;obtain⟨z,its,n,r,hl,e⟩:=I.lstM hH;obtain⟨z2,its2,n2,r2,hl2,e2⟩:=I.lstM hB;have hsz:its.toArray.size+its2.toArray.size<=sizeLine:=by rw[List.size_toArray,List.size_toArray];lia
 have hlong:¬(!its.toArray.isEmpty&&Builtin.List.listTooLong (its.toArray.size+its2.toArray.size))=true:=by
  rw[EA hsz,Bool.and_false];exact Bool.false_ne_true
 refine call_meets F.slot_list_extend ⟨_,e,rfl⟩ F.entry_list_extend (F.args_list_extend_2 _ _)
  (AutoSeq1.list_extend_list_list_0 l its.toArray n b its2.toArray n2 hlong (by rw[List.size_toArray];lia) (by lia)) ⟨e,e2,?_⟩
 refine⟨.non,_,I.lset (its':=its++its2) hH e (by simp) (r.append r2) ?_,rfl,q⟩;rw[List.length_append]
 lia
def L4:V->List V->Hp->VK->Prop:=fun x vs H Q=>∃l xs i k y,x= .ref l/\vs=[.int i]/\H l=some (.lst xs)/\ -(2^63)<=i/\i<2^63/\seqIndex? i xs.length=some k/\xs[k]? =some y/\Q y (upd H l (.lst (xs.eraseIdx k)))
theorem QD:MtM X "list.pop" L4:=by
 intro pins s σ H x vs v us Q I rx rv h;obtain⟨l,xs,i,k,y,rfl,rfl,hH,h1,h2,hk,hy,q⟩:=h;cases rx;obtain⟨u,rfl,ru⟩:=rv.one;obtain⟨t,rfl⟩:=ru;obtain⟨z,its,n,r,hl,e⟩:=I.lstM hH;obtain⟨w,hw,rw'⟩:=r.get hy;refine call_meets F.slot_list_pop ⟨_,e,rfl⟩ F.entry_list_pop (F.args_list_pop_2 _ _)
  (MeetsSeq.list_pop_at l its.toArray n i t k w (fitsIndex_both h1 h2) (by rw[List.size_toArray,←hl];exact hk) (by rw[←Array.getElem?_toList];exact hw) (by rw[List.size_toArray];lia)) ⟨e,?_⟩
 refine⟨y,_,I.lset (its':=its.eraseIdx k) hH e ?_ (r.eraseIdx k) ?_,rw',q⟩
 ·show its.toArray.eraseIdxIfInBounds k=(its.eraseIdx k).toArray;rw[List.eraseIdxIfInBounds_toArray]
 ·have:=CL xs k
  lia
def YZ:R2:=fun x y H Q=>∃l b xs zs,x= .ref l/\y= .ref b/\H l=some (.lst xs)/\H b=some (.lst zs)/\xs.length+zs.length<=sizeLine/\∀p,H p=none->Q (.ref p) (upd H p (.lst (xs++zs)))
theorem zK:OpR X (binaryOp .Add) YZ:=by
 intro pins s σ H x y v u Q I rx ry h;obtain⟨l,b,xs,zs,rfl,rfl,hH,hB,hz,q⟩:=h;cases rx;cases ry;obtain⟨z,its,n,r,hl,e⟩:=I.lstM hH;obtain⟨z2,its2,n2,r2,hl2,e2⟩:=I.lstM hB;refine PySem.P.add_list e e2 ?_ (by rw[List.size_toArray,List.size_toArray];lia);have ea:its.toArray++its2.toArray=(its++its2).toArray:=by simp
 rw[ea];exact⟨.ref _,_,I.lnew (t':=s.toks) (r.append r2) (by rw[List.length_append];lia),rfl,q _ I.fresh⟩
def aAo:R2:=fun x y H Q=>∃l k xs,x= .ref l/\y= .int k/\H l=some (.lst xs)/\ -(2^63)<=k/\k<2^63/\xs.length * k.toNat<=sizeLine ∧
 ∀p,H p=none->Q (.ref p) (upd H p (.lst (List.replicate k.toNat xs).flatten))
theorem VE {α:Type}(xs:List α)(k:Nat):(List.replicate k xs).flatten.length=k * xs.length:=by
 induction k with
 | zero=>simp
 | succ k ih=>rw[List.replicate_succ,List.flatten_cons,List.length_append,ih,Nat.succ_mul,Nat.add_comm]
theorem M8:OpR X (binaryOp .Mult) aAo:=by
 intro pins s σ H x y v u Q I rx ry h;obtain⟨l,k,xs,rfl,rfl,hH,h1,h2,hz,q⟩:=h;cases rx;obtain⟨t,rfl⟩:=ry;obtain⟨z,its,n,r,hl,e⟩:=I.lstM hH;have hlen:its.toArray.size * k.toNat<=sizeLine:=by rw[List.size_toArray,←hl];exact hz
 have hcap:¬its.toArray.size * k.toNat>(2^63 - 1)/8:=by
  have:(sizeLine:Nat)<=(2^63 - 1)/8:=by decide
  lia
 have hfit:¬(!Builtin.List.listFitsIndex k)=true:=by
  rw[fitsIndex_both h1 h2];exact Bool.false_ne_true
 have hlong:¬Builtin.List.listTooLong (its.toArray.size * k.toNat)=true:=by
  rw[EA hlen];exact Bool.false_ne_true
 have hnew:List.foldl (fun x1 x2=>x1++x2) #[] (List.replicate (if its.toArray.isEmpty=true then 0 else k.toNat) its.toArray)=(List.replicate k.toNat its).flatten.toArray:=by
  have f0:∀m:Nat,List.foldl (fun x1 x2=>x1++x2) #[] (List.replicate m its.toArray)=(List.replicate m its).flatten.toArray:=fun m=>by
   have:=BP its m [];rw[List.nil_append]at this;exact this
  rw[f0];cases its with
  | nil=>simp
  | cons a r'=>rw[if_neg (by simp)]
 refine wpAny_binaryOp_repeat_ref (T:= "list") (U:= "int") (by decide) ⟨_,e,rfl⟩ (fun s'=>typeIs_int s' k t) noFill_list_mul F.fills_int_mul F.slot_int_rmul repeat_list F.slot_int_index.lookup
  (call_meets F.slot_int_rmul (typeIs_int s k t) F.entry_int_rmul (F.args_int_rmul_2 _ _) (int___rmul___int_list k t l its.toArray n)
   ⟨e,rfl,⟨_,e,rfl⟩,call_meets F.slot_list_mul ⟨_,e,rfl⟩ F.entry_list_mul (F.args_list_mul_2 _ _) (AutoListH.list___mul___list_int_3 l its.toArray n k t hfit hcap hlong) ⟨e,?_⟩⟩)
 rw[hnew];exact⟨.ref _,_,I.lnew (t':=s.toks) (r.rep k.toNat) (by rw[VE,Nat.mul_comm];exact hz),rfl,q _ I.fresh⟩
end
section
variable {prog:Program}{w:World}{A:Around}{E:Value->Shared->Prop}{s:Shared}
set_option maxRecDepth 100000 in
end
section
variable {X:Cx}
end
end L2
namespace Att
open PySem PySem.W PySem.Calls PyProof.Rows
theorem yL {P:Params}{h:Heap}:∀(ns:List Int) (vs:List Value),WellAll P h vs (ns.map WData.int)->IntsAre vs ns:=by
 intro ns
 induction ns with
 | nil =>
  intro vs w;rw[List.map_nil]at w;cases w;exact .nil
 | cons n ns ih =>
  intro vs w;rw[List.map_cons]at w;cases w with
  | cons a b =>
   cases a;exact .cons _ _ (ih _ b)
theorem OG {l:OpenLaw}{n:Nat} (hn:l.most=some n) {P:Params}{h:Heap}{args:List WData}{vals:List Value}
  (hpre:l.row.toRowW.claim.pre args=true)(hwl:WellAll P h vals args) :
  ∃a vs ns,vals=[Value.ref a]/\args=[WData.list (ns.map WData.int)]/\h.get? a=some { cls:= .type "list",data:= .seq vs.toArray }/\IntsAre vs ns/\ns.length<=n:=by
 have hsh:WShape.hasAll [] args [.list .int]=true:=(pre_splitW hpre).1;have hc:l.pre.holds [] { args:=args }=true:=(pre_splitW hpre).2;obtain⟨d,r,rfl,h1,h2⟩:=hasAllW_cons hsh;obtain rfl:=hasAllW_nil h2;obtain⟨xs,rfl,h3⟩:=hasW_list h1;obtain⟨ns,rfl⟩:=items_int h3;have hlen:ns.length<=n:=by
  unfold OpenLaw.pre at hc;have h4:(WTm.not (.lt (.lit (.int (n:Int))) (.len (.arg 0)))).holds [] { args:=[.list (ns.map .int)] }=true:=by
   have h4:=(holds_andW hc).1;rw[hn]at h4;exact h4
  have h5:=condW_of h4 (w_not (w_lt w_lit (w_len_list (w_arg rfl))));rw[List.length_map]at h5;refine Nat.le_of_not_lt fun q=> ?_;have q':(n:Int)<((ns.length:Nat):Int):=by lia
  first
   | (rw[decide_eq_true q']at h5;exact absurd h5 (by decide))
   | (simp at h5;lia)
 cases hwl with
 | cons w1 w2 =>
  cases w2;cases w1 with
  | list ho hall=>exact⟨_,_,ns,rfl,rfl,ho,yL ns _ hall,hlen⟩
theorem MI (l:OpenLaw)(args:List WData):l.row.toRowW.claim.post args (.bool true) args=true :=
 postW_of (r:=l.row.toRowW) (X:=(true==true))
  (show WShape.has [] (.bool true) .bool=true by first|rfl|decide|simp[WShape.has,WShape.arms,WShape.armsAll])
  (show (WTm.eq .res (.lit (.bool true))).value [] { args:=args,res:=some (.bool true),after:=args }=some (.bool (true==true)) from w_eq_bool (w_res rfl) w_lit) rfl
theorem attach_call {l:OpenLaw}{n:Nat}{q:Program}{loose:List Str}{XP:(Str->Option Value)->Heap->Prop}{YP:World->Heap->Prop}{d:DefRec}
  (hn:l.most=some n)(hdf:d.params.defaults=[])
  (call:∀(w:World) (s₀ s₁:Shared) (mg mb:Str->Option Value) (fa:Addr) (o:Obj) (pm cd doc:Value) (a:Addr) (vs:List Value) (ns:List Int),
   Ground q loose [] XP w s₀ mg mb s₁.heap->YP w s₁.heap →
   s₁.heap.get? fa=some o->o.data= .func (docDef d.name d.params d.body d.scope pm cd doc)->s₁.heap.CodeRec cd d.name->mg d.name=some (.ref fa) →
   s₁.heap.get? a=some { cls:= .type "list",data:= .seq vs.toArray }->IntsAre vs ns->ns.length<=n->s₁.gens= #[] →
   codeAny (model l.prog w) callerA (.call (.ref fa) ⟨[.ref a],[]⟩) (fun r s'=>r= .ok (.ret (.bool true))/\OldK s₁.heap s'.heap/\s'.os=s₁.os/\AllBare s'.gens) s₁) :
  WalkO q loose XP YP l.row.toRowW d [] (fun f vs=>PySem.call f vs):=by
 intro w s₀ s₁ mg mb G Y fa o pm cd doc dV kV ho hd hcd hD hmg hg args vals as hpre hlay hrd hwl hlo;obtain rfl:dV= .none:=Dflts.none hD hdf;obtain rfl:kV= .none:=Dflts.noKw hD;obtain⟨a,vs,ns,rfl,rfl,hobj,hints,hlen⟩:=OG hn hpre hwl;refine enter_call (codeAny_mono (call w s₀ s₁ mg mb fa o pm cd doc a vs ns G Y ho (fd_plain hd) hcd hmg hobj hints hlen hg) fun r s' hq=> ?_);obtain⟨rfl,h2,h3,h4⟩:=hq;exact⟨.inl ⟨.bool true,.bool true,[],rfl,fun _=>rfl,.bool true,MI l _,fun _=>⟨List.Pairwise.nil,fun _ hm=>(nomatch hm)⟩⟩,h2,h3,h4⟩
section
variable {prog:Program}{w:World}{A:Around}{E:Value->Shared->Prop}{s:Shared}{K:Frag}
end
end Att
namespace L2
open PySem PySem.Spec PyProof.Rows
theorem BS:∀{vs:List Value}{ns:List Int},IntsAre vs ns->Vals (ns.map V.int) vs
 | _,_,.nil=> .nil
 | _,_,.cons n t h=> .cons ⟨t,rfl⟩ (BS h)
end L2
namespace L2
open PySem PySem.Spec PyProof.Rows
end L2
namespace L2
open PySem PySem.Spec PyProof.Rows
def b9 (s:Stmt)(j:Nat):Stmt:=match s with
 | .ClassDef _ _ _ body _ _ _ _ _ _ _=>body.getD j (.Pass ⟨0,0,0,0⟩)
 | _=> .Pass ⟨0,0,0,0⟩
def dF (s:Stmt):Arguments:=match s with
 | .FunctionDef _ a _ _ _ _ _ _ _ _=>a
 | _=>{ posonlyargs:=[],args:=[],vararg:=none,kwonlyargs:=[],kw_defaults:=[],kwarg:=none,defaults:=[] }
def cY (s:Stmt):List Stmt:=match s with
 | .FunctionDef _ _ b _ _ _ _ _ _ _=>b
 | _=>[]
def aG (s:Stmt):Scope:=match s with
 | .FunctionDef _ _ _ _ _ _ sc _ _ _=>sc
 | _=>{ kind:= .function,names:=[],isGenerator:=false,isCoroutine:=false }
abbrev CX0:CXT:=fun _ _ _ _ _ _=>False
abbrev E0:XK:=fun _ _ _=>False
theorem sO {X:Cx}:uD CX0 X E0:=fun _ _ _ _ _ _ _ h=>h.elim
section
variable {P:Program}{w:World}{K:PySem.W.Frag}{mg:Str->Option Value}{base:Heap}
end
theorem OA {n:Nat}(h:n<=1000):n<sizeLine:=Nat.lt_of_le_of_lt h (by decide)
section
variable {X:Cx}
theorem pv (i:Nat){x:Str}{pos:Pos} (hN:X.N[i]? =some x:=by rfl) (hv:Vis X.env.scope x:=by first|exact Or.inl rfl|exact Or.inr (Or.inl rfl)|exact Or.inr (Or.inr rfl)) (hd:(x==("__debug__" :Str))=false:=by decide)
  (hcd:(x==("__classdict__" :Str))=false:=by decide):PE X (.Name x pos) (iX i):=MF hN hv hd hcd
end
theorem zY {c A B:Prop}[Decidable c](h1:c->A)(h2:¬c->B):if c then A else B:=by
 by_cases h:c
 ·rw[if_pos h];exact h1 h
 ·rw[if_neg h];exact h2 h
def Same (H H':Hp):Prop:=∀b o,H b=some o->H' b=some o
theorem Same.refl (H:Hp):Same H H:=fun _ _ h=>h
theorem Same.trans {H H1 H2:Hp}(a:Same H H1)(b:Same H1 H2):Same H H2:=fun c o h=>b c o (a c o h)
theorem Same.seq {K:PySem.W.Frag}{H H':Hp}{a:Addr}{xs:List V} (e:Same H H') (h:SqL K H a xs):SqL K H' a xs:=by
 rcases h with (h|⟨o,h⟩)|h
 ·exact .inl (.inl (e _ _ h))
 ·exact .inl (.inr ⟨o,e _ _ h⟩)
 ·exact .inr h
end L2
namespace L2
open PySem PySem.Spec PyProof.Rows
section
variable {X:Cx}{pins:List (Addr×Obj)}{σ:St}{H:Hp}{s:Shared}{D:Addr}{ys:List V}
theorem HOk.adds {P:Program}{w:World}{h:Heap}{o:HO} (x:HOk P w H h) (hn:H D=none) (new:ObjOk P w (upd H D o) h D o):HOk P w (upd H D o) h:=fun b u e=>by
 by_cases hb:b=D
 ·subst hb;rw[aS]at e;cases e;exact new
 ·rw[aJ hb]at e;exact(x b u e).stay (fun c v _ q=>q) (fun c q=>by rw[aJ (bE q hn)];exact q) fun c xs q=>by rw[aJ (bE q hn)];exact q
theorem HOk.drops {P:Program}{w:World}{h:Heap} (x:HOk P w (upd H D (.lst ys)) h) (hn:H D=none):HOk P w H h:=fun b u e=>by
 have hb:b≠D:=bE e hn;refine(x b u (by rw[aJ hb];exact e)).stay (fun c v _ q=>q) (fun c q=> ?_) fun c xs q=> ?_
 ·by_cases hc:c=D
  ·subst hc;rw[aS]at q;cases q
  ·rw[aJ hc]at q;exact q
 ·by_cases hc:c=D
  ·subst hc;rw[aS]at q;cases q
  ·rw[aJ hc]at q;exact q
theorem Inv.track {its:List Value}{n:Nat} (I:Inv X pins σ H s) (hn:H D=none) (e:s.heap.get? D=some { cls:= .type "list",data:= .seq its.toArray n }) (r:Vals ys its) (hz:ys.length<=sizeLine)
  (h0:X.s₀.heap.objs.size<=D)(h1:D≠X.env.locals)(h2:∀x c,X.env.cells.lookup x=some c->c≠D)(h3:∀p∈X.pn++pins,p.1≠D):Inv X pins σ (upd H D (.lst ys)) s where
 ok:=I.ok
 os:=I.os
 bare:=I.bare
 base:=by
  have lt:∀b o,X.s₀.heap.get? b=some o->b≠D:=fun b o q=>Nat.ne_of_lt (Nat.lt_of_lt_of_le (Heap.lt_size q) h0);refine⟨I.base.keep,I.base.slot,fun b o q n' hx=> ?_,I.base.there,fun b xs q=> ?_,fun b o u q=> ?_,fun b ps q=> ?_⟩
  ·rw[aJ (lt b o q)];exact I.base.free b o q n' hx
  ·have z:=I.base.tups b xs q;rw[aJ (bE z hn)];exact z
  ·have z:=I.base.frzs b o u q;rw[aJ (bE z hn)];exact z
  ·obtain⟨more,z⟩:=I.base.tbls b ps q;exact⟨more,by rw[aJ (bE z hn)];exact z⟩
 loc:=I.loc
 cell:=I.cell
 free:=by rw[aJ (Ne.symm h1)];exact I.free
 freeC:=fun x c q=>by rw[aJ (h2 x c q)];exact I.freeC x c q
 pin:=fun p hp=>by
  obtain⟨a,b,c⟩:=I.pin p hp;exact⟨a,by rw[aJ (h3 p hp)];exact b,c⟩
 hok:=I.hok.adds hn ⟨hz,its,n,r,e⟩
 len:=I.len
theorem Inv.untrack (I:Inv X pins σ (upd H D (.lst ys)) s)(hn:H D=none):Inv X pins σ H s where
 ok:=I.ok
 os:=I.os
 bare:=I.bare
 base:=by
  have low:∀b u,upd H D (.lst ys) b=some u->(∀xs,u≠ .lst xs)->H b=some u:=fun b u q nl=>by
   by_cases hb:b=D
   ·subst hb;rw[aS]at q;cases q;exact absurd rfl (nl ys)
   ·rw[aJ hb]at q;exact q
  refine⟨I.base.keep,I.base.slot,fun b o q n' hx=> ?_,I.base.there,fun b xs q=> ?_,fun b o u q=> ?_,fun b ps q=> ?_⟩
  ·have z:=I.base.free b o q n' hx
   by_cases hb:b=D
   ·subst hb;exact hn
   ·rw[aJ hb]at z;exact z
  ·exact low _ _ (I.base.tups b xs q) (fun _ z=>by cases z)
  ·exact low _ _ (I.base.frzs b o u q) (fun _ z=>by cases z)
  ·obtain⟨more,z⟩:=I.base.tbls b ps q;exact⟨more,low _ _ z (fun _ z=>by cases z)⟩
 loc:=I.loc
 cell:=I.cell
 free:=by
  have z:=I.free
  by_cases hb:X.env.locals=D
  ·rw[hb];exact hn
  ·rw[aJ hb]at z;exact z
 freeC:=fun x c q=>by
  have z:=I.freeC x c q
  by_cases hb:c=D
  ·rw[hb];exact hn
  ·rw[aJ hb]at z;exact z
 pin:=fun p hp=>by
  obtain⟨a,b,c⟩:=I.pin p hp;refine⟨a,?_,c⟩
  by_cases hb:p.1=D
  ·rw[hb];exact hn
  ·rw[aJ hb]at b;exact b
 hok:=I.hok.drops hn
 len:=I.len
end
def bQ (X:Cx)(scope:Scope)(cl:List (Str×Addr))(N:List Str)(C:Addr)(s0:Shared)(H0:Hp)(fp:List Addr):Cx where
 prog:=X.prog
 w:=X.w
 K:=X.K
 mg:=X.mg
 base:=X.base
 A:=X.A
 N:=N
 s₀:=s0
 H₀:=H0
 env:=compEnvC scope cl C X.env
 outer:=X.stack
 stack:=X.stack
 ex:=fp
 fn:=fun _=>false
 calm:=X.calm
 pn:=[]
 xe:=fun _ _=>False
structure Blk (X:Cx)(scope:Scope)(cl:List (Str×Addr))(N:List Str)(nl:Nat)(ci:List Nat):Prop where
 kind:scope.kind= .function
 names:∀y∈scope.names,y.2= .local->scope.names.lookup y.1=some .local
 nocell:∀y∈scope.names,y.2≠ .cell
 clos:closureFor scope X.env=pure cl
 sub:∀n c,cl.lookup n=some c->X.env.cells.lookup n=some c
 has:∀n,((relabel scope X.env).names.lookup n=some .cell∨(relabel scope X.env).names.lookup n=some .free)->∃c,cl.lookup n=some c
 len:N.length=nl+ci.length
 cap:∀(j i:Nat),ci[j]? =some i->∃n,N[nl+j]? =some n/\X.N[i]? =some n/\(X.env.scope.names.lookup n=some .cell∨X.env.scope.names.lookup n=some .free) ∧
  ((relabel scope X.env).names.lookup n=some .cell∨(relabel scope X.env).names.lookup n=some .free)/\cl.lookup n=X.env.cells.lookup n
def bZ (nl:Nat)(ci:List Nat)(σ:St):St:=List.replicate nl none++ci.map fun i=>(σ[i]?).join
theorem L3 {nl:Nat}{ci:List Nat}{σ:St}{k:Nat}{v:V} (h:(bZ nl ci σ)[k]? =some (some v)):∃j i,k=nl+j/\ci[j]? =some i/\σ[i]? =some (some v):=by
 unfold bZ at h
 by_cases hk:k<nl
 ·rw[List.getElem?_append_left (by simpa using hk),List.getElem?_replicate]at h
  split at h<;>cases h
 ·rw[List.getElem?_append_right (by simpa using hk),List.length_replicate,List.getElem?_map]at h;cases e:ci[k - nl]? with
  | none=>rw[e]at h;cases h
  | some i =>
   rw[e]at h;have h':(σ[i]?).join=some v:=by simpa using h
   refine⟨k - nl,i,by lia,e,?_⟩;cases q:σ[i]? with
   | none=>rw[q]at h';cases h'
   | some o=>rw[q]at h';simp at h';rw[h']
theorem D9 {nl:Nat}{ci:List Nat}{σ:St}:(bZ nl ci σ).length=nl+ci.length:=by unfold bZ;simp
section
variable {X:Cx}{scope:Scope}{cl:List (Str×Addr)}{N:List Str}{nl:Nat}{ci:List Nat}{pins:List (Addr×Obj)}{σ:St}{H2:Hp}{s2:Shared}{fp:List Addr}
theorem HN (B:Blk X scope cl N nl ci)(I:Inv X pins σ H2 s2)(f2:∀b∈fp,nU X pins H2 b)(fo:∀b∈fp,∃o,s2.heap.get? b=some o){C:Addr}{h4:Heap}{t4:Nat}{m4:Str->Option Value} (hC:s2.heap.objs.size<=C) (hns:h4.Ns C m4)
  (hk:∀b o,s2.heap.get? b=some o->h4.get? b=some o):Inv (bQ X scope cl N C s2 H2 fp) [] (bZ nl ci σ) H2 { s2 with heap:=h4,toks:=t4 }:=by
 have lt2:∀b∈fp,b<s2.heap.objs.size:=fun b hb=>by obtain⟨o,e⟩:=fo b hb;exact Heap.lt_size e
 have ok:(bQ X scope cl N C s2 H2 fp).Ok:=by
  refine⟨I.ok.mod,B.kind,I.ok.glob,I.ok.blt,hC,fun x y c h1 h2=>I.ok.inj x y c (B.sub x c h1) (B.sub y c h2),fun x hx=>B.has x hx,fun x c hf _=>(by cases hf),I.ok.hd,I.ok.frames,.inl rfl,fun b hb=>⟨?_,?_⟩,I.bs,?_,fun b o e hb=> ?_,fun b hb z=> ?_,I.stack,I.stkFree⟩
  ·exact Nat.ne_of_lt (Nat.lt_of_lt_of_le (lt2 b hb) hC)
  ·exact fun x c h=>(f2 b hb).2.2.2.2.1 x c (B.sub x c h)
  ·exact Nat.le_trans I.ok.bsz I.sz
  ·rcases (f2 b hb).2.2.2.1 with z|z
   ·exact I.ok.noex b o e z
   ·exact absurd (Nat.lt_of_lt_of_le (Heap.lt_size e) (Nat.le_trans I.ok.bsz z)) (Nat.lt_irrefl _)
  ·rcases List.mem_cons.mp (I.stkSub b z) with q|q
   ·exact(f2 b hb).2.1 q
   ·exact(f2 b hb).2.2.1 q
 refine⟨ok,rfl,I.bare,Un.kept hk,⟨m4,hns,fun k x v e1 e2 e3=> ?_⟩,fun x c e=> ?_,I.hok.fresh hC,fun x c e=>I.freeC x c (B.sub x c e),fun p hp=>(by cases hp),I.hok.kept hk,?_⟩
 ·obtain⟨j,i,rfl,hj,hσ⟩:=L3 e2;obtain⟨n,hn1,hn2,hk1,hk2,hl⟩:=B.cap j i hj;have en:x=n:=by
   have e1':N[nl+j]? =some x:=e1;rw[hn1]at e1';exact(Option.some.inj e1').symm
  subst en;obtain⟨m,hm,hloc⟩:=I.loc;have vis:Vis X.env.scope x:= .inr hk1;obtain⟨u,ru,lk⟩:=hloc i x v hn2 hσ vis;refine⟨u,ru,.inr ⟨hk2,?_⟩⟩;rcases lk with⟨kl,_⟩|⟨_,c,ec,hc⟩
  ·have kl':X.env.scope.names.lookup x=some .local:=kl;rcases hk1 with z|z<;>· rw[z]at kl';cases kl'
  ·refine⟨c,hl.trans ec,?_⟩;obtain⟨o,ho,hd⟩:=hc;exact⟨o,hk _ _ ho,hd⟩
 ·obtain⟨v,o,ho,hd⟩:=I.cell x c (B.sub x c e);exact⟨v,o,hk _ _ ho,hd⟩
 ·show (bZ nl ci σ).length=N.length;rw[D9,B.len]
theorem LZ {C:Addr}{σ':St}{H':Hp}{s':Shared}{pb:List (Addr×Obj)} (I:Inv X pins σ H2 s2) (f2:∀b∈fp,nU X pins H2 b) (J:Inv (bQ X scope cl N C s2 H2 fp) pb σ' H' s'):Inv X pins σ H' s' :=
 I.call' J.os J.base J.hok J.bare fun b hb=>⟨(f2 b hb).2.2.2.1,(f2 b hb).2.1,(f2 b hb).2.2.2.2.1,(f2 b hb).2.2.2.2.2⟩
end
section
variable {prog:Program}{w:World}{A:Around}{R:Result->Shared->Prop}{s:Shared}
theorem GU {elt target iter:Expr}{ifs:List Expr}{scope:Scope}{pos:Pos}{it acc:Value}{env:Env} (I:Nat->Shared->Prop)
  (turn:∀n s,I n s->wpAny (model prog w) A (pyNext it) (fun r s₁=>match r with
   | none=>R (.ok .next) s₁
   | some v=>wpAny (model prog w) A (letOwnedTupleGo target it v) (fun _ s₁'=>wpAny (model prog w) A (assign target env v) (fun _ s₂ =>
     wpAny (model prog w) A (forIn ifs true fun c r=>if r=true then do let ok ←isTrue c env (eval c env);pure (ForInStep.yield ok) else pure (ForInStep.yield r)) (fun ok s₃ =>
      if ok=true then wpAny (model prog w) A (eval elt env) (fun x s₄ =>
       wpAny (model prog w) A (call (.builtin "list.append") [acc,x]) (fun _ s₅=>∃m,m<n/\I m s₅) (notedBy (model prog w) A env fun e s'=>R (.error e) s') s₄) (notedBy (model prog w) A env fun e s'=>R (.error e) s') s₃
      else ∃m,m<n/\I m s₃) (notedBy (model prog w) A env fun e s'=>R (.error e) s') s₂) (notedBy (model prog w) A env fun e s'=>R (.error e) s') s₁') (notedBy (model prog w) A env fun e s'=>R (.error e) s') s₁) (notedBy (model prog w) A env fun e s'=>R (.error e) s') s)
  (n:Nat)(h:I n s) :
  codeAny (model prog w) A (.compLoop (.ListComp elt [⟨target,iter,ifs,0⟩] scope pos) 0 it acc env) R s:=by
 refine codeAny_loop rfl I (fun n s hI=> ?_) n h;show wpAny _ A ((compTurn (.ListComp elt [⟨target,iter,ifs,0⟩] scope pos) 0 it acc env).onRaise (fun x=>do noteFrame x env;theTreesLotGoes x)) _ _ s;refine wpAny_noted ?_;rw[compTurn_list];refine wpAny_bind (wpAny_standAt (wpAny_bind (wpAny_mono (turn n s hI) (fun r s₁ h₁=> ?_) fun _ _ h'=>h')));cases r with
 | none=>exact wpAny_pure h₁
 | some v =>
  refine wpAny_bind (wpAny_mono h₁ (fun _ s₁' h₁'=> ?_) fun _ _ h'=>h');refine wpAny_bind (wpAny_mono h₁' (fun _ s₂ h₂=>wpAny_bind (wpAny_mono h₂ (fun ok s₃ h₃=> ?_) fun _ _ h'=>h')) fun _ _ h'=>h');cases ok with
  | false=>exact wpAny_pure ⟨rfl,h₃⟩
  | true =>
   exact wpAny_bind (wpAny_bind (wpAny_mono h₃ (fun x s₄ h₄=>wpAny_bind (wpAny_mono h₄ (fun _ s₅ h₅=>wpAny_pure (wpAny_pure ⟨rfl,h₅⟩)) fun _ _ h'=>h')) fun _ _ h'=>h'))
end
def PF (X:Cx)(ifs:List Expr)(t:TT):Prop :=
 ∀(pins:List (Addr×Obj)) (s:Shared) (σ:St) (H:Hp) (Q:Bool->Hp->Prop),Inv X pins σ H s->t σ H Q →
  wpAny (model X.prog X.w) X.A (forIn ifs true fun c r=>if r=true then do let ok ←isTrue c X.env (eval c X.env);pure (ForInStep.yield ok) else pure (ForInStep.yield r)) (TP X pins σ Q) X.xe s
def wQ:TT:=fun _ H Q=>Q true H
theorem d0 {X:Cx}:PF X [] wQ:=fun _ _ _ H _ I h=>wpAny_tests_nil ⟨H,I,h⟩
theorem gH {X:Cx}{c:Expr}{t:TT} (h:PT X c t):PF X [c] t:=fun pins s σ H Q I q=>wpAny_tests_one (h pins s σ H Q I q)
def dB (J:It)(g:TG)(ti:TT)(te:TE)(σ0:St)(fin:List V->Hp->Prop)(H1:Hp):Prop :=
 ∃W:Nat->Nat->List V->Hp->Prop,(∃m,W 0 m [] H1)/\∀i m ys H,W i m ys H →
  (J.stop i H/\fin ys H) ∨
  (J.go i H/\∀x H',J.yld i H x H'->g x σ0 H' fun σ2 H2=>(σ2.length=σ0.length/\∀(j:Nat) v,σ0[j]? =some (some v)->σ2[j]? =some (some v)) ∧
   ti σ2 H2 fun b H3=>if b=true then te σ2 H3 fun y H4=>ys.length<sizeLine/\∃m',m'<m/\W (i+1) m' (ys++[y]) H4 else ∃m',m'<m/\W (i+1) m' ys H3)
def KQ (wi:TI)(nl:Nat)(ci:List Nat)(g:TG)(ti:TT)(te:TE):TE:=fun σ H Q =>
 wi σ H fun J H1=>dB J g ti te (bZ nl ci σ) (fun ys H'=>∀p,H' p=none->Q (.ref p) (upd H' p (.lst ys))) H1
section
variable {X:Cx}{scope:Scope}{cl:List (Str×Addr)}{N:List Str}{nl:Nat}{ci:List Nat}{tg elt iter:Expr}{ifs:List Expr}{pos:Pos}{wi:TI}{g:TG}{ti:TT}{te:TE}
theorem CM {pins:List (Addr×Obj)}{σ:St}{H2:Hp}{s2:Shared}{fp:List Addr}{it:Addr}{J:It}{tn:Nat->Heap->Prop}{E:Value->Shared->Prop}{RR:Value->Addr->Result->Shared->Prop}{fin:List V->Hp->Prop}
  (hc:X.calm=true)(B:Blk X scope cl N nl ci)(hg:∀C s0 H0 fp,PG (bQ X scope cl N C s0 H0 fp) tg g)(hi:∀C s0 H0 fp,PF (bQ X scope cl N C s0 H0 fp) ifs ti)(he:∀C s0 H0 fp,PE (bQ X scope cl N C s0 H0 fp) elt te)
  (I2:Inv X pins σ H2 s2)(T:uE X.prog X.w X.K tg J fp it tn)(st2:tn 0 s2.heap)(f2:∀b∈fp,nU X pins H2 b)(hW:dB J g ti te (bZ nl ci σ) fin H2)
  (hfin:∀(D C:Addr) (s':Shared) (H':Hp) (ys:List V) (oC:Obj) (m:Str->Option Value),H' D=none->Inv X (pins++[(C,oC)]) σ (upd H' D (.lst ys)) s'->s'.heap.Ns C m->s2.heap.objs.size<=C->fin ys H'->RR (.ref D) C (.ok .next) s') :
  wpAny (model X.prog X.w) X.A (newList []) (fun acc s₃=>wpAny (model X.prog X.w) X.A (newFunctionEnv scope X.env.globals cl [] X.env.qual none .none (some X.env)) (fun cenv s₄ =>
   codeAny (model X.prog X.w) X.A (.compStart (.ListComp elt [⟨tg,iter,ifs,0⟩] scope pos) 0 (.ref it) acc { cenv with scope:=relabel scope X.env }) (RR acc cenv.locals) s₄) E s₃) E s2:=by
 obtain⟨W,⟨m0,w0⟩,turn⟩:=hW;refine wpAny_newObj_type (wpAny_newFunctionEnv B.nocell (by intro y hy;simp at hy) (fun h1 hns1 hsb1=> ?_) B.kind)
 dsimp only at hns1 hsb1 ⊢
 generalize hH2:s2.heap.push { cls:= .type "list",dict:=none,data:= .seq ([]:List Value).toArray }=G2 at hns1 hsb1 ⊢;have hCs:G2.objs.size=s2.heap.objs.size+1:=by rw[←hH2,Heap.size_push]
 generalize hCe:G2.objs.size=C at hns1 hsb1 hCs ⊢;have hDC:s2.heap.objs.size≠C:=by rw[hCs];exact Nat.ne_of_lt (Nat.lt_succ_self _)
 have hCle:s2.heap.objs.size<=C:=by rw[hCs];exact Nat.le_succ _
 have old:∀b o,s2.heap.get? b=some o->h1.get? b=some o:=fun b o e=>hsb1.extBut b o (by rw[hCs];exact Nat.ne_of_lt (Nat.lt_succ_of_lt (Heap.lt_size e))) (Heap.get?_push_of_some _ (hH2▸Heap.get?_push_of_some _ e));have hacc:h1.get? s2.heap.objs.size=some { cls:= .type "list",data:= .seq ([]:List Value).toArray 0 }:=hsb1.extBut _ _ hDC (Heap.get?_push_of_some _ (hH2▸Heap.get?_push_size _ rfl));have fo:∀b∈fp,∃o,s2.heap.get? b=some o:=fun b hb=>let ⟨o,e,_⟩:=T.obj 0 _ st2 b hb;⟨o,e⟩;have lt2:∀b∈fp,b<s2.heap.objs.size:=fun b hb=>let ⟨o,e⟩:=fo b hb;Heap.lt_size e;have hDfp:s2.heap.objs.size∉fp:=fun z=>Nat.lt_irrefl _ (lt2 _ z);have hCfp:C∉fp:=fun z=>Nat.lt_irrefl _ (Nat.lt_of_lt_of_le (lt2 _ z) hCle);generalize hDe:s2.heap.objs.size=D at hCs hDC hCle hacc hDfp lt2;have loop:∀s3:Shared,s3={ s2 with heap:=h1,toks:=s2.toks+([]:List (Str×Value)).length } →
   codeAny (model X.prog X.w) X.A (.compLoop (.ListComp elt [⟨tg,iter,ifs,0⟩] scope pos) 0 (.ref it) (.ref D) (compEnvC scope cl C X.env)) (RR (.ref D) C) s3:=by
  rintro s3 rfl;have I4:Inv (bQ X scope cl N C s2 H2 fp) [] (bZ nl ci σ) H2 { s2 with heap:=h1,toks:=s2.toks+([]:List (Str×Value)).length }:=HN B I2 f2 fo (by rw[hDe];exact hCle) hns1 old;have fpk:∀{H':Hp},(∀b∈fp,H' b=none)->∀b∈fp,nU (bQ X scope cl N C s2 H2 fp) [] H' b:=fun hn b hb =>
   ⟨hn b hb,(I4.ok.exf b hb).1,I4.ok.exfs b hb,.inl hb,(I4.ok.exf b hb).2,fun p hp=>by cases hp⟩
  have hDX:∀x c,(bQ X scope cl N C s2 H2 fp).env.cells.lookup x=some c->c≠D:=fun x c e=>by
   obtain⟨v,o,ho,_⟩:=I2.cell x c (B.sub x c e);rw[←hDe];exact Nat.ne_of_lt (Heap.lt_size ho)
  have hDL:D≠(bQ X scope cl N C s2 H2 fp).env.locals:=hDC;have hDf:D∉(bQ X scope cl N C s2 H2 fp).fs:=fun z=>by
   rcases List.mem_cons.mp (I2.stkSub D z) with q|q
   ·exact Nat.lt_irrefl _ (by have:=I2.lt;rw[hDe,←q]at this;exact this)
   ·exact I2.nofs (by rw[hDe];exact Nat.le_refl _) q
  refine GU (fun n s'=>∃i ys its k H',W i n ys H'/\Inv (bQ X scope cl N C s2 H2 fp) [] (bZ nl ci σ) H' s'/\tn i s'.heap/\(∀b∈fp,H' b=none)/\H' D=none ∧
   s'.heap.get? D=some { cls:= .type "list",data:= .seq its.toArray k }/\Vals ys its/\ys.length<=sizeLine) ?_ m0 ?_
  ·rintro n s' ⟨i,ys,its,k,H',w',I',st',fr',hD',eD,rv,hz⟩;have IP:Inv (bQ X scope cl N C s2 H2 fp) [(D,{ cls:= .type "list",data:= .seq its.toArray k })] (bZ nl ci σ) H' s':=I'.pins_of fun p hp=>by
    obtain rfl:p=_:=by simpa using hp
    exact⟨eD,hD',hDL,hDf,fun v z=>by cases z⟩
   have fpD:∀{H'':Hp},(∀b∈fp,H'' b=none)->∀b∈fp,nU (bQ X scope cl N C s2 H2 fp) [(D,{ cls:= .type "list",data:= .seq its.toArray k })] H'' b:=fun hn b hb =>
    ⟨hn b hb,(I4.ok.exf b hb).1,I4.ok.exfs b hb,.inl hb,(I4.ok.exf b hb).2,fun p hp=>by
     obtain rfl:p=_:=by simpa [bQ] using hp
     exact fun z=>hDfp ((show D=b from z)▸hb)⟩
   rcases turn i n ys H' w' with⟨stop,q⟩|⟨go,step⟩
   ·refine thn (T.done (bQ X scope cl N C s2 H2 fp) rfl rfl rfl hc i _ s' (bZ nl ci σ) H' _ IP (fpD fr') st' stop) fun r s'' ⟨hr,I''⟩=> ?_;subst hr;have eD2:=(I''.pin (D,_) (List.mem_append_right _ List.mem_cons_self)).1;have J1:Inv (bQ X scope cl N C s2 H2 fp) [] (bZ nl ci σ) (upd H' D (.lst ys)) s'' :=
     (I''.pins_of (pins':=[]) fun p hp=>by cases hp).track hD' eD2 rv hz (by show s2.heap.objs.size<=D;rw[hDe];exact Nat.le_refl _) hDL hDX fun p hp=>by cases hp
    have K1:Inv X pins σ (upd H' D (.lst ys)) s'':=LZ I2 f2 J1;obtain⟨mC,nsC,_⟩:=J1.loc;obtain⟨oC,es,ep,hoC,hdC,rC⟩:=id nsC;refine hfin D C s'' H' ys oC mC hD' (K1.pins_of fun p hp=> ?_) nsC (by rw[hDe];exact hCle) q;rcases List.mem_append.mp hp with hp|hp
    ·exact K1.pin p (List.mem_append_right _ hp)
    ·obtain rfl:p=(C,oC):=by simpa using hp
     refine⟨hoC,J1.free,Nat.ne_of_gt (Nat.lt_of_lt_of_le I2.lt (by rw[hDe];exact hCle)),I2.nofs (by rw[hDe];exact hCle),fun v z=> ?_⟩;rw[hdC]at z;cases z
   ·refine thn (T.item (bQ X scope cl N C s2 H2 fp) rfl rfl rfl hc i _ s' (bZ nl ci σ) H' _ IP (fpD fr') st' go) fun r s4 ⟨u,hr,h4⟩=> ?_;subst hr;refine thn h4 fun _ s5 ⟨x,H5,I5,r5,y5,st5,fr5⟩=> ?_;have I5':=I5.pinned (fpD fr5) (T.obj _ _ st5);refine wpAny_mono (hg C s2 H2 fp _ s5 (bZ nl ci σ) H5 x u _ I5' r5 (step x H5 y5)) (fun _ s6 ⟨σ6,H6,I6,⟨hl6,hk6⟩,q6⟩=> ?_) fun _ _ f=>f.elim;refine wpAny_mono (hi C s2 H2 fp _ s6 σ6 H6 _ I6 q6) (fun b s7 ⟨H7,I7,q7⟩=> ?_) fun _ _ f=>f.elim;have pinD:∀{pp:List (Addr×Obj)}{σx:St}{Hx:Hp}{sx:Shared},Inv (bQ X scope cl N C s2 H2 fp) ([(D,({ cls:= .type "list",data:= .seq its.toArray k }:Obj))]++lL fp s5.heap) σx Hx sx →
      sx.heap.get? D=some { cls:= .type "list",data:= .seq its.toArray k }/\Hx D=none/\tn (i+1) sx.heap/\(∀b∈fp,Hx b=none):=fun {pp σx Hx sx} Ix=>by
     refine⟨(Ix.pin (D,_) (List.mem_append_right _ (List.mem_append_left _ List.mem_cons_self))).1,(Ix.pin (D,_) (List.mem_append_right _ (List.mem_append_left _ List.mem_cons_self))).2.1,T.keep _ _ _ st5 fun b hb o e=>(Ix.pin (b,o) (List.mem_append_right _ (List.mem_append_right _ (jZ hb e)))).1,fun b hb=> ?_⟩;obtain⟨o,e,d⟩:=T.obj _ _ st5 b hb;exact(Ix.pin (b,o) (List.mem_append_right _ (List.mem_append_right _ (jZ hb e)))).2.1
    cases b with
    | false =>
     rw[if_neg Bool.false_ne_true]at q7 ⊢;obtain⟨m',hm',w7⟩:=q7;obtain⟨e7,n7,st7,fr7⟩:=pinD (pp:=[]) I7;exact⟨m',hm',i+1,ys,its,k,H7,w7,(I7.pins_of (pins':=[]) fun p hp=>by cases hp).weak hl6.symm hk6,st7,fr7,n7,e7,rv,hz⟩
    | true =>
     rw[if_pos rfl]at q7 ⊢;refine wpAny_mono (he C s2 H2 fp _ s7 σ6 H7 _ I7 q7) (fun y' s8 ⟨y,H8,I8,r8,hlt,m',hm',w8⟩=> ?_) fun _ _ f=>f.elim;obtain⟨e8,n8,st8,fr8⟩:=pinD (pp:=[]) I8;have I8f:Inv (bQ X scope cl N C s2 H2 fp) (lL fp s5.heap) σ6 H8 s8:=I8.pins_of fun p hp=>I8.pin p (List.mem_append_right _ (List.mem_append_right _ hp));have I8t:=I8f.track n8 e8 rv hz (by show s2.heap.objs.size<=D;rw[hDe];exact Nat.le_refl _) hDL hDX fun p hp=>by
      have hp':p∈lL fp s5.heap:=by simpa [bQ] using hp
      exact fun z=>hDfp (z▸(CA hp').1)
     refine wpAny_mono (lI (X:=bQ X scope cl N C s2 H2 fp) (lL fp s5.heap) s8 σ6 _ (.ref D) [y] (.ref D) [y'] (fun _ H9=>H9=upd H8 D (.lst (ys++[y]))) I8t rfl (.cons r8 .nil)
      ⟨D,ys,y,rfl,rfl,aS,hlt,WK⟩) (fun _ s9 ⟨_,H9,I9,_,e9⟩=> ?_) fun _ _ f=>f.elim
     subst e9;obtain⟨hz9,its9,k9,rv9,e9⟩:=I9.hok D _ aS;have I9u:=I9.untrack n8;refine⟨m',hm',i+1,ys++[y],its9,k9,H8,w8,(I9u.pins_of (pins':=[]) fun p hp=>by cases hp).weak hl6.symm hk6,?_,fr8,n8,e9,rv9,hz9⟩;exact T.keep _ _ _ st5 fun b hb o e=>(I9u.pin (b,o) (List.mem_append_right _ (jZ hb e))).1
  ·exact⟨0,[],[],0,H2,w0,I4,T.keep _ _ _ st2 fun b hb o e=>old b o e,fun b hb=>(f2 b hb).1,I2.hok.fresh (by rw[hDe];exact Nat.le_refl _),hacc,.nil,Nat.zero_le _⟩
 exact codeAny_compStart_list (loop _ rfl) (T.self _ 0 _ _ _ (T.keep _ _ _ st2 fun b hb o e=>old b o e) (loop _ rfl))
theorem bW (hc:X.calm=true)(B:Blk X scope cl N nl ci)(hp:PI X tg iter wi)(hg:∀C s0 H0 fp,PG (bQ X scope cl N C s0 H0 fp) tg g)(hi:∀C s0 H0 fp,PF (bQ X scope cl N C s0 H0 fp) ifs ti)
  (he:∀C s0 H0 fp,PE (bQ X scope cl N C s0 H0 fp) elt te)(hs:∀x,foldedSetIterable iter X.env x=pure x:=by intro _;rfl):PE X (.ListComp elt [⟨tg,iter,ifs,0⟩] scope pos) (KQ wi nl ci g ti te):=by
 intro pins s σ H Q I h;rw[eval_ListComp];refine wpAny_comprehension_free (use:=none) rfl hs B.clos B.kind B.names (thn (hp pins s σ H _ I h) fun v s1 h1=>thn h1 fun itv s2 h2=> ?_);obtain⟨it,fp,tn,J,H2,e,I2,T,st2,f2,hW⟩:=h2;subst e;refine CM (RR:=fun acc C=>compPost (model X.prog X.w) X.A X.xe none (EP X pins σ Q) acc C) hc B hg hi he I2 T st2 f2 hW ?_;intro D C s' H' ys oC m hD K1 hn hC q;refine⟨m,hn,fun h' hs'=> ?_⟩;have hL:C≠X.env.locals:=(K1.pin (C,oC) (by simp)).2.2.1;have I9:Inv X pins σ (upd H' D (.lst ys)) { s' with heap:=h',toks:=s'.toks }:=K1.unpinned.turned (t':=s'.toks) (it:=C) (fun b o hb e=>hs'.extBut b o hb e) (K1.pin (C,oC) (by simp)).2.1 hL (.inr (Nat.le_trans I2.sz hC)) (fun x c e z=> ?_) fun p hp z=> ?_
 ·exact⟨.ref D,_,I9,rfl,q D hD⟩
 ·obtain⟨v,o,ho,_⟩:=I2.cell x c e;exact absurd (Nat.lt_of_lt_of_le (Heap.lt_size ho) (z▸hC)) (Nat.lt_irrefl _)
 ·exact absurd (Nat.lt_of_lt_of_le (Heap.lt_size (I2.pin p hp).1) (z▸hC)) (Nat.lt_irrefl _)
theorem KR {i:Nat}{x:Str}{pos' spos:Pos} (hN:X.N.Nodup) (hix:X.N[i]? =some x) (hx:Loc X.env.scope x) (hc:X.calm=true) (B:Blk X scope cl N nl ci) (hp:PI X tg iter wi) (hg:∀C s0 H0 fp,PG (bQ X scope cl N C s0 H0 fp) tg g)
  (hi:∀C s0 H0 fp,PF (bQ X scope cl N C s0 H0 fp) ifs ti)(he:∀C s0 H0 fp,PE (bQ X scope cl N C s0 H0 fp) elt te)
  (hsw:swapsWith (.ListComp elt [⟨tg,iter,ifs,0⟩] scope pos) (some (.Name x pos')) spos.line X.env=pure true:=by rfl)(hs:∀x,foldedSetIterable iter X.env x=pure x:=by intro _;rfl)
  (hf:X.fn x=true∨X.env.scope.names.lookup x=some .local:=by first|exact .inl rfl|exact .inr rfl|assumption) :
  PS X (.Assign [.Name x pos'] (.ListComp elt [⟨tg,iter,ifs,0⟩] scope pos) spos) (K8 (KQ wi nl ci g ti te) (cA i)):=by
 intro pins s σ H D I h;rw[exec_Assign_Name_used _ _ _ _ hsw];refine wpAny_bind (wpAny_standAt (wpAny_bind ?_));show wpAny _ X.A (do let _ ←comprehension (.ListComp elt [⟨tg,iter,ifs,0⟩] scope pos) scope X.env _ (newList []) false (eval iter X.env) (some (assign (.Name x pos') X.env))) _ _ s;refine wpAny_bind (wpAny_mono (wpAny_comprehension_free (use:=some (assign (.Name x pos') X.env)) (Q:=fun _ s'=>SP X pins D .next s') rfl hs B.clos B.kind B.names
  (thn (hp pins s σ H _ I h) fun v s1 h1=>thn h1 fun itv s2 h2=> ?_)) (fun _ s' hq=>wpAny_pure (wpAny_pure hq)) fun _ _ e=>e)
 obtain⟨it,fp,tn,J,H2,e,I2,T,st2,f2,hW⟩:=h2;subst e;refine CM (RR:=fun acc C=>compPost (model X.prog X.w) X.A X.xe (some (assign (.Name x pos') X.env)) (fun _ s'=>SP X pins D .next s') acc C) hc B hg hi he I2 T st2 f2 hW ?_;intro Dd C s' H' ys oC m hD K1 hn hC q;show wpAny _ X.A (assign (.Name x pos') X.env (.ref Dd)) _ _ _;refine thn (aK (i:=i) hN hix hx hf (pins++[(C,oC)]) s' σ (upd H' Dd (.lst ys)) (.ref Dd) (.ref Dd) (fun σ' H''=>D.nx σ' H'') K1 rfl (q Dd hD)) fun _ s'' ⟨σ',H'',K2,q2⟩=> ?_;have eC:=K2.pin (C,oC) (by simp);obtain⟨oC',es,ep,hoC,hdC,rC⟩:=id hn;have eo:oC'=oC:=by
  have:=(K1.pin (C,oC) (by simp)).1;rw[hoC]at this;exact Option.some.inj this
 subst eo;refine⟨m,⟨oC',es,ep,eC.1,hdC,rC⟩,fun h' hs'=> ?_⟩;have hL:C≠X.env.locals:=eC.2.2.1;have I9:Inv X pins σ' H'' { s'' with heap:=h',toks:=s''.toks }:=K2.unpinned.turned (t':=s''.toks) (it:=C) (fun b o hb e=>hs'.extBut b o hb e) eC.2.1 hL (.inr (Nat.le_trans I2.sz hC)) (fun x c e z=> ?_) fun p hp z=> ?_
 ·exact⟨σ',H'',I9,q2⟩
 ·obtain⟨v,o,ho,_⟩:=I2.cell x c e;exact absurd (Nat.lt_of_lt_of_le (Heap.lt_size ho) (z▸hC)) (Nat.lt_irrefl _)
 ·exact absurd (Nat.lt_of_lt_of_le (Heap.lt_size (I2.pin p hp).1) (z▸hC)) (Nat.lt_irrefl _)
end
end L2
namespace L2
open PySem PySem.Spec PyProof.Rows
def Its (x:Str):It:=⟨fun i _=>i<x.cps.size,fun i H v H'=>H'=H/\∃c,x.cps[i]? =some c/\v= .str ⟨#[c]⟩,fun i _=>i=x.cps.size⟩
theorem FC {P:Program}{w:World}{K:PySem.W.Frag}{tg:Expr} (it:Addr) (x:Str) (t:Tok) (ty:String)
  (hty:["enumerate","zip","dict_itemiterator","dict_reverseitemiterator","odict_iterator","itertools.zip_longest","itertools.pairwise"].contains ty=false)
  (W:∀A':Around,A'.handled=none->Walks P w A' it [it] [it] x.cps.size (SignAt x) (fun i h=>h.IsStrIter it ty x t i))
  (hself:∀(A:Around) (i:Nat) (s:Shared) (Q:Value->Shared->Prop) (E:Value->Shared->Prop),s.heap.IsStrIter it ty x t i->Q (.ref it) s->wpAny (model P w) A (pyIter (.ref it)) Q E s) :
  uE P w K tg (Its x) [it] it (fun i h=>h.IsStrIter it ty x t i) where
 mem:=by simp
 obj:=fun i h st b hb=>by
  have e:b=it:=by simpa using hb
  subst e;obtain⟨o,e,c,d⟩:=st;exact⟨o,e,fun v z=>by rw[d]at z;cases z⟩
 keep:=fun i h h' st k=>let ⟨o,ho,r⟩:=st;⟨o,k it (by simp) o ho,r⟩
 item:=by
  intro X hP hw hK hc i pins s σ H E I hf st hg;subst hP hw hK;obtain⟨f0,f1,f2,f3,f4,f5⟩:=hf it (by simp);refine(W X.A (I.ok.hd hc)).item i s _ _ hg st fun v h' tk hv st' kk=> ?_;obtain⟨c,u,hc',rfl⟩:=hv;have I1:Inv X pins σ H { s with heap:=h',toks:=tk }:=I.turned (fun b o hb e=>kk b o (by simpa using hb) e) f0 f1 f3 f4 f5;obtain⟨o,e,c1,d⟩:=id st';exact⟨_,rfl,LH (s:={ s with heap:=h',toks:=tk }) e c1 d hty ⟨.str ⟨#[c]⟩,H,I1,⟨u,rfl⟩,⟨rfl,c,hc',rfl⟩,st',fun b hb=>(hf b hb).1⟩⟩
 done:=by
  intro X hP hw hK hc i pins s σ H E I hf st hg;subst hP hw hK;obtain⟨f0,f1,f2,f3,f4,f5⟩:=hf it (by simp);have e:i=x.cps.size:=hg;subst e;exact(W X.A (I.ok.hd hc)).done s _ _ st fun h' tk kk=>⟨rfl,I.turned (fun b o hb e=>kk b o (by simpa using hb) e) f0 f1 f3 f4 f5⟩
 self:=hself
def aBv (tl:TE):TI:=fun σ H R=>tl σ H fun x H1=>∃z,x= .str z/\R (Its z) H1
theorem XR {X:Cx}{tg l:Expr}{tl:TE} (hl:PE X l tl):PI X tg l (aBv tl):=by
 intro pins s σ H R I h;refine thn (hl pins s σ H _ I h) fun v s1 ⟨x,H1,I1,rx,z,ez,q⟩=> ?_;subst ez;obtain⟨t,rfl⟩:=rx;cases ha:z.cps.all (·<128)
 ·refine wpAny_pyIter_wide ha ⟨s1.heap.objs.size,[s1.heap.objs.size],_,Its z,H1,rfl,I1.kept (t':=s1.toks) fun b u e=>Heap.get?_push_of_some _ e,FC _ z t "str_iterator" (by decide) (fun A' hA=>Walks.strWide hA _ z t) (fun _ _ _ _ _ st h=>wpAny_pyIter_striter_wide st h),⟨_,Heap.get?_push_size _ rfl,rfl,rfl⟩,fun b hb=> ?_,q⟩;have e:b=s1.heap.objs.size:=by simpa using hb
  subst e;exact I1.fpOk (Nat.le_refl _) (I1.hok.fresh (Nat.le_refl _))
 ·refine wpAny_pyIter_ascii ha ⟨s1.heap.objs.size,[s1.heap.objs.size],_,Its z,H1,rfl,I1.kept (t':=s1.toks) fun b u e=>Heap.get?_push_of_some _ e,FC _ z t "str_ascii_iterator" (by decide) (fun A' hA=>Walks.strAscii hA _ z t) (fun _ _ _ _ _ st h=>wpAny_pyIter_striter_ascii st h),⟨_,Heap.get?_push_size _ rfl,rfl,rfl⟩,fun b hb=> ?_,q⟩;have e:b=s1.heap.objs.size:=by simpa using hb
  subst e;exact I1.fpOk (Nat.le_refl _) (I1.hok.fresh (Nat.le_refl _))
theorem VI {J:It}{g:TG}{ti:TT}{te:TE}{σ0:St}{fin:List V->Hp->Prop}{H1:Hp} (n:Nat) (f:Nat->V) (hn:n<=sizeLine) (Ok:Hp->Prop) (h0:Ok H1)
  (hst:∀H,Ok H->J.stop n H)(hgo:∀i H,i<n->Ok H->J.go i H)
  (hstep:∀i H x H',i<n->Ok H->J.yld i H x H'->g x σ0 H' fun σ2 H2=>(σ2.length=σ0.length/\∀(j:Nat) v,σ0[j]? =some (some v)->σ2[j]? =some (some v))/\ti σ2 H2 fun b H3=>b=true/\te σ2 H3 fun y H4=>y=f i/\Ok H4)
  (mono:∀σ H (Q Q':Bool->Hp->Prop),(∀b H',Q b H'->Q' b H')->ti σ H Q->ti σ H Q')(mono2:∀σ H (Q Q':VK),(∀b H',Q b H'->Q' b H')->te σ H Q->te σ H Q')(mono3:∀x σ H (Q Q':St->Hp->Prop),(∀σ' H',Q σ' H'->Q' σ' H')->g x σ H Q->g x σ H Q')
  (hfin:∀H,Ok H->fin ((List.range n).map f) H):dB J g ti te σ0 fin H1:=by
 refine⟨fun i m ys H=>m=n - i/\i<=n/\ys=(List.range i).map f/\Ok H,⟨n,by simp,Nat.zero_le _,rfl,h0⟩,?_⟩;rintro i m ys H ⟨rfl,hi,rfl,ok⟩
 by_cases hlt:i<n
 ·refine .inr ⟨hgo i H hlt ok,fun x H' y=> ?_⟩;refine mono3 _ _ _ _ _ (fun σ' H'' q=>⟨q.1,mono _ _ _ _ (fun b H3 q=> ?_) q.2⟩) (hstep i H x H' hlt ok y);obtain⟨rfl,q⟩:=q;rw[if_pos rfl];refine mono2 _ _ _ _ (fun v H4 q=> ?_) q;obtain⟨rfl,ok4⟩:=q;refine⟨by rw[List.length_map,List.length_range];lia,n - (i+1),by lia,rfl,hlt,?_,ok4⟩;rw[List.range_succ,List.map_append];rfl
 ·have e:i=n:=by lia
  subst e;exact .inl ⟨hst H ok,hfin H ok⟩
section
variable {X:Cx}
theorem D5:∀bs:List Bool,(List.range bs.length).all (fun i=>bs.getD i true)=bs.all id
 | []=>rfl
 | b::bs=>by
  rw[List.length_cons,List.range_succ_eq_map,List.all_cons,List.all_map,List.all_cons,←D5 bs];rfl
theorem AZ (hc:X.calm=true):d4 X (.builtin "all") (fun xs H Q=>∃(p:Addr) (bs:List Bool),xs=[.ref p]/\SqL X.K H p (bs.map V.bl)/\Q (.bl (bs.all id)) H):=by
 intro pins s σ H xs us Q I r h;obtain⟨p,bs,rfl,hq,q⟩:=h;obtain⟨u,rfl,rx⟩:=jM r;cases rx;obtain⟨its,r',pl,hz⟩:=I.list hq;have hl:=pl.isList;have hlt:p<s.heap.objs.size:=by obtain⟨_,e,_⟩:=hl;exact Heap.lt_size e
 have hlen:bs.length=its.length:=by have:=r'.length;rw[List.length_map]at this;exact this
 refine call_all_walk (wpAny_pyIter_list hl ?_);refine⟨s.heap.objs.size,_,_,its.toArray.size,_,_,fun i=>bs.getD i true,rfl,Walks.list (show X.A.in1.handled=none from I.ok.hd hc) s.heap.objs.size p (Nat.ne_of_lt hlt) its.toArray,⟨⟨_,Heap.get?_push_size _ rfl,rfl,rfl⟩,hl.push _⟩,?_,?_⟩
 ·intro i v s' Q' E' hi hQ;have hi':its[i]? =some v:=by simpa using hi
  have hib:i<bs.length:=by rw[hlen];exact(List.getElem?_eq_some_iff.mp hi').1
  obtain⟨u,hu,ru⟩:=r'.get (i:=i) (x:=V.bl bs[i]) (by rw[List.getElem?_map,List.getElem?_eq_getElem hib];rfl);rw[hi']at hu;cases hu;have:v=Value.bool bs[i]:=ru;subst this;refine wpAny_truthy_bool ?_;have eb:bs.getD i true=bs[i]:=by rw[List.getD_eq_getElem?_getD,List.getElem?_eq_getElem hib];rfl
  have hQ':Q' (bs.getD i true) s':=hQ;rw[eb]at hQ';exact hQ'
 ·intro h' tk hk;have eall:(List.range its.toArray.size).all (fun i=>bs.getD i true)=bs.all id:=by
   rw[List.size_toArray,←hlen];exact D5 bs
  rw[eall];refine⟨.bl (bs.all id),H,?_,rfl,q⟩;have I1:Inv X pins σ H { s with heap:=s.heap.push { cls:= .type "list_iterator",data:= .fields #[.ref p,.int 0 0] },toks:=s.toks }:=I.kept fun b u e=>Heap.get?_push_of_some _ e;obtain⟨f0,f1,f2,f3,f4,f5⟩:=I.fpOk (Nat.le_refl _) (I.hok.fresh (Nat.le_refl _));exact I1.turned (fun b o hb e=>hk b o (by simpa using hb) e) f0 f1 f3 f4 f5
theorem HH:d4 X (.builtin "isinstance") (fun xs H Q=>∃x c t u b,xs=[x,c]/\iY X.K H x t/\RelV c u/\PySem.W.kitOne X.K t u=some b/\Q (.bl b) H):=by
 intro pins s σ H xs us Q I r h;obtain⟨x,c,t,u,b,rfl,ty,rc,e,q⟩:=h;obtain⟨v1,v2,rfl,r1,r2⟩:=aBd r;have e2:v2=u:=by
  cases c with
  | non=>exact(show v2=_ from r2).trans (show u=_ from rc).symm
  | bl b=>exact(show v2=_ from r2).trans (show u=_ from rc).symm
  | ref b=>exact(show v2=_ from r2).trans (show u=_ from rc).symm
  | ty b=>exact(show v2=_ from r2).trans (show u=_ from rc).symm
  | int i =>
   obtain⟨t1,rfl⟩:=(show ∃t,u=_ from rc)
   cases ty<;>simp[PySem.W.kitOne,PySem.W.kitCls]at e
  | str i =>
   obtain⟨t1,rfl⟩:=(show ∃t,u=_ from rc)
   cases ty<;>simp[PySem.W.kitOne,PySem.W.kitCls]at e
  | byt i =>
   obtain⟨t1,rfl⟩:=(show ∃t,u=_ from rc)
   cases ty<;>simp[PySem.W.kitOne,PySem.W.kitCls]at e
  | flt i =>
   obtain⟨t1,rfl⟩:=(show ∃t,u=_ from rc)
   cases ty<;>simp[PySem.W.kitOne,PySem.W.kitCls]at e
 subst e2;exact M0 I r1 ty e fun tk=>⟨.bl b,H,I.tok tk,rfl,q⟩
theorem MZ:OpR X (compareOp .LtE) (fun x y H Q=>∃i j,x= .str i/\y= .str j/\Q (.bl (!decide (j.cps.toList<i.cps.toList))) H):=by
 intro pins s σ H x y v u Q I rx ry h;obtain⟨i,j,rfl,rfl,q⟩:=h;obtain⟨t,rfl⟩:=rx;obtain⟨t',rfl⟩:=ry;exact P.le_str ⟨.bl _,H,I,rfl,q⟩
theorem yZ {v:Value}{o:Option Int} (p:IsPart v o):∃l:Option (Int×Tok),v=partValue l/\o=l.map (·.1):=by
 cases p with
 | none=>exact⟨none,rfl,rfl⟩
 | int i u=>exact⟨some (i,u),rfl,rfl⟩
def ZF:V->Option Int->Option Int->Hp->VK->Prop:=fun x lo hi H Q=>∃z,x= .str z/\z.length<=sizeLine/\Q (.str (Txt.slice z lo hi)) H
theorem zH:SlR X ZF:=by
 intro pins s σ H x v vl vu lo hi sl Q I rx hs pl pu h;obtain⟨z,rfl,hz,q⟩:=h;obtain⟨t,rfl⟩:=rx;obtain⟨l,rfl,rfl⟩:=yZ pl;obtain⟨u,rfl,rfl⟩:=yZ pu;refine⟨"str",_,F.slot_str_getitem.lookup,typeIs_str _ _ _,?_⟩;exact wpAny_getItem_str_slice (l:=l) (u:=u) (st:=none) hs rfl (post_val_or_str ⟨Nat.le_trans (Txt.slice_le z _ _) hz,fun t' k=>⟨.str _,H,I.tok k,⟨t',rfl⟩,q⟩⟩)
end
end L2
namespace L2
open PySem PySem.Spec PyProof.Rows
def SU (xs:List (Str×NameKind))(XN:List Str)(ns:List (Str×NameKind))(N:List Str)(nl:Nat)(ci:List Nat):Bool :=
 (ns.all fun y=>y.2 != .cell&&(y.2 != .local||ns.lookup y.1==some .local)&&(y.2 != .free||(xs.lookup y.1==some .cell&&ns.lookup y.1==some .free))) &&
 (N.length==nl+ci.length) &&
 (List.range ci.length).all fun j=>match ci[j]?,N[nl+j]? with
  | some i,some n=>XN[i]? ==some n&&xs.lookup n==some .cell&&ns.lookup n==some .free
  | _,_=>false
def tN (ns:List (Str×NameKind))(cs:List (Str×Addr)):List (Str×Addr)->List (Str×Addr)
 | acc=>ns.foldl (fun acc y=>if y.2== .free then (y.1,(cs.lookup y.1).getD 0)::acc else acc) acc
theorem t6 {env:Env}:∀(ns:List (Str×NameKind)) (acc:List (Str×Addr)),(∀y∈ns,y.2= .free->∃c,env.cells.lookup y.1=some c) →
  (forIn ns acc fun x r=>(do
   let (name,kind):=x
   if (kind==NameKind.free)=true then do
     let c ←cellOf env name
     pure (ForInStep.yield ((name,c)::r))
    else pure (ForInStep.yield r)):Sem (List (Str×Addr)))=pure (tN ns env.cells acc)
 | [],acc,_=>rfl
 | (n,k)::r,acc,h=>by
  have ih:=fun acc=>t6 r acc fun y hy=>h y (List.mem_cons_of_mem _ hy);rw[List.forIn_cons]
  by_cases hk:k= .free
  ·subst hk;obtain⟨c,e⟩:=h (n,.free) List.mem_cons_self rfl;have e1:cellOf env n=pure c:=by unfold cellOf;rw[e]
   simp only[beq_self_eq_true,if_true,e1];show (forIn r ((n,c)::acc) _:Sem (List (Str×Addr)))=_;rw[ih];show _=pure (tN ((n,NameKind.free)::r) env.cells acc);simp only[tN,List.foldl_cons,beq_self_eq_true,if_true,e,Option.getD_some]
  ·have hb:(k==NameKind.free)=false:=by simpa using hk
   simp only[hb,Bool.false_eq_true,if_false];show (forIn r acc _:Sem (List (Str×Addr)))=_;rw[ih];simp only[tN,List.foldl_cons,hb,Bool.false_eq_true,if_false]
theorem iJ {cs:List (Str×Addr)}:∀(ns:List (Str×NameKind)) (acc:List (Str×Addr)) (n:Str),(∀y∈ns,y.2= .free->∃c,cs.lookup y.1=some c) →
  ((n,NameKind.free)∈ns∨acc.lookup n=cs.lookup n)->(∀c,acc.lookup n=some c->cs.lookup n=some c)->(tN ns cs acc).lookup n=cs.lookup n
 | [],acc,n,_,h,_=>by
  rcases h with h|h
  ·cases h
  ·exact h
 | (m,k)::r,acc,n,hc,h,hs=>by
  have hc':∀y∈r,y.2= .free->∃c,cs.lookup y.1=some c:=fun y hy=>hc y (List.mem_cons_of_mem _ hy);show (tN r cs (if k== .free then (m,(cs.lookup m).getD 0)::acc else acc)).lookup n=cs.lookup n
  by_cases hk:k= .free
  ·subst hk;obtain⟨c,e⟩:=hc (m,.free) List.mem_cons_self rfl;simp only[beq_self_eq_true,if_true,e,Option.getD_some]
   by_cases hm:n=m
   ·subst hm;have q:List.lookup n ((n,c)::acc)=some c:=by simp[List.lookup_cons]
    exact iJ r _ n hc' (.inr (q.trans e.symm)) fun c' z=>by rw[q]at z;cases z;exact e
   ·have hb:(n==m)=false:=by simpa using hm
    have q:List.lookup n ((m,c)::acc)=acc.lookup n:=by simp[List.lookup_cons,hb]
    refine iJ r _ n hc' ?_ fun c' z=>hs c' (q▸z);rcases h with h|h
    ·rcases List.mem_cons.mp h with z|z
     ·cases z;exact absurd rfl hm
     ·exact .inl z
    ·exact .inr (q.trans h)
  ·have hb:(k==NameKind.free)=false:=by simpa using hk
   simp only[hb,Bool.false_eq_true,if_false];refine iJ r _ n hc' ?_ hs;rcases h with h|h
   ·rcases List.mem_cons.mp h with z|z
    ·cases z;exact absurd rfl hk
    ·exact .inl z
   ·exact .inr h
theorem DT {cs:List (Str×Addr)}:∀(ns:List (Str×NameKind)) (acc:List (Str×Addr)),(∀y∈ns,y.2= .free->∃c,cs.lookup y.1=some c) →
  (∀n c,acc.lookup n=some c->cs.lookup n=some c)->∀n c,(tN ns cs acc).lookup n=some c->cs.lookup n=some c
 | [],acc,_,hs,n,c,h=>hs n c h
 | (m,k)::r,acc,hc,hs,n,c,h=>by
  have hc':∀y∈r,y.2= .free->∃c,cs.lookup y.1=some c:=fun y hy=>hc y (List.mem_cons_of_mem _ hy);have h':(tN r cs (if k== .free then (m,(cs.lookup m).getD 0)::acc else acc)).lookup n=some c:=h;refine DT r _ hc' ?_ n c h';intro n' c' z
  by_cases hk:k= .free
  ·subst hk;obtain⟨d,e⟩:=hc (m,.free) List.mem_cons_self rfl;simp only[beq_self_eq_true,if_true,e,Option.getD_some]at z
   by_cases hm:n'=m
   ·subst hm;simp[List.lookup_cons]at z;subst z;exact e
   ·have hb:(n'==m)=false:=by simpa using hm
    simp[List.lookup_cons,hb]at z;exact hs n' c' z
  ·have hb:(k==NameKind.free)=false:=by simpa using hk
   simp only[hb,Bool.false_eq_true,if_false]at z;exact hs n' c' z
theorem kJ {env:Env}(hkf:env.scope.kind= .function):∀{names:List (Str×NameKind)}{x:Str},names.lookup x=some .free->env.kindOf x=some .cell →
  (names.map fun (n,k)=>if (k==NameKind.free&&env.scope.kind== .function&&env.kindOf n==some .cell) then (n,NameKind.cell) else (n,k)).lookup x=some .cell
 | [],_,h,_=>by simp at h
 | (n,k)::r,x,h,hc=>by
  show List.lookup x ((if (k==NameKind.free&&env.scope.kind== .function&&env.kindOf n==some .cell)=true then (n,NameKind.cell) else (n,k))::_)=_;cases hx:x==n with
  | true =>
   simp only[List.lookup_cons,hx]at h;cases h;have e:x=n:=by simpa using hx
   subst e;rw[hkf,hc];simp[List.lookup_cons]
  | false =>
   simp only[List.lookup_cons,hx]at h;have ih:=kJ hkf h hc
   split
   ·simp only[List.lookup_cons,hx];exact ih
   ·simp only[List.lookup_cons,hx];exact ih
theorem fZ {env:Env}:∀{names:List (Str×NameKind)}{x:Str}{k':NameKind},(∀y∈names,y.2≠ .cell)->(k'= .cell∨k'= .free) →
  (names.map fun (n,k)=>if (k==NameKind.free&&env.scope.kind== .function&&env.kindOf n==some .cell) then (n,NameKind.cell) else (n,k)).lookup x=some k'->(x,NameKind.free)∈names
 | [],_,_,_,_,h=>by simp at h
 | (n,k)::r,x,k',hn,hk',h=>by
  have h':List.lookup x ((if (k==NameKind.free&&env.scope.kind== .function&&env.kindOf n==some .cell)=true then (n,NameKind.cell) else (n,k))::r.map _)=some k':=h;cases hx:x==n with
  | true =>
   have e:x=n:=by simpa using hx
   subst e
   by_cases hf:k= .free
   ·subst hf;exact List.mem_cons_self
   ·have hb:(k==NameKind.free)=false:=by simpa using hf
    simp only[hb,Bool.false_and,Bool.false_eq_true,if_false,List.lookup_cons,hx]at h';cases h';rcases hk' with z|z
    ·exact absurd z (hn (x,k) List.mem_cons_self)
    ·exact absurd z hf
  | false =>
   have h2:List.lookup x (r.map fun (n,k)=>if (k==NameKind.free&&env.scope.kind== .function&&env.kindOf n==some .cell) then (n,NameKind.cell) else (n,k))=some k':=by
    split at h'
    ·simp only[List.lookup_cons,hx]at h';exact h'
    ·simp only[List.lookup_cons,hx]at h';exact h'
   exact List.mem_cons_of_mem _ (fZ (fun y hy=>hn y (List.mem_cons_of_mem _ hy)) hk' h2)
theorem blk {X:Cx}{scope:Scope}{N:List Str}{nl:Nat}{ci:List Nat} (n0:Nat) (hX:X.env.cells=cellsFrom n0 X.env.scope.names []) (hkf:X.env.scope.kind= .function) (hk:scope.kind= .function)
  (h:SU X.env.scope.names X.N scope.names N nl ci=true):Blk X scope (tN scope.names X.env.cells []) N nl ci:=by
 unfold SU at h;rw[Bool.and_eq_true,Bool.and_eq_true]at h;obtain⟨⟨h1,h2⟩,h3⟩:=h;rw[List.all_eq_true]at h1;have h1':∀y∈scope.names,y.2≠ .cell/\(y.2= .local->scope.names.lookup y.1=some .local)/\(y.2= .free->X.env.scope.names.lookup y.1=some .cell/\scope.names.lookup y.1=some .free):=fun y hy=>by
  have q:=h1 y hy;simp only[Bool.and_eq_true,Bool.or_eq_true,bne_iff_ne,ne_eq,beq_iff_eq]at q;obtain⟨⟨q1,q2⟩,q3⟩:=q;exact⟨q1,fun e=>q2.resolve_left fun z=>z e,fun e=>q3.resolve_left fun z=>z e⟩
 have hcs:∀y∈scope.names,y.2= .free->∃c,X.env.cells.lookup y.1=some c:=fun y hy e=>by
  rw[hX];exact tO ((h1' y hy).2.2 e).1
 refine⟨hk,fun y hy=>(h1' y hy).2.1,fun y hy=>(h1' y hy).1,?_,?_,?_,by simpa using h2,?_⟩
 ·unfold closureFor;refine(congrArg (fun m:Sem (List (Str×Addr))=>m >>= fun cs=>pure cs) (t6 scope.names [] hcs)).trans ?_;rfl
 ·exact DT scope.names [] hcs fun n c z=>by cases z
 ·intro n hn;have hm:(n,NameKind.free)∈scope.names:=by
   rcases hn with z|z
   ·exact fZ (fun y hy=>(h1' y hy).1) (.inl rfl) z
   ·exact fZ (fun y hy=>(h1' y hy).1) (.inr rfl) z
  obtain⟨c,e⟩:=hcs _ hm rfl;exact⟨c,(iJ scope.names [] n hcs (.inl hm) fun c z=>by cases z).trans e⟩
 ·intro j i hj;have hjl:j<ci.length:=(List.getElem?_eq_some_iff.mp hj).1;rw[List.all_eq_true]at h3;have q:=h3 j (List.mem_range.mpr hjl);rw[hj]at q;cases e:N[nl+j]? with
  | none=>rw[e]at q;cases q
  | some n =>
   rw[e]at q;simp only[Bool.and_eq_true,beq_iff_eq]at q;obtain⟨⟨q1,q2⟩,q3⟩:=q;refine⟨n,rfl,q1,.inl q2,.inl (kJ hkf q3 q2),?_⟩;exact iJ scope.names [] n hcs (.inl (PySem.mem_of_lookup q3)) fun c z=>by cases z
structure Fc (P:Program)(w:World)(K:PySem.W.Frag)(mg:Str->Option Value)(base:Heap)(x:Str)(k:Nat)(ps:List Str)(sp:Sp):Prop where
 ex:∃f fd,mg x=some (.ref f)/\PySem.W.keepIn K (.ref f)=true/\Binds K fd ps []/\FnOk P w K mg base CX0 k f fd ps sp
theorem bK {X:Cx}{x:Str}{k k':Nat}{ps:List Str}{sp:Sp}{e:Expr}{es:List Expr}{t:TA}{p pos:Pos} (F:Fc X.prog X.w X.K X.mg X.base x k ps sp) (hr:Room k' X.A) (ha:PA X (e::es) t) (hk:k<=k':=by decide) (hg:Gl X x:=by rfl)
  (hdb:(x==("__debug__" :Str))=false:=by decide)(he:starEach (e::es) X.env=(false,eval e X.env)::starEach es X.env:=by rfl)(hpl:(backTo pos (starEach es X.env)).any (·.1)=false:=by rfl) :
  PE X (.Call (.Name x p) (e::es) [] pos) (sP sp [] E0 t):=by
 obtain⟨f,fd,hm,kp,b,G⟩:=F.ex;exact U8 G (hr.mono hk) hg hm kp b .nil sO ha hdb he hpl
theorem JS {X:Cx}{x:Str}{n:String}{pos:Pos} (hg:Gl X x) (hm:X.mg x=none) (hv:bootBuiltins x=some (.type n)) (hn:x≠ "__name__" :=by decide) (hd:(x==("__debug__" :Str))=false:=by decide):PE X (.Name x pos) (tC (.ty n)):=U7 hg hm hv rfl hn hd
theorem WD {X:Cx}{x:Str}{i:Int}{t:Tok}{pos:Pos} (hg:Gl X x) (hm:X.mg x=some (.int i t)) (hd:(x==("__debug__" :Str))=false:=by decide):PE X (.Name x pos) (tC (.int i)):=W0 hg hm ⟨t,rfl⟩ hd
theorem lU:bootBuiltins "isinstance" =some (.builtin "isinstance"):=by decide +kernel
theorem YS:bootBuiltins "all" =some (.builtin "all"):=by decide +kernel
theorem fK:bootBuiltins "len" =some (.builtin "len"):=by decide +kernel
theorem N3:bootBuiltins "int" =some (.type "int"):=by decide +kernel
theorem aAb:bootBuiltins "str" =some (.type "str"):=by decide +kernel
theorem WV:bootBuiltins "bool" =some (.type "bool"):=by decide +kernel
theorem JG:bootBuiltins "list" =some (.type "list"):=by decide +kernel
theorem JF:bootBuiltins "dict" =some (.type "dict"):=by decide +kernel
inductive BTy (K:PySem.W.Frag)(H:Hp):V->String->Prop where
 | non:BTy K H .non "NoneType"
 | bl (x:Bool):BTy K H (.bl x) "bool"
 | int (i:Int):BTy K H (.int i) "int"
 | str (x:Str):BTy K H (.str x) "str"
 | lst {a:Addr}{xs:List V} (e:H a=some (.lst xs)):BTy K H (.ref a) "list"
 | tup {a:Addr}{xs:List V} (e:H a=some (.tup xs)):BTy K H (.ref a) "tuple"
 | dK {a:Addr}{kvs:List (Key×V)} (e:H a=some (.dK kvs)):BTy K H (.ref a) "dict"
theorem BTy.ty {K:PySem.W.Frag}{H:Hp}{x:V}{n:String} (b:BTy K H x n):iY K H x (.type n):=by
 cases b with
 | non=>exact .non
 | bl=>exact .bl _
 | int=>exact .int _
 | str=>exact .str _
 | lst e=>exact .lst e
 | tup e=>exact .tup e
 | dK e=>exact .dK e
def isB (n c:String):Bool:=n==c||(n== "bool" &&c== "int")
theorem K3 {K:PySem.W.Frag}{H:Hp}{x:V}{n:String} (b:BTy K H x n) (c:String) (hc:c= "int" ∨c= "bool" ∨c= "str"):PySem.W.kitOne K (.type n) (.type c)=some (isB n c):=by
 cases b<;>rcases hc with rfl|rfl|rfl<;>kernel_rfl
end L2
namespace L2
open PySem PySem.Spec PyProof.Rows
theorem NZ {J:It}{te:TE}{σ0:St}{fin:List V->Hp->Prop}{H1:Hp} (n:Nat) (Ok:Nat->List V->Hp->Prop) (hn:n<=sizeLine) (h00:σ0[0]? =some none) (h0:Ok 0 [] H1) (hlen:∀i ys H,Ok i ys H->ys.length<=i)
  (hst:∀ys H,Ok n ys H->J.stop n H/\fin ys H)(hstep:∀i ys H,i<n->Ok i ys H->J.go i H/\∀x H',J.yld i H x H'->∀R:VK,(∀y H4,Ok (i+1) (ys++[y]) H4->R y H4)->te (σ0.set 0 (some x)) H' R):dB J (cA 0) wQ te σ0 fin H1:=by
 refine⟨fun i m ys H=>m=n - i/\i<=n/\Ok i ys H,⟨n,by simp,Nat.zero_le _,h0⟩,?_⟩;rintro i m ys H ⟨rfl,hi,ok⟩
 by_cases hlt:i<n
 ·obtain⟨go,st⟩:=hstep i ys H hlt ok;refine .inr ⟨go,fun x H' y=>⟨⟨by simp,fun j v hv=> ?_⟩,?_⟩⟩
  ·cases j with
   | zero=>rw[h00]at hv;cases hv
   | succ j=>rw[List.getElem?_set_ne (by lia)];exact hv
  ·unfold wQ
   dsimp only
   rw[if_pos rfl];exact st x H' y _ fun z H4 ok4=>⟨by have:=hlen i ys H ok;lia,n - (i+1),by lia,rfl,hlt,ok4⟩
 ·have e:i=n:=by lia
  subst e;exact .inl (hst ys H ok)
theorem JX {lo:Int}{n:Nat}{te:TE}{σ0:St}{fin:List V->Hp->Prop}{H1:Hp} (Ok:Nat->List V->Hp->Prop) (hn:n<=sizeLine) (h00:σ0[0]? =some none) (h0:Ok 0 [] H1) (hlen:∀i ys H,Ok i ys H->ys.length<=i) (hfin:∀ys H,Ok n ys H->fin ys H)
  (hstep:∀i ys H,i<n->Ok i ys H->∀R:VK,(∀y H4,Ok (i+1) (ys++[y]) H4->R y H4)->te (σ0.set 0 (some (.int (lo+i)))) H R):dB (Itr lo n) (cA 0) wQ te σ0 fin H1 :=
 NZ n Ok hn h00 h0 hlen (fun ys H ok=>⟨Nat.le_refl _,hfin ys H ok⟩) fun i ys H hi ok=>⟨hi,fun x H' y=>by
  obtain⟨e1,e2⟩:=y;subst e1 e2;exact hstep i ys _ hi ok⟩
section
variable {X:Cx}
end
structure FunV (K:PySem.W.Frag)(x qual:Str)(st:Stmt)(f:Addr)(fd:FuncData):Prop where
 ex:∃(oc:Value) (od:Option Addr) (dV kV doc pm:Value) (an:Option Addr) (cdv ct:Value) (osl:Array (Option Value)),
  fd=PySem.W.fnOf x qual (dF st) (cY st) (aG st) dV kV doc pm an cdv ct/\K.lookup f=some ⟨oc,od,.func fd,osl⟩/\PySem.W.codeIn K cdv qual=true
 kp:PySem.W.keepIn K (.ref f)=true
section
variable {P:Program}{w:World}{K:PySem.W.Frag}{mg:Str->Option Value}{base:Heap}
theorem FunV.ok {x qual:Str}{st:Stmt}{f:Addr}{fd:FuncData}{N ps:List Str}{k:Nat}{sp:Sp} (F:FunV K x qual st f fd) (S:aN N ps (aG st)) (len:∀vs H Q E,sp vs H Q E->vs.length=ps.length)
  (hbody:∀(cdv:Value) (A:Around) (outer:List Env) (s:Shared) (H:Hp) (vs:List V) (Q:VK) (E:XK),Room k (A.deeper (envOfC qual (aG st) s.heap.objs.size f cdv))->sp vs H Q E →
   ∃t,PSs (sQ CX0 P w K mg base N qual (aG st) f cdv A outer s H E).nox (cY st) t/\t { nx:=fun _ H'=>Q .non H',rt:=Q } (start N vs) H):FnOk P w K mg base CX0 (k+1) f fd ps sp:=by
 obtain⟨oc,od,dV,kV,doc,pm,an,cdv,ct,osl,rfl,lk,hcd⟩:=F.ex;refine aBi lk hcd S len fun A outer s H vs Q E hr h=> ?_;obtain⟨t,h1,h2⟩:=hbody cdv A outer s H vs Q E hr h;exact⟨t,PSs.nox h1,h2⟩
theorem nB {x qual:Str}{st:Stmt}{f:Addr}{oc:Value}{od an:Option Addr}{osl:Array (Option Value)}{dV kV doc pm cdv ct:Value} (l:K.lookup f=some ⟨oc,od,.func (PySem.W.fnOf x qual (dF st) (cY st) (aG st) dV kV doc pm an cdv ct),osl⟩) (c:PySem.W.codeIn K cdv qual=true)
  (k:PySem.W.keepIn K (.ref f)=true):FunV K x qual st f (PySem.W.fnOf x qual (dF st) (cY st) (aG st) dV kV doc pm an cdv ct):=⟨⟨oc,od,dV,kV,doc,pm,an,cdv,ct,osl,rfl,l,c⟩,k⟩
structure Mc (P:Program)(w:World)(K:PySem.W.Frag)(mg:Str->Option Value)(base:Heap)(C:Addr)(nm:Str)(k:Nat)(sp:Sp):Prop where
 ex:∃f fd ps,Cls K C/\Meth K C nm f/\Binds K fd ps []/\FnOk P w K mg base CX0 k f fd ps sp
structure Kc (P:Program)(w:World)(K:PySem.W.Frag)(mg:Str->Option Value)(base:Heap)(x:Str)(C:Addr)(k:Nat)(dvs:List V)(sp:Sp):Prop where
 ex:∃f fd ps ds,mg x=some (.ref C)/\Mk K C f/\Vals dvs ds/\Binds K fd ps ds/\FnOk P w K mg base CX0 k f fd ps sp
end
section
variable {X:Cx}{k k':Nat}{sp:Sp}{x m:Str}{p pos apos:Pos}{e o:Expr}{es:List Expr}{ta:TE}{t:TA}{C:Addr}{dvs:List V}
def tMD (M:Addr->Sp->Prop)(m:Str)(ta:TE)(t:TA):TE:=fun σ H Q=>ta σ H fun x H1=>∃a C dx fs sp,x= .ref a/\H1 a=some (.ins C dx fs)/\fs.lookup m=none/\M C sp/\t σ H1 fun vs H2=>sp (x::vs) H2 Q E0
theorem dL (k:Nat){pl:Sem Bool}(hr:Room k' X.A)(ho:PE X o ta)(ha:PA X (e::es) t)(hk:k<=k':=by decide)
  (hst:starEach (e::es) X.env=(false,eval e X.env)::starEach es X.env:=by rfl)(hpl:(backTo pos (starEach es X.env)).any (·.1)=false:=by rfl)
  (ht:eval (.Call (.Attribute o m apos) (e::es) [] pos) X.env=(do
   let ov ←eval o X.env
   standAt apos.atName
   let (f,first) ←holding [ov] (getMethod ov m pl)
   callWith pos f first (backTo pos (starEach (e::es) X.env)) (backToKw pos (keywordEach [] X.env))):=by rfl) :
  PE X (.Call (.Attribute o m apos) (e::es) [] pos) (tMD (fun C sp=>Mc X.prog X.w X.K X.mg X.base C m k sp) m ta t):=by
 intro pins s σ H Q I h;refine PySem.W.methodCall_KW (pl:=pl) (thn (ho pins s σ H _ I h) fun u s1 ⟨x,H1,I1,rx,a,C,dx,fs,sp,ex,ea,l,M,q⟩=> ?_) ht;subst ex;obtain rfl:u=Value.ref a:=rx;obtain⟨f,fd,ps,c,hm,hb,F⟩:=M.ex;refine yR I1 ea c hm l ?_;refine PySem.W.callWith_K (first:=[.ref a]) (h₀:=X.base) I.ok.mod.kin hm.kp (thn (ha pos pins s1 σ H1 _ I1 q) fun us s2 ⟨vs,H2,I2,r,q2⟩=>⟨I2.kIn,?_⟩) hst hpl;exact rM (us:= .ref a::us) (vs:= .ref a::vs) (dvs:=[]) F (hr.mono hk) hb .nil sO I2 (.cons rfl r) (by rw[List.append_nil];exact q2)
theorem fT (k:Nat){pl:Sem Bool}(hr:Room k' X.A)(ho:PE X o ta)(hk:k<=k':=by decide)
  (ht:eval (.Call (.Attribute o m apos) [] [] pos) X.env=(do
   let ov ←eval o X.env
   standAt apos.atName
   let (f,first) ←holding [ov] (getMethod ov m pl)
   callWith pos f first (backTo pos (starEach [] X.env)) (backToKw pos (keywordEach [] X.env))):=by rfl) :
  PE X (.Call (.Attribute o m apos) [] [] pos) (tMD (fun C sp=>Mc X.prog X.w X.K X.mg X.base C m k sp) m ta KI):=by
 intro pins s σ H Q I h;refine PySem.W.methodCall_KW (pl:=pl) (thn (ho pins s σ H _ I h) fun u s1 ⟨x,H1,I1,rx,a,C,dx,fs,sp,ex,ea,l,M,q⟩=> ?_) ht;subst ex;obtain rfl:u=Value.ref a:=rx;obtain⟨f,fd,ps,c,hm,hb,F⟩:=M.ex;refine yR I1 ea c hm l ?_;exact PySem.W.callWith_K0 (first:=[.ref a]) I1.kIn hm.kp (rM (us:=[.ref a]) (vs:=[.ref a]) (dvs:=[]) F (hr.mono hk) hb .nil sO I1 (.cons rfl .nil) q)
theorem vP (F:Kc X.prog X.w X.K X.mg X.base x C k dvs sp)(hr:Room k' X.A)(ha:PA X (e::es) t)(hk:k+1<=k':=by decide)(hg:Gl X x:=by rfl)
  (hdb:(x==("__debug__" :Str))=false:=by decide)(he:starEach (e::es) X.env=(false,eval e X.env)::starEach es X.env:=by rfl)(hpl:(backTo pos (starEach es X.env)).any (·.1)=false:=by rfl) :
  PE X (.Call (.Name x p) (e::es) [] pos) (KN C sp dvs E0 t):=by
 obtain⟨f,fd,ps,ds,hm,M,hd,hb,G⟩:=F.ex;exact VH M G (hr.mono hk) hg hm hb hd sO ha hdb he hpl
structure Dc (P:Program)(w:World)(K:PySem.W.Frag)(mg:Str->Option Value)(base:Heap)(x m:Str)(k:Nat)(sp:Sp):Prop where
 ex:∃C f fd ps,mg x=some (.ref C)/\PySem.W.specialIn K (.ref C) "__getattribute__" =some (some (.builtin "type.__getattribute__"))/\PySem.W.readsIn K C (.type "type")=true/\PySem.W.findCls K (.ref C) (.type "type") m=some (.val (.ref f)) ∧
  PySem.W.keepIn K (.ref f)=true/\Binds K fd ps []/\FnOk P w K mg base CX0 k f fd ps sp
theorem KS {pl:Sem Bool}(F:Dc X.prog X.w X.K X.mg X.base x m k sp)(hr:Room k' X.A)(ha:PA X (e::es) t)(hk:k<=k':=by decide)(hg:Gl X x:=by rfl)(hdb:(x==("__debug__" :Str))=false:=by decide)
  (hst:starEach (e::es) X.env=(false,eval e X.env)::starEach es X.env:=by rfl)(hpl:(backTo pos (starEach es X.env)).any (·.1)=false:=by rfl)
  (ht:eval (.Call (.Attribute (.Name x p) m apos) (e::es) [] pos) X.env=(do
   let ov ←eval (.Name x p) X.env
   standAt apos.atName
   let (f,first) ←holding [ov] (getMethod ov m pl)
   callWith pos f first (backTo pos (starEach (e::es) X.env)) (backToKw pos (keywordEach [] X.env))):=by rfl) :
  PE X (.Call (.Attribute (.Name x p) m apos) (e::es) [] pos) (sP sp [] E0 t):=by
 intro pins s σ H Q I h;obtain⟨C,f,fd,ps,hm,hga,hrd,hfc,kp,hb,G⟩:=F.ex;refine PySem.W.methodCall_KW (pl:=pl) (rW I hg hm ?_ hdb) ht;refine PySem.W.method_cls I.kIn hga (PySem.W.cls_value I.kIn hrd hfc (uQ (v:= .ref f) rfl) ?_);have I1:=I.tok (s.toks+1);refine PySem.W.callWith_K (first:=[]) (h₀:=X.base) I.ok.mod.kin kp (thn (ha pos pins _ σ H _ I1 h) fun us s2 ⟨vs,H2,I2,r,q2⟩=>⟨I2.kIn,?_⟩) hst hpl;exact rM G (hr.mono hk) hb .nil sO I2 r q2
end
end L2
namespace L2
open PySem PySem.Spec PyProof.Rows
def TV:R2:=fun x y H Q=>∃i j,x= .str i/\y= .str j/\i.length+j.length<=sizeLine/\Q (.str (i++j)) H
def X9:R2:=fun x y H Q=>y= .non/\Q (.bl (decide (x= .non))) H
def DN:R2:=fun x y H Q=>y= .non/\Q (.bl (!decide (x= .non))) H
def aBw:R2:=fun x y H Q=>∃i j,x= .str i/\y= .str j/\Q (.bl (!decide (j.cps.toList<i.cps.toList))) H
def aBq (K:PySem.W.Frag):List V->Hp->VK->Prop:=fun xs H Q=>∃x c t u b,xs=[x,c]/\iY K H x t/\RelV c u/\PySem.W.kitOne K t u=some b/\Q (.bl b) H
def aBB (K:PySem.W.Frag):List V->Hp->VK->Prop:=fun xs H Q=>∃(p:Addr) (bs:List Bool),xs=[.ref p]/\SqL K H p (bs.map V.bl)/\Q (.bl (bs.all id)) H
def TU:List V->Hp->VK->Prop:=fun xs H Q=>∃z,xs=[.str z]/\z.length<=sizeLine/\Q (.int z.length) H
def SZ (K:PySem.W.Frag):List V->Hp->VK->Prop:=fun xs H Q=>∃p ys,xs=[.ref p]/\(SqL K H p ys∨SqT K H p ys)/\Q (.int ys.length) H
def SO:List V->Hp->VK->Prop:=fun xs H Q=>(∃i,xs=[.int i]/\Q (.int i) H)∨∃k,xs=[.bl k]/\Q (.int (if k then 1 else 0)) H
section
variable {X:Cx}
theorem IL:OpR X (binaryOp .Add) TV:=LK
theorem OV:OpR X (compareOp .Is) X9:=Z1
theorem A1:OpR X (compareOp .IsNot) DN:=VR
theorem NS:OpR X (compareOp .LtE) aBw:=MZ
theorem xA:d4 X (.builtin "isinstance") (aBq X.K):=HH
theorem PP (hc:X.calm=true):d4 X (.builtin "all") (aBB X.K):=AZ hc
theorem BM:d4 X (.builtin "len") TU:=ES
theorem dC:d4 X (.builtin "len") (SZ X.K):=FF
theorem OM:d4 X (.type "int") SO:=NW
theorem VJ {i j:Int}(n:Int){k1 k2 p1 p2 pos}(h:i^j.toNat=n)(c:YY i j):PE X (.BinOp (.Constant (.int i) k1 p1) .Pow (.Constant (.int j) k2 p2) pos) (tC (.int n)):=by
 subst h;intro pins s σ H Q I q;exact aI Z7 aF aF pins s σ H Q I ⟨i,j,rfl,rfl,c,q⟩
end
def DL (P:Bool->Hp->Prop):VK:=fun x H=>∃k,x= .bl k/\P k H
def XT (O:Option Int->Hp->Prop):VK:=fun x H=>∃i,x= .int i/\O (some i) H
def aAx (Q:VK):List V->Hp->Prop:=fun xs H=>xs.length<=sizeLine/\∀p,H p=none->Q (.ref p) (upd H p (.lst xs))
def ZO (Q:VK):List V->Hp->Prop:=fun xs H=>xs.length<=sizeLine/\∀p,H p=none->Q (.ref p) (upd H p (.tup xs))
def X2 (Q:VK):List V->Hp->Prop:=fun ys H=>∀p,H p=none->Q (.ref p) (upd H p (.lst ys))
def ZC (K:PySem.W.Frag)(f:Str)(Q:VK):VK:=fun x H=>∃a C dx fs v,x= .ref a/\H a=some (.ins C dx fs)/\Cls K C/\NoAttr K C f/\fs.lookup f=some v/\Q v H
def TB (K:PySem.W.Frag)(f:Str)(y:V)(q:Hp->Prop):VK:=fun x H=>∃a C dx fs,x= .ref a/\H a=some (.ins C dx fs)/\Cls K C/\NoAttr K C f/\fs.length<1000/\q (upd H a (.ins C dx (cI f y fs)))
def MdP (M:Addr->Sp->Prop)(m:Str)(t:TA)(σ:St)(Q:VK):VK:=fun x H=>∃a C dx fs sp,x= .ref a/\H a=some (.ins C dx fs)/\fs.lookup m=none/\M C sp/\t σ H fun vs H2=>sp (x::vs) H2 Q E0
def p7 (C:Addr)(sp:Sp)(dvs:List V)(E:XK)(Q:VK):List V->Hp->Prop:=fun vs H1=>∀x dx,H1 x=none->H1 dx=none->dx≠x →
 sp (.ref x::(vs++dvs)) (upd (upd H1 dx (.own x)) x (.ins C dx [])) (fun v H2=>v= .non/\Q (.ref x) H2) E
def BmP (K:PySem.W.Frag)(T:String)(r:V->List V->Hp->VK->Prop)(t:TA)(σ:St)(Q:VK):VK:=fun x H1=>tyV K T x H1/\t σ H1 fun xs H2=>r x xs H2 Q
def ZB (K:PySem.W.Frag)(R:It->Hp->Prop):VK:=fun x H1=>∃a,x= .ref a/\(∃xs,SqL K H1 a xs)/\R (Itl K a) H1
def YG (R:It->Hp->Prop):List V->Hp->Prop:=fun vs H1=>∃j:Int,vs=[.int j]/\ -(2^62)<=j/\j<2^62/\R (Itr 0 j.toNat) H1
def XJ (R:It->Hp->Prop):List V->Hp->Prop:=fun vs H1=>∃i j:Int,vs=[.int i,.int j]/\(-(2^62)<=i/\i<2^62/\ -(2^62)<=j/\j<2^62)/\R (Itr i (j - i).toNat) H1
section
variable {nx bk ct:St->Hp->Prop}{rt:VK}{σ:St}{H:Hp}{Q:VK}{t u:TS}{te ta tb tc:TE}{g:TG}{c d:TT}{v:V}{K:PySem.W.Frag}{E:XK}
theorem YK (h:t ⟨u ⟨nx,rt,bk,ct⟩,rt,bk,ct⟩ σ H):KA t u ⟨nx,rt,bk,ct⟩ σ H:=h
theorem QS {v:TS}(h:KA (KU c t u) v ⟨nx,rt,bk,ct⟩ σ H):KA (KU c t u) v ⟨nx,rt,bk,ct⟩ σ H:=h
theorem WF (h:nx σ H):SX ⟨nx,rt,bk,ct⟩ σ H:=h
theorem X6 (h:te σ H fun x H1=>g x σ H1 nx):K8 te g ⟨nx,rt,bk,ct⟩ σ H:=h
theorem ZJ (h:te σ H rt):YO te ⟨nx,rt,bk,ct⟩ σ H:=h
theorem V5 (h:te σ H fun _ H1=>nx σ H1):SR te ⟨nx,rt,bk,ct⟩ σ H:=h
theorem aBj (h:c σ H fun b H1=>if b=true then t ⟨nx,rt,bk,ct⟩ σ H1 else u ⟨nx,rt,bk,ct⟩ σ H1):KU c t u ⟨nx,rt,bk,ct⟩ σ H:=h
def LS (J:It)(g:TG)(tb:TS)(D:dE)(σ:St)(H:Hp):Prop :=
 ∃W:Nat->Nat->St->Hp->Prop,(∃m,W 0 m σ H)/\∀i m σ H,W i m σ H →
  (J.stop i H/\D.nx σ H)∨(J.go i H/\∃N:St->Hp->Prop,(∀σ' H',N σ' H'->∃m',m'<m/\W (i+1) m' σ' H')/\∀x H',J.yld i H x H'->g x σ H' fun σ2 H2=>tb { D with nx:=N,ct:=N,bk:=D.nx } σ2 H2)
theorem YI {wi:TI}{tb:TS} (h:wi σ H fun J H1=>LS J g tb ⟨nx,rt,bk,ct⟩ σ H1):X1 wi g tb ⟨nx,rt,bk,ct⟩ σ H:=h
theorem aA1 {l:St}(h:Q v H):iX 0 (some v::l) H Q:=⟨v,rfl,h⟩
theorem aAN {a0}{l:St} (h:Q v H):iX 1 (a0::some v::l) H Q:=⟨v,rfl,h⟩
theorem aBk {a0 a1}{l:St} (h:Q v H):iX 2 (a0::a1::some v::l) H Q:=⟨v,rfl,h⟩
theorem aAL {a0 a1 a2}{l:St} (h:Q v H):iX 3 (a0::a1::a2::some v::l) H Q:=⟨v,rfl,h⟩
theorem aAQ {a0 a1 a2 a3}{l:St} (h:Q v H):iX 4 (a0::a1::a2::a3::some v::l) H Q:=⟨v,rfl,h⟩
theorem aBh {a0 a1 a2 a3 a4}{l:St} (h:Q v H):iX 5 (a0::a1::a2::a3::a4::some v::l) H Q:=⟨v,rfl,h⟩
theorem aAX {a0 a1 a2 a3 a4 a5}{l:St} (h:Q v H):iX 6 (a0::a1::a2::a3::a4::a5::some v::l) H Q:=⟨v,rfl,h⟩
theorem aAO {a0 a1 a2 a3 a4 a5 a6}{l:St} (h:Q v H):iX 7 (a0::a1::a2::a3::a4::a5::a6::some v::l) H Q:=⟨v,rfl,h⟩
theorem aA3 {a0 a1 a2 a3 a4 a5 a6 a7}{l:St} (h:Q v H):iX 8 (a0::a1::a2::a3::a4::a5::a6::a7::some v::l) H Q:=⟨v,rfl,h⟩
theorem aAG {a0 a1 a2 a3 a4 a5 a6 a7 a8}{l:St} (h:Q v H):iX 9 (a0::a1::a2::a3::a4::a5::a6::a7::a8::some v::l) H Q:=⟨v,rfl,h⟩
theorem Z8 {a0 a1 a2 a3 a4 a5 a6 a7 a8 a9}{l:St} (h:Q v H):iX 10 (a0::a1::a2::a3::a4::a5::a6::a7::a8::a9::some v::l) H Q:=⟨v,rfl,h⟩
theorem X5 {a0 a1 a2 a3 a4 a5 a6 a7 a8 a9 a10}{l:St} (h:Q v H):iX 11 (a0::a1::a2::a3::a4::a5::a6::a7::a8::a9::a10::some v::l) H Q:=⟨v,rfl,h⟩
variable {q:St->Hp->Prop}
theorem aA2 {a0 a}{l:St} (h:q (a0::some v::l) H):cA 1 v (a0::a::l) H q:=h
theorem aAF {a0 a1 a}{l:St} (h:q (a0::a1::some v::l) H):cA 2 v (a0::a1::a::l) H q:=h
theorem aAC {a0 a1 a2 a}{l:St} (h:q (a0::a1::a2::some v::l) H):cA 3 v (a0::a1::a2::a::l) H q:=h
theorem aAP {a0 a1 a2 a3 a}{l:St} (h:q (a0::a1::a2::a3::some v::l) H):cA 4 v (a0::a1::a2::a3::a::l) H q:=h
theorem aAH {a0 a1 a2 a3 a4 a}{l:St} (h:q (a0::a1::a2::a3::a4::some v::l) H):cA 5 v (a0::a1::a2::a3::a4::a::l) H q:=h
theorem aBe {a0 a1 a2 a3 a4 a5 a}{l:St} (h:q (a0::a1::a2::a3::a4::a5::some v::l) H):cA 6 v (a0::a1::a2::a3::a4::a5::a::l) H q:=h
theorem aAW {a0 a1 a2 a3 a4 a5 a6 a}{l:St} (h:q (a0::a1::a2::a3::a4::a5::a6::some v::l) H):cA 7 v (a0::a1::a2::a3::a4::a5::a6::a::l) H q:=h
theorem aAS {a0 a1 a2 a3 a4 a5 a6 a7 a}{l:St} (h:q (a0::a1::a2::a3::a4::a5::a6::a7::some v::l) H):cA 8 v (a0::a1::a2::a3::a4::a5::a6::a7::a::l) H q:=h
theorem aAT {a0 a1 a2 a3 a4 a5 a6 a7 a8 a}{l:St} (h:q (a0::a1::a2::a3::a4::a5::a6::a7::a8::some v::l) H):cA 9 v (a0::a1::a2::a3::a4::a5::a6::a7::a8::a::l) H q:=h
theorem YJ {a0 a1 a2 a3 a4 a5 a6 a7 a8 a9 a}{l:St} (h:q (a0::a1::a2::a3::a4::a5::a6::a7::a8::a9::some v::l) H):cA 10 v (a0::a1::a2::a3::a4::a5::a6::a7::a8::a9::a::l) H q:=h
theorem YT {a0 a1 a2 a3 a4 a5 a6 a7 a8 a9 a10 a}{l:St} (h:q (a0::a1::a2::a3::a4::a5::a6::a7::a8::a9::a10::some v::l) H):cA 11 v (a0::a1::a2::a3::a4::a5::a6::a7::a8::a9::a10::a::l) H q:=h
theorem aBt (h:Q v H):tC v σ H Q:=h
theorem aAI {r:R2}(h:ta σ H fun x H1=>tb σ H1 fun y H2=>r x y H2 Q):tOp r ta tb σ H Q:=h
theorem aA8 {f:Int->Int->V}{i j:Int} (h:Q (f i j) H):rI0 f (.int i) (.int j) H Q:=⟨i,j,rfl,rfl,h⟩
theorem X3 {f:Int->Int->V}{i j:Int} (h0:0<j) (h1:j<1073741824) (h:Q (f i j) H):rI aAr f (.int i) (.int j) H Q:=⟨i,j,rfl,rfl,⟨h0,h1⟩,h⟩
theorem Z9 {f:Int->Int->V}{i j:Int} (h0:0<j) (h:Q (f i j) H):rI (fun _ j=>0<j) f (.int i) (.int j) H Q:=⟨i,j,rfl,rfl,h0,h⟩
theorem WR {f:Int->Int->V}{i j:Int} (h0: -18446744073709551616<i) (h1:i<18446744073709551616) (h:Q (f i j) H):rI CMul f (.int i) (.int j) H Q:=⟨i,j,rfl,rfl,.inl ⟨by lia,by lia⟩,h⟩
theorem WP {f:Int->Int->V}{i j:Int} (h0: -18446744073709551616<j) (h1:j<18446744073709551616) (h:Q (f i j) H):rI CMul f (.int i) (.int j) H Q:=⟨i,j,rfl,rfl,.inr ⟨by lia,by lia⟩,h⟩
theorem TK {i j:Int}:decide (V.int i=V.int j)=decide (i=j):=by simp
theorem aA9 {i j:Str}:decide (V.str i=V.str j)=decide (i=j):=by simp
theorem aAd {i j:Int}(h:Q (.bl (decide (i=j))) H):rEq (.int i) (.int j) H Q:=⟨rfl,by rw[TK];exact h⟩
theorem ZW {i j:Str}(h:Q (.bl (decide (i=j))) H):rEq (.str i) (.str j) H Q:=⟨rfl,by rw[aA9];exact h⟩
theorem U3 {i:Str}(h:Q (.bl false) H):rEq .non (.str i) H Q:=⟨rfl,by rw[decide_eq_false (fun z=>by cases z)];exact h⟩
theorem Z2 {i j:Int}(h:Q (.bl (!decide (i=j))) H):rNe (.int i) (.int j) H Q:=⟨rfl,by rw[TK];exact h⟩
theorem UW (h:Q (.bl (decide (v= .non))) H):X9 v .non H Q:=⟨rfl,h⟩
theorem VU (h:Q (.bl false) H):DN .non .non H Q:=⟨rfl,h⟩
theorem U1 {i:Str}(h:Q (.bl true) H):DN (.str i) .non H Q:=⟨rfl,by rw[decide_eq_false (fun z=>by cases z)];exact h⟩
theorem UR (h:Q (.bl (!decide (v= .non))) H):DN v .non H Q:=⟨rfl,h⟩
theorem U2 {i j:Str}(hl:i.length+j.length<=sizeLine)(h:Q (.str (i++j)) H):TV (.str i) (.str j) H Q:=⟨i,j,rfl,rfl,hl,h⟩
theorem aAv (h:c σ H fun k H1=>if k=true then ta σ H1 Q else tb σ H1 Q):tIf c ta tb σ H Q:=h
theorem RQ {r r':R2}(h:ta σ H fun x H1=>tb σ H1 fun y H2=>r x y H2 (DL fun k H3=>if k=true then tc σ H3 fun w' H4=>r' y w' H4 Q else Q (.bl false) H3)):FO r r' ta tb tc σ H Q:=h
theorem V2 {sp:Sp}{t:TA} (h:t σ H fun vs H1=>sp vs H1 Q E):sP sp [] E t σ H Q:=by
 unfold sP;simp only[List.append_nil];exact h
theorem aA0 {r:List V->Hp->VK->Prop}{t:TA} (h:t σ H fun vs H1=>r vs H1 Q):tCB r t σ H Q:=h
theorem aAk {t:TA}(h:t σ H (aAx Q)):aAn t σ H Q:=h
theorem ZS {t:TA}(h:t σ H (ZO Q)):YF t σ H Q:=h
theorem fI {o:HO}{R:V->Hp->Prop} (h:∀p H',H p=none->Same H H'->H' p=some o->R (.ref p) H'):∀p,H p=none->R (.ref p) (upd H p o) :=
 fun p hp=>h p _ hp (fun b u e=>by rw[aJ (bE e hp)];exact e) aS
theorem V9 {xs:List V}(hn:xs.length<=sizeLine)(h:∀p H',H p=none->Same H H'->H' p=some (.lst xs)->Q (.ref p) H'):aAx Q xs H:=⟨hn,fI h⟩
theorem WY {xs:List V}(hn:xs.length<=sizeLine)(h:∀p H',H p=none->Same H H'->H' p=some (.tup xs)->Q (.ref p) H'):ZO Q xs H:=⟨hn,fI h⟩
theorem V3 {xs:List V}(h:∀p H',H p=none->Same H H'->H' p=some (.lst xs)->Q (.ref p) H'):X2 Q xs H:=fI h
theorem XY {f:Str}(h:ta σ H (ZC K f Q)):RO K ta f σ H Q:=h
theorem VG {a C dx:Addr}{fs:List (Str×V)}{f:Str} (e:H a=some (.ins C dx fs)) (cl:Cls K C) (na:NoAttr K C f) (l:fs.lookup f=some v) (h:Q v H):ZC K f Q (.ref a) H:=⟨a,C,dx,fs,v,rfl,e,cl,na,l,h⟩
theorem TY {f:Str}(h:ta σ H fun y H1=>tb σ H1 (TB K f y (nx σ))):YD K tb ta f ⟨nx,rt,bk,ct⟩ σ H:=h
theorem PH {a C dx:Addr}{fs:List (Str×V)}{f:Str}{y:V}{w:Hp->Prop} (e:H a=some (.ins C dx fs)) (cl:Cls K C) (na:NoAttr K C f) (l:decide (fs.length<1000)=true)
  (h:∀H',(∀b o,H b=some o->b≠a->H' b=some o)->H' a=some (.ins C dx (cI f y fs))->w H'):TB K f y w (.ref a) H :=
 ⟨a,C,dx,fs,rfl,e,cl,na,of_decide_eq_true l,h _ (fun b o q hb=>by rw[aJ hb];exact q) aS⟩
theorem aAU {M:Addr->Sp->Prop}{m:Str}{t:TA} (h:ta σ H (MdP M m t σ Q)):tMD M m ta t σ H Q:=h
theorem aAw {M:Addr->Sp->Prop}{m:Str}{t:TA}{a C dx:Addr}{fs:List (Str×V)}{sp:Sp} (e:H a=some (.ins C dx fs)) (l:fs.lookup m=none) (F:M C sp) (h:t σ H fun vs H2=>sp (.ref a::vs) H2 Q E0):MdP M m t σ Q (.ref a) H :=
 ⟨a,C,dx,fs,sp,rfl,e,l,F,h⟩
theorem V0 {C:Addr}{sp:Sp}{dvs:List V}{t:TA} (h:t σ H (p7 C sp dvs E Q)):KN C sp dvs E t σ H Q:=h
theorem nQ {C:Addr}{sp:Sp}{dvs vs:List V}{fs:List (Str×V)}
  (hsp:∀p dx H0 (Q':VK),H0 p=some (.ins C dx [])->(∀H',(∀b o,H0 b=some o->b≠p->H' b=some o)->H' p=some (.ins C dx fs)->Q' .non H')->Same H H0->sp (.ref p::(vs++dvs)) H0 Q' E)
  (k:∀p dx H',H p=none->Same H H'->H' p=some (.ins C dx fs)->Q (.ref p) H'):p7 C sp dvs E Q vs H:=by
 intro x dx nx nd ne;have s0:Same H (upd (upd H dx (.own x)) x (.ins C dx [])):=fun b o e=>by
  rw[aJ (bE e nx),aJ (bE e nd)];exact e
 exact hsp x dx _ _ aS (fun H' sb e=>⟨rfl,k x dx H' nx (fun b o q=>sb b o (s0 b o q) (bE q nx)) e⟩) s0
theorem V8 {wi:TI}{nl:Nat}{ci:List Nat}{ti:TT} (h:wi σ H fun J H1=>dB J g ti te (bZ nl ci σ) (X2 Q) H1):KQ wi nl ci g ti te σ H Q:=h
theorem aAV {r:V->Option Int->Option Int->Hp->VK->Prop}{tl th:TO} (h:te σ H fun x H1=>tl σ H1 fun l H2=>th σ H2 fun u H3=>r x l u H3 Q):tSl r te tl th σ H Q:=h
theorem XH {z:Str}{lo hi:Option Int} (hz:z.length<=sizeLine) (h:(Txt.slice z lo hi).length<=z.length->Q (.str (Txt.slice z lo hi)) H):ZF (.str z) lo hi H Q:=⟨z,rfl,hz,h (Txt.slice_le _ _ _)⟩
theorem ME {a:Addr}{xs:List V}{lo hi:Option Int} (e:SqL K H a xs) (h:∀p H',H p=none->Same H H'->H' p=some (.lst (xF xs lo hi))->Q (.ref p) H'):QU K (.ref a) lo hi H Q:=⟨a,xs,rfl,e,fI h⟩
theorem W1 {p:Addr}{a b i:Int} (e:SqL K H p [.int a,.int b]) (h0:0<=i) (h1:i<2) (h:∀v,(i=0/\v=a)∨(i=1/\v=b)->Q (.int v) H):F2 K (.ref p) (.int i) H Q:=by
 have:i=0∨i=1:=by lia
 rcases this with rfl|rfl
 ·exact⟨p,_,0,_,rfl,rfl,e,rfl,h a (.inl ⟨rfl,rfl⟩)⟩
 ·exact⟨p,_,1,_,rfl,rfl,e,rfl,h b (.inr ⟨rfl,rfl⟩)⟩
def QT (ns:List Int)(lo hi:Option Int):List Int:=(ns.drop (HT.sIx ns.length 0 lo)).take (HT.sIx ns.length ns.length hi - HT.sIx ns.length 0 lo)
theorem OO (ns:List Int)(lo hi:Option Int):xF (ns.map V.int) lo hi=(QT ns lo hi).map V.int:=by
 unfold xF QT;rw[List.length_map,List.map_take,List.map_drop]
theorem YQ {a:Addr}{ns:List Int}{lo hi:Option Int} (e:SqL K H a (ns.map V.int)) (h:∀p H',H p=none->Same H H'->H' p=some (.lst ((QT ns lo hi).map V.int))->Q (.ref p) H'):QU K (.ref a) lo hi H Q :=
 ME e (by rw[OO];exact h)
theorem E9 {p:Addr}{xs:List V}{k:Int}{j:Nat}{R:Hp->Prop} (e:H p=some (.lst xs)) (l:ixN xs.length k=some j) (h:∀H',(∀b o,H b=some o->b≠p->H' b=some o)->H' p=some (.lst (xs.set j v))->R H'):TN (.ref p) (.int k) v H R :=
 ⟨p,xs,k,j,rfl,rfl,e,l,h _ (fun b o q hb=>by rw[aJ hb];exact q) aS⟩
theorem AI {l b:Addr}{xs zs:List V} (e:H l=some (.lst xs)) (e2:H b=some (.lst zs)) (hn:xs.length+zs.length<=sizeLine) (h:∀p H',H p=none->Same H H'->H' p=some (.lst (xs++zs))->Q (.ref p) H'):YZ (.ref l) (.ref b) H Q :=
 ⟨l,b,xs,zs,rfl,rfl,e,e2,hn,fI h⟩
theorem zU {l:Addr}{xs:List V}{k:Int} (e:H l=some (.lst xs)) (h0: -(2^63)<=k) (h1:k<2^63) (hn:xs.length * k.toNat<=sizeLine) (h:∀p H',H p=none->Same H H'->H' p=some (.lst (List.replicate k.toNat xs).flatten)->Q (.ref p) H'):aAo (.ref l) (.int k) H Q :=
 ⟨l,k,xs,rfl,rfl,e,h0,h1,hn,fI h⟩
theorem aBa {T:String}{r:V->List V->Hp->VK->Prop}{to:TE}{t:TA} (h:to σ H (BmP K T r t σ Q)):tBM K T r to t σ H Q:=h
theorem ZZ {r:V->List V->Hp->VK->Prop}{t:TA}{p:Addr}{xs:List V} (e:SqL K H p xs) (h:t σ H fun xs H2=>r (.ref p) xs H2 Q):BmP K "list" r t σ Q (.ref p) H:=⟨.inl ⟨rfl,xs,e⟩,h⟩
structure ICls (K:PySem.W.Frag)(C:Addr):Prop where
 cl:Cls K C
 ha:PySem.W.findIn K (.ref C) "__class__" =some (some (.builtin "object.__class__"))
 hn:PySem.W.specialIn K (.builtin "object.__class__") "__get__" =some (some (.builtin "getset_descriptor.__get__"))
 tk:PySem.W.takesIn K (.builtin "object.__class__")=some true
 hm:PySem.W.mroIn K C (.type "object")=some true
theorem UA {z:Str}(hz:z.length<=sizeLine)(h:Q (.int z.length) H):TU [.str z] H Q:=⟨z,rfl,hz,h⟩
theorem US {p:Addr}{ys:List V} (e:SqL K H p ys) (h:Q (.int ys.length) H):SZ K [.ref p] H Q:=⟨p,ys,rfl,.inl e,h⟩
theorem UC {k:Bool}(h:Q (.int (if k then 1 else 0)) H):SO [.bl k] H Q:= .inr ⟨k,rfl,h⟩
variable {B:Bool->Hp->Prop}
theorem UT (h:te σ H (DL B)):LC te σ H B:=h
theorem aAM (h:te σ H (DL B)):tB te σ H B:=h
theorem XQ (h:c σ H fun k H1=>if k=true then d σ H1 B else B false H1):Y7 c d σ H B:=h
theorem aAY (h:c σ H fun k H1=>if k=true then B true H1 else d σ H1 B):tOr c d σ H B:=h
theorem aAj (h:c σ H fun k H1=>B (!k) H1):X7 c σ H B:=h
theorem aAs {b:Bool}{P:Bool->Hp->Prop} (h:P b H):DL P (.bl b) H:=⟨b,rfl,h⟩
theorem L1 {A B:Prop}(h:A):if true=true then A else B:=by rw[if_pos rfl];exact h
theorem GF {A B:Prop}(h:B):if false=true then A else B:=by rw[if_neg Bool.false_ne_true];exact h
theorem T0 {A B:Prop}(h:B):if (!true)=true then A else B:=GF h
theorem WU {A B:Prop}(h:A):if (!false)=true then A else B:=L1 h
theorem YL {p A B:Prop}[Decidable p](hp:¬p)(h:B):if decide p=true then A else B:=by rw[if_neg (by rw[decide_eq_false hp];exact Bool.false_ne_true)];exact h
theorem UO {p A B:Prop}[Decidable p](hp:p)(h:B):if (!decide p)=true then A else B:=by rw[decide_eq_true hp];exact GF h
theorem cN {p A B:Prop}[Decidable p](h1:p->A)(h2:¬p->B):if decide p=true then A else B:=zY (fun h=>h1 (of_decide_eq_true h)) fun h=>h2 fun z=>h (decide_eq_true z)
variable {L:List V->Hp->Prop}{O:Option Int->Hp->Prop}{tr:TA}
theorem XI (h:L [] H):KI σ H L:=h
theorem WI (h:te σ H fun x H1=>tr σ H1 fun xs H2=>L (x::xs) H2):SQ te tr σ H L:=h
theorem MJ (h:O none H):IX σ H O:=h
theorem WQ (h:te σ H (XT O)):TL te σ H O:=h
theorem YX {i:Int}(h:O (some i) H):XT O (.int i) H:=⟨i,rfl,h⟩
variable {vs:List V}{gs:TGs}
theorem UK {to ti:TE}{ts:J7} (h:to σ H fun o H1=>ti σ H1 fun i H2=>ts o i v H2 fun H3=>q σ H3):YB to ti ts v σ H q:=h
theorem UP (h:q σ H):AO [] σ H q:=⟨rfl,h⟩
theorem RA (h:g v σ H fun σ' H'=>gs vs σ' H' q):jK g gs (v::vs) σ H q:=⟨v,vs,rfl,h⟩
theorem WB {a:Addr}{n:Nat} (e:SqT K H a vs) (hl:vs.length=n) (h:gs vs σ H q):xN K n gs (.ref a) σ H q:=⟨a,vs,rfl,e,hl,h⟩
variable {R:It->Hp->Prop}
theorem PK (h:te σ H (ZB K R)):SV K te σ H R:=h
theorem BJ {a:Addr}{xs:List V} (e:SqL K H a xs) (h:R (Itl K a) H):ZB K R (.ref a) H:=⟨a,rfl,⟨xs,e⟩,h⟩
theorem Q8 (h:tr σ H (YG R)):TF tr σ H R:=h
theorem M7 {j:Int}(h0: -4611686018427387904<=j)(h1:j<4611686018427387904)(h:R (Itr 0 j.toNat) H):YG R [.int j] H:=⟨j,rfl,by lia,by lia,h⟩
theorem RY (h:tr σ H (XJ R)):TQ tr σ H R:=h
theorem N4 {i j:Int}(h0: -4611686018427387904<=i)(h1:i<4611686018427387904)(h2: -4611686018427387904<=j)(h3:j<4611686018427387904)(h:R (Itr i (j - i).toNat) H):XJ R [.int i,.int j] H:=⟨i,j,rfl,⟨by lia,by lia,by lia,by lia⟩,h⟩
theorem cU {a:Addr}{tb:TS} (xs:List V) (Pv:Nat->St->Hp->Prop) (h0:Pv 0 σ H) (hl:∀i σ H,i<=xs.length->Pv i σ H->SqL K H a xs)
  (hs:∀i x σ H,xs[i]? =some x->Pv i σ H->g x σ H fun σ2 H2=>tb ⟨Pv (i+1),rt,nx,Pv (i+1)⟩ σ2 H2)(hd:∀σ H,Pv xs.length σ H->nx σ H):LS (Itl K a) g tb ⟨nx,rt,bk,ct⟩ σ H :=
 R6 (D:=⟨nx,rt,bk,ct⟩) Pv h0 hl hs hd
theorem rG {lo:Int}{n:Nat}{tb:TS} (Pv:Nat->St->Hp->Prop) (h0:Pv 0 σ H)
  (hs:∀i σ H,i<n->Pv i σ H->g (.int (lo+i)) σ H fun σ2 H2=>tb ⟨Pv (i+1),rt,nx,Pv (i+1)⟩ σ2 H2)(hd:∀σ H,Pv n σ H->nx σ H):LS (Itr lo n) g tb ⟨nx,rt,bk,ct⟩ σ H :=
 NR (D:=⟨nx,rt,bk,ct⟩) Pv h0 hs hd
end
section
variable {K:PySem.W.Frag}{te:TE}{σ:St}{ci:List Nat}{rest:St}{fin:List V->Hp->Prop}{H:Hp}{a:Addr}
theorem u8 (hr:ci.map (fun i=>(σ[i]?).join)=rest):bZ 1 ci σ=none::rest:=by
 unfold bZ;rw[hr];rfl
theorem HJ {lo:Int}{n:Nat} (P:Nat->V->Prop) (hn:n<=sizeLine) (hr:ci.map (fun i=>(σ[i]?).join)=rest)
  (hs:∀i H1,i<n->Same H H1->∀R:VK,(∀y H2,P i y->Same H1 H2->R y H2)->te (some (.int (lo+i))::rest) H1 R)
  (hf:∀ys H1,Same H H1->ys.length=n->(∀i y,ys[i]? =some y->P i y)->fin ys H1):dB (Itr lo n) (cA 0) wQ te (bZ 1 ci σ) fin H:=by
 rw[u8 hr];refine JX (fun i ys H1=>Same H H1/\ys.length=i/\∀j y,ys[j]? =some y->P j y) hn rfl ⟨Same.refl _,rfl,fun j y h=>by simp at h⟩ (fun i ys H1 ok=>Nat.le_of_eq ok.2.1) (fun ys H1 ok=>hf ys H1 ok.1 ok.2.1 ok.2.2) ?_;intro i ys H1 hi ⟨s1,hl,hp⟩ R hR;refine hs i H1 hi s1 R fun y H2 hy s2=>hR y H2 ⟨s1.trans s2,by simp[hl],fun j z hz=> ?_⟩
 by_cases hj:j<ys.length
 ·rw[List.getElem?_append_left hj]at hz;exact hp j z hz
 ·rw[List.getElem?_append_right (by lia)]at hz;have hj0:j - ys.length=0:=by
   cases e:j - ys.length with
   | zero=>rfl
   | succ k=>rw[e]at hz;simp at hz
  rw[hj0]at hz;have:z=y:=by simpa using hz.symm
  subst this;have:j=i:=by lia
  subst this;exact hy
end
section
variable {K:PySem.W.Frag}{te:TE}{σ:St}{ci:List Nat}{rest:St}{fin:List V->Hp->Prop}{H:Hp}{a:Addr}
theorem KY {α β:Type}{xs:List α}{ys:List β}{f:α->β} (hl:ys.length=xs.length) (h:∀(i:Nat) y,ys[i]? =some y->∃x,xs[i]? =some x/\y=f x):ys=xs.map f:=by
 apply List.ext_getElem?
 intro i;rw[List.getElem?_map];cases e:ys[i]? with
 | none =>
  have:xs[i]? =none:=by
   rw[List.getElem?_eq_none_iff]at e ⊢
   lia
  rw[this];rfl
 | some y =>
  obtain⟨x,hx,rfl⟩:=h i y e;rw[hx];rfl
theorem RV {lo:Int}{n:Nat} (f:Nat->V) (hn:n<=sizeLine) (hr:ci.map (fun i=>(σ[i]?).join)=rest)
  (hs:∀i H1,i<n->Same H H1->∀R:VK,(∀H2,Same H1 H2->R (f i) H2)->te (some (.int (lo+i))::rest) H1 R)
  (hf:∀H1,Same H H1->fin ((List.range n).map f) H1):dB (Itr lo n) (cA 0) wQ te (bZ 1 ci σ) fin H:=by
 refine HJ (fun i y=>y=f i) hn hr (fun i H1 hi s1 R hR=>hs i H1 hi s1 R fun H2 s2=>hR _ H2 rfl s2) ?_;intro ys H1 s1 hl hp;have e:ys=(List.range n).map f:=by
  refine KY (by rw[hl,List.length_range]) fun i y hy=> ?_;have hi:i<n:=by
   rw[←hl];exact(List.getElem?_eq_some_iff.mp hy).1
  exact⟨i,by simp[hi],hp i y hy⟩
 rw[e];exact hf H1 s1
end
theorem Same.at {H H':Hp}{b:Addr}{o:HO} (s:Same H H') (h:H b=some o):H' b=some o:=s b o h
def SameBut (p:Addr)(H H':Hp):Prop:=∀b o,H b=some o->b≠p->H' b=some o
theorem SameBut.upd {p:Addr}{H:Hp}{o:HO}:SameBut p H (upd H p o):=fun b u e hb=>by rw[aJ hb];exact e
theorem SameBut.trans {p:Addr}{H H1 H2:Hp} (a:SameBut p H H1) (b:SameBut p H1 H2):SameBut p H H2:=fun c o h hc=>b c o (a c o h hc) hc
theorem Same.but {p:Addr}{H H':Hp} (s:Same H H'):SameBut p H H':=fun b o e _=>s b o e
theorem SameBut.same {p:Addr}{H H0 H':Hp} (n:H0 p=none) (s:Same H0 H) (b:SameBut p H H'):Same H0 H':=fun c o e=>b c o (s c o e) (bE e n)
theorem aM {t:TS}{D:dE}{N:List Str}{vs:List V}{σ:St}{H:Hp} (e:start N vs=σ) (h:t D σ H):t D (start N vs) H:=e▸h
theorem SameBut.refl {p:Addr}{H:Hp}:SameBut p H H:=fun _ _ e _=>e
theorem SameBut.snoc {p:Addr}{H H1 H2:Hp} (b:∀c o,H1 c=some o->c≠p->H2 c=some o) (a:SameBut p H H1):SameBut p H H2:=fun c o h hc=>b c o (a c o h hc) hc
theorem SameBut.snocS {p:Addr}{H H1 H2:Hp} (b:Same H1 H2) (a:SameBut p H H1):SameBut p H H2:=fun c o h hc=>b c o (a c o h hc)
theorem Same.snoc {H H1 H2:Hp}(b:Same H1 H2)(a:Same H H1):Same H H2:=a.trans b
theorem UQ {f:Str}{v:V}{fs:List (Str×V)}:(cI f v fs).lookup f=some v:=by rw[lB,if_pos rfl]
theorem aAD {f g:Str}{v:V}{o:Option V}{fs:List (Str×V)} (h:decide (g=f)=false) (l:fs.lookup g=o):(cI f v fs).lookup g=o:=by rw[lB,if_neg (of_decide_eq_false h)];exact l
theorem aAg {f:Str}:([]:List (Str×V)).lookup f=none:=rfl
section
variable {K:PySem.W.Frag}{x qual:Str}{st:Stmt}{kV doc pm cdv ct:Value}{an:Option Addr}{ps:List Str}
theorem kX (k:Nat){T:Addr}{ds:List Value}{oc:Value}{od:Option Addr}{sl:Array (Option Value)}{items:Array Value}{n:Nat} (lt:K.lookup T=some ⟨oc,od,.seq items n,sl⟩)
  (h:∀us:List Value,us.length=k->∃k,bindArgs (PySem.W.fnOf x qual (dF st) (cY st) (aG st) (.ref T) kV doc pm an cdv ct) ⟨us,[]⟩=seqItems? (.ref T) >>= k/\k (some items)=pure (ps.zip (us++ds)))(hk:k+ds.length=ps.length:=by rfl) :
  Binds K (PySem.W.fnOf x qual (dF st) (cY st) (aG st) (.ref T) kV doc pm an cdv ct) ps ds:=fun s us hK hl=>by
 obtain⟨k,h1,h2⟩:=h us (by rw[List.length_append]at hl;lia);exact .of_defaults (T:=T) (items:=items) (n:=n) rfl (hK T _ lt) rfl h1 h2
end
theorem cM (s:String):(Str.ofString s).length=s.length:=by
 rw[Str.ofString_eq_toList];show (s.toList.map Char.toNat).toArray.size=_;rw[List.size_toArray,List.length_map,String.length_toList]
def sgB (c:Nat):Bool:=decide (97<=c)&&decide (c<=122)
def iB (z:Str):Bool:=z.cps.toList.all sgB
def aZ (z:Str):Bool:=decide (1<=(z.length:Int))&&decide ((z.length:Int)<=8)&&iB z
theorem NG {z:Str}(h:aZ z=true):z.length<=8:=by
 unfold aZ at h;simp only[Bool.and_eq_true,decide_eq_true_eq]at h
 lia
theorem RW {z:Str}(h0:1<=z.length)(h1:z.length<=8)(h2:iB z=true):aZ z=true:=by
 unfold aZ;simp only[Bool.and_eq_true,decide_eq_true_eq];exact⟨⟨by lia,by lia⟩,h2⟩
theorem FU {c:Nat}{z:Str} (h:iB z=true) (hc:c∈z.cps.toList):iB ⟨#[c]⟩=true:=by
 unfold iB at h ⊢;rw[List.all_eq_true]at h;show [c].all sgB=true;rw[List.all_cons,h c hc];rfl
theorem OQ {z:Str}{l u:Option Int}{c:Nat} (h:c∈(Txt.slice z l u).cps.toList):c∈z.cps.toList:=by
 unfold Txt.slice at h
 split at h
 ·exact h
 ·rw[List.toList_toArray]at h;obtain⟨i,_,hi⟩:=List.mem_filterMap.mp h;rw[←Array.getElem?_toList]at hi;exact List.mem_of_getElem? hi
theorem jX {z:Str}{l u:Option Int} (h:iB z=true):iB (Txt.slice z l u)=true:=by
 unfold iB at h ⊢;rw[List.all_eq_true]at h ⊢;exact fun c hc=>h c (OQ hc)
theorem wI (x y:Str):(x++y).cps.toList=x.cps.toList++y.cps.toList:=by
 show (x.cps++y.cps).toList=_;simp
theorem eX (x y:Str):(x++y).length=x.length+y.length:=by
 show (x.cps++y.cps).size=_;rw[Array.size_append];rfl
theorem z6 (c:Nat):(⟨#[c]⟩:Str).length=1:=rfl
theorem FZ {x y:Str}(h:iB x=true)(h':iB y=true):iB (x++y)=true:=by
 unfold iB at h h' ⊢;rw[wI,List.all_append,h,h'];rfl
end L2
namespace L2
open PySem PySem.Spec PyProof.Rows
section
variable {prog:Program}{w:World}{A:Around}{E:Value->Shared->Prop}{s:Shared}
end
section
variable {X:Cx}{pos:Pos}
end
section
variable {nx bk ct:St->Hp->Prop}{rt:VK}{σ:St}{H:Hp}{g:TG}{K:PySem.W.Frag}{a:Addr}{tb:TS}{xs:List V}
end
theorem UD {H:Hp}{Q:VK}{i j:Int} (h0:0<j) (h:0<=i%j->i%j<j->Q (.int (i%j)) H):rI (fun _ j=>0<j) (fun i j=> .int (i%j)) (.int i) (.int j) H Q:=⟨i,j,rfl,rfl,h0,h (Int.emod_nonneg _ (by lia)) (Int.emod_lt_of_pos _ h0)⟩
end L2
namespace L2
open PySem PySem.Spec PyProof.Rows PySem.W
section
variable {prog:Program}{w:World}{A:Around}{E:Value->Shared->Prop}{h:Heap}{g:Array GenState}{d:Drawn}{t:Nat}{os:OsState}{a C:Addr}{o:Obj}{vs:Array Value}{K:Frag}
end
end L2
namespace L2
open PySem PySem.Spec PyProof.Rows PySem.W
section
variable {M:Model}{A:Around}{E:Value->Shared->Prop}{s:Shared}{base:Heap}{env:Env}{outer:List Env}{L ea:Addr}{Q:Unit->Shared->Prop}
end
end L2
namespace L2
open PySem PySem.Spec PyProof.Rows PySem.W
section
variable {P:Program}{w:World}{H H':Hp}{h h':Heap}{a:Addr}{o:HO}
end
section
variable {X:Cx}{pins:List (Addr×Obj)}{σ:St}{H H1:Hp}{s s1:Shared}{h2 B:Heap}
end
end L2
namespace L2
open PySem PySem.Spec PyProof.Rows PySem.W
section
variable {X:Cx}{E:XK}{x:Str}{C:Addr}{np cpos pos:Pos}{e:Expr}{es:List Expr}{t:TA}
end
section
variable {X:Cx}{k k':Nat}{sp:Sp}{x m:Str}{p pos apos:Pos}{e o:Expr}{es:List Expr}{ta:TE}{t:TA}{C:Addr}{dvs:List V}{E:XK}{ps:List Str}
end
section
variable {P:Program}{w:World}{K:PySem.W.Frag}{mg:Str->Option Value}{base:Heap}
end
end L2
namespace L2
open PySem PySem.Spec PyProof.Rows PySem.W
section
variable {M:Model}{A:Around}{E:Value->Shared->Prop}{s:Shared}{base:Heap}{env:Env}{outer:List Env}{L ea:Addr}{Q:Unit->Shared->Prop}
end
end L2
namespace L2
open PySem PySem.Spec PyProof.Rows PySem.W
section
variable {X:Cx}{pins:List (Addr×Obj)}{σ:St}{H:Hp}{s:Shared}{ea:Addr}
end
section
variable {X:Cx}{k k':Nat}{sp:Sp}{x m:Str}{p pos apos:Pos}{e o:Expr}{es:List Expr}{ta:TE}{t:TA}{C f:Addr}{dvs:List V}{ds:List Value}{R:XK}{ps:List Str}{fd:FuncData}
end
section
variable {X:Cx}{k k':Nat}{sp:Sp}{x m:Str}{p pos apos:Pos}{e o:Expr}{es:List Expr}{ta:TE}{t:TA}{C:Addr}{dvs:List V}{R:XK}
end
section
variable {X:Cx}{i:Nat}{n x:Str}{T:Addr}{np hpos pos epos:Pos}{e:Expr}{tc:XK->TE}{b₀:Stmt}{suite:List Stmt}{ts:TS}
end
end L2
namespace L2
open PySem PySem.Spec PyProof.Rows PySem.W
section
variable {X:Cx}{x:Str}{j:Nat}{p pos:Pos}{e v1 v2:Expr}{es:List Expr}{te:TE}{t:TJ}
end
end L2
namespace L2
open PySem PySem.W
section
variable {K:Frag}{C D:Addr}{cd:ClassData}{b:Bool}
end
variable {K:Frag}{H:Hp}{Q:VK}
end L2
namespace L2
open PySem PySem.W
end L2
set_option maxHeartbeats 4000000
namespace L2
open PySem PySem.Spec PyProof.Rows
abbrev kn (o:Obj):HO:= .frz o (.ext fun _=>True)
theorem DM {P:Program}{w:World}{H:Hp}{h:Heap}{a:Addr}{o:Obj} (e:h.get? a=some o):ObjOk P w H h a (kn o):=⟨e,trivial,⟨o,e⟩,fun _ _ _ _=>trivial⟩
theorem uL {P:Program}{w:World}{H:Hp}{h:Heap}{a:Addr}{o:Obj} (x:HOk P w H h) (e:H a=some (kn o)):h.get? a=some o:=(x a _ e).1
section
variable {X:Cx}{pins:List (Addr×Obj)}{σ:St}{H:Hp}{s:Shared}
end
section
variable {X:Cx}{CX:CXT}{k k':Nat}{sp:Sp}{E:XK}{x y:Str}{p pos:Pos}{e:Expr}{es:List Expr}{t:TA}{i:Nat}{c:Addr}
end
def cxL (CX:CXT)(P:Program)(w:World)(K:PySem.W.Frag)(mg:Str->Option Value)(base:Heap)(N:List Str)(qual:Str)(scope:Scope)(f:Addr)(cd:Value)(cl:List (Str×Addr))(A:Around)(outer:List Env)(s:Shared)(H:Hp)(E:XK):Cx where
 prog:=P
 w:=w
 K:=K
 mg:=mg
 base:=base
 A:=A.deeper (PySem.W.envX qual scope s.heap.objs.size f cd cl)
 N:=N
 s₀:=s
 H₀:=H
 env:=PySem.W.envX qual scope s.heap.objs.size f cd cl
 outer:=outer
 stack:=PySem.W.envX qual scope s.heap.objs.size f cd cl::outer
 ex:=[]
 calm:=true
 fn:=fun _=>false
 pn:=[]
 xe:=fun e s'=>wpAny (model P w) (A.deeper (PySem.W.envX qual scope s.heap.objs.size f cd cl)) (leaving (PySem.W.envX qual scope s.heap.objs.size f cd cl) e) (fun _ s''=>CX outer H s E e s'') (fun e' s''=>CX outer H s E e' s'') s'
section
variable {P:Program}{w:World}{K:PySem.W.Frag}{mg:Str->Option Value}{base:Heap}
end
section
variable {X:Cx}{k k':Nat}{x:Str}{p pos:Pos}{e:Expr}{es:List Expr}{t:TA}
def Y9 (F:Addr->FuncData->List Str->Sp->Prop)(K:PySem.W.Frag)(i:Nat)(t:TA):TE:=fun σ H Q=>∃f o fd,σ[i]? =some (some (.ref f))/\H f=some (kn o)/\o.data= .func fd ∧
 t σ H fun vs H1=>∃ps sp,H1 f=some (kn o)/\Binds K fd ps []/\F f fd ps sp/\sp vs H1 Q E0
theorem IA {h:Heap}{f:Addr}{o:Obj}{fd:FuncData} (e:h.get? f=some o) (d:o.data= .func fd):PySem.W.FnAt f h:=by
 obtain⟨oc,od,dt,sl⟩:=o;have d':dt= .func fd:=d;subst d';exact⟨oc,od,fd,sl,e⟩
theorem R8 (k:Nat)(i:Nat)(hr:Room k' X.A)(ha:PA X (e::es) t)(hk:k<=k':=by decide)(hN:X.N[i]? =some x:=by rfl)(hv:Vis X.env.scope x:=by first|exact Or.inl rfl|exact Or.inr (Or.inl rfl)|exact Or.inr (Or.inr rfl))
  (hdb:(x==("__debug__" :Str))=false:=by decide)(hcd:(x==("__classdict__" :Str))=false:=by decide)(he:starEach (e::es) X.env=(false,eval e X.env)::starEach es X.env:=by rfl)(hpl:(backTo pos (starEach es X.env)).any (·.1)=false:=by rfl) :
  PE X (.Call (.Name x p) (e::es) [] pos) (Y9 (fun f fd ps sp=>FnOk X.prog X.w X.K X.mg X.base CX0 k f fd ps sp) X.K i t):=by
 intro pins s σ H Q I h;obtain⟨f,o,fd,hi,hf,hd,h⟩:=h;refine wpAny_Call_Name_kw (thn (MF (i:=i) hN hv hdb hcd pins s σ H (fun v' H'=>v'= .ref f/\H' f=some (kn o)/\t σ H' fun vs H1=>∃ps sp,H1 f=some (kn o)/\Binds X.K fd ps []/\FnOk X.prog X.w X.K X.mg X.base CX0 k f fd ps sp/\sp vs H1 Q E0) I ⟨_,hi,rfl,hf,h⟩) fun u s1 ⟨v1,H1,I1,rv,e1,hf1,q1⟩=> ?_);subst e1;obtain rfl:u=Value.ref f:=rv;refine PySem.W.callWith_F (IA (uL I1.hok hf1) hd) (thn (ha pos pins s1 σ H1 _ I1 q1) fun us s2 ⟨vs,H2,I2,r,ps,sp,hf2,hb,F,q⟩=>⟨IA (uL I2.hok hf2) hd,?_⟩) he hpl;have q':sp (vs++[]) H2 Q E0:=by rw[List.append_nil];exact q
 exact rM (us:=us) (vs:=vs) F (hr.mono hk) hb .nil sO I2 r q'
end
section
variable {X:Cx}{args:Arguments}{body:Expr}{lsc:Scope}{pos:Pos}{y:Str}{c cL PL:Addr}
end
end L2
namespace L2
open PySem PySem.Spec PyProof.Rows
section
variable {P:Program}{w:World}{K:PySem.W.Frag}{mg:Str->Option Value}{base:Heap}
end
theorem MU {P:Program}{w:World}{K:PySem.W.Frag}{mg mb:Str->Option Value}{CX:CXT}{k:Nat}{fa a cL PL:Addr}{fd:FuncData}{x:Str}{sp:Sp}{s₁:Shared}{vs:List Value}{ns:List Int}
  (KX:K.In s₁.heap)(hns:s₁.heap.Ns mainGlobals mg)(hb:s₁.heap.Ns builtinsNs mb)(hbb:∀x:Str,x≠ "__name__" ->mb x=bootBuiltins x)(hlim:s₁.heap.NoLimit)(hg:s₁.gens= #[])
  (C:PySem.W.CodeHd s₁.heap cL PL)(hP:s₁.heap.get? PL=some (PySem.W.tabObj #[]))(hKP:K.lookup PL=none)
  (hbm:∃bm ob,mg "__builtins__" =some (.ref bm)/\bm≠builtinsNs/\s₁.heap.get? bm=some ob/\ob.cls= .type "module" /\ob.dict=some builtinsNs/\ob.data= .plain)
  (ha:s₁.heap.get? a=some { cls:= .type "list",data:= .seq vs.toArray })(hi:IntsAre vs ns)(hl:ns.length<=sizeLine)(hr:Room k callerA)
  (F:∀base:Heap,PySem.W.CodeHd base cL PL->base.BuiltinsAt mg PL->FnOk P w K mg base CX k fa fd [x] sp)(hbind:∀(s:Shared) (u:Value),BindsTo s fd ⟨[u],[]⟩ [(x,u)])
  (hsp:∀H:Hp,SqL K H a (ns.map V.int)->H PL=some (.tbl #[])->sp [.ref a] H (fun v _=>v= .bl true) fun _ _ _=>False)
  (hCX:∀H e s',CX [] H s₁ (fun _ _ _=>False) e s'->False) :
  codeAny (model P w) callerA (.call (.ref fa) ⟨[.ref a],[]⟩) (fun r s'=>r= .ok (.ret (.bool true))/\OldK s₁.heap s'.heap/\s'.os=s₁.os/\AllBare s'.gens) s₁:=by
 have rv:=BS hi;have lenV:=hi.length;have naP:a≠PL:=fun z=>by rw[z,hP]at ha;cases ha
 have core:∀H:Hp,H PL=some (.tbl #[])->SqL K H a (ns.map V.int)->HOk P w H s₁.heap->(∀b,H b≠none->b=a∨b=PL)->(H a≠none->K.lookup a=none)->(∀u,H a=some u->∃o xs,u= .frz o (.lst xs)) →
   codeAny (model P w) callerA (.call (.ref fa) ⟨[.ref a],[]⟩) (fun r s'=>r= .ok (.ret (.bool true))/\OldK s₁.heap s'.heap/\s'.os=s₁.os/\AllBare s'.gens) s₁:=by
  intro H hHP hS hok hA hK hfz;have base_of:∀{b:Addr}{o:Obj},s₁.heap.get? b=some o->H b=none->(oE s₁.heap H).get? b=some o:=fun e n=>PJ e n;have noT:∀{b:Addr}{o:Obj},s₁.heap.get? b=some o->o.cls≠ .none->o.cls≠ .type "list" ->H b=none:=fun {b o} e n1 n2=>by
   cases q:H b with
   | none=>rfl
   | some u =>
    rcases hA b (by rw[q];simp) with z|z
    ·rw[z,ha]at e;cases e;exact absurd rfl n2
    ·rw[z,hP]at e;cases e;exact absurd rfl n1
  have noA:∀{b:Addr}{o:Obj}{es:Array DictEntry}{ep:Nat},s₁.heap.get? b=some o->o.data= .dict es ep->H b=none:=fun {b o es ep} e d=>by
   cases q:H b with
   | none=>rfl
   | some u =>
    rcases hA b (by rw[q];simp) with z|z
    ·rw[z,ha]at e;cases e;have d':Data.seq vs.toArray _=Data.dict es ep:=d;cases d'
    ·rw[z,hP]at e;cases e;have d':Data.fields #[]=Data.dict es ep:=d;cases d'
  have nsK:∀{b:Addr}{m:Str->Option Value},s₁.heap.Ns b m->(oE s₁.heap H).Ns b m:=fun {b m} ⟨o,es,ep,e,d,r⟩=>⟨o,es,ep,base_of e (noA e d),d,r⟩
  have hKb:K.In (oE s₁.heap H):=fun b o e=>base_of (KX b o e) (by
   cases q:H b with
   | none=>rfl
   | some u =>
    rcases hA b (by rw[q];simp) with z|z
    ·subst z;rw[hK (by rw[q];simp)]at e;cases e
    ·rw[z,hKP]at e;cases e)
  have hM:Mod K mg (oE s₁.heap H):=⟨hKb,nsK hns,⟨mb,nsK hb,hbb⟩,let ⟨mc,h1,h2⟩:=hlim;⟨mc,nsK h1,h2⟩⟩
  have e0:Env0 P w K mg (oE s₁.heap H) callerA [] s₁ H:=⟨rfl,hM,fun b o e=>VA e,Nat.le_of_eq (ML _ _),trivial,fun b hb=>absurd (show b∈([]:List Addr) from hb) (by simp),hok,.of_eq hg⟩
  have hC:PySem.W.CodeHd (oE s₁.heap H) cL PL:=by
   obtain⟨o,fv,file,tf,flags,tg,inF,text,tt,e1,e2,r⟩:=C;exact⟨o,fv,file,tf,flags,tg,inF,text,tt,base_of e1 (noT e1 (by rw[e2];intro z;cases z) (by rw[e2];decide)),e2,r⟩
  have hB:(oE s₁.heap H).BuiltinsAt mg PL:=by
   obtain⟨bm,ob,b1,b2,b3,b4,b5,b6⟩:=hbm;refine⟨bm,ob,b1,b2,fun z=> ?_,fun z=> ?_,base_of b3 (noT b3 (by rw[b4];intro z;cases z) (by rw[b4];decide)),b4,b5,b6⟩
   ·obtain⟨o,es,ep,e,hd,_⟩:=hns;rw[z,e]at b3;cases b3;rw[hd]at b6;cases b6
   ·rw[z,hP]at b3;cases b3;cases b4
  refine codeAny_mono ((F _ hC hB).run callerA [] s₁ H ⟨[.ref a],[]⟩ [.ref a] [.ref a] _ _ hr e0 (hbind s₁ (.ref a)) (.cons rfl .nil) (hsp H hS hHP)) fun r s' h=> ?_;cases r with
  | error e=>exact(hCX H e s' h).elim
  | ok fl =>
   cases fl with
   | next=>exact False.elim h
   | brk=>exact False.elim h
   | cont=>exact False.elim h
   | ret u =>
    obtain⟨v,H',os,bare,un,hok',r',q⟩:=h;have q':v= .bl true:=q;subst q';obtain rfl:u=Value.bool true:=r';have kept:∀b o,b≠PL->s₁.heap.get? b=some o->s'.heap.get? b=some o:=fun b o nb e=>by
     cases q:H b with
     | none=>exact un.keep b o e q (by intro z;exact absurd (show b∈([]:List Addr) from z) (by simp)) (by simp)
     | some u =>
      rcases hA b (by rw[q];simp) with z|z
      ·subst z;obtain⟨ob,xs,rfl⟩:=hfz u q;have z2:=un.frzs b ob _ q;obtain⟨e1,_⟩:=hok b _ q;obtain⟨e2,_⟩:=hok' b _ z2;rw[e]at e1;cases e1;exact e2
      ·exact absurd z nb
    obtain⟨more,hm⟩:=un.tbls PL #[] hHP;have gP':s'.heap.get? PL=some (PySem.W.tabObj (#[]++more)):=hok' PL _ hm;refine⟨rfl,⟨fun b o e=> ?_,fun b o e=> ?_⟩,os,bare⟩
    ·by_cases hb:b=PL
     ·subst hb;rw[hP]at e;cases e;exact .inr (.inl ⟨(C.tab hP).isCodeTable,rfl,#[],more,rfl,gP'⟩)
     ·exact .inl (kept b o hb e)
    ·by_cases hb:b=PL
     ·subst hb;exact⟨_,gP'⟩
     ·exact⟨o,kept b o hb e⟩
 cases hk:K.lookup a with
 | some o =>
  have e:=KX a o hk;rw[ha]at e;cases e;refine core (fun b=>if b=PL then some (.tbl #[]) else none) (if_pos rfl) (.inr ⟨_,vs.toArray,_,hk,rfl,rfl,rfl,by rw[List.size_toArray,lenV];exact hl,by simpa using rv⟩) (fun b u z=> ?_) (fun b z=> ?_) (fun z=>absurd (if_neg naP) z) (fun u z=> ?_)
  ·by_cases hb:b=PL
   ·have z':=(if_pos hb).symm.trans z;cases z';subst hb;exact hP
   ·have z':=(if_neg hb).symm.trans z;cases z'
  ·by_cases hb:b=PL
   ·exact .inr hb
   ·exact absurd (if_neg hb) z
  ·have z':=(if_neg naP).symm.trans z;cases z'
 | none =>
  have eP:(if PL=a then some (HO.frz { cls:= .type "list",data:= .seq vs.toArray } (.lst (ns.map V.int))) else if PL=PL then some (.tbl #[]) else none)=some (.tbl #[]):=by rw[if_neg (Ne.symm naP),if_pos rfl]
  refine core (fun b=>if b=a then some (.frz { cls:= .type "list",data:= .seq vs.toArray } (.lst (ns.map V.int))) else if b=PL then some (.tbl #[]) else none) eP (.inl (.inr ⟨{ cls:= .type "list",data:= .seq vs.toArray },if_pos rfl⟩)) (fun b u z=> ?_) (fun b z=> ?_) (fun _=>hk) (fun u z=> ?_)
  ·by_cases hb:b=a
   ·have z':=(if_pos hb).symm.trans z;cases z';subst hb;exact⟨ha,by rw[List.length_map];exact hl,vs,_,rv,ha⟩
   ·have z1:=(if_neg hb).symm.trans z
    by_cases hb2:b=PL
    ·have z':=(if_pos hb2).symm.trans z1;cases z';subst hb2;exact hP
    ·have z':=(if_neg hb2).symm.trans z1;cases z'
  ·by_cases hb:b=a
   ·exact .inl hb
   ·by_cases hb2:b=PL
    ·exact .inr hb2
    ·exact absurd ((if_neg hb).trans (if_neg hb2)) z
  ·have z':=(if_pos rfl).symm.trans z;cases z';exact⟨_,_,rfl⟩
section
variable {X:Cx}{o:Expr}{to:TE}{ap pos:Pos}
theorem xE:∀{xs:List V}{us:List Value},xs.length=us.length->(∀(i:Nat) x u,xs[i]? =some x->us[i]? =some u->RelV x u)->Vals xs us
 | [],[],_,_=> .nil
 | [],_::_,h,_=>by simp at h
 | _::_,[],h,_=>by simp at h
 | x::xs,u::us,h,k=> .cons (k 0 x u rfl rfl) (xE (by simpa using h) fun i y w e1 e2=>k (i+1) y w (by simpa using e1) (by simpa using e2))
end
structure DcD (P:Program)(w:World)(K:PySem.W.Frag)(mg:Str->Option Value)(base:Heap)(x m:Str)(k:Nat)(dvs:List V)(sp:Sp):Prop where
 ex:∃C f fd ps ds,mg x=some (.ref C)/\PySem.W.specialIn K (.ref C) "__getattribute__" =some (some (.builtin "type.__getattribute__"))/\PySem.W.readsIn K C (.type "type")=true/\PySem.W.findCls K (.ref C) (.type "type") m=some (.val (.ref f)) ∧
  PySem.W.keepIn K (.ref f)=true/\Vals dvs ds/\Binds K fd ps ds/\FnOk P w K mg base CX0 k f fd ps sp
section
variable {X:Cx}{k k':Nat}{sp:Sp}{x m:Str}{p pos apos:Pos}{e:Expr}{es:List Expr}{t:TA}{dvs:List V}
theorem Y6 {pl:Sem Bool}(F:DcD X.prog X.w X.K X.mg X.base x m k dvs sp)(hr:Room k' X.A)(ha:PA X (e::es) t)(hk:k<=k':=by decide)(hg:Gl X x:=by rfl)(hdb:(x==("__debug__" :Str))=false:=by decide)
  (hst:starEach (e::es) X.env=(false,eval e X.env)::starEach es X.env:=by rfl)(hpl:(backTo pos (starEach es X.env)).any (·.1)=false:=by rfl)
  (ht:eval (.Call (.Attribute (.Name x p) m apos) (e::es) [] pos) X.env=(do
   let ov ←eval (.Name x p) X.env
   standAt apos.atName
   let (f,first) ←holding [ov] (getMethod ov m pl)
   callWith pos f first (backTo pos (starEach (e::es) X.env)) (backToKw pos (keywordEach [] X.env))):=by rfl) :
  PE X (.Call (.Attribute (.Name x p) m apos) (e::es) [] pos) (sP sp dvs E0 t):=by
 intro pins s σ H Q I h;obtain⟨C,f,fd,ps,ds,hm,hga,hrd,hfc,kp,hd,hb,G⟩:=F.ex;refine PySem.W.methodCall_KW (pl:=pl) (rW I hg hm ?_ hdb) ht;refine PySem.W.method_cls I.kIn hga (PySem.W.cls_value I.kIn hrd hfc (uQ (v:= .ref f) rfl) ?_);have I1:=I.tok (s.toks+1);refine PySem.W.callWith_K (first:=[]) (h₀:=X.base) I.ok.mod.kin kp (thn (ha pos pins _ σ H _ I1 h) fun us s2 ⟨vs,H2,I2,r,q2⟩=>⟨I2.kIn,?_⟩) hst hpl;exact rM G (hr.mono hk) hb hd sO I2 r q2
theorem RF {E:XK}{σ:St}{H:Hp}{Q:VK} (h:t σ H fun vs H1=>sp (vs++dvs) H1 Q E):sP sp dvs E t σ H Q:=h
end
end L2
namespace L2
open PySem PySem.Spec PyProof.Rows
def aAZ (H:Hp)(c:Addr)(v:V):Prop:=∃o u,H c=some (kn o)/\o.data= .cell (some u)/\RelV v u
def off (H:Hp)(c:Addr):Hp:=fun b=>if b=c then none else H b
theorem F7 {H:Hp}{c:Addr}:off H c c=none:=by unfold off;rw[if_pos rfl]
theorem fQ {H:Hp}{c b:Addr} (h:b≠c):off H c b=H b:=by unfold off;rw[if_neg h]
theorem QL {H:Hp}{c b:Addr}{u:HO} (h:off H c b=some u):b≠c/\H b=some u:=by
 by_cases hb:b=c
 ·subst hb;rw[F7]at h;cases h
 ·rw[fQ hb]at h;exact⟨hb,h⟩
theorem Q9 {H:Hp}{c:Addr}{u:HO} (h:H c=some u):upd (off H c) c u=H:=by
 funext b
 by_cases hb:b=c
 ·subst hb;rw[aS,h]
 ·rw[aJ hb,fQ hb]
section
variable {P:Program}{w:World}
theorem UI {H:Hp}{h:Heap}{c:Addr}{o:Obj} (x:HOk P w H h) (e:H c=some (kn o)):HOk P w (off H c) h:=fun b u q=>by
 obtain⟨hb,q'⟩:=QL q;refine(x b u q').stay (fun _ _ _ z=>z) (fun d z=> ?_) fun d xs z=> ?_
 ·rw[fQ (by rintro rfl;rw[e]at z;cases z)];exact z
 ·rw[fQ (by rintro rfl;rw[e]at z;cases z)];exact z
theorem YE {H:Hp}{h:Heap}{c:Addr}{o:Obj} (x:HOk P w H h) (n:H c=none) (g:h.get? c=some o):HOk P w (upd H c (kn o)) h:=fun b u q=>by
 by_cases hb:b=c
 ·subst hb;rw[aS]at q;cases q;exact DM g
 ·rw[aJ hb]at q;exact(x b u q).stay (fun _ _ _ z=>z) (fun d z=>by rw[aJ (bE z n)];exact z) fun d xs z=>by rw[aJ (bE z n)];exact z
theorem aAm {fs:List Addr}{H H':Hp}{h h':Heap}{c:Addr}{o:Obj} (e:H c=some (kn o)) (g:h.get? c=some o) (hf:c∉fs) (x:Un fs [] (off H c) H' h h'):Un fs [] H (upd H' c (kn o)) h h' where
 keep:=fun b ob q n hb hx=>x.keep b ob q (by rw[fQ (by rintro rfl;rw[e]at n;cases n)];exact n) hb hx
 slot:=fun b ob q n hb hx=>x.slot b ob q (by rw[fQ (by rintro rfl;rw[e]at n;cases n)];exact n) hb hx
 free:=fun b ob q n hx=>by
  have hb:b≠c:=by rintro rfl;rw[e]at n;cases n
  rw[aJ hb];exact x.free b ob q (by rw[fQ hb];exact n) hx
 there:=x.there
 tups:=fun b xs q=>by
  have hb:b≠c:=by rintro rfl;rw[e]at q;cases q
  rw[aJ hb];exact x.tups b xs (by rw[fQ hb];exact q)
 frzs:=fun b ob u q=>by
  by_cases hb:b=c
  ·subst hb;rw[e]at q;cases q;exact aS
  ·rw[aJ hb];exact x.frzs b ob u (by rw[fQ hb];exact q)
 tbls:=fun b ps q=>by
  have hb:b≠c:=by rintro rfl;rw[e]at q;cases q
  obtain⟨m,z⟩:=x.tbls b ps (by rw[fQ hb];exact q);exact⟨m,by rw[aJ hb];exact z⟩
end
section
variable {P:Program}{w:World}{K:PySem.W.Frag}{mg:Str->Option Value}{base:Heap}
end
def SPr (X:Cx)(pins:List (Addr×Obj))(D:dE)(R:St->V->Hp->Prop)(f:Flow)(s':Shared):Prop :=
 match f with
 | .ret u=>∃v σ' H',Inv X pins σ' H' s'/\RelV v u/\(D.rt v H'∨R σ' v H')
 | f=>SP X pins D f s'
def PRs (X:Cx)(st:List Stmt)(t:dE->(St->V->Hp->Prop)->St->Hp->Prop):Prop :=
 ∀(pins:List (Addr×Obj)) (s:Shared) (σ:St) (H:Hp) (D:dE) (R:St->V->Hp->Prop),Inv X pins σ H s->t D R σ H->wpAny (model X.prog X.w) X.A (execs st X.env) (SPr X pins D R) X.xe s
section
variable {X:Cx}{st:Stmt}{rest:List Stmt}{t:TS}{u:dE->(St->V->Hp->Prop)->St->Hp->Prop}{e:Expr}{te:TE}{pos:Pos}
theorem SP.r {pins:List (Addr×Obj)}{D:dE}{R:St->V->Hp->Prop}{f:Flow}{s':Shared} (h:SP X pins D f s'):SPr X pins D R f s':=by
 cases f with
 | ret u=>obtain⟨v,σ',H',I,r,q⟩:=h;exact⟨v,σ',H',I,r,.inl q⟩
 | next=>exact h
 | brk=>exact h
 | cont=>exact h
def SW (t:TS)(u:dE->(St->V->Hp->Prop)->St->Hp->Prop):dE->(St->V->Hp->Prop)->St->Hp->Prop:=fun D R=>t { D with nx:=u D R }
def TM (te:TE):dE->(St->V->Hp->Prop)->St->Hp->Prop:=fun _ R σ H=>te σ H (R σ)
theorem T9 {nx bk ct:St->Hp->Prop}{rt:VK}{R:St->V->Hp->Prop}{σ:St}{H:Hp} (h:t ⟨u ⟨nx,rt,bk,ct⟩ R,rt,bk,ct⟩ σ H):SW t u ⟨nx,rt,bk,ct⟩ R σ H:=h
theorem UU {D:dE}{R:St->V->Hp->Prop}{σ:St}{H:Hp} (h:te σ H (R σ)):TM te D R σ H:=h
theorem oA (h1:PS X st t)(h2:PRs X rest u):PRs X (st::rest) (SW t u):=by
 intro pins s σ H D R I h;refine wpAny_execs_cons (thn (h1 pins s σ H { D with nx:=u D R } I h) fun f s1 q=> ?_);cases f with
 | next =>
  obtain⟨σ',H',I',q⟩:=q;exact h2 pins s1 σ' H' D R I' q
 | ret v=>obtain⟨v,σ',H',I,r,q⟩:=q;exact⟨v,σ',H',I,r,.inl q⟩
 | brk=>exact q
 | cont=>exact q
theorem UL (he:PE X e te):PRs X [.Return (some e) pos] (TM te):=by
 intro pins s σ H D R I h;refine wpAny_execs_cons ?_;exact wpAny_Return_some (thn (he pins s σ H _ I h) fun v s1 ⟨x,H1,I1,r1,q1⟩=>⟨x,σ,H1,I1,r1,.inr q1⟩)
end
theorem aBl {fs:List Addr}{H H':Hp}{h h':Heap}{c:Addr}{u:HO} (n:H' c=none) (hc:h.objs.size<=c) (x:Un fs [] H H' h h'):Un fs [] H (upd H' c u) h h' where
 keep:=x.keep
 slot:=x.slot
 free:=fun b ob q n' hx=>by
  rw[aJ (Nat.ne_of_lt (Nat.lt_of_lt_of_le (Heap.lt_size q) hc))];exact x.free b ob q n' hx
 there:=x.there
 tups:=fun b xs q=>by rw[aJ (bE (x.tups b xs q) n)];exact x.tups b xs q
 frzs:=fun b ob u' q=>by rw[aJ (bE (x.frzs b ob u' q) n)];exact x.frzs b ob u' q
 tbls:=fun b ps q=>by
  obtain⟨m,z⟩:=x.tbls b ps q;exact⟨m,by rw[aJ (bE z n)];exact z⟩
section
variable {P:Program}{w:World}{K:PySem.W.Frag}{mg:Str->Option Value}{base:Heap}
end
section
open PySem.W
variable {X:Cx}{i j:Nat}{n x y:Str}{T:Addr}{np yp hpos pos epos:Pos}{e:Expr}{tc:XK->TE}{b₀:Stmt}{suite:List Stmt}{ts:TS}
end
end L2
namespace L2
open PySem PySem.Spec PyProof.Rows
theorem M9 {t:dE->(St->V->Hp->Prop)->St->Hp->Prop}{D:dE}{R:St->V->Hp->Prop}{N:List Str}{vs:List V}{σ:St}{H:Hp} (e:start N vs=σ) (h:t D R σ H):t D R (start N vs) H:=e▸h
theorem walk_ofT2 {l:PySem.W.OpenLaw}{n k:Nat}{q:Program}{loose:List Str}{XP:(Str->Option Value)->Heap->Prop}{YP:World->Heap->Prop}{d d2:DefRec}{K:Params->PySem.W.Frag}{CX:World->CXT}{sp:World->Addr->Sp}{x:Str}
  (hn:l.most=some n)(hn2:n<=sizeLine)(hdf:d.params.defaults=[])(hr:Room k callerA)(hrec:d2∈recsOf q)(hnt:∀w:World,PySem.W.noTabs (K w.params)=true)
  (hY:∀(w:World) (h:Heap),YP w h->(K w.params).In h)
  (F:∀(w:World) (mg:Str->Option Value) (fa:Addr) (h:Heap),(K w.params).In h->h.Ns mainGlobals mg->mg d.name=some (.ref fa) →
   ∃(fd:FuncData) (f2:Addr) (fd2:FuncData),mg d2.name=some (.ref f2)/\(∃oc od osl,(K w.params).lookup f2=some ⟨oc,od,.func fd2,osl⟩)/\(∀(s:Shared) (u:Value),BindsTo s fd ⟨[u],[]⟩ [(x,u)]) ∧
    ∀(base:Heap) (cL PL:Addr),fd2.code= .ref cL->PySem.W.CodeHd base cL PL->base.BuiltinsAt mg PL->FnOk l.prog w (K w.params) mg base (CX w) k fa fd [x] (sp w PL))
  (hsp:∀(w:World) (PL:Addr) (H:Hp) (a:Addr) (ns:List Int),ns.length<=n->SqL (K w.params) H a (ns.map V.int)->H PL=some (.tbl #[])->sp w PL [.ref a] H (fun v _=>v= .bl true) fun _ _ _=>False)
  (hCX:∀(w:World) (H:Hp) (s:Shared) (e:Value) (s':Shared),CX w [] H s (fun _ _ _=>False) e s'->False) :
  PySem.W.WalkO q loose XP YP l.row.toRowW d [] (fun f vs=>PySem.call f vs):=by
 refine Att.attach_call hn hdf fun w s₀ s₁ mg mb fa o pm cd doc a vs ns G Y ho hd hcd hmg hobj hints hlen hg=> ?_;have KX:=hY w _ Y;obtain⟨fd,f2,fd2,hm2,⟨oc,od,osl,lk⟩,hb,hF⟩:=F w mg fa _ KX G.T.g hmg;obtain⟨a',o',fd',c,PL,h1,h2,h3,h4,h5,h6⟩:=G.T.tab d2 hrec;rw[hm2]at h1;cases h1;have e1:=KX _ _ lk;rw[h2]at e1;cases e1;have h3':fd2=fd':=by injection h3
 subst h3';have C:=PySem.W.CodeHd.of h5 h6;have hKP:(K w.params).lookup PL=none:=by
  cases q:(K w.params).lookup PL with
  | none=>rfl
  | some o2 =>
   have e2:=KX _ _ q;rw[h6.2]at e2;cases e2;have z:=List.all_eq_true.mp (hnt w) (PL,_) (PySem.W.mem_of_lookupK q);exact absurd (show false=true from z) Bool.false_ne_true
 exact MU KX G.T.g G.T.b G.T.builtins G.T.nolimit hg C h6.2 hKP G.T.bmain hobj hints (Nat.le_trans hlen hn2) hr (fun base hc hB=>hF base c PL h4 hc hB) hb (fun H hS hP=>hsp w PL H a ns hlen hS hP) fun H e s'=>hCX w H s₁ e s'
end L2
namespace L2
open PySem PySem.Spec PyProof.Rows
section
variable {X:Cx}
def O9 (K:PySem.W.Frag):R2:=fun x y H Q=>∃a b xs,x= .ref a/\y= .ref b/\SqL K H a xs/\SqL K H b []/\Q (.bl (!xs.isEmpty)) H
theorem EN (hu:X.A.units<cLine):OpR X (compareOp .NotEq) (O9 X.K):=by
 intro pins s σ H x y v u Q I rx ry h;obtain⟨a,b,xs,rfl,rfl,ha,hb,q⟩:=h;cases rx;cases ry;obtain⟨its,r,pl,hz⟩:=I.list ha;obtain⟨its2,r2,pl2,_⟩:=I.list hb;cases r2;cases xs with
 | nil =>
  cases r;refine SeqAt.RcNeAt.lists (e:=fun _=>true) pl.isList pl2.isList rfl hu (fun j h1=>absurd h1 (Nat.not_lt_zero _)) X.prog X.w X.xe _ ⟨.bl false,H,I,rfl,q⟩
 | cons x xs =>
  cases r with
  | cons r1 r2 =>
   exact SeqAt.RcNeAt.lists_lengths pl.isList pl2.isList (by simp) hu X.prog X.w X.xe _ ⟨.bl true,H,I,rfl,q⟩
theorem DY {K:PySem.W.Frag}{H:Hp}{Q:VK}{a b:Addr}{xs:List V} (ha:SqL K H a xs) (hb:SqL K H b []) (h:Q (.bl (!xs.isEmpty)) H):O9 K (.ref a) (.ref b) H Q:=⟨a,b,xs,rfl,rfl,ha,hb,h⟩
end
end L2
namespace L2
open PySem PySem.Spec PyProof.Rows
section
variable {κ:Type}[DecidableEq κ]
def bB (kvs:List (κ×V))(k:κ):Option V:=(kvs.find? fun kv=>decide (kv.1=k)).map (·.2)
def bX (kvs:List (κ×V))(k:κ)(v:V):List (κ×V) :=
 if (kvs.any fun kv=>decide (kv.1=k))=true then kvs.map (fun kv=>if kv.1=k then (kv.1,v) else kv) else kvs++[(k,v)]
theorem cW {p:κ×V}{r:List (κ×V)}{k:κ} (e:p.1=k):bB (p::r) k=some p.2:=by simp[bB,List.find?_cons,e]
theorem cJ {p:κ×V}{r:List (κ×V)}{k:κ} (e:¬p.1=k):bB (p::r) k=bB r k:=by simp[bB,List.find?_cons,e]
theorem k4 (k:κ):∀kvs:List (κ×V),(kvs.any fun kv=>decide (kv.1=k))=(bB kvs k).isSome
 | []=>rfl
 | p::r=>by
  rw[List.any_cons]
  by_cases e:p.1=k
  ·simp only[cW e,decide_eq_true e,Bool.true_or,Option.isSome_some]
  ·rw[cJ e,decide_eq_false e,Bool.false_or];exact k4 k r
theorem DV (k j:κ)(y:V):∀kvs:List (κ×V),bB (kvs.map fun kv=>if kv.1=k then (kv.1,y) else kv) j=(bB kvs j).map fun x=>if j=k then y else x
 | []=>rfl
 | p::r=>by
  have ih:=DV k j y r;rw[List.map_cons]
  by_cases h:p.1=k
  ·rw[if_pos h]
   by_cases e:p.1=j
   ·rw[cW (p:=(p.1,y)) e,cW e,Option.map_some,if_pos (e.symm.trans h)]
   ·rw[cJ (p:=(p.1,y)) e,cJ e,ih]
  ·rw[if_neg h]
   by_cases e:p.1=j
   ·rw[cW (p:=p) e,cW e,Option.map_some,if_neg (fun z=>h (e.trans z))]
   ·rw[cJ (p:=p) e,cJ e,ih]
theorem BO (k j:κ)(y:V):∀kvs:List (κ×V),bB kvs k=none->bB (kvs++[(k,y)]) j=if j=k then some y else bB kvs j
 | [],_=>by
  by_cases e:k=j
  ·rw[if_pos e.symm];exact cW (p:=(k,y)) e
  ·rw[if_neg (fun z=>e z.symm)];exact cJ (p:=(k,y)) e
 | p::r,hn=>by
  rw[List.cons_append];have hk:¬p.1=k:=fun z=>by rw[cW z]at hn;cases hn
  rw[cJ hk]at hn;have ih:=BO k j y r hn
  by_cases e:p.1=j
  ·rw[cW e,cW e,if_neg (fun z=>hk (e.trans z))]
  ·rw[cJ e,cJ e,ih]
theorem sV (kvs:List (κ×V))(k j:κ)(y:V):bB (bX kvs k y) j=if j=k then some y else bB kvs j:=by
 unfold bX
 by_cases a:(kvs.any fun kv=>decide (kv.1=k))=true
 ·rw[if_pos a,DV];rw[k4]at a
  by_cases e:j=k
  ·obtain⟨x,hx⟩:=Option.isSome_iff_exists.mp a;rw[if_pos e,e,hx,Option.map_some,if_pos rfl]
  ·rw[if_neg e];cases bB kvs j with
   | none=>rfl
   | some x=>rw[Option.map_some,if_neg e]
 ·rw[if_neg a];refine BO k j y kvs ?_;rw[k4]at a;cases q:bB kvs k with
  | none=>rfl
  | some x=>rw[q]at a;exact(a rfl).elim
theorem fX (kvs:List (κ×V))(k:κ)(v:V):(bX kvs k v).length<=kvs.length+1:=by
 unfold bX
 split
 ·rw[List.length_map];lia
 ·rw[List.length_append,List.length_cons,List.length_nil];lia
theorem nJ {kvs:List (κ×V)}{k:κ} (v:V) (h:bB kvs k=none):bX kvs k v=kvs++[(k,v)]:=by
 unfold bX;rw[k4,h];exact if_neg (by decide)
theorem RelO.isSome_eq {o:Option V}{u:Option Value} (r:RelO o u):o.isSome=u.isSome:=by
 cases o with
 | none=>cases u with
  | none=>rfl
  | some _=>exact(show False from r).elim
 | some _=>cases u with
  | none=>exact(show False from r).elim
  | some _=>rfl
theorem RelO.getD {o:Option V}{u:Option Value}{d:V}{d':Value} (r:RelO o u) (rd:RelV d d'):RelV (o.getD d) (u.getD d'):=by
 cases o with
 | none=>cases u with
  | none=>exact rd
  | some _=>exact(show False from r).elim
 | some _=>cases u with
  | none=>exact(show False from r).elim
  | some _=>exact r
theorem KV.val {kvs:List (κ×V)}{vs:List (κ×Value)} (r:KV kvs vs) (k:κ):RelO (bB kvs k) (valueAt vs k):=by
 unfold KV at r
 induction r with
 | nil=>exact True.intro
 | @cons p q ps qs h t ih =>
  obtain⟨h1,h2⟩:=h
  by_cases e:p.1=k
  ·have e':q.1=k:=h1.symm.trans e;have b:valueAt (q::qs) k=some q.2:=by simp[valueAt,List.find?_cons,e']
   rw[cW e,b];exact h2
  ·have e':¬q.1=k:=fun z=>e (h1.trans z);have b:valueAt (q::qs) k=valueAt qs k:=by simp[valueAt,List.find?_cons,e']
   rw[cJ e,b];exact ih
theorem KV.any {kvs:List (κ×V)}{vs:List (κ×Value)} (r:KV kvs vs) (k:κ):(kvs.any fun kv=>decide (kv.1=k))=vs.any fun kv=>decide (kv.1=k):=by
 unfold KV at r
 induction r with
 | nil=>rfl
 | cons h t ih=>rw[List.any_cons,List.any_cons,ih,h.1]
theorem KV.repl {kvs:List (κ×V)}{vs:List (κ×Value)} (r:KV kvs vs) (k:κ) {y:V}{u:Value} (ry:RelV y u) :
  KV (kvs.map fun kv=>if kv.1=k then (kv.1,y) else kv) (vs.map fun kv=>if kv.1=k then (kv.1,u) else kv):=by
 unfold KV at r ⊢
 induction r with
 | nil=>exact .nil
 | @cons p q ps qs h t ih =>
  rw[List.map_cons,List.map_cons];refine .cons ?_ ih;obtain⟨h1,h2⟩:=h
  by_cases e:p.1=k
  ·rw[if_pos e,if_pos (h1.symm.trans e)];exact⟨h1,ry⟩
  ·rw[if_neg e,if_neg (fun z=>e (h1.trans z))];exact⟨h1,h2⟩
theorem KV.put {kvs:List (κ×V)}{vs:List (κ×Value)} (r:KV kvs vs) (k:κ) {y:V}{u:Value} (ry:RelV y u):KV (bX kvs k y) (stored vs k u):=by
 unfold bX stored;rw[r.any k]
 by_cases e:(vs.any fun kv=>decide (kv.1=k))=true
 ·rw[if_pos e,if_pos e];exact r.repl k ry
 ·rw[if_neg e,if_neg e];exact Paired.snoc r ⟨rfl,ry⟩
theorem KV.length {kvs:List (κ×V)}{vs:List (κ×Value)} (r:KV kvs vs):kvs.length=vs.length:=Paired.length r
end
theorem tT {P:Program}{w:World}{k:Key}{u:Value} (r:RelV (kV k) u):(bO P w).is k u=true:=by
 cases k with
 | inl i=>obtain⟨t,e⟩:=(show ∃t,u=Value.int i t from r);subst e;exact HI P w i t
 | inr x=>obtain⟨t,e⟩:=(show ∃t,u=Value.str x t from r);subst e;exact HM P w x t
theorem BI {P:Program}{w:World}:∀{ks:List Key}{us:List Value},Vals (ks.map kV) us->ItemsAre (bO P w) ks us
 | [],_,r=>by rw[List.map_nil]at r;cases r;exact .nil
 | k::ks,_,r=>by
  rw[List.map_cons]at r;cases r with
  | cons h t=>exact .cons (tT h) (BI t)
abbrev KT (H:Hp):List (List Key×V)->List (List Key×Addr×Value)->Prop:=Paired fun p q=>p.1=q.1/\H q.2.1=some (.tup (p.1.map kV))/\RelV p.2 q.2.2
theorem KT.val {H:Hp}{kvs:List (List Key×V)}{xs:List (List Key×Addr×Value)} (r:KT H kvs xs) (k:List Key):RelO (bB kvs k) ((atKey xs k).map (·.2)):=by
 induction r with
 | nil=>exact True.intro
 | @cons p q ps qs h t ih =>
  obtain⟨h1,_,h2⟩:=h
  by_cases e:p.1=k
  ·have e':q.1=k:=h1.symm.trans e;have b:atKey (q::qs) k=some q.2:=by simp[atKey,List.find?_cons,e']
   rw[cW e,b];exact h2
  ·have e':¬q.1=k:=fun z=>e (h1.trans z);have b:atKey (q::qs) k=atKey qs k:=by simp[atKey,List.find?_cons,e']
   rw[cJ e,b];exact ih
theorem KT.repl {H:Hp}{kvs:List (List Key×V)}{xs:List (List Key×Addr×Value)} (r:KT H kvs xs) (k:List Key) {y:V}{u:Value} (ry:RelV y u) :
  KT H (kvs.map fun kv=>if kv.1=k then (kv.1,y) else kv) (xs.map (putAt k u)):=by
 induction r with
 | nil=>exact .nil
 | @cons p q ps qs h t ih =>
  rw[List.map_cons,List.map_cons];refine .cons ?_ ih;obtain⟨h1,h2,h3⟩:=h;unfold putAt
  by_cases e:p.1=k
  ·rw[if_pos e,if_pos (h1.symm.trans e)];exact⟨h1,h2,ry⟩
  ·rw[if_neg e,if_neg (fun z=>e (h1.trans z))];exact⟨h1,h2,h3⟩
theorem KT.put {H:Hp}{kvs:List (List Key×V)}{xs:List (List Key×Addr×Value)} (r:KT H kvs xs) (k:List Key) {b:Addr}{y:V}{u:Value} (hb:H b=some (.tup (k.map kV))) (ry:RelV y u) :
  KT H (bX kvs k y) (storedH xs k b u):=by
 have e:(kvs.any fun kv=>decide (kv.1=k))=(atKey xs k).isSome:=by
  rw[k4,(r.val k).isSome_eq,Option.isSome_map]
 unfold bX storedH;rw[e]
 by_cases q:(atKey xs k).isSome=true
 ·rw[if_pos q,if_pos q];exact r.repl k ry
 ·rw[if_neg q,if_neg q];exact Paired.snoc r ⟨rfl,hb,ry⟩
theorem KT.keeps {H H':Hp}{kvs:List (List Key×V)}{xs:List (List Key×Addr×Value)} (r:KT H kvs xs) (ht:∀b ys,H b=some (.tup ys)->H' b=some (.tup ys)):KT H' kvs xs :=
 Paired.mapP r fun _ _ z=>⟨z.1,ht _ _ z.2.1,z.2.2⟩
section
variable {P:Program}{w:World}{H:Hp}{h:Heap}{a:Addr}
theorem TH {u:HO}(ok:HOk P w H h)(e:Rd H a u):ObjOk P w H h a u:=e.ok ok
theorem qE {kvs:List (Key×V)}(ok:HOk P w H h)(e:Rd H a (.dK kvs)):kvs.length<=sizeLine/\(a==sysModules)=false/\∃vs,KV kvs vs/\h.DictOf (bO P w) a vs :=
 show ObjOk P w H h a (.dK kvs) from TH ok e
theorem TC {kvs:List (Key×V)}(ok:HOk P w H h)(e:H a=some (.dK kvs)):kvs.length<=sizeLine/\(a==sysModules)=false/\∃vs,KV kvs vs/\h.DictOf (bO P w) a vs:=qE ok (.inl e)
theorem rU {ks:List Key}(ok:HOk P w H h)(e:H a=some (.tup (ks.map kV))):(tupleKind (bO P w)).is h ks a:=by
 obtain⟨_,its,r,o,h1,h2,n,h3⟩:=(show ObjOk P w H h a (.tup (ks.map kV)) from ok a _ e)
 exact⟨o,its.toArray,n,h1,h2,h3,by simpa using BI r⟩
theorem tQ {kvs:List (List Key×V)}(ok:HOk P w H h)(e:Rd H a (.dT kvs)):kvs.length<=sizeLine/\(a==sysModules)=false ∧
  ∃xs,KT H kvs xs/\h.DictOfH (tupleKind (bO P w)) a xs:=by
 obtain⟨z,y,xs,r,o,es,ep,h1,h2,h3,h4,h5⟩:=(show ObjOk P w H h a (.dT kvs) from TH ok e)
 refine⟨z,y,xs,r,o,es,ep,h1,h2,h3,h4,fun x hx=> ?_,h5⟩;have all:∀{l:List (List Key×V)}{m:List (List Key×Addr×Value)},KT H l m->∀x∈m,(tupleKind (bO P w)).is h x.1 x.2.1:=by
  intro l m q
  induction q with
  | nil=>intro x hx;exact nomatch hx
  | @cons p q ps qs hq t ih =>
   intro x hx;rcases List.mem_cons.mp hx with e|hx
   ·subst e;exact rU ok (by rw[←hq.1];exact hq.2.1)
   ·exact ih x hx
 exact all r x hx
theorem aBf {kvs:List (List Key×V)}(ok:HOk P w H h)(e:H a=some (.dT kvs)):kvs.length<=sizeLine/\(a==sysModules)=false ∧
  ∃xs,KT H kvs xs/\h.DictOfH (tupleKind (bO P w)) a xs:=tQ ok (.inl e)
end
def DGet (H:Hp)(a:Addr)(y:V)(r:Option V):Prop :=
 (∃kvs k,Rd H a (.dK kvs)/\y=kV k/\r=bB kvs k)∨∃kvs k b,Rd H a (.dT kvs)/\y= .ref b/\H b=some (.tup (k.map kV))/\r=bB kvs k
def DPut (H:Hp)(a:Addr)(y v:V)(H':Hp):Prop :=
 (∃kvs k,H a=some (.dK kvs)/\y=kV k/\kvs.length<sizeLine/\H'=upd H a (.dK (bX kvs k v))) ∨
 ∃kvs k b,H a=some (.dT kvs)/\y= .ref b/\H b=some (.tup (k.map kV))/\kvs.length<sizeLine/\H'=upd H a (.dT (bX kvs k v))
theorem DGet.t {H:Hp}{a b:Addr}{kvs:List (List Key×V)}{k:List Key} (e:H a=some (.dT kvs)) (eb:H b=some (.tup (k.map kV))):DGet H a (.ref b) (bB kvs k):= .inr ⟨kvs,k,b,.inl e,rfl,eb,rfl⟩
theorem DPut.k {H:Hp}{a:Addr}{kvs:List (Key×V)}{k:Key}{v:V} (e:H a=some (.dK kvs)) (hl:kvs.length<sizeLine):DPut H a (kV k) v (upd H a (.dK (bX kvs k v))):= .inl ⟨kvs,k,e,rfl,hl,rfl⟩
theorem DPut.t {H:Hp}{a b:Addr}{kvs:List (List Key×V)}{k:List Key}{v:V} (e:H a=some (.dT kvs)) (eb:H b=some (.tup (k.map kV))) (hl:kvs.length<sizeLine) :
  DPut H a (.ref b) v (upd H a (.dT (bX kvs k v))):= .inr ⟨kvs,k,b,e,rfl,eb,hl,rfl⟩
section
variable {X:Cx}{pins:List (Addr×Obj)}{σ:St}{H:Hp}{s:Shared}{a:Addr}{y v:V}{u r:Value}{o:Option V}{A:Around}{E:Value->Shared->Prop}
theorem Inv.big (I:Inv X pins σ H s):sysModules<s.heap.objs.size:=by
 have h:mainGlobals<s.heap.objs.size:=(I.mod.glob.keeps I.bk).lt;exact Nat.lt_trans (by decide) h
theorem BY {Q:Value->Shared->Prop}(hu:A.units+1<cLine)(I:Inv X pins σ H s)(g:DGet H a y (some v))(ry:RelV y u)(h:∀w' s',Inv X pins σ H s'->RelV v w'->Q w' s') :
  wpAny (model X.prog X.w) A (getItem (.ref a) u) Q E s:=by
 rcases g with⟨kvs,k,e,ey,l⟩|⟨kvs,k,b,e,ey,eb,l⟩
 ·subst ey;obtain⟨z,hd,vs,rel,dd⟩:=qE I.hok e;obtain⟨w',hw,rw'⟩:=RelO.some_of (v:=v) (o:=valueAt vs k) (by rw[l];exact rel.val k);exact wpAny_getItem_of (tT ry) dd.mapOf hw (h w' _ (I.tok _) rw')
 ·subst ey;cases (show u=Value.ref b from ry);obtain⟨z,hd,xs,rel,dd⟩:=tQ I.hok e;obtain⟨w',hw,rw'⟩:=RelO.some_of (v:=v) (o:=(atKey xs k).map (·.2)) (by rw[l];exact rel.val k);obtain⟨p,hp,hp2⟩:=Option.map_eq_some_iff.mp hw;refine wpAny_getItem_heap (tupleKind_room_in1 hu) (rU I.hok eb) dd hp ?_;rw[hp2];exact h w' _ (I.tok _) rw'
theorem aBy {Q:Value->Shared->Prop}(hu:A.units+1<cLine)(I:Inv X pins σ H s)(g:DGet H a y o)(ry:RelV y u)(h:∀s',Inv X pins σ H s'->Q (.bool o.isSome) s') :
  wpAny (model X.prog X.w) A (compareOp .In u (.ref a)) Q E s:=by
 rcases g with⟨kvs,k,e,ey,l⟩|⟨kvs,k,b,e,ey,eb,l⟩
 ·subst ey;obtain⟨z,hd,vs,rel,dd⟩:=qE I.hok e;refine wpAny_in_of (tT ry) hd dd.mapOf ?_;rw[←(rel.val k).isSome_eq,←l];exact h _ (I.tok _)
 ·subst ey;cases (show u=Value.ref b from ry);obtain⟨z,hd,xs,rel,dd⟩:=tQ I.hok e;refine wpAny_in_heap (tupleKind_room_in1 hu) (rU I.hok eb) hd dd ?_;have q:=(rel.val k).isSome_eq;rw[Option.isSome_map]at q;rw[←q,←l];exact h _ (I.tok _)
theorem VL {Q:Value->Shared->Prop}(hu:A.units+1<cLine)(I:Inv X pins σ H s)(g:DGet H a y o)(ry:RelV y u)(h:∀s',Inv X pins σ H s'->Q (.bool (!o.isSome)) s') :
  wpAny (model X.prog X.w) A (compareOp .NotIn u (.ref a)) Q E s:=by
 rcases g with⟨kvs,k,e,ey,l⟩|⟨kvs,k,b,e,ey,eb,l⟩
 ·subst ey;obtain⟨z,hd,vs,rel,dd⟩:=qE I.hok e;refine wpAny_notIn_of (tT ry) hd dd.mapOf ?_;rw[←(rel.val k).isSome_eq,←l];exact h _ (I.tok _)
 ·subst ey;cases (show u=Value.ref b from ry);obtain⟨z,hd,xs,rel,dd⟩:=tQ I.hok e;refine wpAny_notIn_heap (tupleKind_room_in1 hu) (rU I.hok eb) hd dd ?_;have q:=(rel.val k).isSome_eq;rw[Option.isSome_map]at q;rw[←q,←l];exact h _ (I.tok _)
theorem HV {h':Heap}{t':Nat}{ob:HO} (I:Inv X pins σ H s) (mu:Mut (H a)) (hs:Heap.SameBut a s.heap h') (he:∃q,h'.get? a=some q) (new:ObjOk X.prog X.w (upd H a ob) h' a ob) :
  Inv X pins σ (upd H a ob) { s with heap:=h',toks:=t' } :=
 I.write (x:=a) (e:=a) mu (.inl rfl) (fun b q hb z=>(hs.2 b hb).trans z) he new
theorem MT {P:Program}{w:World}{H':Hp}{h':Heap}{kvs:List (Key×V)}{vs:List (Key×Value)} (z:kvs.length<=sizeLine) (hd:(a==sysModules)=false) (rel:KV kvs vs) (dd:h'.DictOf (bO P w) a vs) :
  ObjOk P w H' h' a (.dK kvs):=⟨z,hd,vs,rel,dd⟩
theorem BH {H':Hp}{Q:Unit->Shared->Prop} (hu:A.units+1<cLine) (I:Inv X pins σ H s) (g:DPut H a y v H') (ry:RelV y u) (rv:RelV v r) (h:∀s',Inv X pins σ H' s'->Q () s') :
  wpAny (model X.prog X.w) A (setItem (.ref a) u r) Q E s:=by
 rcases g with⟨kvs,k,e,ey,l,eH⟩|⟨kvs,k,b,e,ey,eb,l,eH⟩
 ·subst ey eH;obtain⟨z,hd,vs,rel,dd⟩:=TC I.hok e;have hz:vs.length<=sizeLine:=by rw[←rel.length];exact z
  have hl:(bX kvs k v).length<=sizeLine:=by have:=fX kvs k v;lia
  refine wpAny_setItem_pairs (hsz:=hz) (tT ry) dd fun h' dd' hs=>h _ ?_;have he:∃q,h'.get? a=some q:=let ⟨q,_,_,hq,_⟩:=dd';⟨q,hq⟩;exact HV I (by rw[e];exact True.intro) hs he (MT hl hd (rel.put k rv) dd')
 ·subst ey eH;cases (show u=Value.ref b from ry);obtain⟨z,hd,xs,rel,dd⟩:=aBf I.hok e;have hz:xs.length<=sizeLine:=by rw[←Paired.length rel];exact z
  have hl:(bX kvs k v).length<=sizeLine:=by have:=fX kvs k v;lia
  refine wpAny_setItem_heap (hsz:=hz) (tupleKind_room_in1 hu) (rU I.hok eb) dd fun h' dd' hs=>h _ ?_;obtain⟨q,es,ep,hq,h2,h3,h4,_,h5⟩:=dd';refine HV I (by rw[e];exact True.intro) hs ⟨q,hq⟩ ⟨hl,hd,_,(rel.put k eb rv).keeps fun c ys ec=> ?_,q,es,ep,hq,h2,h3,h4,h5⟩;rw[aJ (aA6 ec e (fun z=>nomatch z))];exact ec
end
section
variable {X:Cx}{pins:List (Addr×Obj)}{σ:St}{H:Hp}{s:Shared}{a:Addr}{kvs:List (Key×V)}{k:Key}{u:Value}{A:Around}{E:Value->Shared->Prop}
end
def ZQ (i:Expr):Prop:=∀ov iv,subscripted i false ov iv=operate [ov,iv] (getItem ov iv)
theorem WG {prog:Program}{w:World}{A:Around}{E:Value->Shared->Prop}{s:Shared}{env:Env}{value slice:Expr}{pos:Pos}{T id:String}{Q:Value->Shared->Prop}
  (hl:typeLookup (.type T) "__getitem__" =pure (some (.builtin id)))(hs:ZQ slice)
  (h:wpAny (model prog w) A (eval value env) (fun o s₁=>wpAny (model prog w) A (eval slice env) (fun i s₂=>s₂.TypeIs o T/\wpAny (model prog w) A (getItem o i) Q E s₂) E s₁) E s) :
  wpAny (model prog w) A (eval (.Subscript value slice pos) env) Q E s:=by
 refine Subscript_ (wpAny_mono h (fun o s₁ h₁=>wpAny_mono h₁ (fun i s₂ h₂=> ?_) fun _ _ x=>x) fun _ _ x=>x);obtain⟨hT,h₂⟩:=h₂;unfold subscriptTail;refine wpAny_bind ?_;rw[getitemInPython_of_ne hT.not_modules];refine wpAny_bind (wpAny_specialOf hT hl ?_);have fin:wpAny (model prog w) A (subscripted slice false o i) (fun r s₃=>wpAny (model prog w) A (letTemporaryGo value o r >>= fun _=>pure r) Q E s₃) E s₂:=by
  rw[hs o i];exact wpAny_operating (wpAny_mono h₂ (fun r s₃ h₃=>wpAny_bind (wpAny_letTemporaryGo (wpAny_pure h₃))) fun _ _ x=>x)
 first
  | exact wpAny_pure (wpAny_bind fin)
  | exact wpAny_bind (wpAny_pure (wpAny_bind fin))
  | exact wpAny_bind fin
theorem HB {X:Cx}{pins:List (Addr×Obj)}{σ:St}{H:Hp}{s:Shared}{a:Addr}{y:V}{o:Option V} (I:Inv X pins σ H s) (g:DGet H a y o):s.TypeIs (.ref a) "dict" :=by
 rcases g with⟨kvs,k,e,_,_⟩|⟨kvs,k,b,e,_,_,_⟩
 ·obtain⟨_,_,vs,_,dd⟩:=qE I.hok e;exact dd.typeIs
 ·obtain⟨_,_,xs,_,dd⟩:=tQ I.hok e;exact dd.typeIs
def SN (td ty:TE):TE:=fun σ H Q=>td σ H fun x H1=>ty σ H1 fun y H2=>∃a v,x= .ref a/\DGet H2 a y (some v)/\Q v H2
def ZN (ty td:TE):TE:=fun σ H Q=>ty σ H fun y H1=>td σ H1 fun x H2=>∃a o,x= .ref a/\DGet H2 a y o/\Q (.bl o.isSome) H2
def HU (ty td:TE):TE:=fun σ H Q=>ty σ H fun y H1=>td σ H1 fun x H2=>∃a o,x= .ref a/\DGet H2 a y o/\Q (.bl (!o.isSome)) H2
def SY (td ty tv:TE):TS:=fun D σ H=>tv σ H fun v H1=>td σ H1 fun x H2=>ty σ H2 fun y H3=>∃a H4,x= .ref a/\DPut H3 a y v H4/\D.nx σ H4
def SM (td ty tv:TE)(rd:V->V->Hp->VK->Prop):TS:=fun D σ H=>td σ H fun x H1=>ty σ H1 fun y H2=>∃a v,x= .ref a/\DGet H2 a y (some v) ∧
 tv σ H2 fun y2 H3=>rd v y2 H3 fun z H4=>∃H5,DPut H4 a y z H5/\D.nx σ H5
section
variable {X:Cx}{o i e value:Expr}{pos pos' tpos:Pos}{td ty tv:TE}
theorem bT (hu:X.A.units+1<cLine)(ho:PE X o td)(hi:PE X i ty)(hs:ZQ i):PE X (.Subscript o i pos) (SN td ty):=by
 intro pins s σ H Q I h;refine WG PySem.F.slot_dict_getitem.lookup hs (thn (ho pins s σ H _ I h) fun u s1 ⟨x,H1,I1,rx,q1⟩=>thn (hi pins s1 σ H1 _ I1 q1) fun iv s2 ⟨y,H2,I2,ry,a,v,ex,g,q2⟩=> ?_);subst ex;obtain rfl:u=Value.ref a:=rx;exact⟨HB I2 g,BY hu I2 g ry fun w' s3 I3 rw'=>⟨v,H2,I3,rw',q2⟩⟩
theorem ZT (hu:X.A.units+1<cLine)(hi:PE X i ty)(ho:PE X o td):PC X .In i o (ZN ty td):=by
 intro pins s σ H Q I h;refine thn (hi pins s σ H _ I h) fun iv s1 ⟨y,H1,I1,ry,q1⟩=>thn (ho pins s1 σ H1 _ I1 q1) fun u s2 ⟨x,H2,I2,rx,a,ov,ex,g,q2⟩=> ?_;subst ex;obtain rfl:u=Value.ref a:=rx;exact aBy hu I2 g ry fun s3 I3=>⟨.bl ov.isSome,H2,I3,rfl,q2⟩
theorem CB (hu:X.A.units+1<cLine)(hi:PE X i ty)(ho:PE X o td):PC X .NotIn i o (HU ty td):=by
 intro pins s σ H Q I h;refine thn (hi pins s σ H _ I h) fun iv s1 ⟨y,H1,I1,ry,q1⟩=>thn (ho pins s1 σ H1 _ I1 q1) fun u s2 ⟨x,H2,I2,rx,a,ov,ex,g,q2⟩=> ?_;subst ex;obtain rfl:u=Value.ref a:=rx;exact VL hu I2 g ry fun s3 I3=>⟨.bl (!ov.isSome),H2,I3,rfl,q2⟩
theorem c5 (hu:X.A.units+1<cLine)(ho:PE X o td)(hi:PE X i ty)(hv:PE X value tv)(hs:swapsWith value (some (.Subscript o i pos')) pos.line X.env=pure false) :
  PS X (.Assign [.Subscript o i pos'] value pos) (SY td ty tv):=by
 intro pins s σ H D I h;refine wpAny_Assign_Subscript (thn (hv pins s σ H _ I h) fun r s1 ⟨v,H1,I1,rv,q1⟩=>thn (ho pins s1 σ H1 _ I1 q1) fun u s2 ⟨x,H2,I2,rx,q2⟩=>thn (hi pins s2 σ H2 _ I2 q2) fun iv s3 ⟨y,H3,I3,ry,a,H4,ex,g,q3⟩=> ?_) hs;subst ex;obtain rfl:u=Value.ref a:=rx;exact BH hu I3 g ry rv fun s4 I4=>⟨σ,H4,I4,q3⟩
theorem WL {op:Operator}{rd:V->V->Hp->VK->Prop} (hu:X.A.units+1<cLine) (ho:PE X o td) (hi:PE X i ty) (hv:PE X value tv) (hop:Y4 X op rd)
  (ha:∀ov iv new,augStore i ov iv new=(do holding [new,ov,iv] (setItem ov iv new);release [new,ov,iv] [];pure .next)):PS X (.AugAssign (.Subscript o i tpos) op value pos) (SM td ty tv rd):=by
 intro pins s σ H D I h;refine wpAny_AugAssign_SubscriptAny (thn (ho pins s σ H _ I h) fun u s1 ⟨x,H1,I1,rx,q1⟩=>thn (hi pins s1 σ H1 _ I1 q1) fun iv s2 ⟨y,H2,I2,ry,a,v,ex,g,q2⟩=> ?_) ha;subst ex;obtain rfl:u=Value.ref a:=rx;refine BY hu I2 g ry fun w' s3 I3 rw'=>thn (hv pins s3 σ H2 _ I3 q2) fun w2 s4 ⟨y2,H3,I4,ry2,q3⟩=>thn (hop pins s4 σ H3 v y2 w' w2 _ I4 rw' ry2 q3) fun w3 s5 ⟨z,H4,I5,rz,H5,g5,q4⟩=> ?_;exact BH hu I5 g5 ry rz fun s6 I6=>⟨σ,H5,I6,q4⟩
end
theorem QK {P:Program}{w:World}{H:Hp} (h:Heap) (hb:sysModules<h.objs.size):ObjOk P w H (h.push { cls:= .type "dict",data:= .dict #[] }) h.objs.size (.dK []) :=
 ⟨Nat.zero_le _,beq_eq_false_iff_ne.mpr (Ne.symm (Nat.ne_of_lt hb)),[],.nil,Heap.DictOf.new h⟩
theorem RM {P:Program}{w:World}{H:Hp} (h:Heap) (hb:sysModules<h.objs.size):ObjOk P w H (h.push { cls:= .type "dict",data:= .dict #[] }) h.objs.size (.dT []) :=
 ⟨Nat.zero_le _,beq_eq_false_iff_ne.mpr (Ne.symm (Nat.ne_of_lt hb)),[],.nil,_,#[],0,Heap.get?_push_size _ rfl,⟨rfl,rfl,rfl⟩,rfl,rfl,List.nodup_nil⟩
def O0:TE:=fun _ H Q=>∀p,H p=none->Q (.ref p) (upd H p (.dK []))
def MV:TE:=fun _ H Q=>∀p,H p=none->Q (.ref p) (upd H p (.dT []))
section
variable {X:Cx}{pos:Pos}
theorem k3:PE X (.Dict [] [] pos) O0:=fun pins s σ H Q I h =>
 wpAny_Dict_empty ⟨.ref s.heap.objs.size,_,I.laid (a:=s.heap.objs.size) (o:= .dK []) (t':=s.toks) (fun _ _ q=>Heap.get?_push_of_some _ q) (Nat.le_refl _) (QK s.heap I.big),rfl,h _ (I.hok.fresh (Nat.le_refl _))⟩
theorem tG:PE X (.Dict [] [] pos) MV:=fun pins s σ H Q I h =>
 wpAny_Dict_empty ⟨.ref s.heap.objs.size,_,I.laid (a:=s.heap.objs.size) (o:= .dT []) (t':=s.toks) (fun _ _ q=>Heap.get?_push_of_some _ q) (Nat.le_refl _) (RM s.heap I.big),rfl,h _ (I.hok.fresh (Nat.le_refl _))⟩
end
def iK (kvs more:List (Key×V)):List (Key×V):=more.foldl (fun acc kv=>bX acc kv.1 kv.2) kvs
theorem KV.merge:∀{more:List (Key×V)}{rs:List (Key×Value)}{kvs:List (Key×V)}{vs:List (Key×Value)},KV more rs->KV kvs vs->KV (iK kvs more) (merged vs rs):=by
 intro more rs kvs vs r;unfold KV at r
 induction r generalizing kvs vs with
 | nil=>intro q;exact q
 | @cons p q ps qs h t ih =>
  intro r0;have e:KV (bX kvs p.1 p.2) (stored vs q.1 q.2):=by
   have:=r0.put p.1 h.2;rw[←h.1];exact this
  exact ih e
theorem t7:∀(more kvs:List (Key×V)),(iK kvs more).length<=kvs.length+more.length
 | [],kvs=>by show kvs.length<=kvs.length+0;lia
 | p::r,kvs=>by
  have h1:=t7 r (bX kvs p.1 p.2);have h2:=fX kvs p.1 p.2;show (iK (bX kvs p.1 p.2) r).length<=_;rw[List.length_cons];lia
structure M2 (X:Cx)(o:Expr)(m:Str)(apos:Pos)(e f:Expr)(cpos:Pos):Prop where
 base:attributeBase o m X.env (eval o X.env)=eval o X.env
 few:((backTo cpos (starEach [e,f] X.env)).all (fun x=> !x.1)&&(backToKw cpos (keywordEach [] X.env)).all (fun x=>x.1.isSome)
  && decide (([e,f]:List Expr).length+([]:List Keyword).length+(if ([]:List Keyword).isEmpty then 0 else 1)<30))=true
 line:(apos.endLine==cpos.line)=true
 trees:backTo cpos (starEach [e,f] X.env)=[(false,eval e X.env),(false,eval f X.env)]
def IsD (H:Hp)(a:Addr):Prop:=(∃kvs,Rd H a (.dK kvs))∨∃kvs,Rd H a (.dT kvs)
theorem E5 {X:Cx}{pins:List (Addr×Obj)}{σ:St}{H:Hp}{s:Shared}{a:Addr} (I:Inv X pins σ H s) (d:IsD H a) :
  s.TypeIs (.ref a) "dict" /\(∀b,Value.ref a= .ref b->∃ob,s.heap.get? b=some ob/\ob.dict=none)/\(a==sysModules)=false:=by
 rcases d with⟨kvs,e⟩|⟨kvs,e⟩
 ·obtain⟨_,hd,vs,_,dd⟩:=qE I.hok e;refine⟨dd.typeIs,fun b q=> ?_,hd⟩;cases q;obtain⟨ob,_,_,h1,h2,_⟩:=dd;exact⟨ob,h1,h2.2.1⟩
 ·obtain⟨_,hd,xs,_,dd⟩:=tQ I.hok e;refine⟨dd.typeIs,fun b q=> ?_,hd⟩;cases q;obtain⟨ob,_,_,h1,h2,_⟩:=dd;exact⟨ob,h1,h2.2.1⟩
section
variable {X:Cx}{pins:List (Addr×Obj)}{σ:St}{H:Hp}{s:Shared}{a:Addr}{y d:V}{u r:Value}{o:Option V}{A:Around}{E:Value->Shared->Prop}
theorem Z3 {Q:Value->Shared->Prop}(hu:A.units+1<cLine)(I:Inv X pins σ H s)(g:DGet H a y o)(ry:RelV y u)(rd:RelV d r)(h:∀w' s',Inv X pins σ H s'->RelV (o.getD d) w'->Q w' s') :
  wpAny (model X.prog X.w) A (call (.builtin "dict.get") [.ref a,u,r]) Q E s:=by
 rcases g with⟨kvs,k,e,ey,l⟩|⟨kvs,k,b,e,ey,eb,l⟩
 ·subst ey;obtain⟨z,hd,vs,rel,dd⟩:=qE I.hok e;refine call_meetsIn PySem.F.slot_dict_get dd.typeIs PySem.F.entry_dict_get (PySem.F.args_dict_get_3 _ _ _) (meets_dict_get_default (bO X.prog X.w) a (tT ry) hd r) ⟨_,dd.mapOf,h _ _ (I.tok _) ?_⟩;rw[l];exact(rel.val k).getD rd
 ·subst ey;cases (show u=Value.ref b from ry);obtain⟨z,hd,xs,rel,dd⟩:=tQ I.hok e;refine call_meetsIn PySem.F.slot_dict_get dd.typeIs PySem.F.entry_dict_get (PySem.F.args_dict_get_3 _ _ _) (meetsH_dict_get_default (tupleKind (bO X.prog X.w)) a b hd r) ⟨tupleKind_room_in1 hu,k,xs,rU I.hok eb,dd,h _ _ (I.tok _) ?_⟩;rw[l];exact(rel.val k).getD rd
end
def MA (td ty tx:TE):TE:=fun σ H Q=>td σ H fun x H1=>∃a,x= .ref a/\IsD H1 a/\ty σ H1 fun y H2=>tx σ H2 fun z H3=>∃o,DGet H3 a y o/\Q (o.getD z) H3
section
variable {X:Cx}{o e f:Expr}{apos cpos:Pos}{td ty tx:TE}
theorem nK (hu:X.A.units+1<cLine)(ho:PE X o td)(he:PE X e ty)(hf:PE X f tx)(m:M2 X o "get" apos e f cpos):PE X (.Call (.Attribute o "get" apos) [e,f] [] cpos) (MA td ty tx):=by
 intro pins s σ H Q I h;refine wpAny_Call_method m.base m.few m.line PySem.F.plainAttrs_dict PySem.F.slot_dict_get PySem.F.type_dict_get (thn (ho pins s σ H _ I h) fun u s1 ⟨x,H1,I1,rx,a,ex,d,q1⟩=> ?_);subst ex;obtain rfl:u=Value.ref a:=rx;obtain⟨t1,t2,_⟩:=E5 I1 d;refine⟨t1,t2,?_⟩;rw[m.trees];refine Calls.callWith_builtin rfl (Calls.evalArgs_plain (Calls.spliced_cons (thn (he pins s1 σ H1 _ I1 q1) fun iv s2 ⟨y,H2,I2,ry,q2⟩ =>
  Calls.spliced_cons (thn (hf pins s2 σ H2 _ I2 q2) fun fv s3 ⟨z,H3,I3,rz,ov,g,q3⟩=>Calls.spliced_nil ?_))))
 exact Z3 hu I3 g ry rz fun w' s4 I4 rw'=>⟨_,H3,I4,rw',q3⟩
end
section
variable {X:Cx}{pins:List (Addr×Obj)}{σ:St}{H:Hp}{s:Shared}{a:Addr}{kvs:List (Key×V)}{A:Around}{E:Value->Shared->Prop}
end
section
variable {X:Cx}{pins:List (Addr×Obj)}{σ:St}{H:Hp}{s:Shared}{a:Addr}{y:V}{u:Value}{A:Around}{E:Value->Shared->Prop}
end
end L2
namespace L2
open PySem PySem.Spec PyProof.Rows
section
variable {κ:Type}[DecidableEq κ]
theorem JN:∀{l:List κ}{k:κ},l.Nodup->¬k∈l->(l++[k]).Nodup
 | [],k,_,_=>by simp
 | a::r,k,h,hk=>by
  obtain⟨h1,h2⟩:=List.nodup_cons.mp h;show (a::(r++[k])).Nodup;refine List.nodup_cons.mpr ⟨fun m=> ?_,JN h2 fun m=>hk (List.mem_cons.mpr (Or.inr m))⟩;rcases List.mem_append.mp m with q|q
  ·exact h1 q
  ·exact hk (List.mem_cons.mpr (Or.inl (List.mem_singleton.mp q).symm))
end
end L2
namespace L2
open PySem PySem.W PyProof.Rows
def aV {α:Type}(c:Nat->Nat->Bool):KasT α->α
 | .ret a=>a
 | .ask i j k=>aV c (k (c i j))
def KasIn {α:Type}(n:Nat)(R:α->Prop):KasT α->Prop
 | .ret a=>R a
 | .ask i j k=>i<n/\j<n/\∀b,KasIn n R (k b)
theorem KasIn.bind {α β:Type}{n:Nat}{R:α->Prop}{S:β->Prop}{f:α->KasT β} (hf:∀a,R a->KasIn n S (f a)):∀{t:KasT α},KasIn n R t->KasIn n S (t.bind f)
 | .ret _,h=>hf _ h
 | .ask _ _ _,h=>⟨h.1,h.2.1,fun b=>KasIn.bind hf (h.2.2 b)⟩
theorem KasIn.val {α:Type}{n:Nat}{R:α->Prop} (c:Nat->Nat->Bool):∀{t:KasT α},KasIn n R t->R (aV c t)
 | .ret _,h=>h
 | .ask i j k,h=>KasIn.val c (t:=k (c i j)) (h.2.2 (c i j))
theorem KasIn.wp {α:Type}{n:Nat}{R:α->Prop}{c:Nat->Nat->Bool}{cmp:Nat->Nat->(Bool->Shared->Prop)->Shared->Prop}{s:Shared} (hc:∀i j,i<n->j<n->∀C,C (c i j) s->cmp i j C s) {Q:α->Shared->Prop} :
  ∀{t:KasT α},KasIn n R t->Q (aV c t) s->t.kasWp cmp Q s
 | .ret _,_,q=>q
 | .ask i j k,h,q=>hc i j h.1 h.2.1 _ (KasIn.wp hc (t:=k (c i j)) (h.2.2 (c i j)) q)
abbrev Places (n:Nat)(p:Array Nat):Prop:=p.Perm (List.range n).toArray
theorem Places.lt {n:Nat}{p:Array Nat} (h:Places n p) (h0:0<n) (i:Nat):p.getD i 0<n:=by
 by_cases hi:i<p.size
 ·have e:p.getD i 0=p[i]:=by simp[Array.getD,hi]
  rw[e];have:=h.mem_iff.mp (Array.getElem_mem hi)
  simpa using this
 ·have e:p.getD i 0=0:=by simp[Array.getD,hi]
  rw[e];exact h0
theorem jV {n:Nat}{p:Array Nat} (h:Places n p) (i j:Nat):Places n (kas_rev p i j):=(mirror_perm _ _ _ _).trans h
theorem F6 {n:Nat}{p:Array Nat} (h0:0<n) (hp:Places n p):∀(f k:Nat),KasIn n (fun _=>True) (kas_asc p f k)
 | 0,_=>trivial
 | f+1,k=>⟨hp.lt h0 _,hp.lt h0 _,fun b=>by cases b with|true=>exact trivial|false=>exact F6 h0 hp f (k+1)⟩
theorem vZ {n:Nat}(h0:0<n):∀(f:Nat) {p:Array Nat},Places n p->∀k q,KasIn n (fun r:Array Nat×Nat×Nat=>Places n r.1) (kas_desc f p k q)
 | 0,_,hp,_,_=>hp
 | f+1,p,hp,k,q=>by
  refine⟨hp.lt h0 _,hp.lt h0 _,fun b=> ?_⟩;cases b with
  | true =>
   show KasIn n _ (if q>0 then _ else _)
   split
   ·exact vZ h0 f (jV hp _ _) _ _
   ·exact vZ h0 f hp _ _
  | false =>
   refine⟨hp.lt h0 _,hp.lt h0 _,fun b=> ?_⟩;cases b with
   | true=>exact hp
   | false=>exact vZ h0 f hp _ _
theorem EW {n k m:Nat}{p:Array Nat} (h0:0<n) (hp:Places n p):KasIn n (fun r:Nat×Array Nat=>Places n r.2) (kas_tail3 k m p) :=
 KasIn.bind (R:=fun _=>True) (S:=fun r:Nat×Array Nat=>Places n r.2) (f:=fun j=> .ret (j,kas_rev p 0 k)) (fun _ _=>jV hp 0 k) (F6 h0 (jV hp 0 k) (m - k) k)
theorem wL {n k m:Nat}{p:Array Nat} (h0:0<n) (hp:Places n p):KasIn n (fun r:Nat×Array Nat=>Places n r.2) (kas_descPart k m p) :=
 KasIn.bind (fun r hr=>by
  split
  ·exact EW h0 (jV hr _ _)
  ·exact EW h0 hr) (vZ h0 _ hp _ _)
theorem RU {n m:Nat}{p:Array Nat} (h0:0<n) (hp:Places n p):KasIn n (fun r:Nat×Array Nat=>Places n r.2) (kas_count m p) :=
 KasIn.bind (fun k _=>by
  split
  ·exact hp
  ·split
   ·refine⟨hp.lt h0 _,hp.lt h0 _,fun b=> ?_⟩;cases b with
    | true=>exact hp
    | false=>exact wL h0 (jV hp _ _)
   ·exact wL h0 hp) (F6 h0 hp _ _)
theorem xI {n k:Nat}{p:Array Nat} (h0:0<n) (hp:Places n p):∀(f l r:Nat),KasIn n (fun _=>True) (kas_place p k f l r)
 | 0,_,_=>trivial
 | f+1,l,r=>by
  unfold kas_place
  split
  ·exact trivial
  ·refine⟨hp.lt h0 _,hp.lt h0 _,fun b=> ?_⟩;cases b with
   | true=>exact xI h0 hp f _ _
   | false=>exact xI h0 hp f _ _
theorem NJ {n:Nat}(h0:0<n):∀(f:Nat) {p:Array Nat} (k:Nat),Places n p->KasIn n (Places n) (kas_bin f p k)
 | 0,_,_,hp=>hp
 | f+1,_,k,hp=>KasIn.bind (fun _ _=>NJ h0 f (k+1) ((bubble_perm _ _ _).trans hp)) (xI h0 hp _ _ _)
theorem AY {n:Nat}(h0:0<n):KasIn n (Places n) (kas_sort n) :=
 KasIn.bind (fun r hr=>by
  split
  ·exact NJ h0 _ _ hr
  ·exact hr) (RU h0 (Array.Perm.refl _))
def b7 {α:Type}(d:α)(c:Nat->Nat->Bool)(l:List α):List α:=if l.length<2 then l else (aV c (kas_sort l.length)).toList.map fun i=>l.getD i d
theorem dR {n:Nat}(c:Nat->Nat->Bool)(h:0<n):Places n (aV c (kas_sort n)):=(AY h).val c
theorem rJ {α:Type}(d:α)(c:Nat->Nat->Bool)(l:List α):(b7 d c l).length=l.length:=by
 unfold b7
 split
 ·rfl
 ·have h:=(dR (n:=l.length) c (by lia)).size_eq;rw[List.length_map,Array.length_toList,h];simp
end L2
namespace L2
open PySem PySem.W PyProof.Rows PySem.Calls
section
variable {prog:Program}{w:World}{A:Around}{E:Value->Shared->Prop}{s:Shared}
abbrev mV (a:Addr)(h h':Heap):Prop:=∀b o,b≠a->h.get? b=some o->h'.get? b=some o
theorem HX {a:Addr}{vs:List Value}{n:Nat}{P:PySem.Fin->Shared->Prop} (c:Nat->Nat->Bool) (κ:SortKind) (ho:s.heap.get? a=some (seqObj "list" vs.toArray n)) (h64:vs.length<64)
  (hk:2<=vs.length->∀h',mV a s.heap h'->∀R:SortKind->Shared->Prop,R κ { s with heap:=h' }->wpAny (model prog w) A (keyKind' vs.toArray) R (fun _ _=>False) { s with heap:=h' })
  (hc:2<=vs.length->∀h',mV a s.heap h'->∀i j,i<vs.length->j<vs.length->∀C,C (c i j) { s with heap:=h' }->kas_ask prog w A κ vs i j C { s with heap:=h' })
  (h:∀h' e,mV a s.heap h'->h'.get? a=some (seqObj "list" (b7 Value.none c vs).toArray e)->P (.done (.ret .none)) { s with heap:=h' }) :
  wpAny (model prog w) A (Builtin.«list.sort» ⟨[.ref a],[]⟩) P E s:=by
 have lt:a<s.heap.objs.size:=Heap.lt_size ho;generalize hg1:s.heap.update a (Obj.mapSeq fun _=>(#[]:Array Value))=g1;have sb1:Heap.SameBut a s.heap g1:=hg1▸Heap.SameBut.update s.heap a (Obj.mapSeq fun _=>(#[]:Array Value));obtain⟨e1,o1⟩:∃e1,g1.get? a=some (seqObj "list" #[] e1):=hg1▸⟨_,get?_update_seq ho fun _=> #[]⟩;have lt1:a<g1.objs.size:=Heap.lt_size o1;have kp:mV a s.heap ((g1.push (seqObj "tuple" vs.toArray 0)).push (seqObj "list" #[] 0)):=fun b o hb q =>
  Heap.get?_push_of_some _ (Heap.get?_push_of_some _ ((sb1.2 b hb).trans q))
 have o3:((g1.push (seqObj "tuple" vs.toArray 0)).push (seqObj "list" #[] 0)).get? a=some (seqObj "list" #[] e1):=Heap.get?_push_of_some _ (Heap.get?_push_of_some _ o1);generalize hg3:(g1.push (seqObj "tuple" vs.toArray 0)).push (seqObj "list" #[] 0)=g3 at kp o3;have fin:∀out:List Value,out.length=vs.length->out=b7 Value.none c vs->wpAny (model prog w) A (do
   let touched:=(←seqEpoch a) !=e1
   Builtin.List.listUpdate (.ref a) fun _=>out.toArray
   if let some e:=(none:Option Value) then rule "list.sort.comparison-raised";throw e
   if touched then rule "list.sort.modified";raiseError "ValueError" "list modified during sort"
   ret .none) P E { s with heap:=g3 }:=by
  intro out hl ho';obtain⟨e2,o4⟩:∃e2,(g3.update a (Obj.mapSeq fun _=>out.toArray)).get? a=some (seqObj "list" out.toArray e2):=⟨_,get?_update_seq o3 fun _=>out.toArray⟩
  refine wpAny_bind (seqEpoch_at (s:={ s with heap:=g3 }) o3 rfl ?_);refine wpAny_bind (listUpdate_at (s:={ s with heap:=g3 }) o3 rfl ?_ (Nat.zero_le _) (by rw[List.size_toArray,sizeLine_eq];lia));simp only[bne_self_eq_false,Bool.false_eq_true,if_false];refine wpAny_pure (h _ e2 (fun b o hb q=> ?_) (ho'▸o4));exact((Heap.SameBut.update g3 a (Obj.mapSeq fun _=>out.toArray)).2 b hb).trans (kp b o hb q)
 rw[list_sort_plain];refine wpAny_bind (listItems_at ho rfl (wpAny_bind (listUpdate_at ho rfl ?_ (by rw[List.size_toArray,sizeLine_eq];lia) (Nat.zero_le _))));rw[hg1];refine wpAny_bind (seqEpoch_at (s:={ s with heap:=g1 }) o1 rfl ?_);refine wpAny_bind (wpAny_newTuple ?_ (by show vs.length<=_;rw[sizeLine_eq];lia));refine wpAny_bind (wpAny_newList ?_ (Nat.zero_le _));refine wpAny_holding ?_;show wpAny (model prog w) A _ P E { s with heap:=(g1.push (seqObj "tuple" vs.toArray 0)).push (seqObj "list" #[] 0) };rw[hg3]
 dsimp only
 by_cases h2:vs.toArray.size<2
 ·rw[if_pos h2,if_pos h2];have h2':vs.length<2:=by rwa [List.size_toArray]at h2
  refine wpAny_bind (wpAny_pure ?_);rw[StateT.run_pure];refine wpAny_bind (wpAny_pure ?_)
  dsimp only
  have ez:(arrOf (SortSt.mk' general' (vs.toArray.zip vs.toArray) #[] 7 none)).map (·.2)=vs.toArray:=by
   show (vs.toArray.zip vs.toArray).map (·.2)=_
   apply Array.toList_inj.mp
   rw[Array.toList_map,Array.toList_zip,List.map_snd_zip];exact Nat.le_refl _
  rw[ez];exact fin vs rfl (by unfold b7;rw[if_pos h2'])
 ·rw[if_neg h2,if_neg h2];have h2':2<=vs.length:=by rw[List.size_toArray]at h2;lia
  refine wpAny_bind (wpAny_mono (hk h2' _ kp (fun κ' s'=>κ'=κ/\s'={ s with heap:=g3 }) ⟨rfl,rfl⟩) ?_ fun _ _ x=>x.elim);rintro _ _ ⟨rfl,rfl⟩;refine wpAny_bind (wpAny_mono (kat_run (Q:=fun st' s'=>∃p:Array Nat,p=aV c (kas_sort vs.length)/\arrOf st'=p.map (kas_item (vs.toArray.zip vs.toArray))/\failedOf st'=none/\s'={ s with heap:=g3 }) (G:=fun p s'=>p=aV c (kas_sort vs.length)/\s'={ s with heap:=g3 })
   rfl h2' h64 (fun p st' s' _ a2 a3 a4=>⟨p,a4.1,a2,a3,a4.2⟩) ((AY (by lia)).wp (hc h2' _ kp) ⟨rfl,rfl⟩)) ?_ fun _ _ e=>e)
  rintro ⟨⟨⟩,st'⟩ _ ⟨p,rfl,har,hf,rfl⟩
  dsimp only
  rw[kat_snds rfl har,hf];have hz:=(dR (n:=vs.length) c (by lia)).size_eq;exact fin _ (by rw[List.length_map,Array.length_toList,hz];simp) (by unfold b7;rw[if_neg (by lia)])
theorem MG {l:Addr}{vs:List Value}{Q:Value->Shared->Prop} (c:Nat->Nat->Bool) (κ:SortKind) (hl:s.heap.IsList l vs.toArray) (h64:vs.length<64)
  (hk:2<=vs.length->∀h',(∀b o,s.heap.get? b=some o->h'.get? b=some o)->∀R:SortKind->Shared->Prop,R κ { s with heap:=h' }->wpAny (model prog w) A.in1.in1 (keyKind' vs.toArray) R (fun _ _=>False) { s with heap:=h' })
  (hc:2<=vs.length->∀h',(∀b o,s.heap.get? b=some o->h'.get? b=some o)->∀i j,i<vs.length->j<vs.length->∀C,C (c i j) { s with heap:=h' }->kas_ask prog w A.in1.in1 κ vs i j C { s with heap:=h' })
  (h:∀D h' e,s.heap.objs.size<=D->(∀b o,s.heap.get? b=some o->h'.get? b=some o)->h'.get? D=some (seqObj "list" (b7 Value.none c vs).toArray e)->Q (.ref D) { s with heap:=h' }) :
  wpAny (model prog w) A (call (.builtin "sorted") [.ref l]) Q E s:=by
 have hz64:vs.length<=sizeLine:=by rw[sizeLine_eq];lia
 refine Calls.call_function_entry kind_sorted plain_sorted entry_sorted (args_sorted1 _) ?_;unfold Builtin.«sorted»;refine wpAny_bind (m:=checkCount "sorted" 1 1 _) (wpAny_pure (wpAny_bind (collect_list hl ?_ hz64)));refine wpAny_bind (wpAny_newList ?_ hz64);generalize hq:(s.heap.push (seqObj "list" #[] 0)).update s.heap.objs.size (Obj.mapSeq (·++vs.toArray))=q;have qs:q.objs.size=s.heap.objs.size+1:=by rw[←hq,Heap.size_update,size_push']
 have qk:∀b o,s.heap.get? b=some o->q.get? b=some o:=fun b o e=>by
  have bl:b<s.heap.objs.size:=Heap.lt_size e;rw[←hq,Heap.get?_update_ne _ _ _ _ (Nat.ne_of_lt bl),Heap.get?_push_ne _ _ _ (Nat.ne_of_lt bl)];exact e
 have oD:(q.push (seqObj "list" vs.toArray 0)).get? q.objs.size=some (seqObj "list" vs.toArray 0):=Heap.get?_push_size _ rfl;have kD:∀h',mV q.objs.size (q.push (seqObj "list" vs.toArray 0)) h'->∀b o,s.heap.get? b=some o->h'.get? b=some o:=fun h' k b o e =>
  k b o (Nat.ne_of_lt (by rw[qs];exact Nat.lt_succ_of_lt (Heap.lt_size e))) (Heap.get?_push_of_some _ (qk b o e))
 refine wpAny_bind (wpAny_holding (wpAny_call_entry slot_list_sort ⟨_,oD,rfl⟩ entry_list_sort ?body (args_list_sort _)))
 case body =>
  refine HX (s:={ s with heap:=q.push (seqObj "list" vs.toArray 0) }) c κ oD h64 (fun h2 h' k=>hk h2 h' (kD h' k)) (fun h2 h' k=>hc h2 h' (kD h' k)) fun h' e k o'=> ?_;exact⟨_,rfl,wpAny_pure ⟨_,rfl,h _ h' e (by show s.heap.objs.size<=q.objs.size;rw[qs];exact Nat.le_succ _) (kD h' k) o'⟩⟩
end
end L2
namespace L2
open PySem PySem.W PyProof.Rows
def dG:Key->Bool
 | .inl _=>true
 | .inr _=>false
def fC:Key->Key->Bool
 | .inl i,.inl j=>decide (i<j)
 | .inr x,.inr y=>decide (x.cps.toList<y.cps.toList)
 | _,_=>false
def d6:List Key->List Key->Bool
 | a::as,b::bs=>if a=b then d6 as bs else fC a b
 | _,_=>false
section
variable {prog:Program}{w:World}{A:Around}{s:Shared}
theorem YM {a b:Key}{u v:Value}{Q:Bool->Shared->Prop}{E:Value->Shared->Prop} (k:dG a=dG b) (ru:RelV (kV a) u) (rv:RelV (kV b) v) (q:Q (decide (a=b)) s):wpAny (model prog w) A (eqBool u v) Q E s:=by
 cases a<;>cases b<;>first|(cases k;done)|skip
 ·obtain⟨t,rfl⟩:=ru;obtain⟨t',rfl⟩:=rv;refine wpAny_eqBool_int ?_;rename_i i j;have e:(i==j)=decide ((Sum.inl i:Key)=Sum.inl j):=by
   by_cases z:i=j
   ·subst z;simp
   ·rw[beq_false_of_ne z,decide_eq_false (fun y=>z (Sum.inl.inj y))]
  rw[e];exact q
 ·obtain⟨t,rfl⟩:=ru;obtain⟨t',rfl⟩:=rv;refine wpAny_eqBool_str ?_;rename_i i j;have e:decide (i=j)=decide ((Sum.inr i:Key)=Sum.inr j):=by
   by_cases z:i=j
   ·subst z;simp
   ·rw[decide_eq_false z,decide_eq_false (fun y=>z (Sum.inr.inj y))]
  rw[e];exact q
theorem aAq {a b:Key}{u v:Value}{Q:Bool->Shared->Prop}{E:Value->Shared->Prop} (k:dG a=dG b) (ru:RelV (kV a) u) (rv:RelV (kV b) v) (q:Q (fC a b) s) (t:Bool):wpAny (model prog w) A (oneLt' t u v) Q E s:=by
 cases a<;>cases b<;>first|(cases k;done)|skip
 ·obtain⟨t1,rfl⟩:=ru;obtain⟨t2,rfl⟩:=rv;cases t with
  | true=>exact oneLt_int q
  | false=>exact kat_one _ _ (lt_int q)
 ·obtain⟨t1,rfl⟩:=ru;obtain⟨t2,rfl⟩:=rv;cases t with
  | true=>exact oneLt_str q
  | false=>exact kat_one _ _ (lt_str q)
theorem MX {Q:Bool->Shared->Prop}:∀{as bs:List Key}{us vs:List Value} (i:Nat),as.map dG=bs.map dG->Vals (as.map kV) us->Vals (bs.map kV) vs->Q (d6 as bs) s->KatLex prog w A true false Q (us.zip vs) i s
 | [],[],_,_,_,_,.nil,.nil,q=>kat_nil q
 | [],_::_,_,_,_,k,_,_,_=>by cases k
 | _::_,[],_,_,_,k,_,_,_=>by cases k
 | a::as,b::bs,_,_,i,k,.cons ra rs,.cons rb rt,q=>by
  have k1:dG a=dG b:=(List.cons.inj k).1;refine kat_cons (YM k1 ra rb ?_);have q':Q (if a=b then d6 as bs else fC a b) s:=q
  by_cases z:a=b
  ·rw[if_pos z]at q';rw[decide_eq_true z];exact kat_yes (MX (i+1) (List.cons.inj k).2 rs rt q')
  ·rw[if_neg z]at q';rw[decide_eq_false z];exact kat_no (aAq k1 ra rb q' _)
end
abbrev KRows (H:Hp):List V->List (List Key)->Prop:=Paired fun v r=>∃p,v= .ref p/\H p=some (.tup (r.map kV))
theorem KRows.map {H H':Hp}(f:∀p xs,H p=some (.tup xs)->H' p=some (.tup xs)):∀{vs:List V}{rs:List (List Key)},KRows H vs rs->KRows H' vs rs
 | _,_,.nil=> .nil
 | _,_,.cons ⟨p,e,h⟩ r=> .cons ⟨p,e,f _ _ h⟩ (KRows.map f r)
theorem KRows.same {H H':Hp}{vs:List V}{rs:List (List Key)} (x:KRows H vs rs) (s:Same H H'):KRows H' vs rs:=x.map fun p xs h=>s _ _ h
theorem KRows.get {H:Hp}:∀{vs:List V}{rs:List (List Key)}{i:Nat}{v:V},KRows H vs rs->vs[i]? =some v->∃p r,v= .ref p/\rs[i]? =some r/\H p=some (.tup (r.map kV))
 | _,_,0,_,.cons ⟨p,e,h⟩ _,z=>by cases z;exact⟨p,_,e,rfl,h⟩
 | _,_,i+1,_,.cons _ t,z=>KRows.get (i:=i) t (by simpa using z)
 | _,_,_,_,.nil,z=>by simp at z
def pU (rs:List (List Key))(i j:Nat):Bool:=d6 (rs.getD i []) (rs.getD j [])
def K6 (rs:List (List Key))(vs:List V):List V:=b7 .non (pU rs) vs
section
variable {X:Cx}{pins:List (Addr×Obj)}{σ:St}{H:Hp}{s:Shared}
theorem AQ (I:Inv X pins σ H s){p:Addr}{r:List Key} (e:H p=some (.tup (r.map kV))):∃(o:Obj) (us:List Value) (n:Nat),s.heap.get? p=some o/\o.cls= .type "tuple" /\o.data= .seq us.toArray n/\Vals (r.map kV) us:=by
 obtain⟨_,its,r',o,h1,h2,n,h3⟩:=(show ObjOk X.prog X.w H s.heap p (.tup (r.map kV)) from I.hok p _ e)
 exact⟨o,its,n,h1,h2,h3,r'⟩
theorem CD (I:Inv X pins σ H s){sh:List Bool}{T:Value}{h':Heap} (kp:∀b o,s.heap.get? b=some o->h'.get? b=some o) (hT:∀(k:Key) (u:Value),sh.head? =some (dG k)->RelV (kV k) u->Looks (model X.prog X.w) h' (typeOf u) T) :
  ∀{vs:List V}{rs:List (List Key)}{us:List Value},KRows H vs rs->Vals vs us->(∀r∈rs,r.map dG=sh)->sh≠[]->∃fs,KatTups h' us fs/\fs.length=us.length/\∀v∈fs,Looks (model X.prog X.w) h' (typeOf v) T
 | _,_,_,.nil,.nil,_,_=>⟨[],trivial,rfl,fun _ z=>nomatch z⟩
 | _::_,r::_,_::_,.cons ⟨p,hv,e⟩ q,.cons rv rt,hs,hn=>by
  obtain⟨fs,f1,f2,f3⟩:=CD I kp hT q rt (fun r hr=>hs r (List.mem_cons_of_mem _ hr)) hn;subst hv;cases rv;have hr:=hs r (.head _);cases r with
  | nil=>exact absurd hr.symm hn
  | cons k ks =>
   obtain⟨o,us,n,o1,o2,o3,o4⟩:=AQ I e;cases o4 with
   | cons r1 r2 =>
    rename_i u us;refine⟨u::fs,KatTups.cons (kp _ _ o1) o2 o3 (by simp) f1,by simp[f2],fun v hv=> ?_⟩;rcases List.mem_cons.mp hv with rfl|hv
    ·exact hT k _ (by rw[←hr];rfl) r1
    ·exact f3 v hv
def IJ (K:PySem.W.Frag):List V->Hp->VK->Prop:=fun xs H Q=>∃p vs rs sh,xs=[.ref p]/\SqL K H p vs/\KRows H vs rs/\vs.length<64/\(∀r∈rs,r.map dG=sh)/\sh≠[]/\∀l,H l=none->Q (.ref l) (upd H l (.lst (K6 rs vs)))
theorem uX {xs:List V}{us:List Value} (c:Nat->Nat->Bool) (r:Vals xs us):Vals (b7 .non c xs) (b7 Value.none c us):=by
 have hl:=r.length;unfold b7;rw[hl]
 split
 ·exact r
 ·have hp:=dR (n:=us.length) c (by lia);have hm:∀i∈(aV c (kas_sort us.length)).toList,i<us.length:=fun i hi=>by
   have h:=hp.mem_iff.mp (Array.mem_toList_iff.mp hi)
   simpa using h
  revert hm;generalize (aV c (kas_sort us.length)).toList=l;intro hm
  induction l with
  | nil=>exact .nil
  | cons i l ih =>
   refine .cons ?_ (ih fun j hj=>hm j (List.mem_cons_of_mem _ hj));have hi:=hm i (.head _);have hx:xs[i]? =some (xs[i]'(by lia)):=List.getElem?_eq_getElem _;obtain⟨u,hu,ru⟩:=r.get hx;show RelV (xs.getD i .non) (us.getD i Value.none);rw[List.getD_eq_getElem?_getD,List.getD_eq_getElem?_getD,hx,hu];exact ru
theorem uZ:d4 X (.builtin "sorted") (IJ X.K):=by
 intro pins s σ H xs us Q I r h;obtain⟨p,vs,rs,sh,rfl,hq,kr,h64,hs,hn,q⟩:=h;obtain⟨u,rfl,rx⟩:=jM r;cases rx;obtain⟨its,rv,pl,hz⟩:=I.list hq;have hl:=rv.length;have hT:∃T:Value,(T==T)=true/\(T !=Value.type "tuple")=true/\∀(h':Heap) (k:Key) (u:Value),sh.head? =some (dG k)->RelV (kV k) u->Looks (model X.prog X.w) h' (typeOf u) T:=by
  cases sh with
  | nil=>exact absurd rfl hn
  | cons b sh =>
   cases b with
   | true =>
    refine⟨.type "int",rfl,by decide,fun h' k u hk ru=> ?_⟩;cases k with
    | inl i=>obtain⟨t,rfl⟩:=ru;exact Looks.of_pure rfl
    | inr x=>cases hk
   | false =>
    refine⟨.type "str",rfl,by decide,fun h' k u hk ru=> ?_⟩;cases k with
    | inl i=>cases hk
    | inr x=>obtain⟨t,rfl⟩:=ru;exact Looks.of_pure rfl
 obtain⟨T,t1,t2,t3⟩:=hT;refine MG (pU rs) (tuples' true) pl.isList (by lia) (fun h2 h' kp R hR=> ?_) (fun h2 h' kp i j hi hj C hC=> ?_) fun D h' e hD kp o'=> ?_
 ·obtain⟨fs,f1,f2,f3⟩:=CD I kp (fun k u=>t3 h' k u) kr rv hs hn;refine kat_kind (s:={ s with heap:=h' }) f1 (by lia) f3 t1 ?_;rw[t2];exact hR
 ·obtain⟨p1,r1,x1,y1,z1⟩:=kr.get (i:=i) (List.getElem?_eq_getElem (by lia));obtain⟨p2,r2,x2,y2,z2⟩:=kr.get (i:=j) (List.getElem?_eq_getElem (by lia));obtain⟨u1,v1,w1⟩:=rv.get (List.getElem?_eq_getElem (show i<vs.length by lia));obtain⟨u2,v2,w2⟩:=rv.get (List.getElem?_eq_getElem (show j<vs.length by lia));rw[x1]at w1;rw[x2]at w2;cases w1;cases w2;obtain⟨o1,us1,n1,g1,c1,d1,l1⟩:=AQ I z1;obtain⟨o2,us2,n2,g2,c2,d2,l2⟩:=AQ I z2;have s1:=hs r1 (List.mem_of_getElem? y1);have s2:=hs r2 (List.mem_of_getElem? y2);have e1:=l1.length;have e2:=l2.length;rw[List.length_map]at e1 e2;have e3:r1.length=r2.length:=by rw[←List.length_map (f:=dG),s1,←s2,List.length_map]
  unfold kas_ask;rw[List.getD_eq_getElem?_getD,List.getD_eq_getElem?_getD,v1,v2];refine kat_lt (s:={ s with heap:=h' }) (kp _ _ g1) d1 (kp _ _ g2) d2 ?_;rw[show decide (us1.toArray.size<us2.toArray.size)=false from decide_eq_false (by rw[List.size_toArray,List.size_toArray];lia)];refine MX 0 (s1.trans s2.symm) l1 l2 ?_;have ec:pU rs i j=d6 r1 r2:=by
   unfold pU;rw[List.getD_eq_getElem?_getD,List.getD_eq_getElem?_getD,y1,y2];rfl
  rw[ec]at hC;exact hC
 ·exact⟨.ref D,_,I.laid (t':=s.toks) kp hD (show ObjOk X.prog X.w _ h' _ (.lst _) from⟨by rw[rJ];exact hz,_,e,uX _ rv,o'⟩),rfl,q _ (I.hok.fresh hD)⟩
end
end L2
namespace L2
open PySem PySem.W PyProof.Rows
section
variable {prog:Program}{w:World}{A:Around}{E:Value->Shared->Prop}{s:Shared}{d it:Addr}{o:Obj}{es:Array DictEntry}{ep i:Nat}
theorem GG {Q:Value->Shared->Prop}(hd:(d==sysModules)=false)(ho:s.heap.get? d=some o)(hc:o.ExactDict)(hq:o.data= .dict es ep)
  (k:Q (.ref s.heap.objs.size) { s with heap:=s.heap.push { cls:= .type "dict_keyiterator",data:= .fields #[.ref d,.int 0 0,.int es.size 0,.int ep 0] } }):wpAny (model prog w) A (pyIter (.ref d)) Q E s:=by
 have T:s.TypeIs (.ref d) "dict" :=⟨o,ho,hc.1⟩
 refine wpAny_pyIter_slot T F.slot_dict_iter (wpAny_call_entry F.slot_dict_iter T F.entry_dict_iter ?_ (F.args_dict_iter_1 _));unfold Builtin.«dict.__iter__» Builtin.Dict.dictSlotNone;refine wpAny_bind (wpAny_bind (wpAny_notOrdered_dict T (wpAny_pure ?_)));show wpAny _ A.in1 (Builtin.Dict.showsAll d >>= _) _ _ s;unfold Builtin.Dict.showsAll;rw[if_neg (fun z=>by rw[hd]at z;cases z)];refine wpAny_bind (wpAny_pure (wpAny_bind (wpAny_dictEntries ho hq (wpAny_bind (wpAny_dictEpoch ho hq ?_)))));exact wpAny_bind (wpAny_newObj_type (wpAny_pure ⟨_,rfl,"dict_keyiterator",_,⟨_,Heap.get?_push_size _ rfl,rfl⟩,F.slot_dict_keyiterator_next.lookup,k⟩))
theorem QH {Q:Option Value->Shared->Prop}{e:DictEntry} (hit:s.heap.IsKeyIter it d i es.size ep) (ho:s.heap.get? d=some o) (hq:o.data= .dict es ep) (hx:es[i]? =some e)
  (k:∀h',h'.IsKeyIter it d (i+1) es.size ep->Heap.SameBut it s.heap h'->Q (some e.key) { s with heap:=h' }):wpAny (model prog w) A (pyNext (.ref it)) Q E s:=by
 obtain⟨oi,hi,ci,di⟩:=id hit;have T:=hit.typeIs;unfold pyNext;refine wpAny_bind (wpAny_attempt (wpAny_callSpecial?_slot (name:=Str.ofString "__next__") T F.slot_dict_keyiterator_next (wpAny_call_entry F.slot_dict_keyiterator_next T F.entry_dict_keyiterator_next ?_ (F.args_dict_keyiterator_next_1 _))));refine wpAny_bind (wpAny_pure (wpAny_bind (wpAny_bind ?_)))
 first|refine wpAny_bind (wpAny_typeNameOfWhole_keyiter T (wpAny_pure (wpAny_bind (wpAny_fieldsOf hi di ?_))))|refine wpAny_bind (wpAny_typeNameOf_keyiter T (wpAny_pure (wpAny_bind (wpAny_fieldsOf hi di ?_))))
 simp only[show Builtin.Dict_items.ownsTuple "dict_keyiterator" =false by decide,Bool.false_eq_true,if_false];show wpAny _ A.in1 (if (Value.ref d==Value.none)=true then _ else _) _ _ s;rw[if_neg (show ¬(Value.ref d==Value.none)=true from Bool.false_ne_true)];refine wpAny_bind (wpAny_pure (wpAny_bind (wpAny_dictEntries ho hq ?_)));rw[if_neg (by simp)];refine wpAny_bind (wpAny_pure (wpAny_bind (wpAny_dictEpoch ho hq ?_)));rw[if_neg (by simp)];refine wpAny_pure ?_;simp only[show ¬((i:Int)<0) from by lia,if_false,Int.toNat_natCast,hx];refine wpAny_bind ?_
 first|refine wpAny_bind (wpAny_typeNameOfWhole_keyiter T (wpAny_pure (wpAny_bind (wpAny_isOneOf_keyiter T ?_))))|refine wpAny_bind (wpAny_typeNameOf_keyiter T (wpAny_pure (wpAny_bind (wpAny_isOneOf_keyiter T ?_))))
 show wpAny _ A.in1 (setField (.ref it) 1 (rawInt ((i:Int)+1)) >>= _) _ _ s;refine wpAny_bind (wpAny_setField hi di (by simp) ?_);have H2:(s.heap.update it (Obj.mapFields (·.setIfInBounds 1 (rawInt ((i:Int)+1))))).IsKeyIter it d (i+1) es.size ep :=
  ⟨_,Heap.get?_update_self _ hi (Obj.isFreed_of_fields (Obj.data_mapFields di _)),(Obj.cls_mapFields ..).trans ci,(Obj.data_mapFields di _).trans (by simp[rawInt])⟩
 refine wpAny_bind (wpAny_holding (wpAny_bind (wpAny_isOneOf_keyiter (s:={ s with heap:=s.heap.update it (Obj.mapFields (·.setIfInBounds 1 (rawInt ((i:Int)+1)))) }) H2.typeIs ?_)));show wpAny _ A.in1 (pure e.key) _ _ _;exact wpAny_pure (wpAny_pure ⟨_,rfl,wpAny_pure (k _ H2 (Heap.SameBut.update ..))⟩)
theorem UV {Q:Option Value->Shared->Prop}(hh:A.handled=none)(hit:s.heap.IsKeyIter it d i es.size ep)(ho:s.heap.get? d=some o)(hq:o.data= .dict es ep)(hx:es.size<=i)
  (k:∀h',Heap.ExtBut it s.heap h'->Q none { s with heap:=h' }):wpAny (model prog w) A (pyNext (.ref it)) Q E s:=by
 obtain⟨oi,hi,ci,di⟩:=id hit;have T:=hit.typeIs;unfold pyNext;refine wpAny_bind (wpAny_attempt (wpAny_callSpecial?_slot (name:=Str.ofString "__next__") T F.slot_dict_keyiterator_next (wpAny_call_entry F.slot_dict_keyiterator_next T F.entry_dict_keyiterator_next ?_ (F.args_dict_keyiterator_next_1 _))));refine wpAny_bind (wpAny_pure (wpAny_bind (wpAny_bind ?_)))
 first|refine wpAny_bind (wpAny_typeNameOfWhole_keyiter T (wpAny_pure (wpAny_bind (wpAny_fieldsOf hi di ?_))))|refine wpAny_bind (wpAny_typeNameOf_keyiter T (wpAny_pure (wpAny_bind (wpAny_fieldsOf hi di ?_))))
 simp only[show Builtin.Dict_items.ownsTuple "dict_keyiterator" =false by decide,Bool.false_eq_true,if_false];show wpAny _ A.in1 (if (Value.ref d==Value.none)=true then _ else _) _ _ s;rw[if_neg (show ¬(Value.ref d==Value.none)=true from Bool.false_ne_true)];refine wpAny_bind (wpAny_pure (wpAny_bind (wpAny_dictEntries ho hq ?_)));rw[if_neg (by simp)];refine wpAny_bind (wpAny_pure (wpAny_bind (wpAny_dictEpoch ho hq ?_)));rw[if_neg (by simp)];refine wpAny_pure ?_;simp only[show ¬((i:Int)<0) from by lia,if_false,Int.toNat_natCast,Array.getElem?_eq_none hx];refine wpAny_bind ?_
 first|refine wpAny_bind (wpAny_typeNameOfWhole_keyiter T (wpAny_pure ?_))|refine wpAny_bind (wpAny_typeNameOf_keyiter T (wpAny_pure ?_))
 show wpAny _ A.in1 (setField (.ref it) 0 .none >>= _) _ _ s;refine wpAny_bind (wpAny_setField hi di (by simp) ?_);show wpAny _ A.in1 (newExc (.type "StopIteration") [] >>= _) _ _ _;refine wpAny_bind ?_;simp only[newExc,newTuple];refine wpAny_bind (wpAny_newObj_type (wpAny_bind (m:=firstArgMember _ _) (wpAny_of_eq (a:=Value.none) (by first|rfl|(simp only[firstArgMember];rfl)) (wpAny_newObj_type ?_ (by size_fits)))) (by size_fits));simp only[raiseNew];refine wpAny_bind (wpAny_handled ?_);rw[show A.in1.handled=none from hh];refine wpAny_bind (wpAny_pure (wpAny_throw ?_));refine wpAny_bind (wpAny_isInstance (b:=true) (T:= "StopIteration") ⟨_,Heap.get?_push_size _ rfl,rfl⟩ isSubtype_stop ?_);exact wpAny_pure (k _ (((Heap.SameBut.update ..).extBut.push _).push _))
end
end L2
namespace L2
open PySem PySem.W PyProof.Rows
def Itk (a:Addr)(o:Obj)(kvs:List (Key×V)):It :=
 ⟨fun i H=>H a=some (.frz o (.dK kvs))/\i<kvs.length,fun i H x H'=>H'=H/\∃k v,kvs[i]? =some (k,v)/\x=kV k,fun i H=>H a=some (.frz o (.dK kvs))/\kvs.length<=i⟩
theorem KT.len {H:Hp}{kvs:List (List Key×V)}{xs:List (List Key×Addr×Value)} (r:KT H kvs xs):kvs.length=xs.length:=Paired.length r
section
variable {X:Cx}{tg:Expr}
theorem Inv.freeze {pins:List (Addr×Obj)}{σ:St}{H:Hp}{s:Shared}{a:Addr}{u:HO}{o:Obj} (I:Inv X pins σ H s) (mu:Mut (some u)) (e:H a=some u) (ho:s.heap.get? a=some o) (new:ObjOk X.prog X.w (upd H a (.frz o u)) s.heap a (.frz o u)):Inv X pins σ (upd H a (.frz o u)) s :=
 I.write (t':=s.toks) (h':=s.heap) (by rw[e];exact mu) (.inl rfl) (fun b u _ z=>z) ⟨_,ho⟩ new
end
end L2
namespace L2
open PySem PySem.W PyProof.Rows
section
variable {X:Cx}{e c:Expr}{te:TE}{lo hi:Option Expr}{tl th ts:TO}{pos p2:Pos}
end
section
variable {X:Cx}
end
section
variable {X:Cx}{pins:List (Addr×Obj)}{σ:St}{H:Hp}{s:Shared}
end
section
variable {X:Cx}
end
end L2
namespace L2
open PySem PySem.W PyProof.Rows
section
variable {K:PySem.W.Frag}{ti:TT}{te:TE}{σ:St}{ci:List Nat}{rest:St}{fin:List V->Hp->Prop}{H:Hp}{a:Addr}
theorem BZ {xs:List V}(c:V->Bool)(hn:xs.length<=sizeLine)(hr:ci.map (fun i=>(σ[i]?).join)=rest)(hl:SqL K H a xs)
  (ht:∀x H1,x∈xs->Same H H1->∀R:Bool->Hp->Prop,(∀H2,Same H1 H2->R (c x) H2)->ti (some x::rest) H1 R)
  (hf:∀H1,Same H H1->fin (xs.filter c) H1):dB (Itl K a) (cA 0) ti (iX 0) (bZ 1 ci σ) fin H:=by
 rw[u8 hr];refine⟨fun i m ys H1=>i+m=xs.length/\Same H H1/\ys=(xs.take i).filter c,⟨xs.length,by lia,Same.refl _,rfl⟩,?_⟩;rintro i m ys H1 ⟨e1,s1,rfl⟩;cases m with
 | zero =>
  refine .inl ⟨⟨xs,s1.seq hl,by lia⟩,?_⟩;rw[List.take_of_length_le (by lia)];exact hf H1 s1
 | succ m =>
  have hi:i<xs.length:=by lia
  refine .inr ⟨⟨xs,xs[i],s1.seq hl,List.getElem?_eq_getElem hi⟩,fun x H' y=> ?_⟩;obtain⟨rfl,e2⟩:=y;have ex:=e2 xs (s1.seq hl);have hx:x∈xs:=List.mem_of_getElem? ex;have etake:xs.take (i+1)=xs.take i++[x]:=by rw[List.take_succ,ex];rfl
  have hlen:((xs.take i).filter c).length<=i:=Nat.le_trans (List.length_filter_le _ _) (by rw[List.length_take];lia);refine⟨⟨rfl,fun j v hv=> ?_⟩,?_⟩
  ·cases j with
   | zero=>cases hv
   | succ j=>exact hv
  ·refine ht x _ hx s1 _ fun H3 s3=> ?_;cases hc:c x with
   | true =>
    refine⟨x,rfl,by lia,m,by lia,by lia,s1.trans s3,?_⟩;rw[etake,List.filter_append,List.filter_cons_of_pos hc];rfl
   | false =>
    refine⟨m,by lia,by lia,s1.trans s3,?_⟩;rw[etake,List.filter_append,List.filter_cons_of_neg (by rw[hc];exact Bool.false_ne_true),List.filter_nil,List.append_nil]
end
end L2
namespace L2
open PySem PySem.W PyProof.Rows
theorem uG:bootBuiltins "sorted" =some (.builtin "sorted"):=by decide +kernel
theorem Room.units1 {k:Nat}{A:Around} (r:Room k A):A.units+1<cLine:=by have:=r.un;lia
section
variable {K:PySem.W.Frag}{H:Hp}{Q:VK}
end
section
variable {H:Hp}{Q:VK}{σ:St}
theorem Q1 (h:∀p H',H p=none->Same H H'->H' p=some (.dT [])->Q (.ref p) H'):MV σ H Q:=fI h
theorem EK {κ:Type}[DecidableEq κ]{kvs:List (κ×V)}{k:κ}{v:V}{e:κ×V} (h:e∈bX kvs k v):e∈kvs∨e.1=k/\e.2=v:=by
 unfold bX at h
 split at h
 ·obtain⟨p,hp,e1⟩:=List.mem_map.mp h
  by_cases z:p.1=k
  ·rw[if_pos z]at e1;subst e1;exact .inr ⟨z,rfl⟩
  ·rw[if_neg z]at e1;subst e1;exact .inl hp
 ·rcases List.mem_append.mp h with h|h
  ·exact .inl h
  ·cases List.mem_singleton.mp h;exact .inr ⟨rfl,rfl⟩
end
end L2
namespace L2
open PySem PySem.W PyProof.Rows
section
variable {X:Cx}{K:PySem.W.Frag}
theorem jJ {es:List Expr}{k:Nat}{t:TGs}{n:Nat}{pos:Pos} (hc:X.calm=true) (h:PGs X es t) (hK:X.K=K:=by rfl)
  (hn:(assignEach es X.env).length=n:=by rfl)(hst:(assignEach es X.env).findIdx? (·.1)=none:=by rfl):PG X (.Tuple es k pos) (xN K n t):=by
 subst hK;exact lM hc h hn hst
theorem jG (hK:X.K=K:=by rfl):IxR X (aAp K):=by
 subst hK;exact ZU
end
def KG (nx:St->Hp->Prop)(σ:St)(x v:V):VK:=fun y H3=>∃a H4,x= .ref a/\DPut H3 a y v H4/\nx σ H4
def LO (Q:VK)(x:V):VK:=fun y H2=>∃a v,x= .ref a/\DGet H2 a y (some v)/\Q v H2
section
variable {K:PySem.W.Frag}{H:Hp}{Q:VK}{σ:St}{nx rt bk ct:St->Hp->Prop}
theorem W2 {td ty tv:TE}{nx:St->Hp->Prop}{rt:VK}{bk ct:St->Hp->Prop} (h:tv σ H fun v H1=>td σ H1 fun x H2=>ty σ H2 (KG nx σ x v)):SY td ty tv ⟨nx,rt,bk,ct⟩ σ H:=h
theorem oM {p b:Addr}{v:V}{kvs:List (List Key×V)} (k:List Key) (e:H p=some (.dT kvs)) (eb:H b=some (.tup (k.map kV))) (hl:kvs.length<sizeLine)
  (h:∀H',SameBut p H H'->H' p=some (.dT (bX kvs k v))->nx σ H'):KG nx σ (.ref p) v (.ref b) H :=
 ⟨p,_,rfl,DPut.t e eb hl,h _ SameBut.upd aS⟩
theorem VW {td ty:TE}(h:td σ H fun x H1=>ty σ H1 (LO Q x)):SN td ty σ H Q:=h
theorem EH {p b:Addr}{v:V}{kvs:List (List Key×V)} (k:List Key) (e:Rd H p (.dT kvs)) (eb:H b=some (.tup (k.map kV))) (hv:bB kvs k=some v) (h:Q v H):LO Q (.ref p) (.ref b) H :=
 ⟨p,v,rfl,.inr ⟨kvs,k,b,e,rfl,eb,hv.symm⟩,h⟩
theorem F8 {p:Addr}{xs:List V}{i:Int} (e:SqL K H p xs) (h0:0<=i) (h1:i<xs.length) (h:∀v∈xs,Q v H):F2 K (.ref p) (.int i) H Q:=by
 have hl:i.toNat<xs.length:=by lia
 have e1:=vV (xs:=xs) (j:=i.toNat) (v:=xs[i.toNat]) (List.getElem?_eq_getElem hl);rw[show ((i.toNat:Nat):Int)=i by lia]at e1;exact⟨p,xs,i,_,rfl,rfl,e,e1,h _ (List.getElem_mem hl)⟩
end
end L2
namespace L2
open PySem PySem.W PyProof.Rows
theorem kI:entryFor table "dict_itemiterator.__iter__" =some Builtin.«dict_keyiterator.__iter__»:=entryFor_alias (id':= "dict_keyiterator.__iter__") (by kernel_rfl) rfl (by decide +kernel) (by kernel_rfl)
theorem vI {P:Program}{w:World}{k:Key}{u:Value} (h:(bO P w).is k u=true):RelV (kV k) u:=by
 rcases cV h with⟨i,t,rfl,rfl⟩|⟨x,t,rfl,rfl⟩
 ·exact⟨t,rfl⟩
 ·exact⟨t,rfl⟩
theorem EQ {κ:Type}{kvs:List (κ×V)}{vs:List (κ×Value)}{i:Nat} (h:KV kvs vs) (hi:i<kvs.length):∃k v u,kvs[i]? =some (k,v)/\vs[i]? =some (k,u)/\RelV v u:=by
 induction h generalizing i with
 | nil=>exact absurd hi (Nat.not_lt_zero _)
 | @cons x y l m h t ih =>
  cases i with
  | zero=>exact⟨x.1,x.2,y.2,rfl,by rw[h.1];rfl,h.2⟩
  | succ i=>exact ih (Nat.lt_of_succ_lt_succ hi)
theorem BF {P:Program}{w:World}{κ:Type} [DecidableEq κ] {knd:KeyKind P w κ}:∀{es:List DictEntry}{kvs:List (κ×Value)}{i:Nat}{k:κ}{u:Value},Pairs knd es kvs->kvs[i]? =some (k,u)->∃e,es[i]? =some e/\knd.is k e.key=true/\e.val=u
 | _,_,0,_,_,.cons h1 h2 _,z=>by cases z;exact⟨_,rfl,h1,h2⟩
 | _,_,i+1,_,_,.cons _ _ t,z=>by
  obtain⟨e,e1,e2⟩:=BF (i:=i) t (by simpa using z);exact⟨e,by simpa using e1,e2⟩
 | _,_,_,_,_,.nil,z=>by simp at z
theorem KM {P:Program}{w:World}{K:PySem.W.Frag}{tg:Expr} (a it:Addr) {o:Obj}{es:Array DictEntry}{ep:Nat} (kvs:List (Key×V)) (hd:o.data= .dict es ep) (hz:es.size=kvs.length) :
  uE P w K tg (Itk a o kvs) [it] it (fun i h=>h.IsKeyIter it a i es.size ep) where
 mem:=by simp
 obj:=fun i h st b hb=>by
  have e:b=it:=by simpa using hb
  subst e;obtain⟨ob,e,c,d⟩:=st;exact⟨ob,e,fun v z=>by rw[d]at z;cases z⟩
 keep:=fun i h h' st k=>st.at fun ob e=>k it (by simp) ob e
 item:=by
  intro X hP hw hK hc i pins s σ H E I hf st hg;subst hP hw hK;obtain⟨ha,hi⟩:=hg;obtain⟨ho,z,y,vs,r,o',es',ep',h1,h2,h3,h4,h5,h6⟩:=(show ObjOk X.prog X.w H s.heap a (.frz o (.dK kvs)) from I.hok a _ ha)
  rw[ho]at h1;cases h1;rw[hd]at h3;cases h3;obtain⟨k,v,u,e1,e2,e3⟩:=EQ r hi;obtain⟨e,f6,f7,f8⟩:=BF h5 e2;obtain⟨f0,f1,f2,f3,f4,f5⟩:=hf it (by simp);refine QH st ho hd (e:=e) (by simpa using f6) fun h' st' sb=> ?_;have I1:Inv X pins σ H { s with heap:=h' }:=I.turned (t':=s.toks) (fun b o hb e=>(sb.2 b hb).trans e) f0 f1 f3 f4 f5;exact⟨_,rfl,letGo_keyiter (s':={ s with heap:=h' }) st' ⟨kV k,H,I1,vI f7,⟨rfl,k,v,e1,rfl⟩,st',fun b hb=>(hf b hb).1⟩⟩
 done:=by
  intro X hP hw hK hc i pins s σ H E I hf st hg;subst hP hw hK;obtain⟨ha,hi⟩:=hg;obtain⟨ho,hok⟩:=(show ObjOk X.prog X.w H s.heap a (.frz o (.dK kvs)) from I.hok a _ ha)
  obtain⟨f0,f1,f2,f3,f4,f5⟩:=hf it (by simp);exact UV (I.ok.hd hc) st ho hd (by lia) fun h' eb=>⟨rfl,I.turned (t':=s.toks) (fun b o hb e=>eb b o hb e) f0 f1 f3 f4 f5⟩
 self:=fun _ _ _ _ _ st h=>wpAny_pyIter_keyiter st h
def MK (td:TE):TI:=fun σ H R=>td σ H fun x H1=>∃a kvs,x= .ref a/\H1 a=some (.dK kvs)/\∀o,R (Itk a o kvs) (upd H1 a (.frz o (.dK kvs)))
section
variable {X:Cx}{tg:Expr}
theorem tM {l:Expr}{td:TE} (hl:PE X l td):PI X tg l (MK td):=by
 intro pins s σ H R I h;refine thn (hl pins s σ H _ I h) fun v s1 ⟨x,H1,I1,r1,q1⟩=> ?_;obtain⟨a,kvs,rfl,hq,q⟩:=q1;cases r1;obtain⟨z,y,vs,r,o,es,ep,h1,h2,h3,h4,h5,h6⟩:=(show ObjOk X.prog X.w H1 s1.heap a (.dK kvs) from I1.hok a _ hq)
 have hz:es.size=kvs.length:=by rw[r.length,←h5.length];simp
 have new:ObjOk X.prog X.w (upd H1 a (.frz o (.dK kvs))) s1.heap a (.frz o (.dK kvs)):=⟨h1,z,y,vs,r,o,es,ep,h1,h2,h3,h4,h5,h6⟩
 have I2:Inv X pins σ (upd H1 a (.frz o (.dK kvs))) s1:=I1.freeze trivial hq h1 new;refine GG y h1 h2 h3 ?_;refine⟨s1.heap.objs.size,[s1.heap.objs.size],_,_,upd H1 a (.frz o (.dK kvs)),rfl,I2.kept (t':=s1.toks) fun b o e=>Heap.get?_push_of_some _ e,KM a _ kvs h3 hz,⟨_,Heap.get?_push_size _ rfl,rfl,rfl⟩,fun b hb=> ?_,q o⟩;have e:b=s1.heap.objs.size:=by simpa using hb
 subst e;exact I2.fpOk (Nat.le_refl _) (I2.hok.fresh (Nat.le_refl _))
end
def Iti (a:Addr)(o:Obj)(kvs:List (Key×V)):It :=
 ⟨fun i H=>H a=some (.frz o (.dK kvs))/\i<kvs.length,fun i H x H'=>∃k v q,kvs[i]? =some (k,v)/\x= .ref q/\H q=none/\H'=upd H q (.tup [kV k,v]),fun i H=>H a=some (.frz o (.dK kvs))/\kvs.length<=i⟩
theorem HL {P:Program}{w:World}{K:PySem.W.Frag}{elts:List Expr}{x1:Nat}{tpos:Pos} (a it:Addr) {o:Obj}{es:Array DictEntry}{ep:Nat} (kvs:List (Key×V)) (hd:o.data= .dict es ep) :
  uE P w K (.Tuple elts x1 tpos) (Iti a o kvs) [it] it (fun i h=>∃ok ov,IsItemIter h it a i kvs.length ep ok ov) where
 mem:=by simp
 obj:=fun i h st b hb=>by
  have e:b=it:=by simpa using hb
  subst e;obtain⟨ok,ov,e⟩:=st;exact⟨_,e,fun v z=>by cases z⟩
 keep:=fun i h h' st k=>let ⟨ok,ov,e⟩:=st;⟨ok,ov,k it (by simp) _ e⟩
 item:=by
  intro X hP hw hK hc i pins s σ H E I hf st hg;subst hP hw hK;obtain⟨ha,hi⟩:=hg;obtain⟨ok,ov,st⟩:=st;obtain⟨ho,z,y,vs,r,o',es',ep',h1,h2,h3,h4,h5,h6⟩:=(show ObjOk X.prog X.w H s.heap a (.frz o (.dK kvs)) from I.hok a _ ha)
  rw[ho]at h1;cases h1;rw[hd]at h3;cases h3;obtain⟨k,v,u,e1,e2,e3⟩:=EQ r hi;obtain⟨f0,f1,f2,f3,f4,f5⟩:=hf it (by simp);have hl:=r.length;refine wpAny_pyNext_items_item (knd:=bO X.prog X.w) (kvs:=vs) (by rw[←hl];exact st) ⟨o,es,ho,h2,hd,h4,h5,h6⟩ e2 fun key h' kk st' ht hs kp=> ?_;refine⟨_,rfl,?_⟩;refine wpAny_letOwnedTupleGo_items (s:={ s with heap:=h' }) st' fun h'' st'' sb=> ?_;have hq:H s.heap.objs.size=none:=I.hok.fresh (Nat.le_refl _);have hne:s.heap.objs.size≠it:=fun z=>by
   have:=Heap.lt_size (show s.heap.get? it=some _ from st);rw[z]at this;exact Nat.lt_irrefl _ this
  have tup:Vals [kV k,v] [key,u]:= .cons (vI kk) (.cons e3 .nil);have I1:Inv X pins σ (upd H s.heap.objs.size (.tup [kV k,v])) { s with heap:=s.heap.push { cls:= .type "tuple",data:= .seq #[key,u] } } :=
   I.laid (t':=s.toks) (fun b u e=>Heap.get?_push_of_some _ e) (Nat.le_refl _) ⟨(show 2<=sizeLine by rw[sizeLine_eq];decide),[key,u],tup,⟨_,Heap.get?_push_size _ rfl,rfl,0,rfl⟩⟩
  have n0:upd H s.heap.objs.size (.tup [kV k,v]) it=none:=by rw[aJ (Ne.symm hne)];exact f0
  have I2:Inv X pins σ (upd H s.heap.objs.size (.tup [kV k,v])) { s with heap:=h'' }:=Inv.turned (s:={ s with heap:=s.heap.push { cls:= .type "tuple",data:= .seq #[key,u] } }) (h':=h'') (t':=s.toks) (it:=it) I1 (fun b o hb e=>by
   rcases Heap.get?_push_cases e with⟨rfl,rfl⟩|e
   ·exact(sb.2 _ hb).trans ht
   ·exact(sb.2 b hb).trans (kp b o hb e)) n0 f1 f3 f4 f5
  exact⟨.ref s.heap.objs.size,_,I2,rfl,⟨k,v,_,e1,rfl,hq,rfl⟩,⟨key,u,by rw[hl];exact st''⟩,fun b hb=>by
   have e:b=it:=by simpa using hb
   rw[e];exact n0⟩
 done:=by
  intro X hP hw hK hc i pins s σ H E I hf st hg;subst hP hw hK;obtain⟨ha,hi⟩:=hg;obtain⟨ok,ov,st⟩:=st;obtain⟨ho,z,y,vs,r,o',es',ep',h1,h2,h3,h4,h5,h6⟩:=(show ObjOk X.prog X.w H s.heap a (.frz o (.dK kvs)) from I.hok a _ ha)
  rw[ho]at h1;cases h1;rw[hd]at h3;cases h3;have hl:=r.length;obtain⟨f0,f1,f2,f3,f4,f5⟩:=hf it (by simp);exact wpAny_pyNext_items_end (knd:=bO X.prog X.w) (kvs:=vs) (I.ok.hd hc) (by rw[←hl];exact st) ⟨o,es,ho,h2,hd,h4,h5,h6⟩ (List.getElem?_eq_none (by lia)) fun h' eb=>⟨rfl,I.turned (t':=s.toks) (fun b o hb e=>eb b o hb e) f0 f1 f3 f4 f5⟩
 self:=fun A i s Q E st h=>by
  obtain⟨ok,ov,st⟩:=st;have T:s.TypeIs (.ref it) "dict_itemiterator" :=⟨_,st,rfl⟩
  refine wpAny_pyIter_slot T F.slot_dict_itemiterator_iter (wpAny_call_entry F.slot_dict_itemiterator_iter T kI ?_ (F.args_dict_itemiterator_iter_1 _));show wpAny _ _ (ret (.ref it)) _ _ s;exact wpAny_pure ⟨_,rfl,"dict_itemiterator",_,T,F.slot_dict_itemiterator_next.lookup,h⟩
def IQ (td:TE):TI:=fun σ H R=>td σ H fun x H1=>∃a kvs,x= .ref a/\H1 a=some (.dK kvs)/\∀o,R (Iti a o kvs) (upd H1 a (.frz o (.dK kvs)))
section
variable {X:Cx}
theorem CG {l:Expr}{td:TE}{elts:List Expr}{x1:Nat}{tpos apos cpos:Pos} (hl:PE X l td) (hbase:attributeBase l "items" X.env (eval l X.env)=eval l X.env:=by rfl) (hline:(apos.endLine==cpos.line)=true:=by rfl) :
  PI X (.Tuple elts x1 tpos) (.Call (.Attribute l "items" apos) [] [] cpos) (IQ td):=by
 intro pins s σ H R I h;refine wpAny_Call_method0_late hbase hline (thn (hl pins s σ H _ I h) fun v s1 ⟨x,H1,I1,r1,q1⟩=> ?_);obtain⟨a,kvs,rfl,hq,q⟩:=q1;cases r1;obtain⟨t1,t2,_⟩:=E5 I1 (.inl ⟨kvs,.inl hq⟩);refine⟨"dict","dict.items",F.plainAttrs_dict,F.slot_dict_items,F.type_dict_items,t1,t2,Calls.callWith_builtin rfl (PySem.evalArgs_none ?_)⟩;obtain⟨z,y,vs,r,o,es,ep,h1,h2,h3,h4,h5,h6⟩:=(show ObjOk X.prog X.w H1 s1.heap a (.dK kvs) from I1.hok a _ hq)
 have hL:=r.length;refine call_meetsIn F.slot_dict_items t1 F.entry_dict_items (F.args_dict_items_1 _) (meets_dict_items (bO X.prog X.w) a y) ⟨⟨vs,o,es,ep,h1,h2,h3,h4,h5,h6⟩,?_⟩;have new:ObjOk X.prog X.w (upd H1 a (.frz o (.dK kvs))) s1.heap a (.frz o (.dK kvs)):=⟨h1,z,y,vs,r,o,es,ep,h1,h2,h3,h4,h5,h6⟩
 have I2:Inv X pins σ (upd H1 a (.frz o (.dK kvs))) s1:=I1.freeze trivial hq h1 new;have I3:Inv X pins σ (upd H1 a (.frz o (.dK kvs))) { s1 with heap:=s1.heap.push { cls:= .type "dict_items",data:= .fields #[.ref a] } }:=I2.kept (t':=s1.toks) fun b o e=>Heap.get?_push_of_some _ e;refine wpAny_pyIter_items (knd:=bO X.prog X.w) (kvs:=vs) (ep:=ep) ⟨_,Heap.get?_push_size _ rfl,rfl,rfl⟩ ⟨o,es,Heap.get?_push_of_some _ h1,h2,h3,h4,h5,h6⟩ ?_;refine⟨_,[_],_,_,upd H1 a (.frz o (.dK kvs)),rfl,I3.kept (t':=s1.toks) fun b o e=>Heap.get?_push_of_some _ e,HL a _ kvs h3,⟨.none,.none,by rw[hL];exact Heap.get?_push_size _ rfl⟩,fun b hb=> ?_,q o⟩;obtain rfl:=List.mem_singleton.mp hb;exact I3.fpOk (Nat.le_refl _) (I3.hok.fresh (Nat.le_refl _))
end
end L2
namespace L2
open PySem PySem.W PyProof.Rows
section
variable {X:Cx}{pins:List (Addr×Obj)}{σ:St}{H:Hp}{s:Shared}{a:Addr}{o:Obj}{u:HO}
theorem Inv.thaw (I:Inv X pins σ H s)(h0:∀o u,X.H₀ a≠some (.frz o u))(e:H a=some (.frz o u)):Inv X pins σ (upd H a u) s:=by
 have nn:∀b,H b=none->b≠a:=fun b n z=>by rw[z,e]at n;cases n
 have no:∀b c,H b=some (.own c)->b≠a:=fun b c n z=>by rw[z,e]at n;cases n
 have nt:∀b xs,H b=some (.tup xs)->b≠a:=fun b c n z=>by rw[z,e]at n;cases n
 refine⟨I.ok,I.os,I.bare,⟨I.base.keep,I.base.slot,fun b ob q n hx=> ?_,I.base.there,fun b xs q=> ?_,fun b ob xs q=> ?_,fun b ps q=> ?_⟩,I.loc,I.cell,?_,fun x c ec=> ?_,fun p hp=> ?_,fun b v q=> ?_,I.len⟩
 ·have z:=I.base.free b ob q n hx;rw[aJ (nn b z)];exact z
 ·have z:=I.base.tups b xs q;rw[aJ (nt b xs z)];exact z
 ·have z:=I.base.frzs b ob xs q;have hb:b≠a:=fun y=>h0 ob xs (by rw[←y];exact q);rw[aJ hb];exact z
 ·obtain⟨more,z⟩:=I.base.tbls b ps q;refine⟨more,?_⟩;rw[aJ (fun y=>by rw[y,e]at z;cases z)];exact z
 ·rw[aJ (nn _ I.free)];exact I.free
 ·rw[aJ (nn _ (I.freeC x c ec))];exact I.freeC x c ec
 ·obtain⟨p1,p2,p3⟩:=I.pin p hp;exact⟨p1,by rw[aJ (nn _ p2)];exact p2,p3⟩
 ·have so:∀b c,H b=some (.own c)->upd H a u b=some (.own c):=fun b c z=>by rw[aJ (no b c z)];exact z
  have st:∀b xs,H b=some (.tup xs)->upd H a u b=some (.tup xs):=fun b c z=>by rw[aJ (nt b c z)];exact z
  by_cases hb:b=a
  ·subst hb;rw[aS]at q;cases q;obtain⟨_,z⟩:=(show ObjOk X.prog X.w H s.heap b (.frz o u) from I.hok b _ e)
   exact z.stay (fun _ _ _ q=>q) (fun c z=>so c b z) st
  ·rw[aJ hb]at q;exact(I.hok b v q).stay (fun _ _ _ q=>q) (fun c z=>so c b z) st
theorem Inv.wasFree (I:Inv X pins σ H s)(h:∀o u,H a≠some (.frz o u)):∀o u,X.H₀ a≠some (.frz o u):=fun o u z=>h o u (I.base.frzs a o u z)
end
def gE (a:Addr)(R:Hp->Prop):Hp->Prop:=fun H=>∃o u,H a=some (.frz o u)/\R (upd H a u)
def SS (te:TE):TE:=fun σ H Q=>∃a,(∀o u,H a≠some (.frz o u))/\te σ H fun x=>gE a (Q x)
def S0 (ts:TS):TS:=fun D σ H=>∃a,(∀o u,H a≠some (.frz o u))/\ts ⟨fun σ'=>gE a (D.nx σ'),fun v=>gE a (D.rt v),fun σ'=>gE a (D.bk σ'),fun σ'=>gE a (D.ct σ')⟩ σ H
section
variable {X:Cx}
theorem rK {e:Expr}{te:TE} (he:PE X e te):PE X e (SS te):=by
 intro pins s σ H Q I h;obtain⟨a,h0,h⟩:=h;refine thn (he pins s σ H _ I h) fun v s1 ⟨x,H1,I1,r1,o,u,e,q⟩=> ?_;exact⟨x,_,I1.thaw (I.wasFree h0) e,r1,q⟩
theorem VX {st:Stmt}{ts:TS} (he:PS X st ts):PS X st (S0 ts):=by
 intro pins s σ H D I h;obtain⟨a,h0,h⟩:=h;refine thn (he pins s σ H _ I h) fun f s1 z=> ?_;cases f with
 | next=>obtain⟨σ1,H1,I1,o,u,e,q⟩:=z;exact⟨σ1,_,I1.thaw (I.wasFree h0) e,q⟩
 | brk=>obtain⟨σ1,H1,I1,o,u,e,q⟩:=z;exact⟨σ1,_,I1.thaw (I.wasFree h0) e,q⟩
 | cont=>obtain⟨σ1,H1,I1,o,u,e,q⟩:=z;exact⟨σ1,_,I1.thaw (I.wasFree h0) e,q⟩
 | ret v=>obtain⟨x,σ1,H1,I1,r,o,u,e,q⟩:=z;exact⟨x,σ1,_,I1.thaw (I.wasFree h0) e,r,q⟩
end
end L2
namespace L2
open PySem PySem.W PyProof.Rows
theorem D2:∀bs:List Bool,((List.range bs.length).any fun i=>bs.getD i false)=bs.any id
 | []=>rfl
 | b::bs=>by
  rw[List.length_cons,List.range_succ_eq_map,List.any_cons,List.any_map,List.any_cons,←D2 bs];rfl
theorem zM:∀{ns:List Int}{us:List Value},Vals (ns.map V.int) us->∃xs:List (Int×Tok),us=xs.map (fun p=>Value.int p.1 p.2)/\ns=xs.map (·.1)
 | [],_,.nil=>⟨[],rfl,rfl⟩
 | n::ns,_,.cons r t=>by
  obtain⟨xs,rfl,rfl⟩:=zM t;obtain⟨tk,rfl⟩:=r;exact⟨(n,tk)::xs,rfl,rfl⟩
section
variable {X:Cx}
def ZK (K:PySem.W.Frag):List V->Hp->VK->Prop:=fun xs H Q=>∃(p:Addr) (bs:List Bool),xs=[.ref p]/\SqL K H p (bs.map V.bl)/\Q (.bl (bs.any id)) H
theorem BV (hc:X.calm=true):d4 X (.builtin "any") (ZK X.K):=by
 intro pins s σ H xs us Q I r h;obtain⟨p,bs,rfl,hq,q⟩:=h;obtain⟨u,rfl,rx⟩:=jM r;cases rx;obtain⟨its,r',pl,hz⟩:=I.list hq;have hl:=pl.isList;have hlt:p<s.heap.objs.size:=by obtain⟨_,e,_⟩:=hl;exact Heap.lt_size e
 have hlen:bs.length=its.length:=by have:=r'.length;rw[List.length_map]at this;exact this
 refine call_any_walk (wpAny_pyIter_list hl ?_);refine⟨s.heap.objs.size,_,_,its.toArray.size,_,_,fun i=>bs.getD i false,rfl,Walks.list (show X.A.in1.handled=none from I.ok.hd hc) s.heap.objs.size p (Nat.ne_of_lt hlt) its.toArray,⟨⟨_,Heap.get?_push_size _ rfl,rfl,rfl⟩,hl.push _⟩,?_,?_⟩
 ·intro i v s' Q' E' hi hQ;have hi':its[i]? =some v:=by simpa using hi
  have hib:i<bs.length:=by rw[hlen];exact(List.getElem?_eq_some_iff.mp hi').1
  obtain⟨u,hu,ru⟩:=r'.get (i:=i) (x:=V.bl bs[i]) (by rw[List.getElem?_map,List.getElem?_eq_getElem hib];rfl);rw[hi']at hu;cases hu;have:v=Value.bool bs[i]:=ru;subst this;refine wpAny_truthy_bool ?_;have eb:bs.getD i false=bs[i]:=by rw[List.getD_eq_getElem?_getD,List.getElem?_eq_getElem hib];rfl
  have hQ':Q' (bs.getD i false) s':=hQ;rw[eb]at hQ';exact hQ'
 ·intro h' tk hk;have eany:(List.range its.toArray.size).any (fun i=>bs.getD i false)=bs.any id:=by
   rw[List.size_toArray,←hlen];exact D2 bs
  rw[eany];refine⟨.bl (bs.any id),H,?_,rfl,q⟩;have I1:Inv X pins σ H { s with heap:=s.heap.push { cls:= .type "list_iterator",data:= .fields #[.ref p,.int 0 0] },toks:=s.toks }:=I.kept fun b u e=>Heap.get?_push_of_some _ e;obtain⟨f0,f1,f2,f3,f4,f5⟩:=I.fpOk (Nat.le_refl _) (I.hok.fresh (Nat.le_refl _));exact I1.turned (fun b o hb e=>hk b o (by simpa using hb) e) f0 f1 f3 f4 f5
def ZP (K:PySem.W.Frag):List V->Hp->VK->Prop:=fun xs H Q=>∃(p:Addr) (ns:List Int),xs=[.ref p]/\SqL K H p (ns.map V.int)/\Q (.int ns.sum) H
theorem uF (hc:X.calm=true):d4 X (.builtin "sum") (ZP X.K):=by
 intro pins s σ H xs us Q I r h;obtain⟨p,ns,rfl,hq,q⟩:=h;obtain⟨u,rfl,rx⟩:=jM r;cases rx;obtain⟨its,r',pl,hz⟩:=I.list hq;obtain⟨zs,rfl,rfl⟩:=zM r';have hl:s.heap.IsList p (intItems zs.toArray):=by
  have:=pl.isList
  simpa [intItems] using this
 refine sum_intListG (I.ok.hd hc) hl fun h' tk t' hk=> ?_;have e2:preSum (numAt zs.toArray) zs.toArray.size=(zs.map (·.1)).sum:=by
  rw[preSum_eq,List.take_of_length_le (by simp)]
 rw[e2];exact⟨.int (zs.map (·.1)).sum,H,I.kept hk,⟨t',rfl⟩,q⟩
end
section
variable {K:PySem.W.Frag}{H:Hp}{Q:VK}
theorem MM {p:Addr}{bs:List Bool} (e:SqL K H p (bs.map V.bl)) (h:Q (.bl (bs.any id)) H):ZK K [.ref p] H Q:=⟨p,bs,rfl,e,h⟩
theorem DX {p:Addr}{ns:List Int} (e:SqL K H p (ns.map V.int)) (h:Q (.int ns.sum) H):ZP K [.ref p] H Q:=⟨p,ns,rfl,e,h⟩
end
theorem MO:bootBuiltins "any" =some (.builtin "any"):=by decide +kernel
theorem DR:bootBuiltins "sum" =some (.builtin "sum"):=by decide +kernel
end L2
namespace L2
open PySem PySem.W PyProof.Rows
theorem VB:typeLookup (.type "list") "keys" =pure none:=by rw[typeLookup_type,builtinLookup_eq_fast];kernel_rfl
theorem WZ:typeLookup (.type "list") "__getattr__" =pure none:=by rw[typeLookup_type,builtinLookup_eq_fast];kernel_rfl
theorem GA:isSubtype (.type "AttributeError") (.type "AttributeError")=pure true:=by rw[isSubtype_type];kernel_rfl
theorem QZ:((Manifest.find? "AttributeError").elim false fun t=>t.mro.contains "StopIteration" ||t.mro.contains "SystemExit")=false:=by decide +kernel
section
variable {prog:Program}{w:World}{A:Around}{E:Value->Shared->Prop}{s:Shared}
theorem R3 {α:Type}{v:Value}{a:Addr}{Q:α->Shared->Prop} (hh:A.handled=none)
  (k:∀e h' tk' o,h'.get? e=some o->o.cls= .type "AttributeError" ->(∀b o,s.heap.get? b=some o->h'.get? b=some o)->E (.ref e) { s with heap:=h',toks:=tk' }) :
  wpAny (model prog w) A (do
   let e ←newExc (.type "AttributeError") [v];let l ←mkText "keys"
   noteAttr e (.ref a) l
   raiseNew e) Q E s:=by
 unfold newExc newTuple;refine wpAny_bind (wpAny_bind (wpAny_newObj_type (wpAny_bind (m:=firstArgMember _ _) (wpAny_of_eq (a:=Value.none) (by simp only[firstArgMember,QZ];rfl) (wpAny_newObj_type ?_ (by size_fits)))) (by size_fits)));refine wpAny_bind (wpAny_mkText ?_);refine wpAny_bind ?_;unfold noteAttr;refine wpAny_bind ?_;unfold lacksNameAndObj;have e1:(#[Value.ref s.heap.objs.size,.none,.none,.none,.bool false,.none]++ownMembersOf (.type "AttributeError") [v]:Array Value)= #[Value.ref s.heap.objs.size,.none,.none,.none,.bool false,.none,unsetMember,unsetMember]:=rfl;rw[e1];generalize hs:s.heap.push { cls:=Value.type "tuple",data:=Data.seq #[v] }=h1;have ho:(h1.push { cls:= .type "AttributeError",data:= .fields #[Value.ref s.heap.objs.size,.none,.none,.none,.bool false,.none,unsetMember,unsetMember] }).get? h1.objs.size=some { cls:= .type "AttributeError",data:= .fields #[Value.ref s.heap.objs.size,.none,.none,.none,.bool false,.none,unsetMember,unsetMember] }:=Heap.get?_push_size _ rfl;refine wpAny_bind (wpAny_isInstance (b:=true) (T:= "AttributeError") ⟨_,ho,rfl⟩ GA ?_);refine wpAny_bind (wpAny_load ho ?_);refine wpAny_pure ?_;refine wpAny_bind (wpAny_rule ?_);refine wpAny_bind (wpAny_typeOf (T:= "AttributeError") ⟨_,ho,rfl⟩ ?_);unfold layMembers;refine wpAny_bind (wpAny_load ho ?_);refine wpAny_update ho ?_;simp only[raiseNew];refine wpAny_bind (wpAny_handled ?_);rw[hh];refine wpAny_bind (wpAny_pure (wpAny_throw ?_));refine k h1.objs.size _ _ _ (Heap.get?_update_self _ ho (Obj.isFreed_of_fields (Obj.data_mapFields rfl _))) (Obj.cls_mapFields ..) fun b o e=> ?_;have hb:b≠h1.objs.size:=fun z=>by
  have h2:h1.objs.size=s.heap.objs.size+1:=by rw[←hs];simp[Heap.push]
  have h3:=Heap.lt_size e;rw[z,h2]at h3;exact absurd h3 (Nat.not_lt.mpr (Nat.le_succ _))
 exact(Heap.get?_update_other _ _ (Ne.symm hb)).trans (Heap.get?_push_of_some _ (by rw[←hs];exact Heap.get?_push_of_some _ e))
theorem JV {a:Addr}{its:Array Value}{n:Nat}{tk:Tok}{Q:Fin->Shared->Prop} (hh:A.handled=none) (hx:s.heap.get? a=some { cls:= .type "list",data:= .seq its n })
  (k:∀e h' tk' o,h'.get? e=some o->o.cls= .type "AttributeError" ->(∀b o,s.heap.get? b=some o->h'.get? b=some o)->E (.ref e) { s with heap:=h',toks:=tk' }) :
  wpAny (model prog w) A (Builtin.«object.__getattribute__» ⟨[.ref a,.str "keys" tk],[]⟩) Q E s:=by
 obtain⟨h,g,d,t,os⟩:=s;have hT:(⟨h,g,d,t,os⟩:Shared).TypeIs (.ref a) "list" :=⟨_,hx,rfl⟩
 have f4:=VB
 repeat (any_goals (first|assumption|wp_step))
 refine wpAny_bind (wpAny_mkStr ?_ (by rw[sizeLine_eq];decide +kernel));exact R3 hh fun e h' tk' o e1 e2 e3=>k e h' tk' o e1 e2 e3
theorem N8 {a:Addr}{its:Array Value}{n:Nat}{tk:Tok}{R:Result->Shared->Prop} (hh:A.handled=none) (hx:s.heap.get? a=some { cls:= .type "list",data:= .seq its n })
  (k:∀e h' tk' o,h'.get? e=some o->o.cls= .type "AttributeError" ->(∀b o,s.heap.get? b=some o->h'.get? b=some o)->R (.error (.ref e)) { s with heap:=h',toks:=tk' }) :
  codeAny (model prog w) A (.call (.builtin "list.__getattribute__") ⟨[.ref a,.str "keys" tk],[]⟩) R s:=by
 obtain⟨h,g,d,t,os⟩:=s;exact codeAny_call_builtin F.slot_list_getattribute.plain F.entry_list_ga (F.slot_list_getattribute.check _ _ _ _ _ _ _ _ (show (⟨h,g,d,t,os⟩:Shared).TypeIs (.ref a) "list" from⟨_,hx,rfl⟩) (F.args_list_getattribute_2 _ _) (JV hh hx k))
theorem U9 {a:Addr}{its:Array Value}{n:Nat}{Q:Option Value->Shared->Prop} (hh:A.handled=none) (hx:s.heap.get? a=some { cls:= .type "list",data:= .seq its n })
  (k:∀h' tk',(∀b o,s.heap.get? b=some o->h'.get? b=some o)->Q none { s with heap:=h',toks:=tk' }):wpAny (model prog w) A (getAttr? (.ref a) "keys") Q E s:=by
 obtain⟨h,g,d,t,os⟩:=s;have hT:(⟨h,g,d,t,os⟩:Shared).TypeIs (.ref a) "list" :=⟨_,hx,rfl⟩
 have f2:=F.slot_list_getattribute.lookup;have f3:=F.slot_list_getattribute.bind (.ref a);unfold getAttr? getAttrBy?
 repeat (any_goals (first|assumption|wp_step))
 refine N8 hh hx fun e h' tk' o e1 e2 e3=> ?_;have hE:(⟨h',g,d,tk',os⟩:Shared).TypeIs (.ref e) "AttributeError" :=⟨_,e1,e2⟩
 show wpAny (model prog w) A (getattributeRaised (Value.ref a) (Value.str (Str.ofString "keys") t) (.type "list") (.ref e) none false false) _ _ (⟨h',g,d,tk',os⟩:Shared);unfold getattributeRaised;refine wpAny_bind (wpAny_isInstance (b:=true) hE GA ?_);show wpAny (model prog w) A (typeLookup (.type "list") "__getattr__" >>= fun x=>hookOrError (Value.ref a) (Value.str (Str.ofString "keys") t) (.ref e) false false x) _ _ (⟨h',g,d,tk',os⟩:Shared);rw[WZ];refine wpAny_bind (wpAny_pure ?_);refine wpAny_throw ?_;refine wpAny_bind (wpAny_isInstance (b:=true) hE GA ?_);exact wpAny_pure (k h' tk' e3)
end
end L2
namespace L2
open PySem PySem.W PyProof.Rows
theorem rS:entryFor table "dict.update.loop" =some Builtin.«dict.update.loop»:=entryFor_of_tree (by kernel_rfl)
theorem gX:plainId "dict.update.loop" =true:=by decide +kernel
def OR {κ:Type}[DecidableEq κ](kvs ps:List (κ×Value)):List (κ×Value):=ps.foldl (fun acc p=>stored acc p.1 p.2) kvs
theorem LF {κ:Type}[DecidableEq κ](kvs:List (κ×Value))(k:κ)(v:Value):(stored kvs k v).length<=kvs.length+1:=by
 unfold stored
 split
 ·rw[List.length_map];exact Nat.le_succ _
 ·rw[List.length_append];exact Nat.le_refl _
section
variable {prog:Program}{w:World}{A:Around}{E:Value->Shared->Prop}{κ:Type} [DecidableEq κ] {knd:KeyKind prog w κ}{I d:Addr}{fp wr:List Addr}{n:Nat}{P:Nat->Value->Prop}{St:Nat->Heap->Prop}{R:Result->Shared->Prop}
def aBg (knd:KeyKind prog w κ)(d:Addr)(wr:List Addr)(P:Nat->Value->Prop)(ps:List (κ×Value))(h:Heap):Prop :=
 ∀i v,P i v->∃(q:Addr) (o:Obj) (key:Value) (k:κ) (u:Value) (c:Nat),v= .ref q/\q∉wr/\q≠d/\h.get? q=some o/\o.cls= .type "tuple" /\o.data= .seq #[key,u] c/\knd.is k key=true/\ps[i]? =some (k,u)
theorem RJ (W:Walks prog w A.in1 I fp wr n P St)(hdf:d∉fp)(ps:List (κ×Value))(hn:ps.length=n)(hsz:n<=sizeLine) :
  ∀(k i:Nat) (s:Shared) (kvs:List (κ×Value)),n - i=k->i<=n->St i s.heap->kvs.length<=i->s.heap.DictOf knd d kvs->aBg knd d wr P ps s.heap →
  (∀h' tk,h'.DictOf knd d (OR kvs (ps.drop i))->(∀b o,b∉wr->b≠d->s.heap.get? b=some o->h'.get? b=some o)->R (.ok (.ret .none)) { s with heap:=h',toks:=tk }) →
  codeAny (model prog w) A (.builtin "dict.update.loop" ⟨[.ref d,.ref I,rawInt i,.none],[]⟩) R s:=by
 have hdw:d∉wr:=fun h=>hdf (W.sub _ h);intro k
 induction k with
 | zero =>
  intro i s kvs hk hi hst hl hd hrow hR;have hin:i=n:=by lia
  subst hin;refine codeAny_builtin rS ?_;rw[Around.under_plainId gX _];show wpAny _ A.in1 (pyNext (.ref I) >>= _) _ _ s;refine wpAny_bind (W.done s _ _ hst fun h' tk hk'=> ?_);show wpAny _ _ (Builtin.Dict.addKeywords d [] >>= _) _ _ _;refine wpAny_bind (wpAny_pure (wpAny_pure (hR h' tk ?_ fun b o hb _ e=>hk' b o hb e)));rw[List.drop_of_length_le (by lia)];exact hd.at fun o e=>hk' d o hdw e
 | succ k ih =>
  intro i s kvs hk hi hst hl hd hrow hR;have hlt:i<n:=by lia
  refine codeAny_builtin rS ?_;rw[Around.under_plainId gX _];show wpAny _ A.in1 (pyNext (.ref I) >>= _) _ _ s;refine wpAny_bind (W.item i s _ _ hlt hst fun v h' tk hP hst' hk'=> ?_);obtain⟨q,o,key,kk,u,c,rfl,hqw,hqd,ho,hc,hdt,his,hps⟩:=hrow i v hP;have ho':=hk' q o hqw ho;refine wpAny_bind (wpAny_holding (wpAny_bind (wpAny_tryCatch ?_)));unfold Builtin.Dict.pairItems;refine wpAny_bind (wpAny_typeOf (T:= "tuple") ⟨o,ho',hc⟩ ?_);rw[if_pos (by rfl)];refine wpAny_bind (wpAny_seqItems ho' hdt (wpAny_pure ?_));have hd':h'.DictOf knd d kvs:=hd.at fun o e=>hk' d o hdw e;refine wpAny_holding (wpAny_dictSet_pairs his hd' (fun h2 hd2 sb=> ?_) (by lia));have keep:∀b o,b∉wr->b≠d->s.heap.get? b=some o->h2.get? b=some o:=fun b o hb hbd e=>(sb.2 b hbd).trans (hk' b o hb e);refine wpAny_pure ⟨plainId_quiet gX _,ih (i+1) _ (stored kvs kk u) (by lia) hlt (W.frame _ _ _ hst' fun b hb o e=>(sb.2 b (fun z=>hdf (z▸hb))).trans e) (Nat.le_trans (LF ..) (by lia)) hd2 (fun j v hj=> ?_) fun h3 tk3 hd3 hk3=> ?_⟩
  ·obtain⟨q,o,key,kk,u,c,e1,e2,e3,e4,e5⟩:=hrow j v hj;exact⟨q,o,key,kk,u,c,e1,e2,e3,keep q o e2 e3 e4,e5⟩
  ·refine hR h3 tk3 ?_ fun b o hb hbd e=>hk3 b o hb hbd (keep b o hb hbd e);have ed:ps.drop i=(kk,u)::ps.drop (i+1):=by
    have hi2:i<ps.length:=by lia
    rw[List.drop_eq_getElem_cons hi2];have:=(List.getElem?_eq_some_iff.mp hps).2;rw[this]
   rw[ed];exact hd3
end
end L2
namespace L2
open PySem PySem.W PyProof.Rows
section
variable {prog:Program}{w:World}{A:Around}{E:Value->Shared->Prop}{κ:Type} [DecidableEq κ] {knd:KeyKind prog w κ}{s:Shared}{l:Addr}{its:Array Value}{c:Nat}
theorem NA {ps:List (κ×Value)}{Q:Value->Shared->Prop} (hh:A.handled=none) (hl:s.heap.get? l=some { cls:= .type "list",data:= .seq its c }) (hsz:its.size<=sizeLine) (hlen:ps.length=its.size)
  (hrow:∀(i:Nat) (v:Value),its[i]? =some v->∃(q:Addr) (o:Obj) (key:Value) (k:κ) (u:Value) (c:Nat),v= .ref q/\s.heap.get? q=some o/\o.cls= .type "tuple" /\o.data= .seq #[key,u] c/\knd.is k key=true/\ps[i]? =some (k,u))
  (h:∀h' tk,h'.DictOf knd s.heap.objs.size (OR [] ps)->(∀b o,s.heap.get? b=some o->h'.get? b=some o)->Q (.ref s.heap.objs.size) { s with heap:=h',toks:=tk }) :
  wpAny (model prog w) A (call (.type "dict") [.ref l]) Q E s:=by
 refine callType_codes (Q₁:=fun obj s₁=>obj= .ref s.heap.objs.size/\s₁={ s with heap:=s.heap.push { cls:= .type "dict",data:= .dict #[] } }) F.kt_called_dict (F.kt_typeCall_dict_1 _) F.entry_dict_init (kt_code_dict_new _ ⟨rfl,rfl⟩) ?_;rintro obj s₁ ⟨rfl,rfl⟩;have hnew:(s.heap.push { cls:= .type "dict",data:= .dict #[] }).DictOf knd s.heap.objs.size []:=Heap.DictOf.new s.heap;have hl':(s.heap.push { cls:= .type "dict",data:= .dict #[] }).get? l=some { cls:= .type "list",data:= .seq its c }:=Heap.get?_push_of_some _ hl;refine⟨hnew.typeIs,F.args_dict_init_2 _ _,?_⟩;unfold Builtin.«dict.__init__»;refine wpAny_bind ?_;unfold Builtin.Dict.selfAndRest;refine wpAny_bind (wpAny_notOrdered_dict hnew.typeIs ?_);show wpAny _ _ (pure (s.heap.objs.size,[Value.ref l])) _ _ _;refine wpAny_pure ?_;show wpAny _ _ (Builtin.Dict.updateFrom "dict.__init__" s.heap.objs.size (.ref l) [] .none) _ _ _;unfold Builtin.Dict.updateFrom;refine wpAny_bind (wpAny_typeOf (T:= "list") ⟨_,hl',rfl⟩ ?_);rw[if_pos (by decide)];refine wpAny_bind (U9 hh hl' fun h1 t1 kp1=> ?_);rw[if_pos (show (none:Option Value).isNone=true from rfl)];refine wpAny_bind (wpAny_rule ?_);have hl1:=kp1 _ _ hl';have isl:h1.IsList l its:=⟨_,hl1,rfl,_,rfl⟩
 have lt1:∀b o,s.heap.get? b=some o->b≠h1.objs.size:=fun b o e z=>by
  have:=Heap.lt_size (kp1 b o (Heap.get?_push_of_some _ e));rw[z]at this;exact Nat.lt_irrefl _ this
 have hdI:s.heap.objs.size≠h1.objs.size:=fun z=>by
  have:=Heap.lt_size (kp1 _ _ (Heap.get?_push_size s.heap (o:={ cls:= .type "dict",data:= .dict #[] }) rfl));rw[z]at this;exact Nat.lt_irrefl _ this
 have hdl:∀b o,s.heap.get? b=some o->b≠s.heap.objs.size:=fun b o e z=>by
  have:=Heap.lt_size e;rw[z]at this;exact Nat.lt_irrefl _ this
 refine wpAny_bind (wpAny_pyIter_list isl ?_);refine wpAny_pure ⟨plainId_quiet gX _,?_⟩;have W:=Walks.list (prog:=prog) (w:=w) (A:=A.in1.in1) hh h1.objs.size l (lt1 _ _ hl) its;refine RJ (knd:=knd) W (by simp only[List.mem_cons,List.not_mem_nil,or_false,not_or];exact⟨hdI,Ne.symm (hdl _ _ hl)⟩) ps hlen hsz its.size 0 _ [] (Nat.sub_zero _) (Nat.zero_le _) ⟨⟨_,Heap.get?_push_size _ rfl,rfl,rfl⟩,isl.push _⟩ (Nat.le_refl _) ((hnew.at fun o e=>kp1 _ o e).push _) (fun i v hi=> ?_) fun h' tk hd hk=> ?_
 ·obtain⟨q,o,key,k,u,c',e1,e2,e3,e4,e5,e6⟩:=hrow i v hi;refine⟨q,o,key,k,u,c',e1,?_,hdl _ _ e2,Heap.get?_push_of_some _ (kp1 _ _ (Heap.get?_push_of_some _ e2)),e3,e4,e5,e6⟩;simp only[List.mem_cons,List.not_mem_nil,or_false];exact lt1 _ _ e2
 ·refine⟨rfl,h h' tk hd fun b o e=>hk b o ?_ (hdl _ _ e) (Heap.get?_push_of_some _ (kp1 _ _ (Heap.get?_push_of_some _ e)))⟩;simp only[List.mem_cons,List.not_mem_nil,or_false];exact lt1 _ _ e
end
end L2
namespace L2
open PySem PySem.W PyProof.Rows
abbrev vW (H:Hp):List V->List (Key×V)->Prop:=Paired fun v p=>∃q,v= .ref q/\H q=some (.tup [kV p.1,p.2])
section
variable {X:Cx}{pins:List (Addr×Obj)}{σ:St}{H:Hp}{s:Shared}
theorem QC (I:Inv X pins σ H s){q:Addr}{k:Key}{x:V} (e:H q=some (.tup [kV k,x])):∃(o:Obj) (key u:Value) (n:Nat),s.heap.get? q=some o/\o.cls= .type "tuple" /\o.data= .seq #[key,u] n/\(bO X.prog X.w).is k key=true/\RelV x u:=by
 obtain⟨_,us,r,o,h1,h2,n,h3⟩:=(show ObjOk X.prog X.w H s.heap q (.tup [kV k,x]) from I.hok q _ e)
 cases r with
 | @cons _ key _ _ r1 r =>
  cases r with
  | @cons _ u _ _ r2 r =>
   cases r;exact⟨o,key,u,n,h1,h2,h3,tT r1,r2⟩
theorem yV (I:Inv X pins σ H s):∀{vs:List V}{ps:List (Key×V)}{us:List Value},vW H vs ps->Vals vs us →
  ∃rs:List (Key×Value),KV ps rs/\rs.length=us.length/\∀(i:Nat) (v:Value),us[i]? =some v->∃(q:Addr) (o:Obj) (key:Value) (k:Key) (u:Value) (c:Nat),v= .ref q/\s.heap.get? q=some o/\o.cls= .type "tuple" /\o.data= .seq #[key,u] c/\(bO X.prog X.w).is k key=true/\rs[i]? =some (k,u)
 | _,_,_,.nil,.nil=>⟨[],.nil,rfl,fun i v z=>by simp at z⟩
 | _::_,(k,x)::_,_::us,.cons ⟨q,e,hq⟩ t,.cons r rt=>by
  obtain⟨rs,h1,h2,h3⟩:=yV I t rt;obtain⟨o,key,u,n,o1,o2,o3,o4,o5⟩:=QC I hq;subst e;cases r;refine⟨(k,u)::rs,.cons ⟨rfl,o5⟩ h1,by simp[h2],fun i v z=> ?_⟩;cases i with
  | zero=>cases z;exact⟨q,o,key,k,u,n,rfl,o1,o2,o3,o4,rfl⟩
  | succ i =>
   obtain⟨q,o,key,k,u,c,w1⟩:=h3 i v (by simpa using z);exact⟨q,o,key,k,u,c,by simpa using w1⟩
def N0:List V->Hp->VK->Prop:=fun xs H Q=>∃p vs ps,xs=[.ref p]/\Rd H p (.lst vs)/\vW H vs ps/\∀l,H l=none->Q (.ref l) (upd H l (.dK (iK [] ps)))
theorem x9 (hc:X.calm=true):d4 X (.type "dict") N0:=by
 intro pins s σ H xs us Q I r h;obtain⟨p,vs,ps,rfl,hq,pr,q⟩:=h;obtain⟨u,rfl,rx⟩:=jM r;cases rx;obtain⟨z,its,n,rv,e⟩:=(show ObjOk X.prog X.w H s.heap p (.lst vs) from hq.ok I.hok)
 obtain⟨rs,h1,h2,h3⟩:=yV I pr rv;have hl:=rv.length;have hlp:=h1.length;refine NA (knd:=bO X.prog X.w) (ps:=rs) (I.ok.hd hc) e (by rw[List.size_toArray];lia) (by rw[List.size_toArray];exact h2) (fun i v hv=>h3 i v (by simpa using hv)) fun h' tk hd kp=> ?_;have lm:(iK [] ps).length<=sizeLine:=Nat.le_trans (t7 ps []) (by simp;lia);have nm:(s.heap.objs.size==sysModules)=false:=by
  have:=I.big;simp only[beq_eq_false_iff_ne];exact fun z=>by rw[z]at this;exact Nat.lt_irrefl _ this
 exact⟨.ref _,_,I.laid (t':=tk) kp (Nat.le_refl _) (MT lm nm (KV.merge h1 .nil) hd),rfl,q _ (I.hok.fresh (Nat.le_refl _))⟩
end
end L2
namespace L2
open PySem PySem.W PyProof.Rows
section
variable {prog:Program}{w:World}{A:Around}{E:Value->Shared->Prop}{s:Shared}{d it:Addr}{o:Obj}{es:Array DictEntry}{ep i:Nat}{k0 v0:Value}
theorem NC {Q:Option Value->Shared->Prop}{e:DictEntry} (st:IsItemIter s.heap it d i es.size ep k0 v0) (ho:s.heap.get? d=some o) (hq:o.data= .dict es ep) (hx:es[i]? =some e)
  (k:∀h',IsItemIterOut h' it d (i+1) es.size ep e.key e.val s.heap.objs.size->h'.get? s.heap.objs.size=some { cls:= .type "tuple",data:= .seq #[e.key,e.val] } →
   (∀b u,b≠it->s.heap.get? b=some u->h'.get? b=some u)->Q (some (.ref s.heap.objs.size)) { s with heap:=h' }):wpAny (model prog w) A (pyNext (.ref it)) Q E s:=by
 obtain⟨hp,g,dr,tk,os⟩:=s;have T:Shared.TypeIs ⟨hp,g,dr,tk,os⟩ (.ref it) "dict_itemiterator" :=⟨_,st,rfl⟩
 unfold pyNext;refine wpAny_bind (wpAny_attempt (wpAny_callSpecial?_slot (name:=Str.ofString "__next__") T F.slot_dict_itemiterator_next (wpAny_call_entry F.slot_dict_itemiterator_next T F.entry_dict_itemiterator_next ?_ (F.args_dict_itemiterator_next_1 _))));refine wpAny_bind (wpAny_pure (wpAny_bind (wpAny_bind ?_)))
 first|refine wpAny_bind (wpAny_typeNameOfWhole_itemiter T (wpAny_pure (wpAny_bind (wpAny_fieldsOf st rfl ?_))))|refine wpAny_bind (wpAny_typeNameOf_itemiter T (wpAny_pure (wpAny_bind (wpAny_fieldsOf st rfl ?_))))
 simp only[show Builtin.Dict_items.ownsTuple "dict_itemiterator" =true by decide,if_true];show wpAny _ A.in1 (if (Value.ref d==Value.none)=true then _ else _) _ _ (⟨hp,g,dr,tk,os⟩:Shared);rw[if_neg (show ¬(Value.ref d==Value.none)=true from Bool.false_ne_true)];refine wpAny_bind (wpAny_pure (wpAny_bind (wpAny_dictEntries ho hq ?_)));rw[if_neg (by simp)];refine wpAny_bind (wpAny_pure (wpAny_bind (wpAny_dictEpoch ho hq ?_)));rw[if_neg (by simp)];refine wpAny_pure ?_;simp only[show ¬((i:Int)<0) from by lia,if_false,Int.toNat_natCast,hx];refine wpAny_bind ?_
 first|refine wpAny_bind (wpAny_typeNameOfWhole_itemiter T (wpAny_pure (wpAny_bind (wpAny_isOneOf_itemiter T ?_))))|refine wpAny_bind (wpAny_typeNameOf_itemiter T (wpAny_pure (wpAny_bind (wpAny_isOneOf_itemiter T ?_))))
 show wpAny _ A.in1 (setField (.ref it) 3 (rawInt ((i:Int)+1)) >>= _) _ _ (⟨hp,g,dr,tk,os⟩:Shared);refine wpAny_bind (wpAny_setField_rec st (by simp) fun h1 e1 s1=> ?_)
 replace s1:Heap.SameBut it hp h1:=s1
 replace e1:IsItemIter h1 it d (i+1) es.size ep k0 v0:=by
  unfold IsItemIter;rw[show ((i+1:Nat):Int)=(i:Int)+1 by lia];simpa [rawInt] using e1
 have T1:Shared.TypeIs ⟨h1,g,dr,tk,os⟩ (.ref it) "dict_itemiterator" :=⟨_,e1,rfl⟩
 refine wpAny_bind (wpAny_holding (wpAny_bind (wpAny_isOneOf_itemiter T1 (wpAny_bind (wpAny_isOneOf_itemiter T1 ?_)))));show wpAny _ A.in1 (Builtin.Dict_items.pairFromOwner (.ref it) 6 e.key e.val) _ _ (⟨h1,g,dr,tk,os⟩:Shared);unfold Builtin.Dict_items.pairFromOwner;refine wpAny_bind (wpAny_newTuple ?_);have e2:IsItemIter (h1.push { cls:= .type "tuple",data:= .seq #[e.key,e.val] }) it d (i+1) es.size ep k0 v0:=Heap.get?_push_of_some _ e1;generalize q2:h1.push { cls:= .type "tuple",data:= .seq #[e.key,e.val] }=h2 at e2;have z1:h1.objs.size=hp.objs.size:=s1.1;have il:it<hp.objs.size:=Heap.lt_size st;have t2:h2.get? hp.objs.size=some { cls:= .type "tuple",data:= .seq #[e.key,e.val] }:=by rw[←q2,←z1];exact Heap.get?_push_size _ rfl
 have k2:∀b u,b≠it->hp.get? b=some u->h2.get? b=some u:=fun b u hb z=>by rw[←q2];exact Heap.get?_push_of_some _ (s1.extBut b u hb z)
 show wpAny _ A.in1 (Builtin.Dict_items.ownedTupleIsFree (.ref it) >>= _) _ _ (⟨h2,g,dr,tk,os⟩:Shared);rw[z1];clear q2 e1 s1 T1 z1 h1;refine wpAny_bind ?_;unfold Builtin.Dict_items.ownedTupleIsFree;refine wpAny_bind (wpAny_field e2 rfl (x:= .none) rfl (wpAny_pure ?_));simp only[if_true];refine wpAny_bind (wpAny_field e2 rfl (x:=k0) rfl (wpAny_bind (wpAny_field e2 rfl (x:=v0) rfl ?_)));refine wpAny_bind (wpAny_setField_rec e2 (by simp) fun h3 e3 s3=> ?_)
 replace s3:Heap.SameBut it h2 h3:=s3
 replace e3:IsItemIter h3 it d (i+1) es.size ep e.key v0:=e3
 refine wpAny_bind (wpAny_setField_rec e3 (by simp) fun h4 e4 s4=> ?_)
 replace s4:Heap.SameBut it h3 h4:=s4
 replace e4:IsItemIter h4 it d (i+1) es.size ep e.key e.val:=e4
 refine wpAny_bind (wpAny_setField_rec e4 (by simp) fun h5 e5 s5=> ?_)
 replace s5:Heap.SameBut it h4 h5:=s5
 replace e5:IsItemIterOut h5 it d (i+1) es.size ep e.key e.val hp.objs.size:=e5
 refine wpAny_bind (wpAny_setField_rec e5 (by simp) fun h6 e6 s6=> ?_)
 replace s6:Heap.SameBut it h5 h6:=s6
 replace e6:IsItemIterOut h6 it d (i+1) es.size ep e.key e.val hp.objs.size:=e6
 have kk:∀b u,b≠it->h2.get? b=some u->h6.get? b=some u:=fun b u hb z=>s6.extBut b u hb (s5.extBut b u hb (s4.extBut b u hb (s3.extBut b u hb z)));exact wpAny_bind (wpAny_letGo (wpAny_pure (wpAny_pure ⟨_,rfl,wpAny_pure (k h6 e6 (kk _ _ (Nat.ne_of_gt il) t2) fun b u hb z=>kk b u hb (k2 b u hb z))⟩)))
theorem Q6 {Q:Option Value->Shared->Prop}(hh:A.handled=none)(st:IsItemIter s.heap it d i es.size ep k0 v0)(ho:s.heap.get? d=some o)(hq:o.data= .dict es ep)(hx:es.size<=i)
  (k:∀h',Heap.ExtBut it s.heap h'->Q none { s with heap:=h' }):wpAny (model prog w) A (pyNext (.ref it)) Q E s:=by
 have T:s.TypeIs (.ref it) "dict_itemiterator" :=⟨_,st,rfl⟩
 unfold pyNext;refine wpAny_bind (wpAny_attempt (wpAny_callSpecial?_slot (name:=Str.ofString "__next__") T F.slot_dict_itemiterator_next (wpAny_call_entry F.slot_dict_itemiterator_next T F.entry_dict_itemiterator_next ?_ (F.args_dict_itemiterator_next_1 _))));refine wpAny_bind (wpAny_pure (wpAny_bind (wpAny_bind ?_)))
 first|refine wpAny_bind (wpAny_typeNameOfWhole_itemiter T (wpAny_pure (wpAny_bind (wpAny_fieldsOf st rfl ?_))))|refine wpAny_bind (wpAny_typeNameOf_itemiter T (wpAny_pure (wpAny_bind (wpAny_fieldsOf st rfl ?_))))
 simp only[show Builtin.Dict_items.ownsTuple "dict_itemiterator" =true by decide,if_true];show wpAny _ A.in1 (if (Value.ref d==Value.none)=true then _ else _) _ _ s;rw[if_neg (show ¬(Value.ref d==Value.none)=true from Bool.false_ne_true)];refine wpAny_bind (wpAny_pure (wpAny_bind (wpAny_dictEntries ho hq ?_)));rw[if_neg (by simp)];refine wpAny_bind (wpAny_pure (wpAny_bind (wpAny_dictEpoch ho hq ?_)));rw[if_neg (by simp)];refine wpAny_pure ?_;simp only[show ¬((i:Int)<0) from by lia,if_false,Int.toNat_natCast,Array.getElem?_eq_none hx];refine wpAny_bind ?_
 first|refine wpAny_bind (wpAny_typeNameOfWhole_itemiter T (wpAny_pure ?_))|refine wpAny_bind (wpAny_typeNameOf_itemiter T (wpAny_pure ?_))
 show wpAny _ A.in1 (setField (.ref it) 2 .none >>= _) _ _ s;refine wpAny_bind (wpAny_setField st rfl (by simp) ?_);show wpAny _ A.in1 (newExc (.type "StopIteration") [] >>= _) _ _ _;refine wpAny_bind ?_;simp only[newExc,newTuple];refine wpAny_bind (wpAny_newObj_type (wpAny_bind (m:=firstArgMember _ _) (wpAny_of_eq (a:=Value.none) (by first|rfl|(simp only[firstArgMember];rfl)) (wpAny_newObj_type ?_ (by size_fits)))) (by size_fits));simp only[raiseNew];refine wpAny_bind (wpAny_handled ?_);rw[show A.in1.handled=none from hh];refine wpAny_bind (wpAny_pure (wpAny_throw ?_));refine wpAny_bind (wpAny_isInstance (b:=true) (T:= "StopIteration") ⟨_,Heap.get?_push_size _ rfl,rfl⟩ isSubtype_stop ?_);exact wpAny_pure (k _ (((Heap.SameBut.update ..).extBut.push _).push _))
end
end L2
namespace L2
open PySem PySem.W PyProof.Rows
section
variable {prog:Program}{w:World}{A:Around}{E:Value->Shared->Prop}{s:Shared}{d it:Addr}{o:Obj}{es:Array DictEntry}{ep i:Nat}
theorem KB {Q:Value->Shared->Prop}(hd:(d==sysModules)=false)(T:s.TypeIs (.ref d) "dict")
  (k:Q (.ref s.heap.objs.size) { s with heap:=s.heap.push { cls:= .type "dict_items",data:= .fields #[.ref d] } }):wpAny (model prog w) A (call (.builtin "dict.items") [.ref d]) Q E s:=by
 refine wpAny_call_entry F.slot_dict_items T F.entry_dict_items ?_ (F.args_dict_items_1 _);unfold Builtin.«dict.items» Builtin.Dict.noArgs;refine wpAny_bind (wpAny_bind (wpAny_notOrdered_dict T (wpAny_pure ?_)));show wpAny _ A.in1 (Builtin.Dict.showsAll d >>= _) _ _ s;unfold Builtin.Dict.showsAll;rw[if_neg (fun z=>by rw[hd]at z;cases z)];exact wpAny_bind (wpAny_pure (wpAny_bind (wpAny_newObj_type (wpAny_pure ⟨_,rfl,k⟩))))
theorem NK {v:Addr}{Q:Value->Shared->Prop} (hv:s.heap.IsItemsView v d) (ho:s.heap.get? d=some o) (hq:o.data= .dict es ep)
  (k:Q (.ref s.heap.objs.size) { s with heap:=s.heap.push { cls:= .type "dict_itemiterator",data:= .fields #[.none,.bool false,.ref d,.int 0 0,.int es.size 0,.int ep 0,.none,.none] } }):wpAny (model prog w) A (pyIter (.ref v)) Q E s:=by
 obtain⟨ov,hov,hcv,hdv⟩:=id hv;refine wpAny_pyIter_slot hv.typeIs F.slot_dict_items_iter (wpAny_call_entry F.slot_dict_items_iter hv.typeIs F.entry_dict_items_iter ?_ (F.args_dict_items_iter_1 _));unfold Builtin.«dict_items.__iter__» Builtin.Dict_items.dictOf Builtin.Dict_items.newIterator;refine wpAny_bind (wpAny_pure (wpAny_bind (wpAny_bind (wpAny_field hov hdv (x:= .ref d) rfl (wpAny_pure (wpAny_bind (wpAny_bind (wpAny_dictEntries ho hq (wpAny_bind (wpAny_dictEpoch ho hq ?_))))))))));simp only[show Builtin.Dict_items.ownsTuple "dict_itemiterator" =true by decide,if_true];refine wpAny_newObj_type (wpAny_pure ⟨_,rfl,"dict_itemiterator",_,⟨_,Heap.get?_push_size _ rfl,rfl⟩,F.slot_dict_itemiterator_next.lookup,?_⟩) (by simp only[sizeOk,Builtin.Dict_items.ownedTupleFields,List.size_toArray,List.length_append,List.length_cons,List.length_nil,sizeLine_eq];lia)
 simpa [rawInt,Builtin.Dict_items.ownedTupleFields] using k
end
def Itj (a:Addr)(o:Obj)(kvs:List (List Key×V)):It :=
 ⟨fun i H=>H a=some (.frz o (.dT kvs))/\i<kvs.length,fun i H x H'=>∃k v p q,kvs[i]? =some (k,v)/\x= .ref q/\H p=some (.tup (k.map kV))/\H q=none/\H'=upd H q (.tup [.ref p,v]),fun i H=>H a=some (.frz o (.dT kvs))/\kvs.length<=i⟩
theorem KT.get2 {H:Hp}:∀{kvs:List (List Key×V)}{xs:List (List Key×Addr×Value)}{i:Nat},KT H kvs xs->i<kvs.length->∃k v b u,kvs[i]? =some (k,v)/\xs[i]? =some (k,b,u)/\H b=some (.tup (k.map kV))/\RelV v u
 | _,_,0,.cons h _,_=>⟨_,_,_,_,rfl,by rw[h.1];rfl,h.2.1,h.2.2⟩
 | _,_,i+1,.cons _ t,hi=>by
  obtain⟨k,v,b,u,e1,e2,e3⟩:=KT.get2 (i:=i) t (by simpa using hi);exact⟨k,v,b,u,by simpa using e1,by simpa using e2,e3⟩
 | _,_,_,.nil,hi=>by simp at hi
theorem GS {P:Program}{w:World}{K:PySem.W.Frag}{elts:List Expr}{x1:Nat}{tpos:Pos} (a it:Addr) {o:Obj}{es:Array DictEntry}{ep:Nat} (kvs:List (List Key×V)) (hd:o.data= .dict es ep) (hz:es.size=kvs.length) :
  uE P w K (.Tuple elts x1 tpos) (Itj a o kvs) [it] it (fun i h=>∃ok ov,IsItemIter h it a i es.size ep ok ov) where
 mem:=by simp
 obj:=fun i h st b hb=>by
  have e:b=it:=by simpa using hb
  subst e;obtain⟨ok,ov,e⟩:=st;exact⟨_,e,fun v z=>by cases z⟩
 keep:=fun i h h' st k=>let ⟨ok,ov,e⟩:=st;⟨ok,ov,k it (by simp) _ e⟩
 item:=by
  intro X hP hw hK hc i pins s σ H E I hf st hg;subst hP hw hK;obtain⟨ha,hi⟩:=hg;obtain⟨ok,ov,st⟩:=st;obtain⟨ho,z,y,xs,r,o',es',ep',h1,h2,h3,h4,h5⟩:=(show ObjOk X.prog X.w H s.heap a (.frz o (.dT kvs)) from I.hok a _ ha)
  rw[ho]at h1;cases h1;rw[hd]at h3;cases h3;obtain⟨k,v,b,u,e1,e2,e3,e5⟩:=KT.get2 r hi;have e4:=entry_at h4 i;rw[e2]at e4;obtain⟨f0,f1,f2,f3,f4,f5⟩:=hf it (by simp);refine NC st ho hd e4 fun h' st' ht kp=> ?_;refine⟨_,rfl,?_⟩;refine wpAny_letOwnedTupleGo_items (s:={ s with heap:=h' }) st' fun h'' st'' sb=> ?_;have hq:H s.heap.objs.size=none:=I.hok.fresh (Nat.le_refl _);have hne:s.heap.objs.size≠it:=fun z=>by
   have:=Heap.lt_size (show s.heap.get? it=some _ from st);rw[z]at this;exact Nat.lt_irrefl _ this
  have tup:Vals [.ref b,v] [.ref b,u]:= .cons rfl (.cons e5 .nil);have I1:Inv X pins σ (upd H s.heap.objs.size (.tup [.ref b,v])) { s with heap:=s.heap.push { cls:= .type "tuple",data:= .seq #[.ref b,u] } } :=
   I.laid (t':=s.toks) (fun b u e=>Heap.get?_push_of_some _ e) (Nat.le_refl _) ⟨(show 2<=sizeLine by rw[sizeLine_eq];decide),[.ref b,u],tup,⟨_,Heap.get?_push_size _ rfl,rfl,0,rfl⟩⟩
  have n0:upd H s.heap.objs.size (.tup [.ref b,v]) it=none:=by rw[aJ (Ne.symm hne)];exact f0
  have I2:Inv X pins σ (upd H s.heap.objs.size (.tup [.ref b,v])) { s with heap:=h'' }:=Inv.turned (s:={ s with heap:=s.heap.push { cls:= .type "tuple",data:= .seq #[.ref b,u] } }) (h':=h'') (t':=s.toks) (it:=it) I1 (fun c o hb e=>by
   rcases Heap.get?_push_cases e with⟨rfl,rfl⟩|e
   ·exact(sb.2 _ hb).trans ht
   ·exact(sb.2 c hb).trans (kp c o hb e)) n0 f1 f3 f4 f5
  exact⟨.ref s.heap.objs.size,_,I2,rfl,⟨k,v,b,_,e1,rfl,e3,hq,rfl⟩,⟨_,_,st''⟩,fun b hb=>by
   have e:b=it:=by simpa using hb
   rw[e];exact n0⟩
 done:=by
  intro X hP hw hK hc i pins s σ H E I hf st hg;subst hP hw hK;obtain⟨ha,hi⟩:=hg;obtain⟨ok,ov,st⟩:=st;obtain⟨ho,hok⟩:=(show ObjOk X.prog X.w H s.heap a (.frz o (.dT kvs)) from I.hok a _ ha)
  obtain⟨f0,f1,f2,f3,f4,f5⟩:=hf it (by simp);exact Q6 (I.ok.hd hc) st ho hd (by lia) fun h' eb=>⟨rfl,I.turned (t':=s.toks) (fun b o hb e=>eb b o hb e) f0 f1 f3 f4 f5⟩
 self:=fun A i s Q E st h=>by
  obtain⟨ok,ov,st⟩:=st;have T:s.TypeIs (.ref it) "dict_itemiterator" :=⟨_,st,rfl⟩
  refine wpAny_pyIter_slot T F.slot_dict_itemiterator_iter (wpAny_call_entry F.slot_dict_itemiterator_iter T kI ?_ (F.args_dict_itemiterator_iter_1 _));show wpAny _ _ (ret (.ref it)) _ _ s;exact wpAny_pure ⟨_,rfl,"dict_itemiterator",_,T,F.slot_dict_itemiterator_next.lookup,h⟩
def IN (td:TE):TI:=fun σ H R=>td σ H fun x H1=>∃a kvs,x= .ref a/\H1 a=some (.dT kvs)/\∀o,R (Itj a o kvs) (upd H1 a (.frz o (.dT kvs)))
section
variable {X:Cx}
theorem OH {l:Expr}{td:TE}{elts:List Expr}{x1:Nat}{tpos apos cpos:Pos} (hl:PE X l td) (hbase:attributeBase l "items" X.env (eval l X.env)=eval l X.env:=by rfl) (hline:(apos.endLine==cpos.line)=true:=by rfl) :
  PI X (.Tuple elts x1 tpos) (.Call (.Attribute l "items" apos) [] [] cpos) (IN td):=by
 intro pins s σ H R I h;refine wpAny_Call_method0_late hbase hline (thn (hl pins s σ H _ I h) fun v s1 ⟨x,H1,I1,r1,q1⟩=> ?_);obtain⟨a,kvs,rfl,hq,q⟩:=q1;cases r1;obtain⟨t1,t2,_⟩:=E5 I1 (.inr ⟨kvs,.inl hq⟩);refine⟨"dict","dict.items",F.plainAttrs_dict,F.slot_dict_items,F.type_dict_items,t1,t2,Calls.callWith_builtin rfl (PySem.evalArgs_none ?_)⟩;obtain⟨z,y,xs,r,o,es,ep,h1,h2,h3,h4,h5⟩:=(show ObjOk X.prog X.w H1 s1.heap a (.dT kvs) from I1.hok a _ hq)
 have hz:es.size=kvs.length:=by rw[size_of_entries h4,KT.len r]
 refine KB y t1 ?_;have hne:∀b ys,H1 b=some (.tup ys)->upd H1 a (.frz o (.dT kvs)) b=some (.tup ys):=fun b ys e=>by
  have hb:b≠a:=fun z=>by rw[z,hq]at e;cases e
  rw[aJ hb];exact e
 have new:ObjOk X.prog X.w (upd H1 a (.frz o (.dT kvs))) s1.heap a (.frz o (.dT kvs)):=⟨h1,z,y,xs,KT.keeps r hne,o,es,ep,h1,h2,h3,h4,h5⟩
 have I2:Inv X pins σ (upd H1 a (.frz o (.dT kvs))) s1:=I1.freeze trivial hq h1 new;have I3:Inv X pins σ (upd H1 a (.frz o (.dT kvs))) { s1 with heap:=s1.heap.push { cls:= .type "dict_items",data:= .fields #[.ref a] } }:=I2.kept (t':=s1.toks) fun b o e=>Heap.get?_push_of_some _ e;refine NK ⟨_,Heap.get?_push_size _ rfl,rfl,rfl⟩ (Heap.get?_push_of_some _ h1) h3 ?_;refine⟨_,[_],_,_,upd H1 a (.frz o (.dT kvs)),rfl,I3.kept (t':=s1.toks) fun b o e=>Heap.get?_push_of_some _ e,GS a _ kvs h3 hz,⟨.none,.none,Heap.get?_push_size _ rfl⟩,fun b hb=> ?_,q o⟩;obtain rfl:=List.mem_singleton.mp hb;exact I3.fpOk (Nat.le_refl _) (I3.hok.fresh (Nat.le_refl _))
end
end L2
namespace L2
open PySem PySem.W PyProof.Rows
section
variable (r:Nat->Int)
def rk (p:Array Nat)(i:Nat):Int:=r (p.getD i 0)
def Asc (p:Array Nat)(m:Nat):Prop:=∀i j,i<=j->j<m->rk r p i<=rk r p j
def cR (i j:Nat):Bool:=decide (r i<r j)
variable {r}{p:Array Nat}
theorem oK {p q:Array Nat}{i j:Nat} (h:p[i]? =q[j]?):rk r p i=rk r q j:=by
 unfold rk;rw[Array.getD_eq_getD_getElem?,Array.getD_eq_getD_getElem?,h]
theorem BW {src d:Nat}(hs:src<p.size)(hd:d<=src)(k:Nat):rk r (bubble p src d) k=if k=src - d then rk r p src else if src - d<k/\k<=src then rk r p (k - 1) else rk r p k:=by
 have e:=getElem?_bubble hs d hd k
 split
 ·rename_i h;rw[if_pos h]at e;exact oK e
 ·rename_i h;rw[if_neg h]at e
  split
  ·rename_i h2;rw[if_pos h2]at e;exact oK e
  ·rename_i h2;rw[if_neg h2]at e;exact oK e
theorem kO {α β:Type}(c:Nat->Nat->Bool)(f:α->KasT β):∀t:KasT α,aV c (t.bind f)=aV c (f (aV c t))
 | .ret _=>rfl
 | .ask i j k=>kO c f (k (c i j))
theorem wV {k:Nat}(hk:Asc r p k):∀(f a b:Nat),a<=b->b<=k->b - a<=f->(∀i,i<a->rk r p i<=rk r p k)->(∀i,b<=i->i<k->rk r p k<rk r p i) →
  aV (cR r) (kas_place p k f a b)<=k/\(∀i,i<aV (cR r) (kas_place p k f a b)->rk r p i<=rk r p k)/\∀i,aV (cR r) (kas_place p k f a b)<=i->i<k->rk r p k<rk r p i
 | 0,a,b,h1,h2,h3,h4,h5=>by
  have e:aV (cR r) (kas_place p k 0 a b)=a:=rfl;rw[e];exact⟨by lia,h4,fun i hi=>h5 i (by lia)⟩
 | f+1,a,b,h1,h2,h3,h4,h5=>by
  unfold kas_place
  by_cases hab:a≥b
  ·rw[if_pos hab];show a<=k/\(∀i,i<a->_)/\∀i,a<=i->i<k->_;exact⟨by lia,h4,fun i hi=>h5 i (by lia)⟩
  ·rw[if_neg hab];have ea:aV (cR r) (KasT.ask (p.getD k 0) (p.getD ((a+b)/2) 0) fun c=>if c=true then kas_place p k f a ((a+b)/2) else kas_place p k f ((a+b)/2+1) b) =
    aV (cR r) (if cR r (p.getD k 0) (p.getD ((a+b)/2) 0)=true then kas_place p k f a ((a+b)/2) else kas_place p k f ((a+b)/2+1) b):=rfl
   rw[ea]
   by_cases hc:cR r (p.getD k 0) (p.getD ((a+b)/2) 0)=true
   ·rw[if_pos hc];have hc':rk r p k<rk r p ((a+b)/2):=of_decide_eq_true hc;refine wV hk f a ((a+b)/2) (by lia) (by lia) (by lia) h4 fun i hi hik=> ?_;have:=hk ((a+b)/2) i hi hik
    lia
   ·rw[if_neg hc];have hc':¬rk r p k<rk r p ((a+b)/2):=fun z=>hc (decide_eq_true z);refine wV hk f ((a+b)/2+1) b (by lia) h2 (by lia) (fun i hi=> ?_) h5;have:=hk i ((a+b)/2) (by lia) (by lia)
    lia
theorem K9 {k l:Nat}(hs:k<p.size)(hk:Asc r p k)(hl:l<=k)(h1:∀i,i<l->rk r p i<=rk r p k)(h2:∀i,l<=i->i<k->rk r p k<rk r p i):Asc r (bubble p k (k - l)) (k+1):=by
 intro i j hij hj;rw[BW hs (by lia),BW hs (by lia),show k - (k - l)=l by lia]
 by_cases e1:i=l
 ·rw[if_pos e1]
  by_cases e2:j=l
  ·rw[if_pos e2];exact Int.le_refl _
  ·rw[if_neg e2];rw[if_pos (by lia)];have:=h2 (j - 1) (by lia) (by lia)
   lia
 ·rw[if_neg e1]
  by_cases e2:j=l
  ·rw[if_pos e2,if_neg (by lia)];exact h1 i (by lia)
  ·rw[if_neg e2]
   by_cases e3:l<i
   ·rw[if_pos (by lia),if_pos (by lia)];exact hk (i - 1) (j - 1) (by lia) (by lia)
   ·rw[if_neg (by lia)]
    by_cases e4:l<j
    ·rw[if_pos (by lia)];exact hk i (j - 1) (by lia) (by lia)
    ·rw[if_neg (by lia)];exact hk i j hij (by lia)
theorem NT {n:Nat}:∀(f:Nat) {p:Array Nat} (k:Nat),p.size=n->k+f=n->Asc r p k->Asc r (aV (cR r) (kas_bin f p k)) n
 | 0,p,k,hs,hk,h=>by
  have e:k=n:=by lia
  rw[←e];exact h
 | f+1,p,k,hs,hk,h=>by
  unfold kas_bin;rw[kO];obtain⟨h1,h2,h3⟩:=wV h k 0 k (Nat.zero_le _) (Nat.le_refl _) (by lia) (fun i hi=>by lia) (fun i h1 h2=>by lia);exact NT f (k+1) ((bubble_size _ _ _).trans hs) (by lia) (K9 (by lia) h h1 h2 h3)
theorem ET:∀(f k:Nat),1<=k->Asc r p k->k<=aV (cR r) (kas_asc p f k)/\aV (cR r) (kas_asc p f k)<=k+f/\Asc r p (aV (cR r) (kas_asc p f k))/\(aV (cR r) (kas_asc p f k)<k+f->rk r p (aV (cR r) (kas_asc p f k))<rk r p (aV (cR r) (kas_asc p f k) - 1))
 | 0,k,h0,h=>by
  show k<=k/\k<=k+0/\Asc r p k/\(k<k+0->_);exact⟨Nat.le_refl _,Nat.le_refl _,h,fun z=>by lia⟩
 | f+1,k,h0,h=>by
  unfold kas_asc;have ea:aV (cR r) (KasT.ask (p.getD k 0) (p.getD (k - 1) 0) fun c=>if c=true then .ret k else kas_asc p f (k+1))=aV (cR r) (if cR r (p.getD k 0) (p.getD (k - 1) 0)=true then .ret k else kas_asc p f (k+1)):=rfl;rw[ea]
  by_cases hc:cR r (p.getD k 0) (p.getD (k - 1) 0)=true
  ·rw[if_pos hc];show k<=k/\k<=k+(f+1)/\Asc r p k/\(k<k+(f+1)->rk r p k<rk r p (k - 1));exact⟨Nat.le_refl _,by lia,h,fun _=>of_decide_eq_true hc⟩
  ·rw[if_neg hc];have hc':¬rk r p k<rk r p (k - 1):=fun z=>hc (decide_eq_true z);have h':Asc r p (k+1):=fun i j hij hj=>by
    by_cases e:j=k
    ·subst e
     by_cases e2:i=j
     ·subst e2;exact Int.le_refl _
     ·have:=h i (j - 1) (by lia) (by lia)
      lia
    ·exact h i j hij (by lia)
   obtain⟨a1,a2,a3,a4⟩:=ET f (k+1) (by lia) h';exact⟨by lia,by lia,a3,fun z=>a4 (by lia)⟩
end
end L2
namespace L2
open PySem PySem.W PyProof.Rows
section
variable {r:Nat->Int}{p:Array Nat}
def Dif (r:Nat->Int)(p:Array Nat):Prop:=∀i j,i<p.size->j<p.size->rk r p i=rk r p j->i=j
def Dsc (r:Nat->Int)(p:Array Nat)(m:Nat):Prop:=∀i j,i<j->j<m->rk r p j<rk r p i
theorem NX {m:Nat}(hm:m<=p.size)(k:Nat):rk r (kas_rev p 0 m) k=if k<m then rk r p (m - 1 - k) else rk r p k:=by
 have e:=getElem?_mirror_all (i:=0) hm k
 split
 ·rename_i h;rw[if_pos ⟨Nat.zero_le _,h⟩,Nat.zero_add]at e;exact oK e
 ·rename_i h;rw[if_neg (by lia)]at e;exact oK e
theorem JI (hd:Dif r p):∀(f k:Nat),1<=k->k+f<=p.size->Dsc r p k->∃m,aV (cR r) (kas_desc f p k 0)=(p,m,0)/\k<=m/\m<=k+f/\Dsc r p m
 | 0,k,h0,h1,h=>⟨k,rfl,Nat.le_refl _,Nat.le_refl _,h⟩
 | f+1,k,h0,h1,h=>by
  unfold kas_desc
  by_cases hc:cR r (p.getD k 0) (p.getD (k - 1) 0)=true
  ·have hc':rk r p k<rk r p (k - 1):=of_decide_eq_true hc;have h':Dsc r p (k+1):=fun i j hij hj=>by
    by_cases e:j=k
    ·subst e
     by_cases e2:i=j - 1
     ·subst e2;exact hc'
     ·have:=h i (j - 1) (by lia) (by lia)
      lia
    ·exact h i j hij (by lia)
   obtain⟨m,e,a1,a2,a3⟩:=JI hd f (k+1) (by lia) (by lia) h';refine⟨m,?_,by lia,by lia,a3⟩;rw[←e];show aV (cR r) (if cR r (p.getD k 0) (p.getD (k - 1) 0)=true then _ else _)=_;rw[if_pos hc];rfl
  ·have hc':¬rk r p k<rk r p (k - 1):=fun z=>hc (decide_eq_true z);have hn:rk r p (k - 1)<rk r p k:=by
    have h2:rk r p (k - 1)≠rk r p k:=fun z=>by
     have:=hd (k - 1) k (by lia) (by lia) z
     lia
    lia
   refine⟨k,?_,Nat.le_refl _,by lia,h⟩;show aV (cR r) (if cR r (p.getD k 0) (p.getD (k - 1) 0)=true then _ else _)=_;rw[if_neg hc];show aV (cR r) (if cR r (p.getD (k - 1) 0) (p.getD k 0)=true then _ else _)=_;rw[if_pos (show cR r (p.getD (k - 1) 0) (p.getD k 0)=true from decide_eq_true hn)];rfl
theorem QJ {m n:Nat}(h1:1<=m)(hm:m<=n)(hs:p.size=n)(h:Dsc r p m):∃a q,aV (cR r) (kas_tail3 m n p)=(a,q)/\a<=n/\q.size=n/\Asc r q a:=by
 have hasc:Asc r (kas_rev p 0 m) m:=fun i j hij hj=>by
  rw[NX (by lia),NX (by lia),if_pos (by lia),if_pos hj]
  by_cases e:i=j
  ·subst e;exact Int.le_refl _
  ·exact Int.le_of_lt (h (m - 1 - j) (m - 1 - i) (by lia) (by lia))
 obtain⟨a1,a2,a3,_⟩:=ET (n - m) m h1 hasc;refine⟨_,kas_rev p 0 m,by unfold kas_tail3;rw[kO];rfl,by lia,(mirror_size _ _ _ _).trans hs,a3⟩
theorem R7 {n:Nat}(hn:1<=n)(hs:p.size=n)(hd:Dif r p):∃a q,aV (cR r) (kas_count n p)=(a,q)/\a<=n/\q.size=n/\Asc r q a:=by
 have h0:Asc r p 1:=fun i j hij hj=>by
  have:i=j:=by lia
  subst this;exact Int.le_refl _
 obtain⟨a1,a2,a3,a4⟩:=ET (n - 1) 1 (Nat.le_refl _) h0;unfold kas_count;rw[kO];generalize aV (cR r) (kas_asc p (n - 1) 1)=k at a1 a2 a3 a4 ⊢
 by_cases e1:k=n
 ·rw[if_pos (by rw[e1];exact beq_self_eq_true _)];exact⟨k,p,rfl,by lia,hs,a3⟩
 ·rw[if_neg (by rw[beq_iff_eq];exact e1)]
  by_cases e2:k>1
  ·rw[if_pos e2];have hlt:rk r p 0<rk r p (k - 1):=by
    have h2:=a3 0 (k - 1) (Nat.zero_le _) (by lia);have h3:rk r p 0≠rk r p (k - 1):=fun z=>by
     have:=hd 0 (k - 1) (by lia) (by lia) z
     lia
    lia
   refine⟨k,p,?_,by lia,hs,a3⟩;show aV (cR r) (if cR r (p.getD 0 0) (p.getD (k - 1) 0)=true then _ else _)=_;rw[if_pos (show cR r (p.getD 0 0) (p.getD (k - 1) 0)=true from decide_eq_true hlt)];rfl
  ·rw[if_neg e2];have ek:k=1:=by lia
   subst ek;have h10:rk r p 1<rk r p 0:=a4 (by lia);unfold kas_descPart;rw[kO];obtain⟨m,e,b1,b2,b3⟩:=JI hd (n - (1+1)) (1+1) (by lia) (by lia) (fun i j hij hj=>by
    have:i=0/\j=1:=by lia
    rw[this.1,this.2];exact h10)
   rw[e];have hmn:m<=n:=by
    have:2<=n:=by lia
    lia
   exact QJ (p:=p) (m:=m) (n:=n) (by lia) hmn hs b3
theorem P2 {n:Nat}(hn:1<=n)(hr:∀i j,i<n->j<n->r i=r j->i=j):Asc r (aV (cR r) (kas_sort n)) n:=by
 unfold kas_sort;rw[kO];have hs:(List.range n).toArray.size=n:=by simp
 have eg:∀i,i<n->(List.range n).toArray.getD i 0=i:=fun i hi=>by simp[Array.getD,hi]
 obtain⟨a,q,e,h1,h2,h3⟩:=R7 (r:=r) hn hs (fun i j hi hj z=>by
  unfold rk at z;rw[hs]at hi hj;rw[eg i hi,eg j hj]at z;exact hr i j hi hj z)
 rw[e]
 by_cases hlt:a<n
 ·show Asc r (aV (cR r) (if a<n then _ else _)) n;rw[if_pos hlt];refine NT _ _ h2 (by lia) fun i j hij hj=> ?_
  by_cases ha:a=0
  ·have:i=j:=by lia
   subst this;exact Int.le_refl _
  ·exact h3 i j hij (by lia)
 ·show Asc r (aV (cR r) (if a<n then _ else _)) n;rw[if_neg hlt];have:a=n:=by lia
  rw[←this];exact h3
end
end L2
namespace L2
open PySem PySem.W PyProof.Rows
theorem B0 {α:Type}{n:Nat}{R:α->Prop}{c c':Nat->Nat->Bool} (h:∀i j,i<n->j<n->c i j=c' i j):∀{t:KasT α},KasIn n R t->aV c t=aV c' t
 | .ret _,_=>rfl
 | .ask i j k,q=>by
  show aV c (k (c i j))=aV c' (k (c' i j));rw[h i j q.1 q.2.1];exact B0 h (q.2.2 _)
theorem BR {α:Type}{p q:α->Bool}:∀{l:List α},(∀y∈l,p y=true->q y=true)->(∃x∈l,q x=true/\p x=false)->l.countP p<l.countP q
 | [],_,⟨x,hx,_⟩=>nomatch hx
 | a::l,h,⟨x,hx,h1,h2⟩=>by
  have hl:l.countP p<=l.countP q:=List.countP_mono_left fun y hy=>h y (List.mem_cons_of_mem _ hy);rcases List.mem_cons.mp hx with e|hx
  ·subst e;rw[List.countP_cons_of_pos h1,List.countP_cons_of_neg (by rw[h2];exact Bool.false_ne_true)]
   lia
  ·have ih:=BR (fun y hy=>h y (List.mem_cons_of_mem _ hy)) ⟨x,hx,h1,h2⟩;cases hp:p a with
   | true =>
    rw[List.countP_cons_of_pos hp,List.countP_cons_of_pos (h a (.head _) hp)]
    lia
   | false =>
    rw[List.countP_cons_of_neg (by rw[hp];exact Bool.false_ne_true)];cases hq:q a with
    | true=>rw[List.countP_cons_of_pos hq];lia
    | false=>rw[List.countP_cons_of_neg (by rw[hq];exact Bool.false_ne_true)];exact ih
structure Ord {α:Type}(lt:α->α->Bool)(l:List α):Prop where
 irr:∀x∈l,lt x x=false
 tr:∀x∈l,∀y∈l,∀z∈l,lt x y=true->lt y z=true->lt x z=true
 tot:∀x∈l,∀y∈l,x≠y->lt x y=true∨lt y x=true
section
variable {α:Type}{lt:α->α->Bool}{l:List α}{d:α}
theorem dS {i:Nat}(h:i<l.length):l.getD i d∈l:=by
 rw[List.getD_eq_getElem?_getD,List.getElem?_eq_getElem h];exact List.getElem_mem h
theorem sJ (nd:l.Nodup){i j:Nat}(hi:i<l.length)(hj:j<l.length)(e:l.getD i d=l.getD j d):i=j:=by
 rw[List.getD_eq_getElem?_getD,List.getElem?_eq_getElem hi,List.getD_eq_getElem?_getD,List.getElem?_eq_getElem hj]at e;have hp:=List.pairwise_iff_getElem.mp nd;rcases Nat.lt_trichotomy i j with h|h|h
 ·exact absurd e (hp i j hi hj h)
 ·exact h
 ·exact absurd e.symm (hp j i hj hi h)
theorem OC (o:Ord lt l)(nd:l.Nodup)(h2:2<=l.length):∀i j,i<j->j<l.length->lt (l.getD ((aV (fun i j=>lt (l.getD i d) (l.getD j d)) (kas_sort l.length)).getD i 0) d) (l.getD ((aV (fun i j=>lt (l.getD i d) (l.getD j d)) (kas_sort l.length)).getD j 0) d)=true:=by
 let r:Nat->Int:=fun i=>((l.countP fun y=>lt y (l.getD i d):Nat):Int)
 have hlt:∀i j,i<l.length->j<l.length->lt (l.getD i d) (l.getD j d)=true->r i<r j:=fun i j hi hj h=>by
  have:=BR (l:=l) (p:=fun y=>lt y (l.getD i d)) (q:=fun y=>lt y (l.getD j d)) (fun y hy h'=>o.tr y hy _ (dS hi) _ (dS hj) h' h) ⟨l.getD i d,dS hi,h,o.irr _ (dS hi)⟩;exact Int.ofNat_lt.mpr this
 have hrc:∀i j,i<l.length->j<l.length->(fun i j=>lt (l.getD i d) (l.getD j d)) i j=cR r i j:=fun i j hi hj=>by
  show lt (l.getD i d) (l.getD j d)=decide (r i<r j);cases e:lt (l.getD i d) (l.getD j d) with
  | true=>rw[decide_eq_true (hlt i j hi hj e)]
  | false =>
   rw[decide_eq_false];intro z
   by_cases e2:l.getD i d=l.getD j d
   ·rw[sJ nd hi hj e2]at z;exact absurd z (Int.lt_irrefl _)
   ·rcases o.tot _ (dS hi) _ (dS hj) e2 with h|h
    ·rw[h]at e;cases e
    ·have:=hlt j i hj hi h
     lia
 have hinj:∀i j,i<l.length->j<l.length->r i=r j->i=j:=fun i j hi hj e=>by
  by_cases e2:l.getD i d=l.getD j d
  ·exact sJ nd hi hj e2
  ·rcases o.tot _ (dS hi) _ (dS hj) e2 with h|h
   ·have:=hlt i j hi hj h;lia
   ·have:=hlt j i hj hi h;lia
 rw[B0 hrc (AY (by lia))];have hs:=P2 (n:=l.length) (by lia) hinj;have hp:=dR (n:=l.length) (cR r) (by lia);generalize aV (cR r) (kas_sort l.length)=q at hs hp;intro i j hij hj;have hqs:q.size=l.length:=by have:=hp.size_eq;simpa using this
 have li:=hp.lt (by lia) i;have lj:=hp.lt (by lia) j;have hne:q.getD i 0≠q.getD j 0:=fun z=>by
  have hnd:q.toList.Nodup:=by
   have h1:=Array.perm_iff_toList_perm.mp hp;exact h1.nodup_iff.mpr (by simpa using List.nodup_range)
  have ei:q.getD i 0=q.toList.getD i 0:=by simp[Array.getD,List.getD_eq_getElem?_getD,show i<q.size by lia]
  have ej:q.getD j 0=q.toList.getD j 0:=by simp[Array.getD,List.getD_eq_getElem?_getD,show j<q.size by lia]
  rw[ei,ej]at z;have:=sJ hnd (by rw[Array.length_toList];lia) (by rw[Array.length_toList];lia) z
  lia
 have hle:=hs i j (by lia) (by lia);have e3:l.getD (q.getD i 0) d≠l.getD (q.getD j 0) d:=fun z=>hne (sJ nd li lj z);rcases o.tot _ (dS li) _ (dS lj) e3 with h|h
 ·exact h
 ·have:=hlt _ _ lj li h;unfold rk at hle
  lia
theorem u5 (c:Nat->Nat->Bool):(b7 d c l).Perm l:=by
 unfold b7
 split
 ·exact List.Perm.refl _
 ·have h:=Array.perm_iff_toList_perm.mp (dR (n:=l.length) c (by lia));refine(h.map fun i=>l.getD i d).trans ?_;have e:((List.range l.length).toArray.toList.map fun i=>l.getD i d)=l:=by
   apply List.ext_getElem?
   intro i
   by_cases hi:i<l.length
   ·simp[hi,List.getD_eq_getElem?_getD]
   ·simp[hi]
  rw[e]
theorem yW (o:Ord lt l)(nd:l.Nodup):(b7 d (fun i j=>lt (l.getD i d) (l.getD j d)) l).Pairwise fun x y=>lt x y=true:=by
 unfold b7
 split
 ·rename_i h
  match l,h with
  | [],_=>exact .nil
  | [x],_=>exact List.pairwise_singleton _ _
 ·rename_i h;have ha:=OC (d:=d) o nd (by lia);have hp:=dR (n:=l.length) (fun i j=>lt (l.getD i d) (l.getD j d)) (by lia);generalize aV (fun i j=>lt (l.getD i d) (l.getD j d)) (kas_sort l.length)=q at ha hp;have hqs:q.size=l.length:=by have:=hp.size_eq;simpa using this
  rw[List.pairwise_iff_getElem];intro i j hi hj hij;rw[List.length_map,Array.length_toList]at hi hj;have:=ha i j hij (by lia)
  simpa [Array.getD,hi,hj] using this
theorem IT:∀{l k:List α},(∀x∈l,lt x x=false)->(∀x∈l,∀y∈l,∀z∈l,lt x y=true->lt y z=true->lt x z=true)->l.Perm k->l.Pairwise (fun x y=>lt x y=true)->k.Pairwise (fun x y=>lt x y=true)->l=k
 | [],k,_,_,hp,_,_=>(List.nil_perm.mp hp).symm
 | a::l,[],_,_,hp,_,_=>nomatch (List.perm_nil.mp hp)
 | a::l,b::k,hi,ht,hp,h1,h2=>by
  have ha:a∈b::k:=hp.mem_iff.mp (.head _);have hb:b∈a::l:=hp.mem_iff.mpr (.head _);have e:a=b:=by
   rcases List.mem_cons.mp ha with e|ha'
   ·exact e
   ·rcases List.mem_cons.mp hb with e|hb'
    ·exact e.symm
    ·have q1:=(List.pairwise_cons.mp h2).1 a ha';have q2:=(List.pairwise_cons.mp h1).1 b hb';have:=ht a (.head _) b hb a (.head _) q2 q1;rw[hi a (.head _)]at this;cases this
  subst e;rw[IT (fun x hx=>hi x (List.mem_cons_of_mem _ hx)) (fun x hx y hy z hz=>ht x (List.mem_cons_of_mem _ hx) y (List.mem_cons_of_mem _ hy) z (List.mem_cons_of_mem _ hz)) (List.perm_cons a |>.mp hp) (List.pairwise_cons.mp h1).2 (List.pairwise_cons.mp h2).2]
end
end L2
namespace L2
open PySem PySem.W PyProof.Rows
def ltS (x y:Str):Bool:=decide (x.cps.toList<y.cps.toList)
theorem RP {x y:Str}(h:x.cps.toList=y.cps.toList):x=y:=by
 cases x;cases y
 congr 1
 exact Array.toList_inj.mp h
theorem z4 (x:Str):ltS x x=false:=decide_eq_false (List.lt_irrefl _)
theorem N9 {x y z:Str}(h1:ltS x y=true)(h2:ltS y z=true):ltS x z=true:=decide_eq_true (List.lt_trans (of_decide_eq_true h1) (of_decide_eq_true h2))
theorem IS {x y:Str}(h:x≠y):ltS x y=true∨ltS y x=true:=by
 by_cases h1:x.cps.toList<y.cps.toList
 ·exact .inl (decide_eq_true h1)
 ·by_cases h2:y.cps.toList<x.cps.toList
  ·exact .inr (decide_eq_true h2)
  ·exact absurd (RP (List.le_antisymm (List.not_lt.mp h2) (List.not_lt.mp h1))) h
theorem WJ (l:List Str):Ord ltS l:=⟨fun x _=>z4 x,fun _ _ _ _ _ _ h1 h2=>N9 h1 h2,fun _ _ _ _ h=>IS h⟩
def cP (ss:List Str):List Str:=b7 Str.empty (fun i j=>ltS (ss.getD i Str.empty) (ss.getD j Str.empty)) ss
theorem dP (ss:List Str):(cP ss).Perm ss:=u5 _
theorem Q4 {ss:List Str}(nd:ss.Nodup):(cP ss).Pairwise fun x y=>ltS x y=true:=yW (WJ ss) nd
theorem GX {α β:Type}(f:α->β)(d:α)(e:β)(c:Nat->Nat->Bool)(l:List α):b7 e c (l.map f)=(b7 d c l).map f:=by
 unfold b7;rw[List.length_map]
 split
 ·rfl
 ·rename_i h;rw[List.map_map]
  apply List.map_congr_left
  intro i hi;have h':=(dR (n:=l.length) c (by lia)).mem_iff.mp (Array.mem_toList_iff.mp hi);have hl:i<l.length:=by simpa using h'
  show (l.map f).getD i e=f (l.getD i d);rw[List.getD_eq_getElem?_getD,List.getD_eq_getElem?_getD,List.getElem?_map,List.getElem?_eq_getElem hl];rfl
section
variable {X:Cx}
end
def MP (rs:List (List Key)):Prop:=∃sh,∀r∈rs,r.map dG=sh
theorem L7 (a:Key):fC a a=false:=by
 cases a with
 | inl i=>exact decide_eq_false (Int.lt_irrefl _)
 | inr x=>exact z4 x
theorem RG {a b c:Key}(h1:fC a b=true)(h2:fC b c=true):fC a c=true:=by
 cases a<;>cases b<;>cases c<;>first|(cases h1;done)|(cases h2;done)|skip
 ·exact decide_eq_true (Int.lt_trans (of_decide_eq_true h1) (of_decide_eq_true h2))
 ·exact N9 h1 h2
theorem OF {a b:Key}(k:dG a=dG b)(h:a≠b):fC a b=true∨fC b a=true:=by
 cases a<;>cases b<;>first|(cases k;done)|skip
 ·rename_i i j;have hij:i≠j:=fun z=>h (by rw[z]);rcases Int.lt_or_gt_of_ne hij with z|z
  ·exact .inl (decide_eq_true z)
  ·exact .inr (decide_eq_true z)
 ·rename_i x y;exact IS fun z=>h (by rw[z])
theorem w6:∀a:List Key,d6 a a=false
 | []=>rfl
 | a::as=>by
  show (if a=a then d6 as as else fC a a)=false;rw[if_pos rfl];exact w6 as
theorem EE:∀{a b:List Key},a.map dG=b.map dG->a≠b->d6 a b=true∨d6 b a=true
 | [],[],_,h=>absurd rfl h
 | [],_::_,k,_=>by cases k
 | _::_,[],k,_=>by cases k
 | a::as,b::bs,k,h=>by
  show (if a=b then d6 as bs else fC a b)=true∨(if b=a then d6 bs as else fC b a)=true
  by_cases e:a=b
  ·subst e;rw[if_pos rfl,if_pos rfl];exact EE (List.cons.inj k).2 fun z=>h (by rw[z])
  ·rw[if_neg e,if_neg (fun z=>e z.symm)];exact OF (List.cons.inj k).1 e
theorem zW:∀{a b c:List Key},d6 a b=true->d6 b c=true->d6 a c=true
 | [],_,_,h,_=>by cases h
 | _::_,[],_,h,_=>by cases h
 | _::_,_::_,[],_,h=>by cases h
 | a::as,b::bs,c::cs,h1,h2=>by
  have h1':(if a=b then d6 as bs else fC a b)=true:=h1;have h2':(if b=c then d6 bs cs else fC b c)=true:=h2;show (if a=c then d6 as cs else fC a c)=true
  by_cases e1:a=b
  ·subst e1;rw[if_pos rfl]at h1'
   by_cases e2:a=c
   ·subst e2;rw[if_pos rfl]at h2' ⊢;exact zW h1' h2'
   ·rw[if_neg e2]at h2' ⊢;exact h2'
  ·rw[if_neg e1]at h1'
   by_cases e2:b=c
   ·subst e2;rw[if_neg e1];exact h1'
   ·rw[if_neg e2]at h2';have h3:=RG h1' h2'
    by_cases e3:a=c
    ·subst e3;rw[L7]at h3;cases h3
    ·rw[if_neg e3];exact h3
theorem RS {rs:List (List Key)}(h:MP rs):Ord d6 rs:=⟨fun x _=>w6 x,fun _ _ _ _ _ _ h1 h2=>zW h1 h2,fun x hx y hy e=>by
 obtain⟨sh,h⟩:=h;exact EE ((h x hx).trans (h y hy).symm) e⟩
def mQ (rs:List (List Key)):List (List Key):=b7 [] (pU rs) rs
theorem mL (rs:List (List Key)):(mQ rs).Perm rs:=u5 _
theorem RX {rs:List (List Key)}(h:MP rs)(nd:rs.Nodup):(mQ rs).Pairwise fun x y=>d6 x y=true:=yW (d:=[]) (RS h) nd
theorem JT {H:Hp}{vs:List V}{rs:List (List Key)} (k:KRows H vs rs):KRows H (K6 rs vs) (mQ rs):=by
 have hl:vs.length=rs.length:=Paired.length k;unfold K6 mQ b7;rw[hl]
 split
 ·exact k
 ·have hp:=dR (n:=rs.length) (pU rs) (by lia);have hm:∀i∈(aV (pU rs) (kas_sort rs.length)).toList,i<rs.length:=fun i hi=>by
   have h:=hp.mem_iff.mp (Array.mem_toList_iff.mp hi)
   simpa using h
  revert hm;generalize (aV (pU rs) (kas_sort rs.length)).toList=l;intro hm
  induction l with
  | nil=>exact .nil
  | cons i l ih =>
   refine .cons ?_ (ih fun j hj=>hm j (List.mem_cons_of_mem _ hj));have hi:=hm i (.head _);obtain⟨p,r,e1,e2,e3⟩:=k.get (i:=i) (v:=vs.getD i .non) (by rw[List.getD_eq_getElem?_getD,List.getElem?_eq_getElem (by lia)];rfl);refine⟨p,e1,?_⟩;show H p=some (.tup ((rs.getD i []).map kV));rw[List.getD_eq_getElem?_getD,e2];exact e3
end L2
namespace L2
open PySem PySem.W PyProof.Rows
section
variable {X:Cx}{pins:List (Addr×Obj)}{σ:St}{H:Hp}{s:Shared}
end
end L2
namespace L2
open PySem PySem.W PyProof.Rows
section
variable {X:Cx}
end
end L2
namespace L2
open PySem PySem.W PyProof.Rows
theorem Paired.snoc {α β:Type}{F:α->β->Prop}:∀{l:List α}{m:List β}{a:α}{b:β},Paired F l m->F a b->Paired F (l++[a]) (m++[b])
 | _,_,_,_,.nil,h=> .cons h .nil
 | _,_,_,_,.cons r t,h=> .cons r (Paired.snoc t h)
theorem Paired.at2 {α β:Type}{F:α->β->Prop}:∀{l:List α}{m:List β}{i:Nat}{a:α}{b:β},Paired F l m->l[i]? =some a->m[i]? =some b->F a b
 | _,_,0,_,_,.cons r _,h1,h2=>by cases h1;cases h2;exact r
 | _,_,i+1,_,_,.cons _ t,h1,h2=>Paired.at2 (i:=i) t (by simpa using h1) (by simpa using h2)
 | _,_,_,_,_,.nil,h1,_=>by simp at h1
theorem i3 {α:Type}{J:It}{g:TG}{ti:TT}{te:TE}{σ0:St}{fin:List V->Hp->Prop}{H:Hp} (xs:List α) (c:α->Bool) (P:α->V->Hp->Prop) (hm:∀x y H1 H2,P x y H1->Same H1 H2->P x y H2) (hn:xs.length<=sizeLine)
  (hgo:∀i H1,Same H H1->i<xs.length->J.go i H1)(hst:∀H1,Same H H1->J.stop xs.length H1)
  (hb:∀i x H1,xs[i]? =some x->Same H H1->∀v H',J.yld i H1 v H'->Same H1 H'/\∃σ2:St,σ2.length=σ0.length/\(∀(j:Nat) v,σ0[j]? =some (some v)->σ2[j]? =some (some v))/\(∀R:St->Hp->Prop,R σ2 H'->g v σ0 H' R) ∧
   (∀R:Bool->Hp->Prop,(∀H2,Same H' H2->R (c x) H2)->ti σ2 H' R)/\(c x=true->∀H2,Same H' H2->∀R:VK,(∀y H3,P x y H3->Same H2 H3->R y H3)->te σ2 H2 R))
  (hf:∀ys H1,Same H H1->Paired (fun x y=>P x y H1) (xs.filter c) ys->fin ys H1):dB J g ti te σ0 fin H:=by
 refine⟨fun i m ys H1=>i+m=xs.length/\Same H H1/\Paired (fun x y=>P x y H1) ((xs.take i).filter c) ys,⟨xs.length,by lia,Same.refl _,.nil⟩,?_⟩;rintro i m ys H1 ⟨e1,s1,pr⟩;cases m with
 | zero =>
  have ei:i=xs.length:=by lia
  subst ei;rw[List.take_length]at pr;exact .inl ⟨hst H1 s1,hf ys H1 s1 pr⟩
 | succ m =>
  have hi:i<xs.length:=by lia
  refine .inr ⟨hgo i H1 s1 hi,fun v H' y=> ?_⟩;have ex:xs[i]? =some xs[i]:=List.getElem?_eq_getElem hi;have etake:xs.take (i+1)=xs.take i++[xs[i]]:=by rw[List.take_succ,ex];rfl
  have hlen:ys.length<=i:=by
   rw[←Paired.length pr];exact Nat.le_trans (List.length_filter_le _ _) (by rw[List.length_take];lia)
  obtain⟨s2,σ2,l2,c2,hg,ht,he⟩:=hb i xs[i] H1 ex s1 v H' y;refine hg _ ⟨⟨l2,c2⟩,ht _ fun H2 s3=> ?_⟩;cases hc:c xs[i] with
  | true =>
   show te σ2 H2 _;refine he hc H2 s3 _ fun y H3 py s4=>⟨by lia,m,by lia,by lia,((s1.trans s2).trans s3).trans s4,?_⟩
   rw[etake,List.filter_append,List.filter_cons_of_pos hc];exact Paired.snoc (Paired.imp' (fun a b h=>hm a b _ _ h ((s2.trans s3).trans s4)) pr) py
  | false =>
   show ∃m',_;refine⟨m,by lia,by lia,(s1.trans s2).trans s3,?_⟩;rw[etake,List.filter_append,List.filter_cons_of_neg (by rw[hc];exact Bool.false_ne_true),List.filter_nil,List.append_nil];exact Paired.imp' (fun a b h=>hm a b _ _ h (s2.trans s3)) pr
section
variable {K:PySem.W.Frag}{ti:TT}{te:TE}{σ:St}{ci:List Nat}{rest:St}{fin:List V->Hp->Prop}{H:Hp}{a:Addr}
theorem J5 {n:Nat}(hr:ci.map (fun i=>(σ[i]?).join)=rest):bZ n ci σ=List.replicate n none++rest:=by unfold bZ;rw[hr]
theorem AC {α:Type}{vs:List V}{xs:List α} (f1 f2:α->V) (c:α->Bool) (P:α->V->Hp->Prop) (hm:∀x y H1 H2,P x y H1->Same H1 H2->P x y H2) (hn:xs.length<=sizeLine) (hr:ci.map (fun i=>(σ[i]?).join)=rest) (hl:SqL K H a vs)
  (hv:Paired (fun v x=>∃q,v= .ref q/\H q=some (.tup [f1 x,f2 x])) vs xs)
  (ht:∀x H1,x∈xs->Same H H1->∀R:Bool->Hp->Prop,(∀H2,Same H1 H2->R (c x) H2)->ti (some (f1 x)::some (f2 x)::rest) H1 R)
  (he:∀x H1,x∈xs->c x=true->Same H H1->∀R:VK,(∀y H2,P x y H2->Same H1 H2->R y H2)->te (some (f1 x)::some (f2 x)::rest) H1 R)
  (hf:∀ys H1,Same H H1->Paired (fun x y=>P x y H1) (xs.filter c) ys->fin ys H1):dB (Itl K a) (xN K 2 (jK (cA 0) (jK (cA 1) AO))) ti te (bZ 2 ci σ) fin H:=by
 have e0:bZ 2 ci σ=none::none::rest:=J5 hr;rw[e0];have hlen:vs.length=xs.length:=Paired.length hv;refine i3 xs c P hm hn (fun i H1 s hi=>⟨vs,vs[i],s.seq hl,List.getElem?_eq_getElem (by lia)⟩) (fun H1 s=>⟨vs,s.seq hl,by lia⟩) (fun i x H1 hx s1 v H' y=> ?_) hf;obtain⟨rfl,e2⟩:=y;have ev:=e2 vs (s1.seq hl);obtain⟨q,rfl,hq⟩:∃q,v= .ref q/\H q=some (.tup [f1 x,f2 x]):=Paired.at2 hv ev hx;have hmem:=List.mem_of_getElem? hx;refine⟨Same.refl _,some (f1 x)::some (f2 x)::rest,rfl,fun j v hv=> ?_,fun R h=>⟨q,[f1 x,f2 x],rfl,.inl (.inl (s1 _ _ hq)),rfl,f1 x,[f2 x],rfl,f2 x,[],rfl,rfl,h⟩,fun R h=>ht x _ hmem s1 R h,fun hc H2 s2 R h=>he x H2 hmem hc (s1.trans s2) R h⟩
 match j,hv with
 | 0,hv=>cases hv
 | 1,hv=>cases hv
 | j+2,hv=>exact hv
end
end L2
namespace L2
open PySem PySem.W PyProof.Rows
section
variable {K:PySem.W.Frag}{ti:TT}{te:TE}{σ:St}{ci:List Nat}{rest:St}{fin:List V->Hp->Prop}{H:Hp}{a:Addr}
theorem wU {H:Hp}{q:Addr}{o:HO} (h:H q=none):Same H (upd H q o):=fun b u e=>by
 have:b≠q:=fun z=>by rw[z,h]at e;cases e
 rw[aJ this];exact e
theorem IR {α:Type}{vs:List V}{xs:List α} (f1 f2 f3:α->V) (c:α->Bool) (P:α->V->Hp->Prop) (hm:∀x y H1 H2,P x y H1->Same H1 H2->P x y H2) (hn:xs.length<=sizeLine) (hr:ci.map (fun i=>(σ[i]?).join)=rest) (hl:SqL K H a vs)
  (hv:Paired (fun v x=>∃q,v= .ref q/\H q=some (.tup [f1 x,f2 x,f3 x])) vs xs)
  (ht:∀x H1,x∈xs->Same H H1->∀R:Bool->Hp->Prop,(∀H2,Same H1 H2->R (c x) H2)->ti (some (f1 x)::some (f2 x)::some (f3 x)::rest) H1 R)
  (he:∀x H1,x∈xs->c x=true->Same H H1->∀R:VK,(∀y H2,P x y H2->Same H1 H2->R y H2)->te (some (f1 x)::some (f2 x)::some (f3 x)::rest) H1 R)
  (hf:∀ys H1,Same H H1->Paired (fun x y=>P x y H1) (xs.filter c) ys->fin ys H1):dB (Itl K a) (xN K 3 (jK (cA 0) (jK (cA 1) (jK (cA 2) AO)))) ti te (bZ 3 ci σ) fin H:=by
 have e0:bZ 3 ci σ=none::none::none::rest:=J5 hr;rw[e0];have hlen:vs.length=xs.length:=Paired.length hv;refine i3 xs c P hm hn (fun i H1 s hi=>⟨vs,vs[i],s.seq hl,List.getElem?_eq_getElem (by lia)⟩) (fun H1 s=>⟨vs,s.seq hl,by lia⟩) (fun i x H1 hx s1 v H' y=> ?_) hf;obtain⟨rfl,e2⟩:=y;have ev:=e2 vs (s1.seq hl);obtain⟨q,rfl,hq⟩:∃q,v= .ref q/\H q=some (.tup [f1 x,f2 x,f3 x]):=Paired.at2 hv ev hx;have hmem:=List.mem_of_getElem? hx;refine⟨Same.refl _,some (f1 x)::some (f2 x)::some (f3 x)::rest,rfl,fun j v hv=> ?_,fun R h=>⟨q,[f1 x,f2 x,f3 x],rfl,.inl (.inl (s1 _ _ hq)),rfl,f1 x,[f2 x,f3 x],rfl,f2 x,[f3 x],rfl,f3 x,[],rfl,rfl,h⟩,fun R h=>ht x _ hmem s1 R h,fun hc H2 s2 R h=>he x H2 hmem hc (s1.trans s2) R h⟩
 match j,hv with
 | 0,hv=>cases hv
 | 1,hv=>cases hv
 | 2,hv=>cases hv
 | j+3,hv=>exact hv
theorem FM {kvs:List (Key×V)}{o:Obj} (c:Key×V->Bool) (P:Key×V->V->Hp->Prop) (hm:∀x y H1 H2,P x y H1->Same H1 H2->P x y H2) (hn:kvs.length<=sizeLine) (hr:ci.map (fun i=>(σ[i]?).join)=rest) (h0:H a=some (.frz o (.dK kvs)))
  (ht:∀x H1,x∈kvs->Same H H1->∀R:Bool->Hp->Prop,(∀H2,Same H1 H2->R (c x) H2)->ti (some (kV x.1)::rest) H1 R)
  (he:∀x H1,x∈kvs->c x=true->Same H H1->∀R:VK,(∀y H2,P x y H2->Same H1 H2->R y H2)->te (some (kV x.1)::rest) H1 R)
  (hf:∀ys H1,Same H H1->Paired (fun x y=>P x y H1) (kvs.filter c) ys->fin ys H1):dB (Itk a o kvs) (cA 0) ti te (bZ 1 ci σ) fin H:=by
 rw[u8 hr];refine i3 kvs c P hm hn (fun i H1 s hi=>⟨s _ _ h0,hi⟩) (fun H1 s=>⟨s _ _ h0,Nat.le_refl _⟩) (fun i x H1 hx s1 v H' y=> ?_) hf;obtain⟨rfl,k,u,e2,rfl⟩:=y;rw[hx]at e2;cases e2;have hmem:=List.mem_of_getElem? hx;refine⟨Same.refl _,some (kV k)::rest,rfl,fun j v hv=> ?_,fun R h=>h,fun R h=>ht _ _ hmem s1 R h,fun hc H2 s2 R h=>he _ H2 hmem hc (s1.trans s2) R h⟩;cases j with
 | zero=>cases hv
 | succ j=>exact hv
theorem XO {kvs:List (List Key×V)}{o:Obj} (c:List Key×V->Bool) (P:List Key×V->V->Hp->Prop) (hm:∀x y H1 H2,P x y H1->Same H1 H2->P x y H2) (hn:kvs.length<=sizeLine) (hr:ci.map (fun i=>(σ[i]?).join)=rest) (h0:H a=some (.frz o (.dT kvs)))
  (ht:∀x H1 p,x∈kvs->Same H H1->H1 p=some (.tup (x.1.map kV))->∀R:Bool->Hp->Prop,(∀H2,Same H1 H2->R (c x) H2)->ti (some (.ref p)::some x.2::rest) H1 R)
  (he:∀x H1 p,x∈kvs->c x=true->Same H H1->H1 p=some (.tup (x.1.map kV))->∀R:VK,(∀y H2,P x y H2->Same H1 H2->R y H2)->te (some (.ref p)::some x.2::rest) H1 R)
  (hf:∀ys H1,Same H H1->Paired (fun x y=>P x y H1) (kvs.filter c) ys->fin ys H1):dB (Itj a o kvs) (xN K 2 (jK (cA 0) (jK (cA 1) AO))) ti te (bZ 2 ci σ) fin H:=by
 have e0:bZ 2 ci σ=none::none::rest:=J5 hr;rw[e0];refine i3 kvs c P hm hn (fun i H1 s hi=>⟨s _ _ h0,hi⟩) (fun H1 s=>⟨s _ _ h0,Nat.le_refl _⟩) (fun i x H1 hx s1 v H' y=> ?_) hf;obtain⟨k,u,p,q,e2,rfl,hp,hq,rfl⟩:=y;rw[hx]at e2;cases e2;have hmem:=List.mem_of_getElem? hx;have sq:Same H1 (upd H1 q (.tup [.ref p,u])):=wU hq;refine⟨sq,some (.ref p)::some u::rest,rfl,fun j v hv=> ?_,fun R h=>⟨q,[.ref p,u],rfl,.inl (.inl aS),rfl,.ref p,[u],rfl,u,[],rfl,rfl,h⟩,fun R h=>ht _ _ p hmem (s1.trans sq) (sq _ _ hp) R h,fun hc H2 s2 R h=>he _ H2 p hmem hc ((s1.trans sq).trans s2) (s2 _ _ (sq _ _ hp)) R h⟩
 match j,hv with
 | 0,hv=>cases hv
 | 1,hv=>cases hv
 | j+2,hv=>exact hv
end
section
variable {σ:St}{H:Hp}{g:TG}{tb:TS}{nx bk ct:St->Hp->Prop}{rt:VK}
theorem P3 {p:Addr}{o:Obj} (kvs:List (Key×V)) (Pv:Nat->St->Hp->Prop) (h0:Pv 0 σ H) (hl:∀i σ H,Pv i σ H->H p=some (.frz o (.dK kvs)))
  (hs:∀i k v σ H,kvs[i]? =some (k,v)->Pv i σ H->g (kV k) σ H fun σ2 H2=>tb ⟨Pv (i+1),rt,nx,Pv (i+1)⟩ σ2 H2)(hd:∀σ H,Pv kvs.length σ H->nx σ H):LS (Itk p o kvs) g tb ⟨nx,rt,bk,ct⟩ σ H:=by
 refine⟨fun i m σ H=>m=kvs.length - i/\i<=kvs.length/\Pv i σ H,⟨kvs.length,by simp,Nat.zero_le _,h0⟩,?_⟩;rintro i m σ H ⟨rfl,hi,q⟩
 by_cases hlt:i<kvs.length
 ·refine .inr ⟨⟨hl i σ H q,hlt⟩,Pv (i+1),fun σ' H' p'=>⟨kvs.length - (i+1),by lia,rfl,hlt,p'⟩,fun x H' y=> ?_⟩;obtain⟨rfl,k,v,e,rfl⟩:=y;exact hs i k v σ _ e q
 ·have e:i=kvs.length:=by lia
  subst e;exact .inl ⟨⟨hl _ σ H q,Nat.le_refl _⟩,hd σ H q⟩
end
def MH (R:It->Hp->Prop):VK:=fun x H1=>∃a kvs,x= .ref a/\H1 a=some (.dK kvs)/\∀o,R (Itk a o kvs) (upd H1 a (.frz o (.dK kvs)))
def IY (R:It->Hp->Prop):VK:=fun x H1=>∃a kvs,x= .ref a/\H1 a=some (.dK kvs)/\∀o,R (Iti a o kvs) (upd H1 a (.frz o (.dK kvs)))
def HW (R:It->Hp->Prop):VK:=fun x H1=>∃a kvs,x= .ref a/\H1 a=some (.dT kvs)/\∀o,R (Itj a o kvs) (upd H1 a (.frz o (.dT kvs)))
def aAe (Q:VK)(y:V):VK:=fun x H2=>∃a o,x= .ref a/\DGet H2 a y o/\Q (.bl o.isSome) H2
def JL (Q:VK)(y:V):VK:=fun x H2=>∃a o,x= .ref a/\DGet H2 a y o/\Q (.bl (!o.isSome)) H2
def OD (σ:St)(ty tx:TE)(Q:VK):VK:=fun x H1=>∃a,x= .ref a/\IsD H1 a/\ty σ H1 fun y H2=>tx σ H2 fun z H3=>∃o,DGet H3 a y o/\Q (o.getD z) H3
def ZG (a:Addr)(Q:VK)(y:V):VK:=fun z H3=>∃o,DGet H3 a y o/\Q (o.getD z) H3
section
variable {K:PySem.W.Frag}{H:Hp}{Q:VK}{σ:St}{nx:St->Hp->Prop}{R:It->Hp->Prop}{td ty tx:TE}
theorem OI (h:td σ H (MH R)):MK td σ H R:=h
theorem LN (h:td σ H (IY R)):IQ td σ H R:=h
theorem J9 (h:td σ H (HW R)):IN td σ H R:=h
theorem sM {p:Addr}{kvs:List (Key×V)} (e:H p=some (.dK kvs)) (h:∀o H',SameBut p H H'->H' p=some (.frz o (.dK kvs))->R (Itk p o kvs) H'):MH R (.ref p) H:=⟨p,kvs,rfl,e,fun o=>h o _ SameBut.upd aS⟩
theorem BT {p:Addr}{kvs:List (Key×V)} (e:H p=some (.dK kvs)) (h:∀o H',SameBut p H H'->H' p=some (.frz o (.dK kvs))->R (Iti p o kvs) H'):IY R (.ref p) H:=⟨p,kvs,rfl,e,fun o=>h o _ SameBut.upd aS⟩
theorem MN {p:Addr}{kvs:List (List Key×V)} (e:H p=some (.dT kvs)) (h:∀o H',SameBut p H H'->H' p=some (.frz o (.dT kvs))->R (Itj p o kvs) H'):HW R (.ref p) H:=⟨p,kvs,rfl,e,fun o=>h o _ SameBut.upd aS⟩
theorem X0 (h:ty σ H fun y H1=>td σ H1 (aAe Q y)):ZN ty td σ H Q:=h
theorem M6 (h:ty σ H fun y H1=>td σ H1 (JL Q y)):HU ty td σ H Q:=h
theorem UJ {p:Addr}{z:Str}{kvs:List (Key×V)} (e:Rd H p (.dK kvs)) (h:Q (.bl (bB kvs (.inr z)).isSome) H):aAe Q (.str z) (.ref p) H:=⟨p,_,rfl,.inl ⟨kvs,.inr z,e,rfl,rfl⟩,h⟩
theorem yJ {p:Addr}{z:Str}{kvs:List (Key×V)} (e:Rd H p (.dK kvs)) (h:Q (.bl (!(bB kvs (.inr z)).isSome)) H):JL Q (.str z) (.ref p) H:=⟨p,_,rfl,.inl ⟨kvs,.inr z,e,rfl,rfl⟩,h⟩
theorem fA {p:Addr}{v:V}{z:Str}{kvs:List (Key×V)} (e:H p=some (.dK kvs)) (hl:kvs.length<sizeLine) (h:∀H',SameBut p H H'->H' p=some (.dK (bX kvs (.inr z) v))->nx σ H'):KG nx σ (.ref p) v (.str z) H :=
 ⟨p,_,rfl,DPut.k (k:= .inr z) e hl,h _ SameBut.upd aS⟩
theorem bL {p:Addr}{v:V}{z:Str}{kvs:List (Key×V)} (e:Rd H p (.dK kvs)) (hv:bB kvs (.inr z)=some v) (h:Q v H):LO Q (.ref p) (.str z) H:=⟨p,v,rfl,.inl ⟨kvs,.inr z,e,rfl,hv.symm⟩,h⟩
theorem QQ (h:∀p H',H p=none->Same H H'->H' p=some (.dK [])->Q (.ref p) H'):O0 σ H Q:=fI h
theorem P4 (h:td σ H (OD σ ty tx Q)):MA td ty tx σ H Q:=h
theorem lH {p:Addr}{kvs:List (List Key×V)} (e:H p=some (.dT kvs)) (h:ty σ H fun y H2=>tx σ H2 (ZG p Q y)):OD σ ty tx Q (.ref p) H:=⟨p,rfl,.inr ⟨kvs,.inl e⟩,h⟩
theorem oJ {p b:Addr}{z:V}{kvs:List (List Key×V)} (k:List Key) (e:H p=some (.dT kvs)) (eb:H b=some (.tup (k.map kV))) (h:Q ((bB kvs k).getD z) H):ZG p Q (.ref b) z H:=⟨_,DGet.t e eb,h⟩
theorem FY {p:Addr}{vs:List V}{ps:List (Key×V)} (e:H p=some (.lst vs)) (r:vW H vs ps) (h:∀l H',H l=none->Same H H'->H' l=some (.dK (iK [] ps))->Q (.ref l) H'):N0 [.ref p] H Q:=⟨p,vs,ps,rfl,.inl e,r,fI h⟩
theorem DP {p:Addr}{vs:List V}{rs:List (List Key)}{sh:List Bool} (e:SqL K H p vs) (kr:KRows H vs rs) (hl:vs.length<64) (hs:∀r∈rs,r.map dG=sh) (hn:sh≠[]) (h:∀l ws H',H l=none->Same H H'->H' l=some (.lst ws)->KRows H' ws (mQ rs)->Q (.ref l) H'):IJ K [.ref p] H Q :=
 ⟨p,vs,rs,sh,rfl,e,kr,hl,hs,hn,fI fun l H' n S e=>h l _ H' n S e ((JT kr).same S)⟩
theorem nO {te:TE}{p:Addr}{u:HO} (e:H p=some u) (nf:∀o x,u≠ .frz o x) (h:te σ H fun x=>gE p (Q x)):SS te σ H Q:=⟨p,fun o x z=>nf o x (by rw[e]at z;exact Option.some.inj z),h⟩
theorem QP {ts:TS}{bk ct:St->Hp->Prop}{rt:VK}{p:Addr}{u:HO} (e:H p=some u) (nf:∀o x,u≠ .frz o x) (h:ts ⟨fun σ'=>gE p (nx σ'),fun v=>gE p (rt v),fun σ'=>gE p (bk σ'),fun σ'=>gE p (ct σ')⟩ σ H):S0 ts ⟨nx,rt,bk,ct⟩ σ H :=
 ⟨p,fun o x z=>nf o x (by rw[e]at z;exact Option.some.inj z),h⟩
theorem jC {p:Addr}{o:Obj}{u:HO}{R:Hp->Prop} (e:H p=some (.frz o u)) (h:∀H',SameBut p H H'->H' p=some u->R H'):gE p R H:=⟨o,u,e,h _ SameBut.upd aS⟩
theorem qB {H Hf H1 H2:Hp}{p:Addr}{u:HO} (e:H p=some u) (a:SameBut p H Hf) (b:SameBut p Hf H1) (c:SameBut p H1 H2) (e2:H2 p=some u):Same H H2:=fun x o z=>by
 by_cases hx:x=p
 ·subst hx;rw[e]at z;cases z;exact e2
 ·exact c x o (b x o (a x o z hx) hx) hx
end
section
variable {X:Cx}{K:PySem.W.Frag}
theorem rL {e:Expr}{ta:TE}{f:Str}{pos:Pos} (he:PE X e ta) (hb:attributeBase e f X.env (eval e X.env)=eval e X.env) (hK:X.K=K:=by rfl):PE X (.Attribute e f pos) (RO K ta f):=by
 subst hK;exact bA he hb
theorem yI (hK:X.K=K:=by rfl):OpR X (compareOp .In) (rIn K false):=by
 subst hK;exact NM
end
end L2
namespace L2
open PySem PySem.W PyProof.Rows
section
variable {K:PySem.W.Frag}{ti:TT}{te:TE}{σ:St}{ci:List Nat}{rest:St}{fin:List V->Hp->Prop}{H:Hp}{a:Addr}{α:Type}
theorem jE {vs:List V}{xs:List α} (F:V->α->Prop) (c:α->Bool) (P:α->V->Hp->Prop) (hm:∀x y H1 H2,P x y H1->Same H1 H2->P x y H2) (hn:xs.length<=sizeLine) (hr:ci.map (fun i=>(σ[i]?).join)=rest) (hl:SqL K H a vs) (hv:Paired F vs xs)
  (ht:∀v x H1,F v x->x∈xs->Same H H1->∀R:Bool->Hp->Prop,(∀H2,Same H1 H2->R (c x) H2)->ti (some v::rest) H1 R)
  (he:∀v x H1,F v x->x∈xs->c x=true->Same H H1->∀R:VK,(∀y H2,P x y H2->Same H1 H2->R y H2)->te (some v::rest) H1 R)
  (hf:∀ys H1,Same H H1->Paired (fun x y=>P x y H1) (xs.filter c) ys->fin ys H1):dB (Itl K a) (cA 0) ti te (bZ 1 ci σ) fin H:=by
 rw[u8 hr];have hlen:vs.length=xs.length:=Paired.length hv;refine i3 xs c P hm hn (fun i H1 s hi=>⟨vs,vs[i],s.seq hl,List.getElem?_eq_getElem (by lia)⟩) (fun H1 s=>⟨vs,s.seq hl,by lia⟩) (fun i x H1 hx s1 v H' y=> ?_) hf;obtain⟨rfl,e2⟩:=y;have ev:=e2 vs (s1.seq hl);have hF:=Paired.at2 hv ev hx;have hmem:=List.mem_of_getElem? hx;refine⟨Same.refl _,some v::rest,rfl,fun j v hv=> ?_,fun R h=>h,fun R h=>ht v x _ hF hmem s1 R h,fun hc H2 s2 R h=>he v x H2 hF hmem hc (s1.trans s2) R h⟩;cases j with
 | zero=>cases hv
 | succ j=>exact hv
theorem JQ {kvs:List (Key×V)}{o:Obj}{xs:List α} (F:Key×V->α->Prop) (c:α->Bool) (P:α->V->Hp->Prop) (hm:∀x y H1 H2,P x y H1->Same H1 H2->P x y H2) (hn:xs.length<=sizeLine) (hr:ci.map (fun i=>(σ[i]?).join)=rest) (h0:H a=some (.frz o (.dK kvs))) (hv:Paired F kvs xs)
  (ht:∀e x H1,F e x->x∈xs->Same H H1->∀R:Bool->Hp->Prop,(∀H2,Same H1 H2->R (c x) H2)->ti (some (kV e.1)::some e.2::rest) H1 R)
  (he:∀e x H1,F e x->x∈xs->c x=true->Same H H1->∀R:VK,(∀y H2,P x y H2->Same H1 H2->R y H2)->te (some (kV e.1)::some e.2::rest) H1 R)
  (hf:∀ys H1,Same H H1->Paired (fun x y=>P x y H1) (xs.filter c) ys->fin ys H1):dB (Iti a o kvs) (xN K 2 (jK (cA 0) (jK (cA 1) AO))) ti te (bZ 2 ci σ) fin H:=by
 have e0:bZ 2 ci σ=none::none::rest:=J5 hr;rw[e0];have hlen:kvs.length=xs.length:=Paired.length hv;refine i3 xs c P hm hn (fun i H1 s hi=>⟨s _ _ h0,by lia⟩) (fun H1 s=>⟨s _ _ h0,by lia⟩) (fun i x H1 hx s1 v H' y=> ?_) hf;obtain⟨k,u,q,e2,rfl,hq,rfl⟩:=y;have hF:=Paired.at2 hv e2 hx;have hmem:=List.mem_of_getElem? hx;have sq:Same H1 (upd H1 q (.tup [kV k,u])):=wU hq;refine⟨sq,some (kV k)::some u::rest,rfl,fun j v hv=> ?_,fun R h=>⟨q,[kV k,u],rfl,.inl (.inl aS),rfl,kV k,[u],rfl,u,[],rfl,rfl,h⟩,fun R h=>ht _ x _ hF hmem (s1.trans sq) R h,fun hc H2 s2 R h=>he _ x H2 hF hmem hc ((s1.trans sq).trans s2) R h⟩
 match j,hv with
 | 0,hv=>cases hv
 | 1,hv=>cases hv
 | j+2,hv=>exact hv
end
theorem c9 {α:Type}{f:α->V}:∀{l:List α}{ys:List V},Paired (fun x y=>y=f x) l ys->ys=l.map f
 | _,_,.nil=>rfl
 | _,_,.cons h t=>by rw[h,c9 t];rfl
theorem dZ {α:Type}(l:List α):l.filter (fun _=>true)=l:=by simp
theorem OE {K:PySem.W.Frag}{H:Hp}{Q:VK}{p:Addr}{z:Str}{ss:List Str} (e:SqL K H p (ss.map V.str)) (h:Q (.bl (decide (z∈ss))) H):rIn K false (.str z) (.ref p) H Q:=by
 refine⟨p,_,rfl,.inl e,rfl,?_,?_⟩
 ·rw[List.all_eq_true];intro x hx;obtain⟨y,_,rfl⟩:=List.mem_map.mp hx;rfl
 ·have e2:inV (.str z) (ss.map V.str)=decide (z∈ss):=by
   rw[Bool.eq_iff_iff,decide_eq_true_eq];unfold inV;rw[List.any_eq_true]
   constructor
   ·rintro ⟨x,hx,h⟩;obtain⟨y,hy,rfl⟩:=List.mem_map.mp hx;have:y=z:=by simpa [eqV] using h
    rw[←this];exact hy
   ·intro h;exact⟨.str z,List.mem_map.mpr ⟨z,h,rfl⟩,by simp[eqV]⟩
  show Q (.bl (inV (.str z) (ss.map V.str))) H;rw[e2];exact h
end L2
namespace L2
open PySem PySem.W PyProof.Rows
abbrev aH:=Int×Str×Int
def gS (t:Int)(n:Str):List Key:=[.inl t,.inr n]
def fJ (r:aH):List Key:=[.inl r.1,.inr r.2.1,.inl r.2.2]
def Y0 (r:aH):List Key:=[.inr r.2.1,.inl r.2.2]
def mK:V->Int
 | .int i=>i
 | _=>0
def KJ (kvs:List (List Key×V))(r:aH):List (List Key×V):=bX kvs (gS r.1 r.2.1) (.int (mK ((bB kvs (gS r.1 r.2.1)).getD (.int 0))+r.2.2))
def jL (rows:List aH):List (List Key×V):=rows.foldl KJ []
theorem qD (rows:List aH)(r:aH):jL (rows++[r])=KJ (jL rows) r:=by unfold jL;rw[List.foldl_append];rfl
def aP (rows:List aH)(t:Int)(n:Str):Int:=((rows.filter fun r=>decide (r.1=t)&&decide (r.2.1=n)).map (·.2.2)).sum
theorem J8 (rows:List aH)(r:aH)(t:Int)(n:Str):aP (rows++[r]) t n=aP rows t n+if r.1=t/\r.2.1=n then r.2.2 else 0:=by
 unfold aP;rw[List.filter_append,List.map_append,List.sum_append]
 congr 1
 by_cases h:r.1=t/\r.2.1=n
 ·rw[if_pos h,List.filter_cons_of_pos (by simp[h])];simp
 ·rw[if_neg h,List.filter_cons_of_neg (by simpa using h)];simp
theorem PN {t t':Int}{n n':Str} (h:gS t n=gS t' n'):t=t'/\n=n':=by
 unfold gS at h;injection h with h1 h2;injection h2 with h2;exact⟨Sum.inl.inj h1,Sum.inr.inj h2⟩
theorem mX {α:Type}{P:List α->Prop} (h0:P []) (hs:∀l a,P l->P (l++[a])) (l:List α):P l:=by
 have:∀m:List α,P m.reverse:=fun m=>by
  induction m with
  | nil=>exact h0
  | cons a m ih=>rw[List.reverse_cons];exact hs _ _ ih
 rw[←List.reverse_reverse l];exact this _
theorem FE (t:Int)(n:Str)(rows:List aH):mK ((bB (jL rows) (gS t n)).getD (.int 0))=aP rows t n:=by
 induction rows using mX with
 | h0=>rfl
 | hs l r ih =>
  rw[qD,J8];unfold KJ;rw[sV]
  by_cases e:gS t n=gS r.1 r.2.1
  ·obtain⟨rfl,rfl⟩:=PN e;rw[if_pos rfl,if_pos ⟨rfl,rfl⟩,←ih];rfl
  ·rw[if_neg e,if_neg (fun h=>e (by rw[h.1,h.2])),ih];lia
theorem O1 {κ:Type}[DecidableEq κ]{kvs:List (κ×V)}{k:κ}{v:V} (nd:(kvs.map (·.1)).Nodup):((bX kvs k v).map (·.1)).Nodup:=by
 unfold bX
 split
 ·have e:(kvs.map fun kv=>if kv.1=k then (kv.1,v) else kv).map (·.1)=kvs.map (·.1):=by
   rw[List.map_map]
   apply List.map_congr_left
   intro x _;show (if x.1=k then (x.1,v) else x).1=x.1
   split<;>rfl
  rw[e];exact nd
 ·rename_i h;rw[List.map_append];refine JN nd fun hk=>h ?_;obtain⟨x,hx,e⟩:=List.mem_map.mp hk;rw[List.any_eq_true];exact⟨x,hx,decide_eq_true e⟩
theorem mY {κ:Type}[DecidableEq κ]:∀{kvs:List (κ×V)}{e:κ×V},(kvs.map (·.1)).Nodup->e∈kvs->bB kvs e.1=some e.2
 | a::l,e,nd,h=>by
  have nd':=List.pairwise_cons.mp nd;rcases List.mem_cons.mp h with rfl|h
  ·exact cW rfl
  ·rw[cJ (nd'.1 e.1 (List.mem_map.mpr ⟨e,h,rfl⟩))];exact mY nd'.2 h
theorem vB {κ:Type}[DecidableEq κ]{kvs:List (κ×V)}{k:κ}{v:V} (h:bB kvs k=some v):(k,v)∈kvs:=by
 unfold bB at h;obtain⟨x,hx,e⟩:=Option.map_eq_some_iff.mp h;have h1:=List.find?_some hx;have h2:=List.mem_of_find?_eq_some hx;have h3:x.1=k:=of_decide_eq_true h1;rw[←h3,←e];exact h2
def aBA (kvs:List (List Key×V)):Prop:=(kvs.map (·.1)).Nodup/\∀e∈kvs,∃t n i,e=(gS t n,.int i)
theorem eU (rows:List aH):aBA (jL rows):=by
 induction rows using mX with
 | h0=>exact⟨List.nodup_nil,fun e h=>nomatch h⟩
 | hs l r ih =>
  rw[qD];refine⟨O1 ih.1,fun e he=> ?_⟩;rcases EK he with h|⟨h1,h2⟩
  ·exact ih.2 e h
  ·exact⟨_,_,_,Prod.ext h1 h2⟩
theorem SC (rows:List aH)(t:Int)(n:Str):∃i,(bB (jL rows) (gS t n)).getD (.int 0)= .int i:=by
 cases h:bB (jL rows) (gS t n) with
 | none=>exact⟨0,rfl⟩
 | some v =>
  obtain⟨t',n',i,e⟩:=(eU rows).2 _ (vB h);cases e;exact⟨i,rfl⟩
theorem ED (rows:List aH):(jL rows).length<=rows.length:=by
 induction rows using mX with
 | h0=>exact Nat.le_refl _
 | hs l r ih =>
  rw[qD,List.length_append];exact Nat.le_trans (fX _ _ _) (by simp;lia)
def SD (e:List Key×V):Bool:=decide (0<mK e.2)
def LR (e:List Key×V):List Key:=e.1++[.inl (mK e.2)]
def gW (rows:List aH):List (List Key):=((jL rows).filter SD).map LR
theorem mem_told {rows:List aH}{k:List Key}:k∈gW rows↔∃t n,k=fJ (t,n,aP rows t n)/\0<aP rows t n:=by
 unfold gW
 constructor
 ·intro h;obtain⟨e,he,rfl⟩:=List.mem_map.mp h;obtain⟨h1,h2⟩:=List.mem_filter.mp he;obtain⟨t,n,i,rfl⟩:=(eU rows).2 e h1;have hv:=mY (eU rows).1 h1;have ht:=FE t n rows;rw[hv]at ht;have ht':i=aP rows t n:=ht;refine⟨t,n,?_,?_⟩
  ·rw[←ht'];rfl
  ·rw[←ht'];exact of_decide_eq_true h2
 ·rintro ⟨t,n,rfl,h⟩;have ht:=FE t n rows;cases hv:bB (jL rows) (gS t n) with
  | none =>
   rw[hv]at ht;have:(0:Int)=aP rows t n:=ht
   lia
  | some v =>
   have hm:=vB hv;obtain⟨t',n',i,e⟩:=(eU rows).2 _ hm;obtain⟨e1,e2⟩:=Prod.mk.inj e;subst e2;rw[hv]at ht;have ht':i=aP rows t n:=ht;refine List.mem_map.mpr ⟨(gS t n,.int i),List.mem_filter.mpr ⟨hm,?_⟩,?_⟩
   ·show decide (0<i)=true;rw[ht'];exact decide_eq_true h
   ·rw[ht'];rfl
theorem zI (rows:List aH):(gW rows).Nodup:=by
 unfold gW;have h1:((jL rows).filter SD).Pairwise fun a b=>a.1≠b.1:=by
  have:=(eU rows).1;rw[List.Nodup,List.pairwise_map]at this;exact this.filter _
 rw[List.Nodup,List.pairwise_map];refine List.Pairwise.imp_of_mem ?_ h1;intro a b ha hb h z;obtain⟨t,n,i,rfl⟩:=(eU rows).2 a (List.mem_filter.mp ha).1;obtain⟨t',n',i',rfl⟩:=(eU rows).2 b (List.mem_filter.mp hb).1
 apply h
 have z':fJ (t,n,i)=fJ (t',n',i'):=z;unfold fJ at z';injection z' with z1 z2;injection z2 with z2 z3;show gS t n=gS t' n';have y1:t=t':=Sum.inl.inj z1;have y2:n=n':=Sum.inr.inj z2;rw[y1,y2]
theorem yX (rows:List aH):∀r∈gW rows,r.map dG=[true,false,true]:=fun r hr=>by
 obtain⟨t,n,rfl,_⟩:=mem_told.mp hr;rfl
def fB (rows:List aH)(t:Int)(ns:List Str):List aH:=(ns.filter fun n=>decide (0<aP rows t n)).map fun n=>(t,n,aP rows t n)
theorem FK {a b:aH}(h:fJ a=fJ b):a=b:=by
 unfold fJ at h;injection h with h1 h2;injection h2 with h2 h3;injection h3 with h3;exact Prod.ext (Sum.inl.inj h1) (Prod.ext (Sum.inr.inj h2) (Sum.inl.inj h3))
theorem nE {rows:List aH}{t:Int}{D:List Str}{n:Str} (hn:n∈D):aP (rows.filter fun r=>decide (r.1=t)&&decide (r.2.1∈D)) t n=aP rows t n:=by
 unfold aP;rw[List.filter_filter]
 congr 2
 apply List.filter_congr
 intro r _
 by_cases h:r.1=t/\r.2.1=n
 ·have:r.2.1∈D:=by rw[h.2];exact hn
  simp[h,hn]
 ·have h':(decide (r.1=t)&&decide (r.2.1=n))=false:=by simpa using h
  rw[h',Bool.false_and]
theorem K5 {rows:List aH}{t t':Int}{D:List Str}{n:Str} (h:¬(t'=t/\n∈D)):aP (rows.filter fun r=>decide (r.1=t)&&decide (r.2.1∈D)) t' n=0:=by
 unfold aP;rw[List.filter_filter,List.filter_eq_nil_iff.mpr]
 ·rfl
 ·intro r _ z;simp only[Bool.and_eq_true,decide_eq_true_eq]at z
  apply h
  rw[←z.1.1,←z.1.2];exact⟨z.2.1,z.2.2⟩
theorem D6 (rows:List aH)(t:Int){D:List Str}(nd:D.Nodup):(gW (rows.filter fun r=>decide (r.1=t)&&decide (r.2.1∈D))).Perm ((fB rows t (cP D)).map fJ):=by
 have hp:=dP D;have nds:(cP D).Nodup:=hp.nodup_iff.mpr nd;refine(List.perm_ext_iff_of_nodup (zI _) ?_).mpr fun k=> ?_
 ·rw[List.Nodup,List.pairwise_map];unfold fB;rw[List.pairwise_map];refine List.Pairwise.imp ?_ (nds.filter _);intro a b h z;exact h (Prod.mk.inj (Prod.mk.inj (FK z)).2).1
 ·rw[mem_told];unfold fB;rw[List.map_map]
  constructor
  ·rintro ⟨t',n,rfl,h⟩
   by_cases hc:t'=t/\n∈D
   ·obtain⟨rfl,hn⟩:=hc;rw[nE hn]at h ⊢;exact List.mem_map.mpr ⟨n,List.mem_filter.mpr ⟨hp.mem_iff.mpr hn,decide_eq_true h⟩,rfl⟩
   ·rw[K5 hc]at h;lia
  ·intro h;obtain⟨n,hn,rfl⟩:=List.mem_map.mp h;obtain⟨h1,h2⟩:=List.mem_filter.mp hn;have hD:=hp.mem_iff.mp h1;refine⟨t,n,?_,?_⟩
   ·rw[nE hD];rfl
   ·rw[nE hD];exact of_decide_eq_true h2
theorem aAu (rows:List aH)(t:Int){D:List Str}(nd:D.Nodup):((fB rows t (cP D)).map fJ).Pairwise fun x y=>d6 x y=true:=by
 unfold fB;rw[List.pairwise_map,List.pairwise_map];refine List.Pairwise.imp ?_ ((Q4 nd).filter _);intro a b h;have hne:a≠b:=fun z=>by rw[z,z4]at h;cases h
 show d6 (fJ (t,a,aP rows t a)) (fJ (t,b,aP rows t b))=true;unfold fJ;show (if (Sum.inl t:Key)= .inl t then (if (Sum.inr a:Key)= .inr b then _ else fC (.inr a) (.inr b)) else _)=true;rw[if_pos rfl,if_neg (fun z=>hne (Sum.inr.inj z))];exact h
theorem GT (rows:List aH)(t:Int){D:List Str}(nd:D.Nodup):mQ (gW (rows.filter fun r=>decide (r.1=t)&&decide (r.2.1∈D)))=(fB rows t (cP D)).map fJ :=
 IT (lt:=d6) (fun x _=>w6 x) (fun _ _ _ _ _ _ a b=>zW a b) ((mL _).trans (D6 rows t nd)) (RX ⟨_,yX _⟩ (zI _)) (aAu rows t nd)
theorem FI (rows:List aH)(t:Int){D:List Str}(nd:D.Nodup):(gW (rows.filter fun r=>decide (r.1=t)&&decide (r.2.1∈D))).length<=D.length:=by
 rw[(D6 rows t nd).length_eq,List.length_map];unfold fB;rw[List.length_map];exact Nat.le_trans (List.length_filter_le _ _) (Nat.le_of_eq (dP D).length_eq)
end L2
namespace L2
open PySem PySem.W PyProof.Rows
theorem U4:typeLookup (.type "dict") "__len__" =pure (some (.builtin "dict.__len__")):=by rw[typeLookup_type,builtinLookup_eq_fast];kernel_rfl
section
variable {prog:Program}{w:World}{A:Around}{E:Value->Shared->Prop}{s:Shared}{d:Addr}{κ:Type} [DecidableEq κ] {knd:KeyKind prog w κ}{ps:List (κ×Value)}{ep:Nat}
theorem NP (T:s.TypeIs (.ref d) "dict"){Q:Bool->Shared->Prop}(h:Q false s):wpAny (model prog w) A (Builtin.List.listLengthHint (.ref d)) Q E s:=by
 unfold Builtin.List.listLengthHint;refine wpAny_bind (wpAny_specialOf T U4 ?_);generalize q:("dict.__len__" :String)=i0
 wp_delta
 rw[show splitId i0=some ("dict","__len__") from by subst q;decide +kernel];subst q;refine wpAny_bind (wpAny_isInstance (T:= "dict") (b:=true) T (by rw[isSubtype_type];kernel_rfl) (wpAny_ite_split (fun z=>absurd z (by decide)) (fun _=>wpAny_ite_split (fun _=> ?_) (fun z=>absurd (by decide +kernel) z))));exact wpAny_bind (wpAny_typeOf T (wpAny_pure h))
theorem HC {R:Result->Shared->Prop}(hh:A.handled=none)(hm:s.heap.DictAt knd d ps ep)(hd0:(d==sysModules)=false)(S:Addr)(hSd:S≠d)(c0:Nat)(hS:s.heap.get? S=some { cls:= .type "list",data:= .seq #[] c0 })(hn:ps.length<=sizeLine)
  (k:∀h' tk acc c,(∀b o,b≠S->s.heap.get? b=some o->h'.get? b=some o)->h'.get? S=some { cls:= .type "list",dict:=none,data:= .seq acc c,slots:= #[] }->ItemsOf (fun i v=>∃k x,ps[i]? =some (k,x)/\knd.is k v=true) acc ps.length->R (.ok (.ret .none)) { s with heap:=h',toks:=tk }) :
  wpAny (model prog w) A.in1 (Builtin.List.listExtendWith (.ref S) (.ref d) .none) (fun fin s'=>match fin with| .done f=>R (.ok f) s'| .again c'=>c'.quiet=true/\codeAny (model prog w) A c' R s') (fun e s'=>R (.error e) s') s:=by
 obtain⟨o,es,ho,hc,hq,hk,hp,hnd⟩:=id hm;have T:s.TypeIs (.ref d) "dict" :=⟨o,ho,hc.1⟩
 have lS:S<s.heap.objs.size:=Heap.lt_size hS;have ld:d<s.heap.objs.size:=Heap.lt_size ho;have hsz:es.size=ps.length:=by rw[←hp.length];simp
 have W:=(Walks.dictKeys (prog:=prog) (w:=w) (knd:=knd) (A:=A.in1) hh s.heap.objs.size d (Nat.ne_of_lt ld) ps ep).toS;have run:∀(h:Heap) (c1 tk:Nat),h.IsKeyIter s.heap.objs.size d 0 ps.length ep->(∀b u,b≠S->s.heap.get? b=some u->h.get? b=some u)->h.get? S=some { cls:= .type "list",data:= .seq #[] c1 } →
   codeAny (model prog w) A (.builtin "list.extend.loop" ⟨[.ref S,.ref s.heap.objs.size,.none],[]⟩) R { s with heap:=h,toks:=tk }:=by
  intro h c1 tk hit kp hS1;refine codeAny_extend_loopS W hn S (by simp only[List.mem_cons,List.not_mem_nil,or_false,not_or];exact⟨Nat.ne_of_lt lS,hSd⟩) .none ps.length 0 _ #[] c1 rfl (Nat.zero_le _) ⟨hit,o,es,kp d o (Ne.symm hSd) ho,hc,hq,hk,hp,hnd⟩ hS1 (ItemsOf.nil _) fun s' acc c' mv hS2 hacc=> ?_;rw[Moved.eq_with mv];refine k s'.heap s'.toks acc c' (fun b u hb e=>mv.heap b u (fun z=> ?_) (kp b u hb e)) hS2 hacc;rcases List.mem_cons.mp z with z|z
  ·exact hb z
  ·have:=Heap.lt_size e;rw[List.mem_singleton.mp z]at this;exact Nat.lt_irrefl _ this
 unfold Builtin.List.listExtendWith;refine wpAny_bind (wpAny_typeOf (T:= "dict") T ?_);simp only[show Builtin.List.listSameRef (.ref S) (.ref d)=false by simp[Builtin.List.listSameRef,hSd],show (Value.type "dict" ==Value.type "list")=false by decide,show (Value.type "dict" ==Value.type "tuple")=false by decide,Bool.or_false,Bool.false_eq_true,if_false];refine wpAny_bind (GG hd0 ho hc hq ?_);have hS1:=Heap.get?_push_of_some { cls:= .type "dict_keyiterator",data:= .fields #[.ref d,.int 0 0,.int es.size 0,.int ep 0] } hS;refine wpAny_bind (wpAny_holding (NP ⟨o,Heap.get?_push_of_some _ ho,hc.1⟩ ?_));have hit:(s.heap.push { cls:= .type "dict_keyiterator",data:= .fields #[.ref d,.int 0 0,.int es.size 0,.int ep 0] }).IsKeyIter s.heap.objs.size d 0 ps.length ep:=⟨_,Heap.get?_push_size _ rfl,rfl,by rw[hsz];rfl⟩
 refine wpAny_ite_split (fun z=> ?_) (fun _=>wpAny_pure ⟨plainId_quiet F.plain_extend_loop _,run _ c0 _ hit (fun b u _ e=>Heap.get?_push_of_some _ e) hS1⟩);refine wpAny_bind (wpAny_rule (wpAny_bind ?_));show wpAny _ A.in1 (updateSeq S (·.push .none) >>= fun _=>updateSeq S (·.pop)) _ _ _;have u1:=Heap.get?_update_self (Obj.mapSeq (·.push Value.none)) hS1 rfl;have u2:=Heap.get?_update_self (Obj.mapSeq (·.pop)) u1 rfl;refine wpAny_bind (wpAny_updateSeq hS1 rfl (wpAny_updateSeq (hz:=by seq_fits) u1 rfl (wpAny_pure ⟨plainId_quiet F.plain_extend_loop _,run _ _ _ ?_ (fun b u hb e=> ?_) u2⟩)))
 ·exact hit.at fun u e=>(Heap.get?_update_other _ _ (Nat.ne_of_lt lS)).trans ((Heap.get?_update_other _ _ (Nat.ne_of_lt lS)).trans e)
 ·exact(Heap.get?_update_other _ _ (Ne.symm hb)).trans ((Heap.get?_update_other _ _ (Ne.symm hb)).trans (Heap.get?_push_of_some _ e))
theorem M1 {Q:Value->Shared->Prop}(hh:A.handled=none)(hm:s.heap.DictAt knd d ps ep)(hd0:(d==sysModules)=false)(hn:ps.length<=sizeLine)
  (k:∀h' tk acc c,(∀b o,s.heap.get? b=some o->h'.get? b=some o)->h'.get? s.heap.objs.size=some { cls:= .type "list",dict:=none,data:= .seq acc c,slots:= #[] }->ItemsOf (fun i v=>∃k x,ps[i]? =some (k,x)/\knd.is k v=true) acc ps.length->Q (.ref s.heap.objs.size) { s with heap:=h',toks:=tk }) :
  wpAny (model prog w) A (call (.type "list") [.ref d]) Q E s:=by
 refine callType_codes (Q₁:=fun x s1=>x= .ref s.heap.objs.size/\s1={ s with heap:=s.heap.push { cls:= .type "list",data:= .seq #[] } }) F.called_list (F.typeCall_list_1 _) F.entry_list_init (code_list_new _ ⟨rfl,rfl⟩) ?_;rintro x s1 ⟨rfl,rfl⟩;have hS:(s.heap.push { cls:= .type "list",data:= .seq #[] }).get? s.heap.objs.size=some { cls:= .type "list",data:= .seq #[] }:=Heap.get?_push_size _ rfl;have hm1:(s.heap.push { cls:= .type "list",data:= .seq #[] }).DictAt knd d ps ep:=hm.at' fun o e=>Heap.get?_push_of_some _ e;have hdS:s.heap.objs.size≠d:=fun z=>by
  obtain⟨o,_,ho,_⟩:=hm;have:=Heap.lt_size ho;rw[←z]at this;exact Nat.lt_irrefl _ this
 refine⟨⟨_,hS,rfl⟩,F.args_list_init_2 _ _,?_⟩;show wpAny _ A.in1.in1 (Builtin.List.listItems (.ref s.heap.objs.size) >>= fun old=>Builtin.List.listUpdate (.ref s.heap.objs.size) (fun _=> #[]) >>= fun _=>letGo old.toList.reverse >>= fun _=>Builtin.List.listExtendWith (.ref s.heap.objs.size) (.ref d) .none) _ _ _;refine wpAny_bind ?_;unfold Builtin.List.listItems;refine wpAny_bind (wpAny_seqItems hS rfl (wpAny_pure ?_));show wpAny _ A.in1.in1 (updateSeq s.heap.objs.size (fun _=> #[]) >>= fun _=>letGo (#[]:Array Value).toList.reverse >>= fun _=>Builtin.List.listExtendWith (.ref s.heap.objs.size) (.ref d) .none) _ _ _;have u1:=Heap.get?_update_self (Obj.mapSeq (fun _=>(#[]:Array Value))) hS rfl;have kp:∀b o,b≠s.heap.objs.size->(s.heap.push { cls:= .type "list",data:= .seq #[] }).get? b=some o->((s.heap.push { cls:= .type "list",data:= .seq #[] }).update s.heap.objs.size (Obj.mapSeq (fun _=>(#[]:Array Value)))).get? b=some o:=fun b o hb e=>(Heap.get?_update_other _ _ (Ne.symm hb)).trans e;refine wpAny_bind (wpAny_updateSeq hS rfl (wpAny_bind (wpAny_letGo ?_)));refine HC (A:=A.in1) hh (hm1.at' fun o e=>kp d o (Ne.symm hdS) e) hd0 _ hdS _ u1 hn fun h' tk acc c kk hS' hacc=> ?_;exact⟨rfl,k h' tk acc c (fun b o e=>kk b o (Nat.ne_of_lt (Heap.lt_size e)) (kp b o (Nat.ne_of_lt (Heap.lt_size e)) (Heap.get?_push_of_some _ e))) hS' hacc⟩
end
section
variable {X:Cx}
def ON:List V->Hp->VK->Prop:=fun xs H Q=>∃p kvs,xs=[.ref p]/\Rd H p (.dK kvs)/\∀l,H l=none->Q (.ref l) (upd H l (.lst (kvs.map fun e=>kV e.1)))
theorem CQ {P:Program}{w:World}{kvs:List (Key×V)}{rs:List (Key×Value)} (r:KV kvs rs) {acc:Array Value} (h:ItemsOf (fun i v=>∃k x,rs[i]? =some (k,x)/\(bO P w).is k v=true) acc rs.length):Vals (kvs.map fun e=>kV e.1) acc.toList:=by
 have e0:acc.toList.length=rs.length:=by rw[Array.length_toList];exact h.1
 refine xE (by rw[List.length_map,e0];exact r.length) fun i x u h1 h2=> ?_;obtain⟨k,y,e1,e2⟩:=h.2 i u (by simpa using h2);rw[List.getElem?_map]at h1;obtain⟨e,he,rfl⟩:=Option.map_eq_some_iff.mp h1;have hi:i<kvs.length:=(List.getElem?_eq_some_iff.mp he).1;obtain⟨k',v',u',f1,f2,f3⟩:=EQ r hi;rw[he]at f1;cases f1;rw[e1]at f2;cases f2;exact vI e2
theorem yM (hc:X.calm=true):d4 X (.type "list") ON:=by
 intro pins s σ H xs us Q I r h;obtain⟨p,kvs,rfl,hq,q⟩:=h;obtain⟨u,rfl,rx⟩:=jM r;cases rx;obtain⟨z,y,rs,kv,o,es,ep,h1,h2,h3,h4,h5,h6⟩:=qE I.hok hq;have hl:=kv.length;refine M1 (knd:=bO X.prog X.w) (ps:=rs) (ep:=ep) (I.ok.hd hc) ⟨o,es,h1,h2,h3,h4,h5,h6⟩ y (by lia) fun h' tk acc c kp hS hacc=> ?_;exact⟨.ref _,_,I.laid (t':=tk) kp (Nat.le_refl _) (show ObjOk X.prog X.w _ h' _ (.lst (kvs.map fun e=>kV e.1)) from⟨by rw[List.length_map];exact z,acc.toList,c,CQ kv hacc,by rw[Array.toArray_toList];exact hS⟩),rfl,q _ (I.hok.fresh (Nat.le_refl _))⟩
end
end L2
namespace L2
open PySem PySem.W PyProof.Rows
section
variable {X:Cx}
end
end L2
namespace L2
open PySem PySem.W PyProof.Rows
section
variable {X:Cx}{pins:List (Addr×Obj)}{σ:St}{H:Hp}{s:Shared}{h':Heap}
end
section
variable {X:Cx}
end
end L2
namespace L2
open PySem PySem.W PyProof.Rows
def ZI (σ:St)(tv:TE)(rd:V->V->Hp->VK->Prop)(nx:St->Hp->Prop)(x:V):VK:=fun y H2=>∃a v,x= .ref a/\DGet H2 a y (some v)/\tv σ H2 fun y2 H3=>rd v y2 H3 fun z H4=>∃H5,DPut H4 a y z H5/\nx σ H5
def ZV (σ:St)(p:Addr)(k:V)(nx:St->Hp->Prop):VK:=fun z H4=>∃H5,DPut H4 p k z H5/\nx σ H5
section
variable {K:PySem.W.Frag}{H:Hp}{Q:VK}{σ:St}{nx:St->Hp->Prop}{td ty tv:TE}{rd:V->V->Hp->VK->Prop}{rt:VK}{bk ct:St->Hp->Prop}{R:It->Hp->Prop}
theorem UF (h:td σ H fun x H1=>ty σ H1 (ZI σ tv rd nx x)):SM td ty tv rd ⟨nx,rt,bk,ct⟩ σ H:=h
theorem RB {p:Addr}{z:Str}{kvs:List (Key×V)}{v:V} (e:Rd H p (.dK kvs)) (hv:bB kvs (.inr z)=some v) (h:tv σ H fun y2 H3=>rd v y2 H3 (ZV σ p (.str z) nx)):ZI σ tv rd nx (.ref p) (.str z) H:=⟨p,v,rfl,.inl ⟨kvs,.inr z,e,rfl,hv.symm⟩,h⟩
theorem W7 {p:Addr}{z:Str}{kvs:List (Key×V)}{v:V} (e:H p=some (.dK kvs)) (hl:kvs.length<sizeLine) (h:∀H',SameBut p H H'->H' p=some (.dK (bX kvs (.inr z) v))->nx σ H'):ZV σ p (.str z) nx v H:=⟨_,DPut.k (k:= .inr z) e hl,h _ SameBut.upd aS⟩
theorem D8 {p:Addr}{kvs:List (Key×V)} (e:Rd H p (.dK kvs)) (h:∀l H',H l=none->Same H H'->H' l=some (.lst (kvs.map fun e=>kV e.1))->Q (.ref l) H'):ON [.ref p] H Q:=⟨p,kvs,rfl,e,fI h⟩
theorem MC {l b:Addr}{xs zs:List V} (e:H l=some (.lst xs)) (e2:H b=some (.lst zs)) (hz:xs.length+zs.length<=sizeLine) (h:∀H',SameBut l H H'->H' l=some (.lst (xs++zs))->Q .non H'):JO (.ref l) [.ref b] H Q:=⟨l,b,xs,zs,rfl,rfl,e,e2,hz,h _ SameBut.upd aS⟩
end
def cQ (ps:List (Str×Int))(z:Str):Int:=((ps.filter fun p=>decide (p.1=z)).map (·.2)).sum
theorem MB (ps:List (Str×Int))(p:Str×Int)(z:Str):cQ (ps++[p]) z=cQ ps z+if p.1=z then p.2 else 0:=by
 unfold cQ;rw[List.filter_append,List.map_append,List.sum_append]
 congr 1
 by_cases h:p.1=z
 ·rw[if_pos h];simp[h]
 ·rw[if_neg h];simp[h]
end L2
namespace L2
open PySem PySem.W PyProof.Rows
theorem DZ {te:TE}{σ:St}{ci:List Nat}{rest:St}{fin:List V->Hp->Prop}{H:Hp}{lo:Int}{n:Nat} (P:Nat->V->Hp->Prop) (hm:∀x y H1 H2,P x y H1->Same H1 H2->P x y H2) (hn:n<=sizeLine) (hr:ci.map (fun i=>(σ[i]?).join)=rest)
  (he:∀(i:Nat) H1,i<n->Same H H1->∀R:VK,(∀y H2,P i y H2->Same H1 H2->R y H2)->te (some (.int (lo+i))::rest) H1 R)
  (hf:∀ys H1,Same H H1->Paired (fun x y=>P x y H1) (List.range n) ys->fin ys H1):dB (Itr lo n) (cA 0) wQ te (bZ 1 ci σ) fin H:=by
 rw[u8 hr];refine i3 (List.range n) (fun _=>true) P hm (by rw[List.length_range];exact hn) (fun i H1 s hi=>by rw[List.length_range]at hi;exact hi) (fun H1 s=>by rw[List.length_range];exact Nat.le_refl _) (fun i x H1 hx s1 v H' y=> ?_) (fun ys H1 s1 h=>hf ys H1 s1 (by rw[dZ]at h;exact h));obtain⟨rfl,rfl⟩:=y;obtain⟨hi,e⟩:=List.getElem?_eq_some_iff.mp hx;rw[List.length_range]at hi;rw[List.getElem_range]at e;subst e;refine⟨Same.refl _,some (.int (lo+(i:Nat)))::rest,rfl,fun j v hv=> ?_,fun R h=>h,fun R h=>h _ (Same.refl _),fun hc H2 s2 R h=>he i H2 hi (s1.trans s2) R h⟩;cases j with
 | zero=>cases hv
 | succ j=>exact hv
end L2
namespace L2
open PySem PySem.W PyProof.Rows PySem.Calls
section
variable {prog:Program}{w:World}{A:Around}{E:Value->Shared->Prop}{s:Shared}{d v:Addr}{o:Obj}{es:Array DictEntry}{ep:Nat}
theorem GZ {T:String}{r:Addr}{n:Nat}{P:Nat->Value->Prop}{OK:Heap->Prop}{F:List Value->Shared->Prop} (S:KdlSrc prog w T r d n P OK) (hh:A.handled=none) (hok:OK s.heap) (hn:n<=sizeLine)
  (fin:∀(g:Heap) (t:Nat) (xs:Array Value),(∀b u,s.heap.get? b=some u->g.get? b=some u)->s.heap.objs.size<g.objs.size->ItemsOf P xs n->F xs.toList { s with heap:=g,toks:=t }):wpAny (model prog w) A (collect (.ref r)) F E s:=by
 obtain⟨lr,ld⟩:=S.there _ hok;unfold collect;refine wpAny_bind (wpAny_runValue (codeAny_builtin entry_proto_collect' ?_));rw[Around.under_plainId PySem.F.plain_proto_collect _];show wpAny _ A.in1 (newList [] >>= fun x=>again (.builtin "list.__iadd__" ⟨[x,.ref r],[]⟩)) _ _ s;refine wpAny_bind (wpAny_newObj_type (wpAny_pure ⟨plainId_quiet PySem.F.plain_list_iadd _,codeAny_builtin entry_list_iadd' ?_⟩));rw[Around.under_plainId PySem.F.plain_list_iadd _];have e0:(s.heap.push { cls:= .type "list",data:= .seq ([]:List Value).toArray }).get? s.heap.objs.size=some { cls:= .type "list",data:= .seq #[] }:=Heap.get?_push_size _ rfl;have go:=kdl_extend (A:=A) (s:={ s with heap:=s.heap.push { cls:= .type "list",data:= .seq ([]:List Value).toArray } }) (R:=fun (z:Result) (s2:Shared)=>∃(g:Heap) (t:Nat) (xs:Array Value) (c:Nat),z= .ok (.ret (.ref s.heap.objs.size))/\s2={ s with heap:=g,toks:=t }/\(∀b u,s.heap.get? b=some u->g.get? b=some u)/\g.get? s.heap.objs.size=some { cls:= .type "list",dict:=none,data:= .seq xs c,slots:= #[] }/\ItemsOf P xs n)
  S hh (S.keep _ _ hok fun b _ u q=>Heap.get?_push_of_some _ q) s.heap.objs.size (Nat.ne_of_gt lr) (Nat.ne_of_gt ld) (.ref s.heap.objs.size) 0 e0 (fun g t xs c kp hx hi=>⟨g,t,xs,c,rfl,rfl,fun b u q=>kp b u (Nat.ne_of_lt (Heap.lt_size q)) (Heap.get?_push_of_some _ q),hx,hi⟩) hn
 have last:∀(g:Heap) (t:Nat) (xs:Array Value) (c:Nat),(∀b u,s.heap.get? b=some u->g.get? b=some u)->g.get? s.heap.objs.size=some { cls:= .type "list",dict:=none,data:= .seq xs c,slots:= #[] }->ItemsOf P xs n->wpAny (model prog w) A (load s.heap.objs.size >>= fun o=>match o.data with| .seq ys _=>pure ys.toList|_=>unsupported "internal:collect") F E { s with heap:=g,toks:=t }:=fun g t xs c kp hx hi =>
  wpAny_bind (wpAny_load hx (wpAny_pure (fin g t xs kp (Heap.lt_size hx) hi)))
 refine wpAny_mono go (fun z s2 y=> ?_) (fun z s2 y=>by obtain⟨_,_,_,_,y,_⟩:=y;cases y);cases z with
 | done f=>obtain⟨g,t,xs,c,y,rfl,kp,hx,hi⟩:=y;cases y;exact last g t xs c kp hx hi
 | again c1=>exact⟨y.1,codeAny_mono y.2 fun q s3 y=>by obtain⟨g,t,xs,c,rfl,rfl,kp,hx,hi⟩:=y;exact last g t xs c kp hx hi⟩
theorem K4 {T:String}{r:Addr}{n:Nat}{P:Nat->Value->Prop}{OK:Heap->Prop}{Q:Value->Shared->Prop} (S:KdlSrc prog w T r d n P OK) (hh:A.handled=none) (hok:OK s.heap) (h64:n<64) (c:Nat->Nat->Bool) (κ:SortKind)
  (hk:∀vs:List Value,vs.length=n->(∀j v,vs[j]? =some v->P j v)->2<=vs.length->∀h' tk,(∀b o,s.heap.get? b=some o->h'.get? b=some o)->∀R:SortKind->Shared->Prop,R κ { s with heap:=h',toks:=tk }->wpAny (model prog w) A.in1.in1 (keyKind' vs.toArray) R (fun _ _=>False) { s with heap:=h',toks:=tk })
  (hc:∀vs:List Value,vs.length=n->(∀j v,vs[j]? =some v->P j v)->2<=vs.length->∀h' tk,(∀b o,s.heap.get? b=some o->h'.get? b=some o)->∀i j,i<vs.length->j<vs.length->∀C,C (c i j) { s with heap:=h',toks:=tk }->kas_ask prog w A.in1.in1 κ vs i j C { s with heap:=h',toks:=tk })
  (h:∀(vs:List Value) D h' tk e,vs.length=n->(∀j v,vs[j]? =some v->P j v)->s.heap.objs.size<=D->(∀b o,s.heap.get? b=some o->h'.get? b=some o)->h'.get? D=some (seqObj "list" (b7 Value.none c vs).toArray e)->Q (.ref D) { s with heap:=h',toks:=tk }) :
  wpAny (model prog w) A (call (.builtin "sorted") [.ref r]) Q E s:=by
 refine Calls.call_function_entry kind_sorted plain_sorted entry_sorted (args_sorted1 _) ?_;unfold Builtin.«sorted»;refine wpAny_bind (m:=checkCount "sorted" 1 1 _) (wpAny_pure (wpAny_bind (GZ S hh hok (by rw[sizeLine_eq];lia) fun q tk acc qk qz hacc=> ?_)));have hl:acc.toList.length=n:=by rw[Array.length_toList];exact hacc.1
 have hP:∀j v,acc.toList[j]? =some v->P j v:=fun j v e=>hacc.2 j v (by rw[←Array.getElem?_toList];exact e);generalize acc.toList=vs at hl hP;have hz64:vs.length<=sizeLine:=by rw[sizeLine_eq];lia
 refine wpAny_bind (wpAny_newList ?_ hz64);have oD:(q.push (seqObj "list" vs.toArray 0)).get? q.objs.size=some (seqObj "list" vs.toArray 0):=Heap.get?_push_size _ rfl;have kD:∀h',mV q.objs.size (q.push (seqObj "list" vs.toArray 0)) h'->∀b o,s.heap.get? b=some o->h'.get? b=some o:=fun h' k b o e =>
  k b o (Nat.ne_of_lt (Heap.lt_size (qk b o e))) (Heap.get?_push_of_some _ (qk b o e))
 refine wpAny_bind (wpAny_holding (wpAny_call_entry slot_list_sort ⟨_,oD,rfl⟩ entry_list_sort ?body (args_list_sort _)))
 case body =>
  refine HX (s:={ s with heap:=q.push (seqObj "list" vs.toArray 0),toks:=tk }) c κ oD (by lia) (fun h2 h' k=>hk vs hl hP h2 h' tk (kD h' k)) (fun h2 h' k=>hc vs hl hP h2 h' tk (kD h' k)) fun h' e k o'=> ?_;exact⟨_,rfl,wpAny_pure ⟨_,rfl,h vs _ h' tk e hl hP (Nat.le_of_lt qz) (kD h' k) o'⟩⟩
end
section
variable {X:Cx}
theorem xP {K:PySem.W.Frag}(h:X.K=K:=by rfl):IxR X (F2 K):=by subst h;exact gT
end
section
variable {K:PySem.W.Frag}{H:Hp}{Q:VK}{σ:St}{td:TE}
end
end L2
namespace L2
open PySem PySem.W PyProof.Rows
section
variable {X:Cx}
end
def ZR (K:PySem.W.Frag):R2:=fun x y H Q=>∃a b xs,x= .ref a/\y= .ref b/\SqL K H a xs/\SqL K H b []/\Q (.bl xs.isEmpty) H
theorem ZD {X:Cx}(hu:X.A.units<cLine):OpR X (compareOp .Eq) (ZR X.K):=by
 intro pins s σ H x y v u Q I rx ry h;obtain⟨a,b,xs,rfl,rfl,ha,hb,q⟩:=h;cases rx;cases ry;obtain⟨its,r,pl,hz⟩:=I.list ha;obtain⟨its2,r2,pl2,_⟩:=I.list hb;cases r2;cases xs with
 | nil=>cases r;exact SeqAt.RcAt.lists (e:=fun _=>true) pl.isList pl2.isList rfl hu (fun j h1=>absurd h1 (Nat.not_lt_zero _)) X.prog X.w X.xe _ ⟨.bl true,H,I,rfl,q⟩
 | cons x xs=>cases r with|cons r1 r2=>exact SeqAt.RcAt.lists_lengths pl.isList pl2.isList (by simp) hu X.prog X.w X.xe _ ⟨.bl false,H,I,rfl,q⟩
theorem YA {K:PySem.W.Frag}{H:Hp}{Q:VK}{a b:Addr}{xs:List V} (ha:SqL K H a xs) (hb:SqL K H b []) (h:Q (.bl xs.isEmpty) H):ZR K (.ref a) (.ref b) H Q:=⟨a,b,xs,rfl,rfl,ha,hb,h⟩
section
variable {X:Cx}{P:Program}{w:World}{K:PySem.W.Frag}{mg:Str->Option Value}{base:Heap}{k':Nat}{o e:Expr}{es:List Expr}{m:Str}{ta:TE}{t:TA}{apos pos:Pos}
theorem NO (k:Nat){pl:Sem Bool}(hr:Room k' X.A)(ho:PE X o ta)(ha:PA X (e::es) t)(hk:k<=k':=by decide)(hst:starEach (e::es) X.env=(false,eval e X.env)::starEach es X.env:=by rfl)(hpl:(backTo pos (starEach es X.env)).any (·.1)=false:=by rfl)
  (ht:eval (.Call (.Attribute o m apos) (e::es) [] pos) X.env=(do let ov ←eval o X.env;standAt apos.atName;let (f,first) ←holding [ov] (getMethod ov m pl);callWith pos f first (backTo pos (starEach (e::es) X.env)) (backToKw pos (keywordEach [] X.env))):=by rfl)
  (h1:X.prog=P:=by rfl)(h2:X.w=w:=by rfl)(h3:X.K=K:=by rfl)(h4:X.mg=mg:=by rfl)(h5:X.base=base:=by rfl):PE X (.Call (.Attribute o m apos) (e::es) [] pos) (tMD (fun C sp=>Mc P w K mg base C m k sp) m ta t):=by
 subst h1 h2 h3 h4 h5;exact dL k hr ho ha hk hst hpl ht
theorem TZ (k:Nat){pl:Sem Bool}(hr:Room k' X.A)(ho:PE X o ta)(hk:k<=k':=by decide)
  (ht:eval (.Call (.Attribute o m apos) [] [] pos) X.env=(do let ov ←eval o X.env;standAt apos.atName;let (f,first) ←holding [ov] (getMethod ov m pl);callWith pos f first (backTo pos (starEach [] X.env)) (backToKw pos (keywordEach [] X.env))):=by rfl)
  (h1:X.prog=P:=by rfl)(h2:X.w=w:=by rfl)(h3:X.K=K:=by rfl)(h4:X.mg=mg:=by rfl)(h5:X.base=base:=by rfl):PE X (.Call (.Attribute o m apos) [] [] pos) (tMD (fun C sp=>Mc P w K mg base C m k sp) m ta KI):=by
 subst h1 h2 h3 h4 h5;exact fT k hr ho hk ht
end
end L2
namespace L2
open PySem PySem.W PyProof.Rows
theorem Room.units9 {k:Nat}{A:Around} (r:Room k A):A.units+9<cLine:=by have:=r.un;have:cLine=9900:=rfl;lia
section
variable {X:Cx}{pins:List (Addr×Obj)}{σ:St}{H:Hp}{s:Shared}
end
section
variable {X:Cx}
end
section
variable {K:PySem.W.Frag}{H H':Hp}{Q:VK}
end
section
variable {H:Hp}{Q:VK}{σ:St}{ty tx:TE}
end
end L2
namespace L2
open PySem PySem.W PyProof.Rows
section
variable {H:Hp}{Q:VK}
end
end L2
namespace L2
open PySem PySem.Spec PyProof.Rows
def SameT (H H':Hp):Prop:=∀b u,H b=some u->(∀ps,u≠ .tbl ps)->H' b=some u
theorem Same.t {H H':Hp}(s:Same H H'):SameT H H':=fun b u e _=>s b u e
theorem SameT.snoc {H H1 H2:Hp}(s:SameT H H1)(a:Same H1 H2):SameT H H2:=fun b u e n=>a b u (s b u e n)
theorem SameT.seq {K:PySem.W.Frag}{H H':Hp}{a:Addr}{xs:List V} (T:SameT H H') (h:SqL K H a xs):SqL K H' a xs:=by
 rcases h with (h|⟨o,h⟩)|h
 ·exact .inl (.inl (T _ _ h fun ps z=>by cases z))
 ·exact .inl (.inr ⟨o,T _ _ h fun ps z=>by cases z⟩)
 ·exact .inr h
def TabS (H:Hp)(PL:Addr)(pos:Pos)(qual:Str):Prop:=H PL=some (.tbl #[])∨∃(c':Addr) (oc:Obj) (fv:Array Value) (t:Tok),H PL=some (.tbl #[rawInt pos.line,rawInt pos.col,.ref c'])/\H c'=some (kn oc)/\oc.data= .fields fv/\fv[1]? =some (.str qual t)
theorem TabS.same {H H':Hp}{PL:Addr}{pos:Pos}{qual:Str} (x:TabS H PL pos qual) (s:Same H H'):TabS H' PL pos qual:=by
 rcases x with h|⟨c',oc,fv,t,h1,h2,h3⟩
 ·exact .inl (s _ _ h)
 ·exact .inr ⟨c',oc,fv,t,s _ _ h1,s _ _ h2,h3⟩
section
variable {X:Cx}{args:Arguments}{body:Expr}{lsc:Scope}{pos:Pos}{y:Str}{c cL PL:Addr}
end
section
variable {K:PySem.W.Frag}{ti:TT}{te:TE}{σ:St}{ci:List Nat}{rest:St}{fin:List V->Hp->Prop}{H:Hp}{a:Addr}{α:Type}
end
end L2
namespace L2
open PySem PySem.W PyProof.Rows
section
variable {X:Cx}{pins:List (Addr×Obj)}{σ:St}{H:Hp}{s:Shared}
end
open Classical in
section
variable {X:Cx}{K:PySem.W.Frag}
open Classical in
open Classical in
open Classical in
end
end L2
namespace L2
open PySem PySem.W PyProof.Rows
section
variable {K:PySem.W.Frag}{ti:TT}{te:TE}{σ:St}{ci:List Nat}{rest:St}{fin:List V->Hp->Prop}{H:Hp}{a:Addr}
end
end L2
namespace L2
open PySem PySem.W PyProof.Rows
section
variable {X:Cx}
end
end L2
namespace L2
open PySem PySem.W PyProof.Rows
section
variable {X:Cx}{ek ev:Expr}{tk tv:TE}{pos:Pos}
end
end L2
namespace L2
open PySem PySem.W PyProof.Rows
structure FX (K:Frag)(nm qual:Str)(st:Stmt)(ps:List Str)(a:Addr) where
 d:FuncData
 F:FunV K nm qual st a d
 b:Binds K d ps []
inductive FnL (K:Frag)(nm qual:Str)(st:Stmt)(f:Addr):Prop
 | mk {oc:Value}{od an:Option Addr}{osl:Array (Option Value)}{kV doc pm cdv ct:Value} (l:K.lookup f=some ⟨oc,od,.func (fnOf nm qual (dF st) (cY st) (aG st) .none kV doc pm an cdv ct),osl⟩) (c:codeIn K cdv qual=true) (k:keepIn K (.ref f)=true):FnL K nm qual st f
section
variable {K:Frag}{x qual:Str}{st:Stmt}{f:Addr}
abbrev fnB (x qual:Str)(st:Stmt)(kV doc pm cdv ct:Value)(an:Option Addr)(us:List Value):Sem (List (Str×Value)):=bindArgs (fnOf x qual (dF st) (cY st) (aG st) .none kV doc pm an cdv ct) ⟨us,[]⟩
theorem FnL.ne {ps:List Str}(L:FnL K x qual st f)(h:∀kV doc pm cdv ct an (us:List Value),us.length=ps.length->fnB x qual st kV doc pm cdv ct an us=pure (ps.zip us)):Nonempty (FX K x qual st ps f):=by
 cases L with
 | mk l c k=>exact⟨⟨_,nB l c k,.all fun us hl=>h _ _ _ _ _ _ us hl⟩⟩
noncomputable def FnL.xn {ps:List Str} (L:FnL K x qual st f) (h:∀kV doc pm cdv ct an (us:List Value),us.length=ps.length->fnB x qual st kV doc pm cdv ct an us=pure (ps.zip us)):FX K x qual st ps f:=Classical.choice (L.ne h)
noncomputable def FnL.x1 {p1:Str} (L:FnL K x qual st f) (h:∀kV doc pm cdv ct an a,fnB x qual st kV doc pm cdv ct an [a]=pure [(p1,a)]):FX K x qual st [p1] f:=L.xn fun kV doc pm cdv ct an us hl=>by
 obtain _|⟨a,_|⟨b,us⟩⟩:=us
 ·cases hl
 ·exact h ..
 ·cases hl
noncomputable def FnL.x2 {p1 p2:Str} (L:FnL K x qual st f) (h:∀kV doc pm cdv ct an a b,fnB x qual st kV doc pm cdv ct an [a,b]=pure [(p1,a),(p2,b)]):FX K x qual st [p1,p2] f:=L.xn fun kV doc pm cdv ct an us hl=>by
 obtain _|⟨a,_|⟨b,_|⟨c,us⟩⟩⟩:=us
 ·cases hl
 ·cases hl
 ·exact h ..
 ·cases hl
noncomputable def FnL.x3 {p1 p2 p3:Str} (L:FnL K x qual st f) (h:∀kV doc pm cdv ct an a b c,fnB x qual st kV doc pm cdv ct an [a,b,c]=pure [(p1,a),(p2,b),(p3,c)]):FX K x qual st [p1,p2,p3] f:=L.xn fun kV doc pm cdv ct an us hl=>by
 obtain _|⟨a,_|⟨b,_|⟨c,_|⟨d,us⟩⟩⟩⟩:=us
 ·cases hl
 ·cases hl
 ·cases hl
 ·exact h ..
 ·cases hl
noncomputable def FnL.x4 {p1 p2 p3 p4:Str} (L:FnL K x qual st f) (h:∀kV doc pm cdv ct an a b c d,fnB x qual st kV doc pm cdv ct an [a,b,c,d]=pure [(p1,a),(p2,b),(p3,c),(p4,d)]):FX K x qual st [p1,p2,p3,p4] f:=L.xn fun kV doc pm cdv ct an us hl=>by
 obtain _|⟨a,_|⟨b,_|⟨c,_|⟨d,_|⟨e,us⟩⟩⟩⟩⟩:=us
 ·cases hl
 ·cases hl
 ·cases hl
 ·cases hl
 ·exact h ..
 ·cases hl
noncomputable def FnL.x5 {p1 p2 p3 p4 p5:Str} (L:FnL K x qual st f) (h:∀kV doc pm cdv ct an a b c d e,fnB x qual st kV doc pm cdv ct an [a,b,c,d,e]=pure [(p1,a),(p2,b),(p3,c),(p4,d),(p5,e)]):FX K x qual st [p1,p2,p3,p4,p5] f:=L.xn fun kV doc pm cdv ct an us hl=>by
 obtain _|⟨a,_|⟨b,_|⟨c,_|⟨d,_|⟨e,_|⟨g,us⟩⟩⟩⟩⟩⟩:=us
 ·cases hl
 ·cases hl
 ·cases hl
 ·cases hl
 ·cases hl
 ·exact h ..
 ·cases hl
noncomputable def FnL.x6 {p1 p2 p3 p4 p5 p6:Str} (L:FnL K x qual st f) (h:∀kV doc pm cdv ct an a b c d e g,fnB x qual st kV doc pm cdv ct an [a,b,c,d,e,g]=pure [(p1,a),(p2,b),(p3,c),(p4,d),(p5,e),(p6,g)]):FX K x qual st [p1,p2,p3,p4,p5,p6] f:=L.xn fun kV doc pm cdv ct an us hl=>by
 obtain _|⟨a,_|⟨b,_|⟨c,_|⟨d,_|⟨e,_|⟨g,_|⟨i,us⟩⟩⟩⟩⟩⟩⟩:=us
 ·cases hl
 ·cases hl
 ·cases hl
 ·cases hl
 ·cases hl
 ·cases hl
 ·exact h ..
 ·cases hl
def noF (K:Frag)(C:Addr)(fs:List Str):Bool:=fs.all fun x=>(findIn K (.ref C) x).any (·.isNone)
theorem fH {C:Addr}{fs:List Str} (h:noF K C fs=true) (i:Nat) {x:Str} (e:fs[i]? =some x):NoAttr K C x:=by
 have h2:=List.all_eq_true.mp h x (List.mem_of_getElem? e);unfold NoAttr;cases h3:findIn K (.ref C) x with
 | none=>rw[h3]at h2;cases h2
 | some o =>
  rw[h3]at h2;cases o with
  | none=>rfl
  | some v=>cases h2
end
end L2
namespace L2
open PySem PySem.W PyProof.Rows
section
variable {prog:Program}{w:World}{A:Around}{E:Value->Shared->Prop}{s:Shared}{κ:SortKind}{D:Keyed->Prop}{ρ:Keyed->Int}{st:SortSt}
end
end L2
namespace L2
open PySem PySem.W PyProof.Rows
section
variable {ρ:Keyed->Int}
variable {all o p ra rb:List Keyed}
end
end L2
namespace L2
open PySem PySem.W PyProof.Rows
section
variable {prog:Program}{w:World}{A:Around}{E:Value->Shared->Prop}{s:Shared}{κ:SortKind}{D:Keyed->Prop}{ρ:Keyed->Int}{st:SortSt}
end
end L2
namespace L2
open PySem PySem.W PyProof.Rows
section
variable {prog:Program}{w:World}{A:Around}{E:Value->Shared->Prop}{s:Shared}{κ:SortKind}{D:Keyed->Prop}{ρ:Keyed->Int}{st:SortSt}
end
end L2
namespace L2
open PySem PySem.W PyProof.Rows
section
variable {prog:Program}{w:World}{A:Around}{E:Value->Shared->Prop}{s:Shared}{κ:SortKind}{D:Keyed->Prop}{ρ:Keyed->Int}{st:SortSt}
end
end L2
namespace L2
open PySem PySem.W PyProof.Rows
section
variable {prog:Program}{w:World}{A:Around}{E:Value->Shared->Prop}{s:Shared}{κ:SortKind}{D:Keyed->Prop}{ρ:Keyed->Int}{st:SortSt}
end
end L2
namespace L2
open PySem PySem.W PyProof.Rows
section
variable {prog:Program}{w:World}{A:Around}{E:Value->Shared->Prop}{s:Shared}{κ:SortKind}{D:Keyed->Prop}{ρ:Keyed->Int}{st:SortSt}
end
end L2
namespace L2
open PySem PySem.W PyProof.Rows
section
variable {prog:Program}{w:World}{A:Around}{E:Value->Shared->Prop}{s:Shared}{κ:SortKind}{D:Keyed->Prop}{ρ:Keyed->Int}{st:SortSt}{a₀:Array Keyed}
end
end L2
namespace L2
open PySem PySem.W PyProof.Rows
section
variable {prog:Program}{w:World}{A:Around}{E:Value->Shared->Prop}{s:Shared}{κ:SortKind}{D:Keyed->Prop}{ρ:Keyed->Int}{st:SortSt}{a₀:Array Keyed}
end
end L2
namespace L2
open PySem PySem.W PyProof.Rows PySem.Calls
section
variable {prog:Program}{w:World}{A:Around}{E:Value->Shared->Prop}{s:Shared}{α:Type}{f:Value->α}{lt:α->α->Bool}{d:α}{l:List α}
end
end L2
namespace L2
open PySem PySem.W PyProof.Rows PySem.Calls
section
variable {X:Cx}{H:Hp}
end
end L2
namespace L2
open PySem PySem.W PyProof.Rows
section
variable {prog:Program}{w:World}{A:Around}{E:Value->Shared->Prop}{s:Shared}
end
open Sem (wp) in
open AutoSeq1 (wpAny_loadPart') in
section
variable {prog:Program}{w:World}{A:Around}{E:Value->Shared->Prop}{s:Shared}
end
end L2
namespace L2
open PySem PySem.W PyProof.Rows
section
variable {prog:Program}{w:World}{A:Around}{E:Value->Shared->Prop}{s:Shared}
end
section
variable {X:Cx}
end
end L2
namespace L2
open PySem PySem.W PyProof.Rows
section
variable {K:PySem.W.Frag}{H:Hp}{σ:St}{Q:VK}{R:It->Hp->Prop}{nx bk ct:St->Hp->Prop}{rt:VK}
end
end L2
namespace L2
open PySem PySem.W PyProof.Rows
section
variable {prog:Program}{w:World}{A:Around}{E:Value->Shared->Prop}{s:Shared}
variable {κ:Type}[DecidableEq κ]{knd:HeapKind prog w κ}
end
section
variable {A:Around}{s:Shared}
end
section
variable {prog:Program}{w:World}{A:Around}{E:Value->Shared->Prop}{s:Shared}
variable {κ:Type}[DecidableEq κ]{knd:HeapKind prog w κ}
end
section
variable {X:Cx}{pins:List (Addr×Obj)}{σ:St}{H:Hp}{s:Shared}
end
section
variable {X:Cx}
end
section
variable {X:Cx}
end
end L2
namespace L2
open PySem PySem.W PyProof.Rows
section
variable {X:Cx}
end
end L2
set_option autoImplicit false
namespace L2
open PySem PySem.Spec PyProof.Rows
section
variable {σ:St}{H:Hp}{nx bk ct:St->Hp->Prop}{rt:VK}
def WhT (W:Nat->St->Hp->Prop)(m:Nat)(tb:TS)(nx:St->Hp->Prop)(rt:VK)(σ:St)(H:Hp):Prop :=
 ∃N:St->Hp->Prop,(∀σ' H',N σ' H'->∃m',m'<m/\W m' σ' H')/\tb ⟨N,rt,nx,N⟩ σ H
theorem QE {c:TT}{tb:TS} (W:Nat->St->Hp->Prop) (m0:Nat) (h0:W m0 σ H)
  (hs:∀m σ H,W m σ H->c σ H fun b H1=>if b=true then WhT W m tb nx rt σ H1 else nx σ H1):OU c tb ⟨nx,rt,bk,ct⟩ σ H :=
 ⟨W,⟨m0,h0⟩,hs⟩
theorem Y1 {W:Nat->St->Hp->Prop}{m:Nat}{tb:TS}
  (h:tb ⟨fun σ' H'=>∃m',m'<m/\W m' σ' H',rt,nx,fun σ' H'=>∃m',m'<m/\W m' σ' H'⟩ σ H):WhT W m tb nx rt σ H :=
 ⟨_,fun _ _ h=>h,h⟩
end
end L2
namespace L2
open PySem PySem.W PyProof.Rows PySem.Calls
section
variable {X:Cx}
def JH:List V->Hp->VK->Prop:=fun xs H Q=>∃d kvs ss,xs=[.ref d]/\H d=some (.dK kvs)/\kvs.map (·.1)=ss.map (Sum.inr:Str->Key)/\ss.length<64/\∀l,H l=none->Q (.ref l) (upd H l (.lst ((cP ss).map V.str)))
theorem CY (hc:X.calm=true):d4 X (.builtin "sorted") JH:=by
 intro pins s σ H xs us Q I r h;obtain⟨d,kvs,ss,rfl,hd,hk,nd,q⟩:=h;obtain⟨u,rfl,rx⟩:=jM r;cases rx;obtain⟨hz,lo,ws,kv,dd⟩:=TC I.hok hd;obtain⟨o,es,ep,g1,g2,g3,g4,g5,g6⟩:=dd;have hl:ws.length=ss.length:=by
  have h1:kvs.length=ws.length:=Paired.length kv;have h2:=congrArg List.length hk;rw[List.length_map,List.length_map]at h2
  lia
 have hkl:kvs.length=ss.length:=by have h1:kvs.length=ws.length:=Paired.length kv;lia
 have key:∀(j:Nat) (v:Value),(∃k x,ws[j]? =some (k,x)/\(bO X.prog X.w).is k v=true)->∃z,ss[j]? =some z/\RelV (V.str z) v:=fun j v ⟨k,x,e,hi⟩=>by
  have hj:j<ss.length:=by
   have:=(List.getElem?_eq_some_iff.mp e).1
   lia
  have e1:kvs[j]? =some kvs[j]:=List.getElem?_eq_getElem (by lia);have e2:=(Paired.at2 kv e1 e).1;have e3:(kvs.map (·.1))[j]? =some k:=by rw[List.getElem?_map,e1,Option.map_some,e2]
  rw[hk,List.getElem?_map,List.getElem?_eq_getElem hj,Option.map_some]at e3;have e3:=Option.some.inj e3;have e4:=vI hi;rw[←e3]at e4;exact⟨_,List.getElem?_eq_getElem hj,e4⟩
 have rvs:∀vs:List Value,vs.length=ws.length->(∀j v,vs[j]? =some v->∃k x,ws[j]? =some (k,x)/\(bO X.prog X.w).is k v=true)->Vals (ss.map V.str) vs:=fun vs h1 hP=>by
  refine xE (by rw[List.length_map];lia) fun i x u g1 g2=> ?_;obtain⟨z,hz,rz⟩:=key i u (hP i u g2);rw[List.getElem?_map,hz]at g1;cases g1;exact rz
 have hat:∀{vs:List Value},Vals (ss.map V.str) vs->∀i,i<vs.length->∃t,vs[i]? =some (.str (ss.getD i Str.empty) t):=fun {vs} rv i hi=>by
  have hl2:=rv.length;rw[List.length_map]at hl2;have hi':i<ss.length:=by lia
  obtain⟨u,e,t,rfl⟩:=rv.get (i:=i) (x:=V.str (ss.getD i Str.empty)) (by rw[List.getElem?_map,List.getD_eq_getElem?_getD,List.getElem?_eq_getElem hi'];rfl);exact⟨t,e⟩
 refine K4 (kdl_dict (knd:=bO X.prog X.w) (kvs:=ws) (ep:=ep) lo) (I.ok.hd hc) ⟨o,es,g1,g2,g3,g4,g5,g6⟩ (by lia) (fun i j=>ltS (ss.getD i Str.empty) (ss.getD j Str.empty)) oneType' (fun vs h1 hP h2 h' tk kp R hR=> ?_) (fun vs h1 hP h2 h' tk kp i j hi hj C hC=> ?_) fun vs D h' tk e h1 hP hD kp o'=> ?_
 ·refine kas_kind (s:={ s with heap:=h',toks:=tk }) (T:= .type "str") h2 (fun v hv=> ?_) (by decide) rfl hR;obtain⟨i,hi,e⟩:=List.getElem_of_mem hv;obtain⟨t,e2⟩:=hat (rvs vs h1 hP) i hi;rw[List.getElem?_eq_getElem hi,e]at e2;cases e2;exact Looks.of_pure rfl
 ·obtain⟨t1,e1⟩:=hat (rvs vs h1 hP) i hi;obtain⟨t2,e2⟩:=hat (rvs vs h1 hP) j hj;unfold kas_ask;rw[List.getD_eq_getElem?_getD,List.getD_eq_getElem?_getD,e1,e2,keyLt'_oneType];exact oneLt_str hC
 ·have ev:=uX (fun i j=>ltS (ss.getD i Str.empty) (ss.getD j Str.empty)) (rvs vs h1 hP);rw[GX V.str Str.empty V.non]at ev;exact⟨.ref D,_,I.laid (t':=tk) kp hD (show ObjOk X.prog X.w _ h' _ (.lst ((cP ss).map V.str)) from⟨by rw[List.length_map];unfold cP;rw[rJ];lia,_,e,ev,o'⟩),rfl,q _ (I.hok.fresh hD)⟩
variable {H:Hp}{Q:VK}
theorem NI {d:Addr}{kvs:List (Key×V)}{ss:List Str} (e:H d=some (.dK kvs)) (hk:kvs.map (·.1)=ss.map (Sum.inr:Str->Key)) (nd:ss.length<64) (h:∀l H',H l=none->Same H H'->H' l=some (.lst ((cP ss).map V.str))->Q (.ref l) H'):JH [.ref d] H Q :=
 ⟨d,kvs,ss,rfl,e,hk,nd,fun l hn=>h l _ hn (wU hn) aS⟩
end
end L2
namespace L2
open PySem PySem.Spec PyProof.Rows
def fL (H:Hp):List Addr->Hp
 | []=>H
 | c::cs=>off (fL H cs) c
def ons (H:Hp):List (Addr×Obj)->Hp
 | []=>H
 | p::l=>ons (upd H p.1 (kn p.2)) l
theorem rY {H:Hp}:∀{cs:List Addr}{c:Addr},c∈cs->fL H cs c=none
 | a::cs,c,h=>by
  show off (fL H cs) a c=none
  by_cases e:c=a
  ·subst e;exact F7
  ·rw[fQ e];exact rY ((List.mem_cons.mp h).resolve_left e)
theorem m9 {H:Hp}:∀{cs:List Addr}{b:Addr},b∉cs->fL H cs b=H b
 | [],_,_=>rfl
 | a::cs,b,h=>by
  show off (fL H cs) a b=H b;rw[List.mem_cons,not_or]at h;rw[fQ h.1];exact m9 h.2
theorem E1 {H:Hp}:∀{l:List (Addr×Obj)},(l.map (·.1)).Nodup->(∀p∈l,H p.1=some (kn p.2))->ons (fL H (l.map (·.1))) l=H
 | [],_,_=>rfl
 | p::l,nd,e=>by
  have nd':=List.nodup_cons.mp nd;show ons (upd (off (fL H (l.map (·.1))) p.1) p.1 (kn p.2)) l=H;rw[Q9 (by rw[m9 nd'.1];exact e p (.head _))];exact E1 nd'.2 fun q hq=>e q (List.mem_cons_of_mem _ hq)
section
variable {P:Program}{w:World}
theorem GC {H:Hp}{h:Heap} (x:HOk P w H h):∀{l:List (Addr×Obj)},(l.map (·.1)).Nodup->(∀p∈l,H p.1=some (kn p.2))->HOk P w (fL H (l.map (·.1))) h
 | [],_,_=>x
 | p::l,nd,e=>by
  have nd':=List.nodup_cons.mp nd;exact UI (GC x nd'.2 fun q hq=>e q (List.mem_cons_of_mem _ hq)) (by rw[m9 nd'.1];exact e p (.head _))
theorem z8 {h:Heap}:∀{l:List (Addr×Obj)}{H:Hp},(l.map (·.1)).Nodup->(∀p∈l,H p.1=none/\h.get? p.1=some p.2)->HOk P w H h->HOk P w (ons H l) h
 | [],_,_,_,x=>x
 | p::l,H,nd,e,x=>by
  have nd':=List.nodup_cons.mp nd;refine z8 (H:=upd H p.1 (kn p.2)) nd'.2 (fun q hq=>⟨?_,(e q (List.mem_cons_of_mem _ hq)).2⟩) (YE x (e p (.head _)).1 (e p (.head _)).2);rw[aJ (fun z=>nd'.1 (by show p.1∈l.map (·.1);rw[←z];exact List.mem_map.mpr ⟨q,hq,rfl⟩))];exact(e q (List.mem_cons_of_mem _ hq)).1
theorem HZ {fs:List Addr}{H:Hp}{h h':Heap}:∀{l:List (Addr×Obj)}{H':Hp},(l.map (·.1)).Nodup->(∀p∈l,H p.1=some (kn p.2)/\h.get? p.1=some p.2/\p.1∉fs)->Un fs [] (fL H (l.map (·.1))) H' h h'->Un fs [] H (ons H' l) h h'
 | [],_,_,_,x=>x
 | p::l,H',nd,e,x=>by
  have nd':=List.nodup_cons.mp nd;obtain⟨e1,e2,e3⟩:=e p (.head _);exact HZ (H':=upd H' p.1 (kn p.2)) nd'.2 (fun q hq=>e q (List.mem_cons_of_mem _ hq)) (aAm (by rw[m9 nd'.1];exact e1) e2 e3 x)
theorem L8 {fs:List Addr}{H:Hp}{h h':Heap}:∀{l:List (Addr×Obj)}{H':Hp},(l.map (·.1)).Nodup->(∀p∈l,H' p.1=none/\h.objs.size<=p.1)->Un fs [] H H' h h'->Un fs [] H (ons H' l) h h'
 | [],_,_,_,x=>x
 | p::l,H',nd,e,x=>by
  have nd':=List.nodup_cons.mp nd;refine L8 (H':=upd H' p.1 (kn p.2)) nd'.2 (fun q hq=>⟨?_,(e q (List.mem_cons_of_mem _ hq)).2⟩) (aBl (e p (.head _)).1 (e p (.head _)).2 x);rw[aJ (fun z=>nd'.1 (by show p.1∈l.map (·.1);rw[←z];exact List.mem_map.mpr ⟨q,hq,rfl⟩))];exact(e q (List.mem_cons_of_mem _ hq)).1
end
theorem uY:∀{l:List (Addr×Obj)}{H:Hp}{b:Addr},b∉l.map (·.1)->ons H l b=H b
 | [],_,_,_=>rfl
 | p::l,H,b,h=>by
  rw[List.map_cons,List.mem_cons,not_or]at h;show ons (upd H p.1 (kn p.2)) l b=H b;rw[uY h.2,aJ h.1]
theorem RC {l:List (Addr×Obj)}{H:Hp} (e:∀p∈l,H p.1=none):Same H (ons H l):=fun b u h=>by
 have hn:b∉l.map (·.1):=fun z=>by
  obtain⟨p,hp,e'⟩:=List.mem_map.mp z;have h':=e p hp;rw[show p.1=b from e',h]at h';exact nomatch h'
 exact(uY (l:=l) (H:=H) hn).trans h
theorem YR {l:List (Addr×Obj)}{H:Hp} (nd:(l.map (·.1)).Nodup) {p:Addr×Obj} (hp:p∈l):ons H l p.1=some (kn p.2):=by
 induction l generalizing H with
 | nil=>exact nomatch hp
 | cons a l ih =>
  have nd':=List.nodup_cons.mp nd;rcases List.mem_cons.mp hp with e|hp
  ·subst e;exact(uY (l:=l) (H:=upd H p.1 (kn p.2)) nd'.1).trans aS
  ·exact ih (H:=upd H a.1 (kn a.2)) nd'.2 hp
def LamL (H:Hp)(F:Addr)(fd:FuncData)(qual:Str)(args:Arguments)(body:Expr)(sc:Scope)(cs:List (Str×Addr)):Prop :=
 ∃(c':Addr) (pm ctv:Value) (oc:Obj) (fv:Array Value) (t:Tok),fd=PySem.W.kla_fn "<lambda>" qual args body sc cs pm (.ref c') ctv ∧
  H F=some (kn (PySem.W.kla_obj "<lambda>" qual args body sc cs pm c' ctv))/\H c'=some (kn oc)/\oc.data= .fields fv/\fv[1]? =some (.str qual t)
theorem LamL.same {H H':Hp}{F:Addr}{fd:FuncData}{qual:Str}{args:Arguments}{body:Expr}{sc:Scope}{cs:List (Str×Addr)} (x:LamL H F fd qual args body sc cs) (s:Same H H'):LamL H' F fd qual args body sc cs :=
 let ⟨c',pm,ctv,oc,fv,t,e1,e2,e3,r⟩:=x;⟨c',pm,ctv,oc,fv,t,e1,s _ _ e2,s _ _ e3,r⟩
abbrev lG (H:Hp)(cs:List Addr)(vs:List V):Prop:=Paired (aAZ H) cs vs
theorem zJ {H:Hp}:∀{cs:List Addr}{vs:List V},lG H cs vs->∃l:List (Addr×Obj),l.map (·.1)=cs/\∀p∈l,H p.1=some (kn p.2)
 | _,_,.nil=>⟨[],rfl,fun _ h=>nomatch h⟩
 | _,_,.cons ⟨o,u,e,_⟩ t=>by
  obtain⟨l,h1,h2⟩:=zJ t;refine⟨(_,o)::l,by rw[List.map_cons,h1],fun p hp=> ?_⟩;rcases List.mem_cons.mp hp with rfl|hp
  ·exact e
  ·exact h2 p hp
theorem mS {ys:List Str}{cs:List Addr}{z:Str}{d:Addr}:(ys.zip cs).lookup z=some d->∃i:Nat,ys[i]? =some z/\cs[i]? =some d:=by
 induction ys generalizing cs with
 | nil=>intro h;cases h
 | cons y ys ih =>
  cases cs with
  | nil=>intro h;cases h
  | cons c cs =>
   intro h;rw[List.zip_cons_cons,List.lookup_cons]at h;cases q:z==y with
   | true =>
    rw[q]at h;cases h;exact⟨0,by rw[eq_of_beq q];rfl,rfl⟩
   | false =>
    rw[q]at h;obtain⟨i,h1,h2⟩:=ih h;exact⟨i+1,h1,h2⟩
theorem yN {ys:List Str}{cs:List Addr} (nd:ys.Nodup) {i:Nat}{z:Str}{d:Addr}:ys[i]? =some z->cs[i]? =some d->(ys.zip cs).lookup z=some d:=by
 induction ys generalizing cs i with
 | nil=>intro h;simp at h
 | cons y ys ih =>
  intro h1 h2;have nd':=List.nodup_cons.mp nd;cases cs with
  | nil=>simp at h2
  | cons c cs =>
   rw[List.zip_cons_cons,List.lookup_cons];cases i with
   | zero =>
    have h1:y=z:=by simpa using h1
    have h2:c=d:=by simpa using h2
    rw[h1,beq_self_eq_true,h2]
   | succ i =>
    have h1:ys[i]? =some z:=by simpa using h1
    have h2:cs[i]? =some d:=by simpa using h2
    have:(z==y)=false:=beq_false_of_ne fun e=>nd'.1 (by rw[←e];exact List.mem_of_getElem? h1);rw[this];exact ih nd'.2 h1 h2
theorem P1 {α:Type}{l:List α} (nd:l.Nodup) {i j:Nat}{x:α} (h1:l[i]? =some x) (h2:l[j]? =some x):i=j:=by
 obtain⟨a1,b1⟩:=List.getElem?_eq_some_iff.mp h1;obtain⟨a2,b2⟩:=List.getElem?_eq_some_iff.mp h2;have pw:=List.pairwise_iff_getElem.mp nd;rcases Nat.lt_trichotomy i j with h|h|h
 ·exact absurd (b1.trans b2.symm) (pw i j a1 a2 h)
 ·exact h
 ·exact absurd (b2.trans b1.symm) (pw j i a2 a1 h)
section
variable {P:Program}{w:World}{K:PySem.W.Frag}{mg:Str->Option Value}{base:Heap}
theorem VY {k:Nat}{f:Addr}{fd:FuncData}{qual:Str}{args:Arguments}{body:Expr}{sc:Scope}{x:Str}{ys:List Str}{cs:List Addr}{vs:List V}{sp:Sp}
  (hk:sc.kind= .function)(hco:sc.isCoroutine=false)(hgen:sc.isGenerator=false)(hcell:∀z∈sc.names,z.2≠ .cell)(hx:sc.names.lookup x=some .local)(hfree:∀z,sc.names.lookup z=some .free->z∈ys)(hy:∀y∈ys,sc.names.lookup y=some .free)(ny:ys.Nodup)(ncs:cs.Nodup)(hlen:ys.length=cs.length)
  (len:∀ws H Q E,sp ws H Q E->∃a,ws=[a]/\LamL H f fd qual args body sc (ys.zip cs)/\lG H cs vs)
  (hbody:∀(cdv:Value) (A:Around) (outer:List Env) (s:Shared) (H:Hp) (a:V) (Q:VK) (E:XK),Room k (A.deeper (PySem.W.envX qual sc s.heap.objs.size f cdv (ys.zip cs)))->sp [a] H Q E →
   ∃t,PE (cxL CX0 P w K mg base (x::ys) qual sc f cdv (ys.zip cs) A outer s (fL H cs) E).nox body t/\∀l:List (Addr×Obj),l.map (·.1)=cs->(∀p∈l,H p.1=some (kn p.2))->t (some a::vs.map some) (fL H cs) (fun r H'=>Q r (ons H' l))) :
  FnOk P w K mg base CX0 (k+1) f fd [x] sp:=by
 refine⟨fun ws H Q E h=> ?_,fun A outer s H ar us ws Q E hr e0 hb r hsp=> ?_⟩
 ·obtain⟨a,rfl,_⟩:=len ws H Q E h;rfl
 obtain⟨a,rfl,⟨c',pm,ctv,oc,fv,tt,rfl,hF,hc',hd,hv⟩,kc⟩:=len ws H Q E hsp;obtain⟨u,rfl,ra⟩:∃u,us=[u]/\RelV a u:=by
  cases r with
  | cons r1 r2=>cases r2;exact⟨_,rfl,r1⟩
 obtain⟨t,ht,hq⟩:=hbody (.ref c') A outer s H a Q E (hr.deeper _) hsp;obtain⟨l,rfl,hl⟩:=zJ kc;have hq:=hq l rfl hl;have gC:∀p∈l,s.heap.get? p.1=some p.2:=fun p hp=>uL e0.hok (hl p hp);have lim:s.heap.NoLimit:=e0.mod.nolimit.keeps fun b o e=>(e0.bs b o e).1;refine PySem.W.kla_callFunE hr.depth (uL e0.hok hF) rfl hco hgen rfl ⟨c',oc,fv,tt,rfl,uL e0.hok hc',hd,hv⟩ (hb _ _ _ _ ?_);refine wpAny_newFunctionEnv hcell (fun z hz=>by
  have hz':z∈[(x,u)]:=hz;rw[List.mem_singleton]at hz';rw[hz'];exact hx) (fun h₁ hns hsb=>⟨lim.fresh _ hsb,?_⟩) hk
 have hk₁:∀b o,s.heap.get? b=some o->h₁.get? b=some o:=fun b o e=>hsb.extBut b o (Nat.ne_of_lt (Heap.lt_size e)) (Heap.get?_push_of_some _ e);have inl:∀{d:Addr},d∈l.map (·.1)->∃o,H d=some (kn o)/\s.heap.get? d=some o:=fun hd=>by
  obtain⟨p,hp,rfl⟩:=List.mem_map.mp hd;exact⟨p.2,hl p hp,gC p hp⟩
 have nc:∀b o,base.get? b=some o->b∉l.map (·.1):=fun b o e z=>by
  obtain⟨o',e',_⟩:=inl z;have:=(e0.bs b o e).2;rw[e']at this;cases this
 have ncf:∀c∈l.map (·.1),c∉frs outer:=fun c hc z=>by
  obtain⟨o',e',_⟩:=inl hc;rw[e0.frf c z]at e';cases e'
 show codeAny (model P w) A (.expr body (PySem.W.envX qual sc s.heap.objs.size f (.ref c') (ys.zip (l.map (·.1))))) _ _;have hokO:=GC e0.hok ncs hl;have I:Inv (cxL CX0 P w K mg base (x::ys) qual sc f (.ref c') (ys.zip (l.map (·.1))) A outer s (fL H (l.map (·.1))) E) [] (some a::vs.map some) (fL H (l.map (·.1))) { s with heap:=h₁,toks:=s.toks+([x].zip [u]).length }:=by
  have noA:∀b:Addr,b∉(cxL CX0 P w K mg base (x::ys) qual sc f (.ref c') (ys.zip (l.map (·.1))) A outer s (fL H (l.map (·.1))) E).ex:=fun b z=>absurd (show b∈([]:List Addr) from z) (by simp);refine⟨⟨e0.mod,hk,rfl,rfl,Nat.le_refl _,fun z1 z2 d h1 h2=> ?_,fun z hz=> ?_,fun z d hf _=>absurd (show false=true from hf) Bool.false_ne_true,fun _=>hr.hd,Around.frames_deeper e0.frames,.inr ⟨rfl,rfl⟩,fun b z=>absurd z (noA b),fun b o e=>⟨(e0.bs b o e).1,by show fL H (l.map (·.1)) b=none;rw[m9 (nc b o e)];exact(e0.bs b o e).2⟩,e0.bsz,fun b _ _=>noA b,fun b z=>absurd z (noA b),e0.funs,fun b hb=> ?_⟩,
   rfl,e0.bare,Un.kept hk₁,⟨_,hns,fun i z v' h1 h2 h3=> ?_⟩,fun z d h=> ?_,hokO.fresh (Nat.le_refl _),fun z d h=> ?_,fun p hp=>absurd (show p∈([]:List (Addr×Obj)) from hp) (by simp),hokO.kept hk₁,(by show (some a::vs.map some).length=(x::ys).length;rw[List.length_cons,List.length_cons,List.length_map];have:=Paired.length kc;lia)⟩
  ·obtain⟨i1,a1,b1⟩:=mS h1;obtain⟨i2,a2,b2⟩:=mS h2;have:=P1 ncs b1 b2;subst this;rw[a1]at a2;cases a2;rfl
  ·have hz:sc.names.lookup z=some .cell∨sc.names.lookup z=some .free:=hz;rcases hz with hz|hz
   ·exact absurd rfl (hcell _ (PySem.mem_of_lookup hz))
   ·obtain⟨i,hi,e⟩:=List.getElem_of_mem (hfree z hz);have h1:ys[i]? =some z:=by rw[List.getElem?_eq_getElem hi,e]
    have h2:(l.map (·.1))[i]? =some (l.map (·.1))[i]:=List.getElem?_eq_getElem (by lia);exact⟨_,yN ny h1 h2⟩
  ·show fL H (l.map (·.1)) b=none
   by_cases hbc:b∈l.map (·.1)
   ·exact rY hbc
   ·rw[m9 hbc];exact e0.frf b hb
  ·match i,h1,h2 with
   | 0,h1,h2 =>
    cases h1;cases h2;refine⟨u,ra,.inl ⟨hx,?_⟩⟩;show ([(x,u)].reverse).lookup x=some u;rw[List.reverse_singleton,List.lookup_cons,beq_self_eq_true]
   | i+1,h1,h2 =>
    have h1:(x::ys)[i+1]? =some z:=h1;have h1:ys[i]? =some z:=by simpa using h1
    have h2:vs[i]? =some v':=by
     have h2:(vs.map some)[i]? =some (some v'):=by simpa using h2
     rw[List.getElem?_map]at h2;obtain⟨q,q1,q2⟩:=Option.map_eq_some_iff.mp h2;cases q2;exact q1
    have hil:i<(l.map (·.1)).length:=by
     have:=(List.getElem?_eq_some_iff.mp h1).1
     lia
    have h4:(l.map (·.1))[i]? =some (l.map (·.1))[i]:=List.getElem?_eq_getElem hil;obtain⟨oC,uv,eC,hdC,rv⟩:=Paired.at2 kc h4 h2;obtain⟨o',e',g'⟩:=inl (List.mem_of_getElem? h4);rw[eC]at e';cases e';exact⟨uv,rv,.inr ⟨.inr (hy z (List.mem_of_getElem? h1)),_,yN ny h1 h4,oC,hk₁ _ _ g',hdC⟩⟩
  ·obtain⟨i,a1,b1⟩:=mS h;have hvl:vs.length=(l.map (·.1)).length:=(Paired.length kc).symm;have hil:i<vs.length:=by
    have:=(List.getElem?_eq_some_iff.mp b1).1
    lia
   obtain⟨oC,uv,eC,hdC,rv⟩:=Paired.at2 kc b1 (List.getElem?_eq_getElem hil);obtain⟨o',e',g'⟩:=inl (List.mem_of_getElem? b1);rw[eC]at e';cases e';exact⟨_,oC,hk₁ _ _ g',hdC⟩
  ·obtain⟨i,a1,b1⟩:=mS h;exact rY (List.mem_of_getElem? b1)
 refine PySem.W.kla_codeExpr (wpAny_mono (PE.nox ht [] _ (some a::vs.map some) (fL H (l.map (·.1))) _ I hq) (fun u' s' ⟨v',H',J,rv',q⟩=> ?_) fun e s' hs=> ?_)
 ·have Jb:Un (frs outer) [] (fL H (l.map (·.1))) H' s.heap s'.heap:=J.base;have gC':∀p∈l,H' p.1=none/\s'.heap.get? p.1=some p.2:=fun p hp=>by
   have hm:p.1∈l.map (·.1):=List.mem_map.mpr ⟨p,hp,rfl⟩;exact⟨Jb.free p.1 p.2 (gC p hp) (rY hm) (by simp),Jb.keep p.1 p.2 (gC p hp) (rY hm) (ncf _ hm) (by simp)⟩
  exact⟨v',ons H' l,J.os,J.bare,HZ ncs (fun p hp=>⟨hl p hp,gC p hp,ncf _ (List.mem_map.mpr ⟨p,hp,rfl⟩)⟩) Jb,z8 ncs gC' J.hok,rv',q⟩
 ·exact wpAny_mono hs (fun _ s'' z=>z.elim) fun _ s'' z=>z.elim
end
section
variable {X:Cx}{args:Arguments}{body:Expr}{lsc:Scope}{pos:Pos}{cs:List (Str×Addr)}{cL PL:Addr}
def aA7 (qual:Str)(args:Arguments)(body:Expr)(lsc:Scope)(cs:List (Str×Addr))(PL:Addr)(pos:Pos):TE:=fun _ H Q=>TabS H PL pos qual ∧
 ∀F fd H',H F=none->LamL H' F fd qual args body lsc cs->SameT H H'->TabS H' PL pos qual->Q (.ref F) H'
theorem WM (hcode:X.env.code= .ref cL)(C:PySem.W.CodeHd X.base cL PL)(B:X.base.BuiltinsAt X.mg PL)(hcl:closureFor lsc X.env=pure cs)(hdef:defaultsOf args X.env=([],[]):=by rfl) :
  PE X (.Lambda args body lsc pos) (aA7 (X.env.qual++ "<lambda>") args body lsc cs PL pos):=by
 intro pins s σ H Q I h;obtain⟨hT,h⟩:=h;refine PySem.W.kla_eval hdef ?_;have hg:s.heap.Ns mainGlobals X.mg:=I.mod.glob.keeps I.bk;obtain⟨bm,ob,b1,b2,b3,b4,b5,b6⟩:=B;rcases hT with hP|⟨c',oc,fv,t,hP,hc',hd,hv⟩
 ·have gP:s.heap.get? PL=some (PySem.W.tabObj #[]):=I.hok PL _ hP;have hgP:mainGlobals≠PL:=fun q=>by
   obtain⟨o,es,ep,e,hd,_⟩:=hg;rw[q,gP]at e;cases e;cases hd
  refine PySem.W.kla_makeFunction (mg:=X.mg) (ps:= #[]) hcl I.ok.glob hg hcode (C.keeps I.bk) gP trivial rfl hgP ⟨bm,ob,b1,b2,b3,b4,I.bk _ _ b5,b6⟩ fun c' ctv h' tk hx hge hlt hrec htb=> ?_;obtain⟨c₂,oc,fv,t,e2,hoc,hd,hv⟩:=hrec;cases e2;have hps:(#[]++ #[rawInt pos.line,rawInt pos.col,Value.ref c']:Array Value)= #[rawInt pos.line,rawInt pos.col,Value.ref c']:=Array.empty_append;rw[hps]at htb;generalize hps2:(#[rawInt pos.line,rawInt pos.col,Value.ref c']:Array Value)=ps' at htb;generalize hoF:PySem.W.kla_obj "<lambda>" (X.env.qual++ "<lambda>") args body lsc cs ((X.mg "__name__").getD .none) c' ctv=oF;have pu:∀b o,h'.get? b=some o->(h'.push oF).get? b=some o:=fun b o e=>Heap.get?_push_of_some _ e;have gF:(h'.push oF).get? h'.objs.size=some oF:=Heap.get?_push_size _ (by subst hoF;rfl);have nPc:PL≠c':=Nat.ne_of_lt (Nat.lt_of_lt_of_le (Heap.lt_size gP) hge);have ncF:c'≠h'.objs.size:=Nat.ne_of_lt hlt;have nPF:PL≠h'.objs.size:=Nat.ne_of_lt (Heap.lt_size htb);have ltc:∀b u,H b=some u->b≠c':=fun b u e=>Nat.ne_of_lt (Nat.lt_of_lt_of_le (I.hok.lt e) hge);have ltF:∀b u,H b=some u->b≠h'.objs.size:=fun b u e=>Nat.ne_of_lt (Nat.lt_trans (Nat.lt_of_lt_of_le (I.hok.lt e) hge) hlt);have at0:∀b,b≠PL->b≠c'->b≠h'.objs.size->upd (upd (upd H PL (.tbl ps')) c' (kn oc)) h'.objs.size (kn oF) b=H b:=fun b n1 n2 n3=>by rw[aJ n3,aJ n2,aJ n1]
  have atP:upd (upd (upd H PL (.tbl ps')) c' (kn oc)) h'.objs.size (kn oF) PL=some (.tbl ps'):=by rw[aJ nPF,aJ nPc,aS]
  have atc:upd (upd (upd H PL (.tbl ps')) c' (kn oc)) h'.objs.size (kn oF) c'=some (kn oc):=by rw[aJ ncF,aS]
  have atF:upd (upd (upd H PL (.tbl ps')) c' (kn oc)) h'.objs.size (kn oF) h'.objs.size=some (kn oF):=aS;generalize upd (upd (upd H PL (.tbl ps')) c' (kn oc)) h'.objs.size (kn oF)=H3 at at0 atP atc atF;have keepH:∀b u,H b=some u->(∀ps,u≠ .tbl ps)->H3 b=some u:=fun b u e nt=>by
   rw[at0 b (fun z=>by rw[z,hP]at e;cases e;exact nt _ rfl) (ltc b u e) (ltF b u e)];exact e
  have sz:∀b o,s.heap.get? b=some o->b≠c'/\b≠h'.objs.size:=fun b o e =>
   ⟨Nat.ne_of_lt (Nat.lt_of_lt_of_le (Heap.lt_size e) hge),Nat.ne_of_lt (Nat.lt_trans (Nat.lt_of_lt_of_le (Heap.lt_size e) hge) hlt)⟩
  have nP:∀b,H b=none->b≠PL:=fun b n z=>by rw[z,hP]at n;cases n
  have I':Inv X pins σ H3 { s with heap:=h'.push oF,toks:=tk }:=by
   refine I.un ⟨fun b o e n _ _=>pu b o (hx b o (nP b n) e),fun b o e n _ _=>⟨o.slots,pu b o (hx b o (nP b n) e)⟩,fun b o e n _=> ?_,fun b o e _=> ?_,fun b xs e=>keepH b _ e (fun ps z=>by cases z),fun b o u e=>keepH b _ e (fun ps z=>by cases z),fun b ps e=> ?_⟩ fun b o e=> ?_
   ·rw[at0 b (nP b n) (sz b o e).1 (sz b o e).2];exact n
   ·by_cases hb:b=PL
    ·subst hb;exact⟨_,pu _ _ htb⟩
    ·exact⟨o,pu b o (hx b o hb e)⟩
   ·by_cases hb:b=PL
    ·subst hb;rw[hP]at e;cases e;exact⟨ps',by rw[atP,Array.empty_append]⟩
    ·refine⟨#[],?_⟩;rw[at0 b hb (ltc b _ e) (ltF b _ e),e,Array.append_empty]
   ·by_cases hF:b=h'.objs.size
    ·subst hF;rw[atF]at e;cases e;exact DM gF
    by_cases hc':b=c'
    ·subst hc';rw[atc]at e;cases e;exact DM (pu _ _ hoc)
    by_cases hb:b=PL
    ·subst hb;rw[atP]at e;cases e;exact pu _ _ htb
    rw[at0 b hb hc' hF]at e;refine(I.hok b o e).stay (fun d u hd' q=>pu d u (hx d u ?_ q)) (fun d q=>keepH d _ q fun ps z=>by cases z) fun d xs q=>keepH d _ q fun ps z=>by cases z
    rcases hd' with z|z
    ·rw[z];exact hb
    ·intro z2;rw[z2,hP]at z;cases z
  refine⟨.ref h'.objs.size,H3,I',rfl,h _ _ H3 ?_ ⟨c',_,ctv,oc,fv,t,rfl,by rw[hoF];exact atF,atc,hd,hv⟩ keepH (.inr ⟨c',oc,fv,t,by rw[atP,hps2],atc,hd,hv⟩)⟩;exact I.hok.fresh (Nat.le_trans hge (Nat.le_of_lt hlt))
 ·have gP:s.heap.get? PL=some (PySem.W.tabObj #[rawInt pos.line,rawInt pos.col,.ref c']):=I.hok PL _ hP;refine PySem.W.kla_makeFunctionHit (mg:=X.mg) (ps:= #[rawInt pos.line,rawInt pos.col,.ref c']) (cv:= .ref c') hcl I.ok.glob hg hcode (C.keeps I.bk) gP (by simp[TriplesOk,rawInt]) (by simp[codeAmong,rawInt]) ⟨bm,ob,b1,b2,b3,b4,I.bk _ _ b5,b6⟩ fun ctv h' tk hx hge=> ?_;generalize hoF:PySem.W.kla_obj "<lambda>" (X.env.qual++ "<lambda>") args body lsc cs ((X.mg "__name__").getD .none) c' ctv=oF;have hoF':=hoF;unfold PySem.W.kla_obj at hoF';rw[hoF'];have pu:∀b o,h'.get? b=some o->(h'.push oF).get? b=some o:=fun b o e=>Heap.get?_push_of_some _ e;have gF:(h'.push oF).get? h'.objs.size=some oF:=Heap.get?_push_size _ (by subst hoF;rfl);have ltF:∀b u,H b=some u->b≠h'.objs.size:=fun b u e=>Nat.ne_of_lt (Nat.lt_of_lt_of_le (I.hok.lt e) hge);have sF:Same H (upd H h'.objs.size (kn oF)):=fun b u e=>by rw[aJ (ltF b u e)];exact e
  have I':Inv X pins σ (upd H h'.objs.size (kn oF)) { s with heap:=h'.push oF,toks:=tk }:=by
   refine I.un ⟨fun b o e n _ _=>pu b o (hx b o e),fun b o e n _ _=>⟨o.slots,pu b o (hx b o e)⟩,fun b o e n _=> ?_,fun b o e _=>⟨o,pu b o (hx b o e)⟩,fun b xs e=>sF _ _ e,fun b o u e=>sF _ _ e,fun b ps e=>⟨#[],by rw[Array.append_empty];exact sF _ _ e⟩⟩ fun b o e=> ?_
   ·rw[aJ (Nat.ne_of_lt (Nat.lt_of_lt_of_le (Heap.lt_size e) hge))];exact n
   ·by_cases hF:b=h'.objs.size
    ·subst hF;rw[aS]at e;cases e;exact DM gF
    ·rw[aJ hF]at e;exact(I.hok b o e).stay (fun d u hd' q=>pu d u (hx d u q)) (fun d q=>sF _ _ q) fun d xs q=>sF _ _ q
  refine⟨.ref h'.objs.size,_,I',rfl,h _ _ _ (I.hok.fresh hge) ⟨c',_,ctv,oc,fv,t,rfl,by rw[hoF];exact aS,sF _ _ hc',hd,hv⟩ (Same.t sF) (.inr ⟨c',oc,fv,t,sF _ _ hP,sF _ _ hc',hd,hv⟩)⟩
end
section
variable {P:Program}{w:World}{K:PySem.W.Frag}{mg:Str->Option Value}{base:Heap}
def aBu (ics:List (Nat×Addr))(Q:VK):St->V->Hp->Prop:=fun σ v H'=>∃cvs,Paired (fun (ic:Nat×Addr) cv=>σ[ic.1]? =some (some cv)) ics cvs/\∀H2,Same H' H2->(∀ic∈ics,H' ic.2=none)->lG H2 (ics.map (·.2)) cvs->Q v H2
theorem FunV.okL {x qual:Str}{st:Stmt}{f:Addr}{fd:FuncData}{N ps:List Str}{k:Nat}{iys:List (Nat×Str)}{sp:Sp} (F:FunV K x qual st f fd) (S:aN N ps (aG st)) (hi:∀iy∈iys,N[iy.1]? =some iy.2/\(aG st).names.lookup iy.2=some .cell) (len:∀vs H Q E,sp vs H Q E->vs.length=ps.length)
  (hbody:∀(cdv:Value) (A:Around) (outer:List Env) (s:Shared) (H:Hp) (vs:List V) (Q:VK) (E:XK) (ics:List (Nat×Addr)),fd.code=cdv->Paired (fun (iy:Nat×Str) (ic:Nat×Addr)=>ic.1=iy.1/\(cellsFrom (s.heap.objs.size+1) (aG st).names []).lookup iy.2=some ic.2) iys ics->Room k (A.deeper (envOfC qual (aG st) s.heap.objs.size f cdv))->sp vs H Q E →
   (ics.map (·.2)).Nodup/\∃t,PRs (sQ CX0 P w K mg base N qual (aG st) f cdv A outer s H E).nox (cY st) t/\t { nx:=fun _ H'=>Q .non H',rt:=Q } (aBu ics Q) (start N vs) H):FnOk P w K mg base CX0 (k+1) f fd ps sp:=by
 obtain⟨oc,od,dV,kV,doc,pm,an,cdv,ct,osl,rfl,lk,hcd⟩:=F.ex;refine⟨len,fun A outer s H args us vs Q E hr e0 hb r hsp=> ?_⟩;have hl:=len _ _ _ _ hsp;have KX:K.In s.heap:=e0.mod.kin.keeps fun b o e=>(e0.bs b o e).1;have lim:s.heap.NoLimit:=e0.mod.nolimit.keeps fun b o e=>(e0.bs b o e).1;have hkind:∀y∈ps.zip us,(aG st).names.lookup y.1=some .local∨((aG st).names.lookup y.1=some .cell/\((cellsFrom (s.heap.objs.size+1) (aG st).names []).lookup y.1).isSome=true):=fun⟨n,v⟩ hy=>by
  rcases S.par n (List.of_mem_zip hy).1 with q|q
  ·exact .inl q
  ·exact .inr ⟨q,PySem.W.cellsFrom_some _ _ _ (.inl q)⟩
 refine codeAny_call_function hr.depth (KX _ _ lk) rfl S.co S.gen rfl (PySem.W.codeRec_of KX hcd) (hb _ _ _ _ ?_);refine wpAny_newFunctionEnv_cells S.kind hkind fun env he s1 x=> ?_;subst he;refine⟨lim.keeps x.toInCall.keep,codeAny_func ?_⟩;obtain⟨ics,hic⟩:∃ics:List (Nat×Addr),Paired (fun (iy:Nat×Str) (ic:Nat×Addr)=>ic.1=iy.1/\(cellsFrom (s.heap.objs.size+1) (aG st).names []).lookup iy.2=some ic.2) iys ics:=by
  clear hbody
  induction iys with
  | nil=>exact⟨[],.nil⟩
  | cons a l ih =>
   obtain⟨ics,h⟩:=ih fun iy hiy=>hi iy (List.mem_cons_of_mem _ hiy);obtain⟨c,hc⟩:=tO (n:=s.heap.objs.size+1) (hi a (.head _)).2;exact⟨(a.1,c)::ics,.cons ⟨rfl,hc⟩ h⟩
 obtain⟨ncs,t,ht,hq⟩:=hbody cdv A outer s H vs Q E ics rfl hic (hr.deeper _) hsp;have I:Inv (sQ CX0 P w K mg base N qual (aG st) f cdv A outer s H E) [] (start N vs) H s1:=BX S hr.hd e0 hl r x;refine wpAny_mono (ht [] s1 (start N vs) H _ _ (I.wish _) hq) (fun fl s' hs=> ?_) fun e s' hs=>False.elim hs;have fin:∀{σ':St}{H':Hp}{v:V}{u:Value},Inv (sQ CX0 P w K mg base N qual (aG st) f cdv A outer s H E).nox [] σ' H' s'->RelV v u->Q v H'->CE outer P w H s Q u s' :=
  fun {σ' H' v u} J rv q=>⟨v,H',J.os,J.bare,J.base,J.hok,rv,q⟩
 cases fl with
 | ret u =>
  obtain⟨v,σ',H',J,rv,q⟩:=hs;rcases q with q|⟨cvs,hi',q⟩
  ·exact fin J rv q
  ·obtain⟨m,hn,hl'⟩:=J.loc;have one:∀(iy:Nat×Str) (ic:Nat×Addr) (cv:V),iy∈iys->(ic.1=iy.1/\(cellsFrom (s.heap.objs.size+1) (aG st).names []).lookup iy.2=some ic.2)->σ'[ic.1]? =some (some cv)->H' ic.2=none/\s.heap.objs.size<=ic.2/\∃oC u',s'.heap.get? ic.2=some oC/\oC.data= .cell (some u')/\RelV cv u':=fun iy ic cv hiy hc hs'=>by
    obtain⟨hN,hyc⟩:=hi iy hiy;obtain⟨u',ru,lk'⟩:=hl' iy.1 iy.2 cv hN (by rw[←hc.1];exact hs') (.inr (.inl hyc));have hcell:s'.heap.IsCell ic.2 (some u'):=by
     rcases lk' with⟨z,_⟩|⟨_,c2,e1,e2⟩
     ·have z':(aG st).names.lookup iy.2=some .local:=z;rw[hyc]at z';cases z'
     ·have e1':(cellsFrom (s.heap.objs.size+1) (aG st).names []).lookup iy.2=some c2:=e1;rw[hc.2]at e1';cases e1';exact e2
    obtain⟨oC,hoC,hdC⟩:=hcell;exact⟨J.freeC iy.2 ic.2 hc.2,J.ok.cab iy.2 ic.2 rfl hc.2,oC,u',hoC,hdC,ru⟩
   have all:∀{iys':List (Nat×Str)}{ics':List (Nat×Addr)}{cvs':List V},(∀iy∈iys',iy∈iys)->Paired (fun (iy:Nat×Str) (ic:Nat×Addr)=>ic.1=iy.1/\(cellsFrom (s.heap.objs.size+1) (aG st).names []).lookup iy.2=some ic.2) iys' ics'->Paired (fun (ic:Nat×Addr) cv=>σ'[ic.1]? =some (some cv)) ics' cvs' →
     ∃l:List (Addr×Obj),l.map (·.1)=ics'.map (·.2)/\(∀p∈l,H' p.1=none/\s.heap.objs.size<=p.1/\s'.heap.get? p.1=some p.2)/\∀H2:Hp,(∀p∈l,H2 p.1=some (kn p.2))->lG H2 (ics'.map (·.2)) cvs':=by
    intro iys' ics' cvs' hsub p1 p2
    induction p1 generalizing cvs' with
    | nil =>
     cases p2;exact⟨[],rfl,(fun _ h=>nomatch h),fun _ _=> .nil⟩
    | @cons iy ic iys2 ics2 h1 t1 ih =>
     cases p2 with
     | cons h2 t2 =>
      obtain⟨l,e1,e2,e3⟩:=ih (fun z hz=>hsub z (List.mem_cons_of_mem _ hz)) t2;obtain⟨a1,a2,oC,u',a3,a4,a5⟩:=one _ _ _ (hsub _ (.head _)) h1 h2;refine⟨(ic.2,oC)::l,by rw[List.map_cons,List.map_cons,e1],fun p hp=> ?_,fun H2 h=> .cons ⟨oC,u',h _ (.head _),a4,a5⟩ (e3 H2 fun p hp=>h p (List.mem_cons_of_mem _ hp))⟩;rcases List.mem_cons.mp hp with rfl|hp
      ·exact⟨a1,a2,a3⟩
      ·exact e2 p hp
   obtain⟨l,e1,e2,e3⟩:=all (fun _ h=>h) hic hi';have nl:(l.map (·.1)).Nodup:=by rw[e1];exact ncs
   have hnone:∀ic∈ics,H' ic.2=none:=fun ic hic'=>by
    have:ic.2∈l.map (·.1):=by rw[e1];exact List.mem_map.mpr ⟨ic,hic',rfl⟩
    obtain⟨p,hp,e⟩:=List.mem_map.mp this;rw[←e];exact(e2 p hp).1
   exact⟨v,ons H' l,J.os,J.bare,L8 nl (fun p hp=>⟨(e2 p hp).1,(e2 p hp).2.1⟩) J.base,z8 nl (fun p hp=>⟨(e2 p hp).1,(e2 p hp).2.2⟩) J.hok,rv,q _ (RC fun p hp=>(e2 p hp).1) hnone (e3 _ fun p hp=>YR nl hp)⟩
 | next =>
  obtain⟨σ',H',J,q⟩:=hs;exact fin (v:=V.non) (u:=Value.none) J rfl q
 | brk =>
  obtain⟨_,_,_,q⟩:=hs;exact False.elim q
 | cont =>
  obtain⟨_,_,_,q⟩:=hs;exact False.elim q
end
end L2
namespace L2
open PySem PySem.W PyProof.Rows
section
variable {P:Program}{w:World}{K:PySem.W.Frag}{mg:Str->Option Value}{base:Heap}
def IU (F:Addr)(fd:FuncData)(qual:Str)(args:Arguments)(body:Expr)(sc:Scope)(ys:List Str)(cs:List Addr)(vs:List V)(val:Int->Int):Sp:=fun ws H Q _ =>
 ∃t:Int,ws=[.int t]/\0<=t/\LamL H F fd qual args body sc (ys.zip cs)/\lG H cs vs/\Q (.int (val t)) H
theorem U6 {k:Nat}{F:Addr}{fd:FuncData}{qual:Str}{args:Arguments}{body:Expr}{sc:Scope}{x:Str}{ys:List Str}{cs:List Addr}{vs:List V}{val:Int->Int}
  (hk:sc.kind= .function)(hco:sc.isCoroutine=false)(hgen:sc.isGenerator=false)(hcell:∀z∈sc.names,z.2≠ .cell)(hx:sc.names.lookup x=some .local)(hfree:∀z∈sc.names,z.2= .free->z.1∈ys)(hy:∀y∈ys,sc.names.lookup y=some .free)(ny:ys.Nodup)(ncs:cs.Nodup)(hlen:ys.length=cs.length)
  (hb:∀(cdv:Value) (A:Around) (outer:List Env) (s:Shared) (H:Hp) (E:XK),Room k (A.deeper (PySem.W.envX qual sc s.heap.objs.size F cdv (ys.zip cs))) →
   ∃t,PE (cxL CX0 P w K mg base (x::ys) qual sc F cdv (ys.zip cs) A outer s H E).nox body t/\∀(i:Int) (Q:VK),0<=i->Q (.int (val i)) H->t (some (.int i)::vs.map some) H Q) :
  FnOk P w K mg base CX0 (k+1) F fd [x] (IU F fd qual args body sc ys cs vs val):=by
 refine VY (qual:=qual) (args:=args) (body:=body) (vs:=vs) hk hco hgen hcell hx (fun z e=>hfree (z,.free) (PySem.mem_of_lookup e) rfl) hy ny ncs hlen (fun ws H Q E h=> ?_) fun cdv A outer s H a Q E hr h=> ?_
 ·obtain⟨t,e,t0,L,kc,_⟩:=h;exact⟨.int t,e,L,kc⟩
 ·obtain⟨i,e,t0,L,kc,k⟩:=h;cases e;obtain⟨t,ht,hq⟩:=hb cdv A outer s (fL H cs) E hr;refine⟨t,ht,fun l el hl=>hq _ _ t0 ?_⟩;subst el;show Q _ (ons (fL H _) l);rw[E1 ncs hl];exact k
theorem YW {l:List (Str×Addr)}{iys:List (Nat×Str)}{ics js:List (Nat×Addr)} (h:Paired (fun (iy:Nat×Str) (ic:Nat×Addr)=>ic.1=iy.1/\l.lookup iy.2=some ic.2) iys ics) (hj:Paired (fun (iy:Nat×Str) (ic:Nat×Addr)=>ic.1=iy.1/\l.lookup iy.2=some ic.2) iys js):ics=js:=by
 induction h generalizing js with
 | nil=>cases hj;rfl
 | @cons iy ic _ _ h1 t1 ih =>
  cases hj with
  | @cons _ jc _ _ h2 t2 =>
   rw[ih t2];have e1:ic.1=jc.1:=h1.1.trans h2.1.symm;have e2:ic.2=jc.2:=Option.some.inj (h1.2.symm.trans h2.2);rw[Prod.ext e1 e2]
end
end L2
namespace L2
open PySem PySem.W PyProof.Rows
end L2
namespace L2
open PySem PySem.W PyProof.Rows
theorem W6 {X:Cx}{K:PySem.W.Frag} (hu:X.A.units<cLine) (hK:X.K=K:=by rfl):OpR X (compareOp .NotEq) (O9 K):=by
 subst hK;exact EN hu
def aAy (tc:TT)(u v:dE->(St->V->Hp->Prop)->St->Hp->Prop):dE->(St->V->Hp->Prop)->St->Hp->Prop:=fun D R σ H=>tc σ H fun b H1=>if b=true then u { D with nx:=v D R } R σ H1 else v D R σ H1
section
variable {X:Cx}{rest a:List Stmt}{u v:dE->(St->V->Hp->Prop)->St->Hp->Prop}{c:Expr}{tc:TT}{pos:Pos}
theorem YN {D:dE}{R:St->V->Hp->Prop}{σ:St}{H:Hp} (h:tc σ H fun b H1=>if b=true then u { D with nx:=v D R } R σ H1 else v D R σ H1):aAy tc u v D R σ H:=h
def ZL (t:TS):dE->(St->V->Hp->Prop)->St->Hp->Prop:=fun D _=>t D
theorem VC {t:TS}{D:dE}{R:St->V->Hp->Prop}{σ:St}{H:Hp} (h:t D σ H):ZL t D R σ H:=h
theorem UZ {t:TS}(h:PSs X a t):PRs X a (ZL t):=fun pins s σ H D R I q=>thn (h pins s σ H D I q) fun f s2 q=>SP.r q
theorem XM (hc:PT X c tc)(ha:PRs X a u)(hb:PRs X rest v):PRs X (.If c a [] pos::rest) (aAy tc u v):=by
 intro pins s σ H D R I h;refine wpAny_execs_cons (wpAny_If (thn (hc pins s σ H _ I h) fun d s1 ⟨H1,I1,q1⟩=> ?_));cases d with
 | true =>
  refine thn (ha pins s1 σ H1 { D with nx:=v D R } R I1 q1) fun f s2 q=> ?_;cases f with
  | next =>
   obtain⟨σ',H',I',q⟩:=q;exact hb pins s2 σ' H' D R I' q
  | ret u=>exact q
  | brk=>exact q
  | cont=>exact q
 | false =>
  refine thn (bP pins s1 σ H1 { D with nx:=v D R } I1 q1) fun f s2 q=> ?_;cases f with
  | next =>
   obtain⟨σ',H',I',q⟩:=q;exact hb pins s2 σ' H' D R I' q
  | ret u=>obtain⟨v,σ',H',I,r,q⟩:=q;exact⟨v,σ',H',I,r,.inl q⟩
  | brk=>exact q
  | cont=>exact q
end
end L2
namespace L2
def Y8 {α:Type}:Nat->(List α->Prop)->Prop
 | 0,p=>p []
 | n+1,p=>∀a,Y8 n (fun l=>p (a::l))
theorem JR {α:Type}:∀(n:Nat) (p:List α->Prop),Y8 n p->∀us:List α,us.length=n->p us
 | 0,_,h,[],_=>h
 | n+1,_,h,a::us,e=>JR n _ (h a) us (by simpa using e)
 | 0,_,_,_::_,e=>by simp at e
 | _+1,_,_,[],e=>by simp at e
end L2
namespace Prf
open PySem L2
set_option hygiene false
local macro_rules| `(tactic| walk_at"fs")=> `(tactic| exact⟨rfl,rfl,rfl,by decide +kernel,rfl,by decide +kernel,by decide +kernel⟩)
local macro_rules| `(tactic| walk_at"hu")=> `(tactic| (have hu0:=Room.units0 hr;have hu1:=Room.units1 hr;have hu9:=Room.units9 hr))
set_option hygiene true
def top (i:Nat):Stmt:=PySem.Challenge.pw_firstout_k55_whole_signs_followed.main.body.getD i (.Pass ⟨0,0,0,0⟩)
abbrev sU:Stmt:=top 10
theorem sc_added_up:aN ["plan","going","turn","name","number"] ["plan"] (aG sU):=by walk_at"fs"
abbrev uJ:Stmt:=top 11
theorem sc_as_told:aN ["plan"] ["plan"] (aG uJ):=by walk_at"fs"
abbrev hV:Stmt:=top 12
theorem sc_rows_that_count:aN ["house","plan","doors"] ["house","plan"] (aG hV):=by walk_at"fs"
abbrev uO:Stmt:=top 13
theorem sc_leaving:aN ["house","plan","numbers","turn","name","number","pair"] ["house","plan"] (aG uO):=by walk_at"fs"
abbrev wP:Stmt:=top 14
theorem sc_coming:aN ["house","plan","numbers","turn","name","number","door","pair"] ["house","plan"] (aG wP):=by walk_at"fs"
abbrev AF:Stmt:=top 15
theorem sc_there:aN ["house","plan","leave","come","inside","room","turn","before"] ["house","plan"] (aG AF):=by walk_at"fs"
abbrev xM:Stmt:=top 16
theorem sc_out_by:aN ["house","plan","turn","rows"] ["house","plan","turn"] (aG xM):=by walk_at"fs"
abbrev zV:Stmt:=top 18
theorem sc_signs:aN ["house","plan","room","turn","doors","rows"] ["house","plan","room","turn"] (aG zV):=by walk_at"fs"
abbrev sL:Stmt:=top 20
theorem sc_is_whole:aN ["thing"] ["thing"] (aG sL):=by walk_at"fs"
abbrev uR:Stmt:=top 23
theorem sc_is_name:aN ["thing"] ["thing"] (aG uR):=by walk_at"fs"
abbrev qP:Stmt:=top 24
theorem sc_need_name:aN ["part","thing"] ["part","thing"] (aG qP):=by walk_at"fs"
abbrev nX:Stmt:=top 25
theorem sc_need_whole:aN ["part","thing","least"] ["part","thing","least"] (aG nX):=by walk_at"fs"
abbrev eK:Stmt:=b9 (top 26) 0
theorem sc_Door___init__:aN ["self","name","start","end","wide"] ["self","name","start","end","wide"] (aG eK):=by walk_at"fs"
abbrev qJ:Stmt:=b9 (top 26) 1
theorem sc_Door_lets:aN ["self","turn"] ["self","turn"] (aG qJ):=by walk_at"fs"
abbrev kS:Stmt:=b9 (top 26) 2
theorem sc_Door_is_exit:aN ["self"] ["self"] (aG kS):=by walk_at"fs"
abbrev iZ:Stmt:=b9 (top 27) 0
theorem sc_Since___init__:aN ["self","name","start","end","wide","since"] ["self","name","start","end","wide","since"] (aG iZ):=by walk_at"fs"
abbrev nV:Stmt:=b9 (top 27) 1
theorem sc_Since_lets:aN ["self","turn"] ["self","turn"] (aG nV):=by walk_at"fs"
abbrev i5:Stmt:=b9 (top 28) 0
theorem sc_Until___init__:aN ["self","name","start","end","wide","until"] ["self","name","start","end","wide","until"] (aG i5):=by walk_at"fs"
abbrev oO:Stmt:=b9 (top 28) 1
theorem sc_Until_lets:aN ["self","turn"] ["self","turn"] (aG oO):=by walk_at"fs"
abbrev eG:Stmt:=b9 (top 29) 0
theorem sc_Beat___init__:aN ["self","name","start","end","wide","every","since"] ["self","name","start","end","wide","every","since"] (aG eG):=by walk_at"fs"
abbrev qM:Stmt:=b9 (top 29) 1
theorem sc_Beat_lets:aN ["self","turn","waited"] ["self","turn"] (aG qM):=by walk_at"fs"
abbrev jR:Stmt:=b9 (top 30) 0
theorem sc_Told___init__:aN ["self","name","start","end","letting"] ["self","name","start","end","letting"] (aG jR):=by walk_at"fs"
abbrev qO:Stmt:=b9 (top 30) 1
theorem sc_Told_lets:aN ["self","turn","letting"] ["self","turn"] (aG qO):=by walk_at"fs"
abbrev nR:Stmt:=top 32
theorem sc_need_turns:aN ["first","last"] ["first","last"] (aG nR):=by walk_at"fs"
abbrev iU:Stmt:=top 33
theorem sc_need_each_once:aN ["names","seen","name"] ["names"] (aG iU):=by walk_at"fs"
abbrev iC:Stmt:=top 34
theorem sc_rooms_spoken_of:aN ["doors","people","names","door"] ["doors","people"] (aG iC):=by walk_at"fs"
abbrev nZ:Stmt:=top 35
theorem sc_need_rooms:aN ["names","sizes","name"] ["names","sizes"] (aG nZ):=by walk_at"fs"
abbrev kN:Stmt:=top 36
theorem sc_added_people:aN ["sizes","people","inside","room","number"] ["sizes","people"] (aG kN):=by walk_at"fs"
abbrev nD:Stmt:=top 37
theorem sc_need_space:aN ["sizes","people","inside"] ["sizes","people"] (aG nD):=by walk_at"fs"
abbrev dY:Stmt:=b9 (top 38) 0
theorem sc_House___init__:aN ["self","rooms","doors","people","last","first","sizes","door"] ["self","rooms","doors","people","last","first"] (aG dY):=by walk_at"fs"
abbrev lZ:Stmt:=b9 (top 38) 1
theorem sc_House_rooms:aN ["self"] ["self"] (aG lZ):=by walk_at"fs"
abbrev lR:Stmt:=b9 (top 38) 2
theorem sc_House_doors:aN ["self"] ["self"] (aG lR):=by walk_at"fs"
abbrev hU:Stmt:=b9 (top 38) 3
theorem sc_House_need_room:aN ["self","room"] ["self","room"] (aG hU):=by walk_at"fs"
abbrev lW:Stmt:=b9 (top 38) 4
theorem sc_House_holds:aN ["self","room"] ["self","room"] (aG lW):=by walk_at"fs"
abbrev lT:Stmt:=b9 (top 38) 5
theorem sc_House_found:aN ["self","room"] ["self","room"] (aG lT):=by walk_at"fs"
abbrev oG:Stmt:=b9 (top 38) 6
theorem sc_House_into:aN ["self","room"] ["self","room"] (aG oG):=by walk_at"fs"
abbrev iA:Stmt:=b9 (top 38) 7
theorem sc_House_from_room:aN ["self","room"] ["self","room"] (aG iA):=by walk_at"fs"
abbrev oB:Stmt:=b9 (top 38) 8
theorem sc_House_door:aN ["self","name"] ["self","name"] (aG oB):=by walk_at"fs"
abbrev nL:Stmt:=b9 (top 38) 9
theorem sc_House_lets:aN ["self","name","turn","door"] ["self","name","turn"] (aG nL):=by walk_at"fs"
abbrev lY:Stmt:=b9 (top 38) 11
theorem sc_House_pairs:aN ["self","pairs","turn"] ["self"] (aG lY):=by walk_at"fs"
abbrev kP:Stmt:=top 40
theorem sc__law_cell_at:aN ["_law_script","_law_k"] ["_law_script","_law_k"] (aG kP):=by walk_at"fs"
abbrev nN:Stmt:=top 41
theorem sc__law_drawn:aN ["_law_cell","_law_k","_law_number"] ["_law_cell","_law_k"] (aG nN):=by walk_at"fs"
abbrev qQ:Stmt:=top 42
theorem sc__law_name:aN ["_law_cell","_law_k","_law_some","_law_rest","_law_place"] ["_law_cell","_law_k"] (aG qQ):=by walk_at"fs"
abbrev dU:Stmt:=top 43
theorem sc__law_door:aN ["_law_number","_law_name_here","_law_start","_law_end","_law_first","_law_wide","_law_turn"] ["_law_number","_law_name_here","_law_start","_law_end","_law_first"] (aG dU):=by walk_at"fs"
abbrev nS:Stmt:=top 44
theorem sc__law_house:aN ["_law_script","_law_first","_law_last","_law_cell","_law_names","_law_rooms","_law_doors","_law_k","_law_number","_law_end","_law_kind","_law_people"] ["_law_script","_law_first","_law_last"] (aG nS):=by walk_at"fs"
abbrev lV:Stmt:=top 45
theorem sc__law_excess:aN ["_law_house_here","_law_numbers_here","_law_inside","_law_left","_law_room","_law_came"] ["_law_house_here","_law_numbers_here","_law_inside"] (aG lV):=by walk_at"fs"
abbrev kU:Stmt:=top 46
theorem sc__law_numbers:aN ["_law_house_here","_law_cell","_law_turn","_law_inside","_law_numbers_here","_law_names","_law_k","_law_some","_law_name_here"] ["_law_house_here","_law_cell","_law_turn","_law_inside"] (aG kU):=by walk_at"fs"
abbrev lX:Stmt:=top 47
theorem sc__law_lawful:aN ["_law_house_here","_law_cells","_law_rows","_law_inside","_law_turn","_law_numbers_here","_law_name_here","_law_door_here"] ["_law_house_here","_law_cells"] (aG lX):=by walk_at"fs"
abbrev jN:Stmt:=top 48
theorem sc__law_followed:aN ["_law_house_here","_law_plan","_law_turn","_law_heads","_law_cell","_law_left","_law_room","_law_name_here","_law_number","_law_order","_law_draw","_law_k"] ["_law_house_here","_law_plan","_law_turn","_law_heads","_law_cell"] (aG jN):=by walk_at"fs"
abbrev nM:Stmt:=top 49
theorem sc__law_right:aN ["_law_house_here","_law_plan","_law_turn","_law_heads","_law_inside","_law_room"] ["_law_house_here","_law_plan","_law_turn","_law_heads"] (aG nM):=by walk_at"fs"
abbrev pQ:Stmt:=top 50
theorem sc_law:aN ["_law_script","_law_cell","_law_first","_law_house_here","_law_plan","_law_heads","_law_room","_law_turn"] ["_law_script"] (aG pQ):=by walk_at"fs"
theorem RD:("abcdefghijklmnopqrstuvwxyz" :Str).length=26:=by rw[cM];rfl
theorem QM:("name" :Str).length=4:=by rw[cM];rfl
theorem Q5:("start" :Str).length=5:=by rw[cM];rfl
theorem QX:("wide" :Str).length=4:=by rw[cM];rfl
theorem QO:("since" :Str).length=5:=by rw[cM];rfl
theorem QB:("until" :Str).length=5:=by rw[cM];rfl
theorem P9:("every" :Str).length=5:=by rw[cM];rfl
theorem R1:("the first turn is below 0" :Str).length=25:=by rw[cM];rfl
theorem Q3:("the last turn is below the first one" :Str).length=36:=by rw[cM];rfl
theorem QN:("a row of people is below 0" :Str).length=26:=by rw[cM];rfl
theorem KO:("more are in a room than it holds" :Str).length=32:=by rw[cM];rfl
theorem KD:(" is no name" :Str).length=11:=by rw[cM];rfl
theorem LJ:(" is no whole number from " :Str).length=25:=by rw[cM];rfl
theorem LB:(" on" :Str).length=3:=by rw[cM];rfl
theorem KP:("end" :Str).length=3:=by rw[cM];rfl
theorem JY:("a" :Str).length=1:=by rw[cM];rfl
theorem J0:("z" :Str).length=1:=by rw[cM];rfl
abbrev aBr:List Str:=["name","start","end","wide","since","until","every","letting","first","last","sizes","people","named_doors"]
structure DCls (K:PySem.W.Frag)(C:Addr):Prop where
 ic:ICls K C
 nf:noF K C aBr=true
theorem DCls.n_name {K:PySem.W.Frag}{C:Addr} (d:DCls K C):NoAttr K C "name" :=fH d.nf 0 rfl
theorem DCls.n_start {K:PySem.W.Frag}{C:Addr} (d:DCls K C):NoAttr K C "start" :=fH d.nf 1 rfl
theorem DCls.n_end {K:PySem.W.Frag}{C:Addr} (d:DCls K C):NoAttr K C "end" :=fH d.nf 2 rfl
theorem DCls.n_wide {K:PySem.W.Frag}{C:Addr} (d:DCls K C):NoAttr K C "wide" :=fH d.nf 3 rfl
theorem DCls.n_since {K:PySem.W.Frag}{C:Addr} (d:DCls K C):NoAttr K C "since" :=fH d.nf 4 rfl
theorem DCls.n_until {K:PySem.W.Frag}{C:Addr} (d:DCls K C):NoAttr K C "until" :=fH d.nf 5 rfl
theorem DCls.n_every {K:PySem.W.Frag}{C:Addr} (d:DCls K C):NoAttr K C "every" :=fH d.nf 6 rfl
theorem DCls.n_letting {K:PySem.W.Frag}{C:Addr} (d:DCls K C):NoAttr K C "letting" :=fH d.nf 7 rfl
theorem DCls.n_first {K:PySem.W.Frag}{C:Addr} (d:DCls K C):NoAttr K C "first" :=fH d.nf 8 rfl
theorem DCls.n_last {K:PySem.W.Frag}{C:Addr} (d:DCls K C):NoAttr K C "last" :=fH d.nf 9 rfl
theorem DCls.n_sizes {K:PySem.W.Frag}{C:Addr} (d:DCls K C):NoAttr K C "sizes" :=fH d.nf 10 rfl
theorem DCls.n_people {K:PySem.W.Frag}{C:Addr} (d:DCls K C):NoAttr K C "people" :=fH d.nf 11 rfl
theorem DCls.n_named_doors {K:PySem.W.Frag}{C:Addr} (d:DCls K C):NoAttr K C "named_doors" :=fH d.nf 12 rfl
set_option genInjectivity false in set_option genSizeOf false in structure M (K:PySem.W.Frag) (mg:Str->Option Value) where
 tW:Addr
 mU:FX K "added_up" "added_up" sU ["plan"] tW
 vD:Addr
 qH:FX K "as_told" "as_told" uJ ["plan"] vD
 iH:Addr
 fE:FX K "rows_that_count" "rows_that_count" hV ["house","plan"] iH
 vE:Addr
 qI:FX K "leaving" "leaving" uO ["house","plan"] vE
 xZ:Addr
 tX:FX K "coming" "coming" wP ["house","plan"] xZ
 A7:Addr
 v7:FX K "there" "there" AF ["house","plan"] A7
 x0:Addr
 tZ:FX K "out_by" "out_by" xM ["house","plan","turn"] x0
 A6:Addr
 v8:FX K "signs" "signs" zV ["house","plan","room","turn"] A6
 tY:Addr
 mT:FX K "is_whole" "is_whole" sL ["thing"] tY
 vH:Addr
 qF:FX K "is_name" "is_name" uR ["thing"] vH
 qW:Addr
 lD:FX K "need_name" "need_name" qP ["part","thing"] qW
 o9:Addr
 kF:FX K "need_whole" "need_whole" nX ["part","thing","least"] o9
 oT:Addr
 kC:FX K "need_turns" "need_turns" nR ["first","last"] oT
 i6:Addr
 fO:FX K "need_each_once" "need_each_once" iU ["names"] i6
 iE:Addr
 fD:FX K "rooms_spoken_of" "rooms_spoken_of" iC ["doors","people"] iE
 pG:Addr
 j3:FX K "need_rooms" "need_rooms" nZ ["names","sizes"] pG
 k8:Addr
 gZ:FX K "added_people" "added_people" kN ["sizes","people"] k8
 oX:Addr
 j8:FX K "need_space" "need_space" nD ["sizes","people"] oX
 k5:Addr
 g9:FX K "_law_cell_at" "_law_cell_at" kP ["_law_script","_law_k"] k5
 oP:Addr
 kE:FX K "_law_drawn" "_law_drawn" nN ["_law_cell","_law_k"] oP
 qT:Addr
 lE:FX K "_law_name" "_law_name" qQ ["_law_cell","_law_k"] qT
 rA:Addr
 dW:FuncData
 lF:FunV K "_law_door" "_law_door" dU rA dW
 HS:Binds K dW ["_law_number","_law_name_here","_law_start","_law_end","_law_first"] []
 pP:Addr
 kG:FX K "_law_house" "_law_house" nS ["_law_script","_law_first","_law_last"] pP
 mD:Addr
 iS:FX K "_law_excess" "_law_excess" lV ["_law_house_here","_law_numbers_here","_law_inside"] mD
 k7:Addr
 g7:FX K "_law_numbers" "_law_numbers" kU ["_law_house_here","_law_cell","_law_turn","_law_inside"] k7
 l7:Addr
 iT:FX K "_law_lawful" "_law_lawful" lX ["_law_house_here","_law_cells"] l7
 j9:Addr
 gD:FX K "_law_followed" "_law_followed" jN ["_law_house_here","_law_plan","_law_turn","_law_heads","_law_cell"] j9
 o7:Addr
 j7:FX K "_law_right" "_law_right" nM ["_law_house_here","_law_plan","_law_turn","_law_heads"] o7
 LT:Addr
 LV:FuncData
 aBn:FunV K "law" "law" pQ LT LV
 aBE:Binds K LV ["_law_script"] []
 gA:Addr
 eV:FuncData
 kH:FunV K "__init__" "Door.__init__" eK gA eV
 qG:Binds K eV ["self","name","start","end","wide"] []
 qU:Addr
 qZ:FX K "lets" "Door.lets" qJ ["self","turn"] qU
 c8:Addr
 c6:FX K "is_exit" "Door.is_exit" kS ["self"] c8
 jB:Addr
 jA:FX K "__init__" "Since.__init__" iZ ["self","name","start","end","wide","since"] jB
 o0:Addr
 oZ:FX K "lets" "Since.lets" nV ["self","turn"] o0
 i9:Addr
 i7:FX K "__init__" "Until.__init__" i5 ["self","name","start","end","wide","until"] i9
 oS:Addr
 o6:FX K "lets" "Until.lets" oO ["self","turn"] oS
 kA:Addr
 gB:FuncData
 zQ:FunV K "__init__" "Beat.__init__" eG kA gB
 zS:Binds K gB ["self","name","start","end","wide","every","since"] []
 qX:Addr
 rB:FX K "lets" "Beat.lets" qM ["self","turn"] qX
 j6:Addr
 j4:FX K "__init__" "Told.__init__" jR ["self","name","start","end","letting"] j6
 qY:Addr
 qV:FX K "lets" "Told.lets" qO ["self","turn"] qY
 i8:Addr
 fP:FuncData
 xV:FunV K "__init__" "House.__init__" dY i8 fP
 xT:Binds K fP ["self","rooms","doors","people","last","first"] []
 l6:Addr
 mJ:FX K "rooms" "House.rooms" lZ ["self"] l6
 mB:Addr
 mI:FX K "doors" "House.doors" lR ["self"] mB
 iI:Addr
 iD:FX K "need_room" "House.need_room" hU ["self","room"] iI
 l8:Addr
 mF:FX K "holds" "House.holds" lW ["self","room"] l8
 mH:Addr
 mE:FX K "found" "House.found" lT ["self","room"] mH
 pK:Addr
 oW:FX K "into" "House.into" oG ["self","room"] pK
 iG:Addr
 iF:FX K "from_room" "House.from_room" iA ["self","room"] iG
 oQ:Addr
 oR:FX K "door" "House.door" oB ["self","name"] oQ
 pJ:Addr
 o8:FX K "lets" "House.lets" nL ["self","name","turn"] pJ
 l9:Addr
 mG:FX K "pairs" "House.pairs" lY ["self"] l9
 LW:mg "added_up" =some (.ref tW)
 O3:mg "as_told" =some (.ref vD)
 wF:mg "rows_that_count" =some (.ref iH)
 O4:mg "leaving" =some (.ref vE)
 SF:mg "coming" =some (.ref xZ)
 XF:mg "there" =some (.ref A7)
 SH:mg "out_by" =some (.ref x0)
 XG:mg "signs" =some (.ref A6)
 LU:mg "is_whole" =some (.ref tY)
 O8:mg "is_name" =some (.ref vH)
 HR:mg "need_name" =some (.ref qW)
 GO:mg "need_whole" =some (.ref o9)
 GH:mg "need_turns" =some (.ref oT)
 xW:mg "need_each_once" =some (.ref i6)
 wE:mg "rooms_spoken_of" =some (.ref iE)
 GR:mg "need_rooms" =some (.ref pG)
 A2:mg "added_people" =some (.ref k8)
 GJ:mg "need_space" =some (.ref oX)
 A8:mg "_law_cell_at" =some (.ref k5)
 GK:mg "_law_drawn" =some (.ref oP)
 HQ:mg "_law_name" =some (.ref qT)
 HP:mg "_law_door" =some (.ref rA)
 GL:mg "_law_house" =some (.ref pP)
 DH:mg "_law_excess" =some (.ref mD)
 A3:mg "_law_numbers" =some (.ref k7)
 DE:mg "_law_lawful" =some (.ref l7)
 zO:mg "_law_followed" =some (.ref j9)
 GN:mg "_law_right" =some (.ref o7)
 aBF:mg "law" =some (.ref LT)
 vF:∃ds,Vals [.int 1] ds/\Binds K eV ["self","name","start","end","wide"] ds
 O6:∃ds,Vals [.non,.int 1] ds/\Binds K eV ["self","name","start","end","wide"] ds
 O2:∃ds,Vals [.int 0] ds/\Binds K gB ["self","name","start","end","wide","every","since"] ds
 LY:∃ds,Vals [.int 0] ds/\Binds K fP ["self","rooms","doors","people","last","first"] ds
 fV:Addr
 GI:mg "Door" =some (.ref fV)
 g8:Addr
 XA:mg "Since" =some (.ref g8)
 gY:Addr
 XB:mg "Until" =some (.ref gY)
 kB:Addr
 aAz:mg "Beat" =some (.ref kB)
 j5:Addr
 aAB:mg "Told" =some (.ref j5)
 aL:Addr
 W9:mg "House" =some (.ref aL)
 rZ:DCls K fV
 XE:Mk K fV gA
 GM:Meth K fV "lets" qU
 zP:Meth K fV "is_exit" c8
 oU:DCls K g8
 SJ:Mk K g8 jB
 DJ:Meth K g8 "lets" o0
 xX:Meth K g8 "is_exit" c8
 pM:DCls K gY
 SG:Mk K gY i9
 DI:Meth K gY "lets" oS
 xY:Meth K gY "is_exit" c8
 r6:DCls K kB
 XC:Mk K kB kA
 GP:Meth K kB "lets" qX
 zR:Meth K kB "is_exit" c8
 r9:DCls K j5
 XD:Mk K j5 j6
 GQ:Meth K j5 "lets" qY
 zN:Meth K j5 "is_exit" c8
 aY:DCls K aL
 SI:Mk K aL i8
 BA:Meth K aL "rooms" l6
 A9:Meth K aL "doors" mB
 vG:Meth K aL "need_room" iI
 A5:Meth K aL "holds" l8
 A4:Meth K aL "found" mH
 DG:Meth K aL "into" pK
 vC:Meth K aL "from_room" iG
 DF:Meth K aL "door" oQ
 DK:Meth K aL "lets" pJ
 BB:Meth K aL "pairs" l9
 c7:PySem.W.specialIn K (.ref fV) "__getattribute__" =some (some (.builtin "type.__getattribute__"))/\PySem.W.readsIn K fV (.type "type")=true/\PySem.W.findCls K (.ref fV) (.type "type") "__init__" =some (.val (.ref gA))
 xU:mg "sorted" =none
 LX:mg "sum" =none
 TX:mg "any" =none
 hG:mg "range" =none
 O7:mg "dict" =none
 oY:mg "isinstance" =none
 TW:mg "int" =none
 aBo:mg "str" =none
 aBp:mg "all" =none
 O5:mg "list" =none
 hJ:mg "len" =none
 aAA:mg "bool" =none
 k6:∃t:Tok,mg "LONGEST_NAME" =some (.int 8 t)
theorem gl_ {G:Prop}(h:∀G':Prop,G'=G->G'):G:=h G rfl
set_option hygiene false
local macro_rules| `(tactic| walk_at"g1")=> `(tactic| (refine gl_ ?_;intro G_ hG_))
local macro_rules| `(tactic| walk_at"g2")=> `(tactic| subst hG_)
local macro_rules| `(tactic| walk_at"cx")=> `(tactic| try dsimp only[cxK,cxP,cxW,cxM,cxB])
set_option hygiene true
local macro_rules| `(tactic| walk_at"hp")=> `(tactic| first|assumption|(refine' Same.at ?s ?h;(case s=>assumption);(case h=>walk_at"hp"))|(refine' SqL.of ?h;(case h=>walk_at"hp"))|(refine' SqT.of ?h;(case h=>walk_at"hp"))|(refine' Same.seq ?s ?h;(case s=>assumption);(case h=>walk_at"hp"))|(refine' Same.sqT ?s ?h;(case s=>assumption);(case h=>walk_at"hp")))
local macro_rules| `(tactic| walk_at"sm")=> `(tactic| first|assumption|exact Same.refl _|(refine' Same.snoc ?s ?h;(case s=>assumption);(case h=>walk_at"sm")))
local macro_rules| `(tactic| walk_at"sb")=> `(tactic| first|assumption|exact SameBut.refl|(refine' SameBut.snoc ?s ?h;(case s=>assumption);(case h=>walk_at"sb"))|(refine' SameBut.snocS ?s ?h;(case s=>assumption);(case h=>walk_at"sb")))
local macro_rules| `(tactic| walk_at"lk")=> `(tactic| first|assumption|exact aAg|(with_reducible exact UQ)|(refine' aAD ?d ?h;(case d=>decide +kernel);(case h=>walk_at"lk")))
local macro_rules| `(tactic| walk_at"sz")=> `(tactic| first|with_reducible assumption|lia|omega|(simp only[eX,z6,RD,QM,Q5,QX,QO,QB,P9,R1,Q3,QN,KO,KD,LJ,LB,KP,JY,J0,sizeLine_eq,List.length_cons,List.length_nil,List.length_append,List.length_map];done)|(simp only[eX,z6,RD,QM,Q5,QX,QO,QB,P9,R1,Q3,QN,KO,KD,LJ,LB,KP,JY,J0,sizeLine_eq,List.length_cons,List.length_nil,List.length_append,List.length_map];omega)|(simp only[eX,z6,RD,QM,Q5,QX,QO,QB,P9,R1,Q3,QN,KO,KD,LJ,LB,KP,JY,J0,sizeLine_eq,List.length_cons,List.length_nil,List.length_append,List.length_map]at *;omega))
local macro_rules| `(tactic| walk_at"sd")=> `(tactic| first|with_reducible assumption|lia|omega|decide)
local macro_rules| `(tactic| walk_at"dc")=> `(tactic| first|((with_reducible refine ICls.cl (DCls.ic ?_));assumption)|((with_reducible refine DCls.ic ?_);assumption)|((with_reducible refine DCls.n_name ?_);assumption)|((with_reducible refine DCls.n_start ?_);assumption)|((with_reducible refine DCls.n_end ?_);assumption)|((with_reducible refine DCls.n_wide ?_);assumption)|((with_reducible refine DCls.n_since ?_);assumption)|((with_reducible refine DCls.n_until ?_);assumption)|((with_reducible refine DCls.n_every ?_);assumption)|((with_reducible refine DCls.n_letting ?_);assumption)|((with_reducible refine DCls.n_first ?_);assumption)|((with_reducible refine DCls.n_last ?_);assumption)|((with_reducible refine DCls.n_sizes ?_);assumption)|((with_reducible refine DCls.n_people ?_);assumption)|((with_reducible refine DCls.n_named_doors ?_);assumption))
local macro_rules| `(tactic| walk_at"rd1")=> `(tactic| first|(with_reducible first|refine YK ?_|refine X6 ?_|refine aBt ?_|refine aAI ?_|refine aA1 ?_|refine aAN ?_|refine aBk ?_|refine aAL ?_|refine aAQ ?_|refine aBh ?_|refine aAX ?_|refine aAO ?_|refine aA3 ?_|refine aAG ?_|refine Z8 ?_|refine X5 ?_|refine rd_v12 ?_|refine WI ?_|refine XI ?_|refine aA8 ?_|refine aBj ?_|refine UT ?_|refine aAM ?_|refine aAs ?_|refine V2 ?_|refine aA0 ?_|refine XY ?_|refine aAU ?_|refine L1 ?_|refine GF ?_|refine T0 ?_|refine WU ?_|refine rd_s0 ?_|refine aA2 ?_|refine aAF ?_|refine aAC ?_|refine aAP ?_|refine aAH ?_|refine aBe ?_|refine aAW ?_|refine aAS ?_|refine aAT ?_|refine YJ ?_|refine YT ?_|refine rd_s12 ?_|refine ZJ ?_|refine WF ?_|refine V5 ?_|refine rd_retN ?_|refine aAj ?_|refine XQ ?_|refine aAY ?_|refine rd_andV ?_|refine rd_orV ?_|refine rd_notV ?_|refine aAv ?_|refine RQ ?_|refine rd_un ?_|refine rd_U ?_|refine aAd ?_|refine rd_eqB ?_|refine ZW ?_|refine rd_eqSN ?_|refine U3 ?_|refine rd_eqNN ?_|refine Z2 ?_|refine rd_neB ?_|refine rd_neS ?_|refine rd_neNN ?_|refine rd_isNN ?_|refine rd_isNS ?_|refine rd_isNI ?_|refine rd_isNR ?_|refine VU ?_|refine U1 ?_|refine rd_ntNI ?_|refine rd_ntNR ?_|refine UW ?_|refine UR ?_|refine aAk ?_|refine ZS ?_|refine TY ?_|refine V0 ?_|refine V8 ?_|refine aAV ?_|refine aBa ?_|refine rd_bm0 ?_|refine rd_bmS ?_|refine rd_bm0I ?_|refine rd_isiII ?_|refine rd_isiIB ?_|refine rd_isiBB ?_|refine rd_isiBI ?_|refine rd_isiSS ?_|refine rd_isiNS ?_|refine rd_max2 ?_|refine rd_min2 ?_|refine UC ?_|refine rd_intI ?_|refine MJ ?_|refine WQ ?_|refine YX ?_|refine UK ?_|refine UP ?_|refine RA ?_|refine YI ?_|refine PK ?_|refine rd_iTup ?_|refine Q8 ?_|refine RY ?_|refine rd_iStr ?_|refine rd_iStrV ?_|refine rd_break ?_|refine rd_cont ?_|refine rd_aug ?_)|((with_reducible refine' Z9 ?s ?_);(case s=>decide))|((with_reducible refine' UD ?s ?_);(case s=>walk_at"sd");intro h0' h1')|((with_reducible refine' zU ?e ?a ?b ?s ?_);(case e=>walk_at"hp");(case a=>decide);(case b=>decide);(case s=>first|(simp;done)|(simp[sizeLine_eq];done)|walk_at"sz");intro p' H' n' S' e')|((with_reducible refine' X3 ?s ?r ?_);(case s=>walk_at"sd");(case r=>walk_at"sd"))|((with_reducible refine' WR ?s ?r ?_);(case s=>walk_at"sd");(case r=>walk_at"sd"))|((with_reducible refine' WP ?s ?r ?_);(case s=>walk_at"sd");(case r=>walk_at"sd"))|((with_reducible refine' V9 ?s ?_);(case s=>walk_at"sz");intro p' H' n' S' e')|((with_reducible refine' WY ?s ?_);(case s=>walk_at"sz");intro p' H' n' S' e')|((with_reducible refine V3 ?_);intro p' H' n' S' e')|((with_reducible refine' VG ?e ?c ?n ?l ?_);(case e=>walk_at"hp");(case c=>walk_at"dc");(case n=>walk_at"dc");(case l=>walk_at"lk"))|((with_reducible refine' PH ?e ?c ?n ?l ?_);(case e=>walk_at"hp");(case c=>walk_at"dc");(case n=>walk_at"dc");(case l=>kernel_rfl);intro H' B' e')|((with_reducible refine' aAw ?e ?l ?F ?_);(case e=>walk_at"hp");(case l=>walk_at"lk");(case F=>assumption))|((with_reducible refine' rd_isiC ?e ?i ?k ?_);(case e=>walk_at"hp");(case i=>walk_at"dc");(case k=>assumption))|((with_reducible refine' rd_ixL ?e ?l ?_);(case e=>walk_at"hp");(case l=>rfl))|((with_reducible refine' W1 ?e ?s ?r ?_);(case e=>walk_at"hp");(case s=>walk_at"sd");(case r=>walk_at"sd");intro v' hv')|((with_reducible refine' rd_ix3i ?e ?s ?r ?_);(case e=>walk_at"hp");(case s=>walk_at"sd");(case r=>walk_at"sd");intro v' hv')|((with_reducible refine' E9 ?e ?l ?_);(case e=>walk_at"hp");(case l=>rfl);intro H' B' e')|((with_reducible refine' US ?e ?_);(case e=>walk_at"hp"))|((with_reducible refine' UA ?e ?_);(case e=>walk_at"sz"))|((with_reducible refine' U2 ?e ?_);(case e=>walk_at"sz"))|((with_reducible refine' XH ?e ?_);(case e=>walk_at"sz");intro hl')|((with_reducible refine' YQ ?e ?_);(case e=>walk_at"hp");intro p' H' n' S' e')|((with_reducible refine' ME ?e ?_);(case e=>walk_at"hp");intro p' H' n' S' e')|((with_reducible refine' AI ?e ?f ?s ?_);(case e=>walk_at"hp");(case f=>walk_at"hp");(case s=>walk_at"sz");intro p' H' n' S' e')|((with_reducible refine' rd_listOf ?e ?_);(case e=>walk_at"hp");intro p' H' n' S' e')|((with_reducible refine' ZZ ?e ?_);(case e=>walk_at"hp"))|((with_reducible refine' BJ ?e ?_);(case e=>walk_at"hp"))|((with_reducible refine' M7 ?s ?r ?_);(case s=>walk_at"sd");(case r=>walk_at"sd"))|((with_reducible refine' N4 ?s ?r ?t ?u ?_);(case s=>walk_at"sd");(case r=>walk_at"sd");(case t=>walk_at"sd");(case u=>walk_at"sd"))|((with_reducible refine' rd_str ?s ?r ?_);(case s=>walk_at"sd");(case r=>walk_at"sd");intro hl')|((with_reducible refine' rd_gtupL ?e ?l ?_);(case e=>walk_at"hp");(case l=>rfl))|((with_reducible refine' WB ?e ?l ?_);(case e=>walk_at"hp");(case l=>rfl))|((with_reducible refine' rd_ifP ?s ?_);(case s=>walk_at"sd"))|((with_reducible refine' YL ?s ?_);(case s=>walk_at"sd"))|((with_reducible refine' UO ?s ?_);(case s=>walk_at"sd"))|((with_reducible refine' rd_ifnN ?s ?_);(case s=>walk_at"sd")))
local macro_rules| `(tactic| walk_at"go")=> `(tactic| repeat walk_at"rd1")
local macro_rules| `(tactic| walk_at"gs")=> `(tactic| repeat ((fail_if_success (with_reducible refine QS ?_));walk_at"rd1"))
local macro_rules| `(tactic| walk_at"nn")=> `(tactic| repeat first|exact nn_nil|refine nn_app ?_ ?_|refine nn_cons (by omega) ?_|exact nn_map (fun n=>by omega))
section
variable {P:Program}{w:World}{K:PySem.W.Frag}{mg:Str->Option Value}{base:Heap}
def YC:V->Bool
 | .int _=>true
 | _=>false
def wX (K:PySem.W.Frag):Sp:=fun vs H Q _=>∃x n,vs=[x]/\BTy K H x n/\Q (.bl (YC x)) H
theorem PV {H:Hp}{Q:VK}{E:XK}{i:Int} (h:Q (.bl true) H):wX K [.int i] H Q E:=⟨_,_,rfl,.int i,h⟩
theorem GW (m:M K mg):FnOk P w K mg base CX0 1 m.tY m.mT.d ["thing"] (wX K):=by
 refine m.mT.F.ok sc_is_whole (fun vs H Q E h=> ?_) (fun cdv A outer s H vs Q E hr h=> ?_)
 ·walk_at"g1";obtain⟨x,n,rfl,b,k⟩:=h;walk_at"g2";rfl
 ·walk_at"g1";obtain⟨x,n,rfl,b,k⟩:=h;walk_at"g2";have nd:=sc_is_whole.nd;walk_at"hu";refine⟨_,(aE (aT (L0 (bM xA rfl m.oY lU (aA (pv 0) (aA (JS rfl m.TW N3) aB))) (OY (ZA (bM xA rfl m.oY lU (aA (pv 0) (aA (JS rfl m.aAA WV) aB)))))))),?_⟩;refine aM (σ:=[some (x)]) rfl ?_;walk_at"cx";refine⟨_,rfl,_,_,_,_,_,rfl,b.ty,rfl,K3 b "int" (.inl rfl),_,rfl,?_⟩;refine zY (fun h1=>⟨_,rfl,_,_,_,_,_,rfl,b.ty,rfl,K3 b "bool" (.inr (.inl rfl)),_,rfl,?_⟩) (fun h1=> ?_)
  ·cases b<;>first|exact k|exact absurd h1 (by decide)
  ·cases b<;>first|exact k|exact absurd (by decide) h1
theorem HE (m:M K mg):Fc P w K mg base "is_whole" 1 ["thing"] (wX K):=⟨_,_,m.LU,m.mT.F.kp,m.mT.b,GW m⟩
def nmB:V->Bool
 | .str z=>aZ z
 | _=>false
def zX (K:PySem.W.Frag):Sp:=fun vs H Q _=>∃x n,vs=[x]/\BTy K H x n/\(∀z,x= .str z->z.length<=1000)/\∀H',Same H H'->Q (.bl (nmB x)) H'
theorem UM {H:Hp}{Q:VK}{E:XK}{z:Str} (hz:aZ z=true) (h:∀H',Same H H'->Q (.bl true) H'):zX K [.str z] H Q E :=
 ⟨_,_,rfl,.str z,fun y e=>by cases e;exact Nat.le_trans (NG hz) (by decide),fun H' s=>by rw[show nmB (.str z)=true from hz];exact h H' s⟩
theorem le1 (a c:Nat):(!decide ([c]<[a]))=decide (a<=c):=by
 have:([c]<[a])↔c<a:=by
  constructor
  ·intro h;cases h with
   | rel h=>exact h
   | cons h=>cases h
  ·exact fun h=> .rel h
 by_cases h:c<a
 ·rw[decide_eq_true (this.mpr h),decide_eq_false (by lia)];rfl
 ·rw[decide_eq_false (fun z=>h (this.mp z)),decide_eq_true (by lia)];rfl
theorem aAJ:("a" :Str).cps.toList=[97]:=by decide +kernel
theorem aAR:("z" :Str).cps.toList=[122]:=by decide +kernel
theorem BC {α:Type}(p:α->Bool)(d:α):∀l:List α,((List.range l.length).map fun i=>p (l.getD i d)).all id=l.all p
 | []=>rfl
 | a::l=>by
  rw[List.length_cons,List.range_succ_eq_map,List.map_cons,List.all_cons,List.map_map,List.all_cons,←BC p d l];rfl
theorem SA {H:Hp}{p:Addr}{o:HO} (h:H p=none):Same H (upd H p o):=fun b u e=>by rw[aJ (bE e h)];exact e
theorem J2 (m:M K mg):FnOk P w K mg base CX0 1 m.vH m.qF.d ["thing"] (zX K):=by
 refine m.qF.F.ok sc_is_name (fun vs H Q E h=> ?_) (fun cdv A outer s H vs Q E hr h=> ?_)
 ·walk_at"g1";obtain⟨x,n,rfl,b,hz,k⟩:=h;walk_at"g2";rfl
 ·walk_at"g1";obtain⟨x,n,rfl,b,hz,k⟩:=h;walk_at"g2";have nd:=sc_is_name.nd;walk_at"hu";obtain⟨tok_LONGEST_NAME,k6⟩:=m.k6;refine⟨_,(aC (cF (oN (iL (bM xA rfl m.oY lU (aA (pv 0) (aA (JS rfl m.aBo aAb) aB))))) (aE (aT vJ)) bP)
   (aE (aT (L0 (EM KW KW aF (bM BM rfl m.hJ fK (aA (pv 0) aB)) (WD rfl k6)) (OY (bM (PP rfl) rfl m.aBp YS (aA (bW (N:=["sign"]) (nl:=1) (ci:=[]) rfl (blk (s.heap.objs.size+1) rfl rfl rfl (by kernel_rfl)) (XR (pv 0)) (fun _ _ _ _=>(aK (i:=0) (show (["sign"]:List Str).Nodup by decide +kernel) rfl (by walk_at"oi"))) (fun _ _ _ _=>d0) (fun _ _ _ _=>(EM NS NS gO (pv 0) gO))) aB))))))),?_⟩
  refine aM (σ:=[some (x)]) rfl ?_;walk_at"cx";refine⟨_,rfl,_,_,_,_,_,rfl,b.ty,rfl,K3 b "str" (.inr (.inr rfl)),_,rfl,?_⟩;refine zY (fun h1=> ?_) (fun h1=> ?_)
  ·show Q (.bl false) H;cases b<;>first|exact k H (Same.refl H)|exact absurd h1 (by decide)
  ·have hs:∃z,x= .str z:=by
    cases b<;>first|exact⟨_,rfl⟩|exact absurd (by decide) h1
   obtain⟨z,rfl⟩:=hs;have hl:=hz z rfl;have hl':z.length<=sizeLine:=Nat.le_of_lt (OA hl);refine⟨_,rfl,z,rfl,hl',_,_,rfl,rfl,_,rfl,?_⟩;refine zY (fun h2=>⟨_,_,rfl,rfl,_,rfl,?_⟩) (fun h2=>⟨_,rfl,?_⟩)
   ·refine zY (fun h3=> ?_) (fun h3=> ?_)
    ·refine⟨_,rfl,z,rfl,?_⟩;refine VI z.cps.size (fun i=> .bl (sgB (z.cps.toList.getD i 0))) hl' (fun H'=>H'=H) rfl (fun _ _=>rfl) (fun i _ hi _=>hi) ?_ ?_ ?_ ?_ ?_
     ·rintro i _ x H' hi rfl hq_;walk_at"g1";obtain⟨rfl,c,hc,rfl⟩:=hq_;walk_at"g2";refine⟨⟨rfl,fun j v hv=> ?_⟩,rfl,?_⟩
      ·match j,hv with
       | 0,hv=>cases hv
       | j+1,hv=>cases hv
      ·have hc':z.cps.toList.getD i 0=c:=by
        rw[List.getD_eq_getElem?_getD,Array.getElem?_toList,hc];rfl
       refine⟨_,rfl,_,_,rfl,rfl,_,rfl,?_⟩;rw[aAJ,hc'];refine zY (fun h4=>⟨_,_,rfl,rfl,?_,rfl⟩) (fun h4=>⟨?_,rfl⟩)
       ·have h4':97<=c:=by rw[show (⟨#[c]⟩:Str).cps.toList=[c] from rfl,le1]at h4;exact of_decide_eq_true h4
        rw[aAR,show (⟨#[c]⟩:Str).cps.toList=[c] from rfl,le1];unfold sgB;rw[decide_eq_true h4',Bool.true_and]
       ·have h4':¬97<=c:=by rw[show (⟨#[c]⟩:Str).cps.toList=[c] from rfl,le1]at h4;exact fun z=>h4 (decide_eq_true z)
        unfold sgB;rw[decide_eq_false h4',Bool.false_and]
     ·exact fun _ _ _ _ f q=>f _ _ q
     ·rintro σ H Q Q' f hq_;walk_at"g1";obtain⟨v,e,i,j,e1,e2,k,e3,q⟩:=hq_;walk_at"g2";refine⟨v,e,i,j,e1,e2,k,e3,?_⟩;revert q
      split
      ·rintro hq_;walk_at"g1";obtain⟨i,j,e1,e2,q⟩:=hq_;walk_at"g2";exact⟨i,j,e1,e2,f _ _ q⟩
      ·exact fun q=>f _ _ q
     ·exact fun _ _ _ _ _ f q=>f _ _ q
     ·rintro _ rfl p hp;refine⟨p,(List.range z.cps.size).map (fun i=>sgB (z.cps.toList.getD i 0)),rfl,SqL.of ?_,?_⟩
      ·rw[aS,List.map_map];rfl
      ·have e:=BC sgB 0 z.cps.toList;rw[Array.length_toList]at e;rw[e];have e2:nmB (.str z)=z.cps.toList.all sgB:=by
        show aZ z=_;unfold aZ;rw[show decide (1<=(z.length:Int))=true from h2,show decide ((z.length:Int)<=8)=true from h3];rfl
       rw[←e2];exact k _ (SA hp)
    ·have e2:nmB (.str z)=false:=by
      show aZ z=_;unfold aZ;rw[show decide ((z.length:Int)<=8)=false from by simpa using h3];simp
     have:=k H (Same.refl H);rw[e2]at this;exact this
   ·have e2:nmB (.str z)=false:=by
     show aZ z=_;unfold aZ;rw[show decide (1<=(z.length:Int))=false from by simpa using h2];simp
    have:=k H (Same.refl H);rw[e2]at this;exact this
theorem J4 (m:M K mg):Fc P w K mg base "is_name" 1 ["thing"] (zX K):=⟨_,_,m.O8,m.qF.F.kp,m.qF.b,J2 m⟩
local macro_rules| `(tactic| walk_at"rd1")=> `(tactic| first|(with_reducible refine PV ?_)|((with_reducible refine' UM ?s ?_);(case s=>assumption);intro H' S'))
inductive jY (K:PySem.W.Frag)(vs:List V)(H:Hp)(Q:VK)(E:XK):Prop
 | mk (part z:Str) (_:vs=[.str part,.str z]) (_:aZ z=true) (_:∀H',Same H H'->Q .non H'):jY K vs H Q E
theorem GV {H:Hp}{Q:VK}{E:XK}{part z:Str} (hz:aZ z=true) (h:∀H',Same H H'->Q .non H'):jY K [.str part,.str z] H Q E:=⟨_,_,rfl,hz,h⟩
theorem GD (m:M K mg):FnOk P w K mg base CX0 2 m.qW m.lD.d ["part","thing"] (jY K):=by
 refine m.lD.F.ok sc_need_name (fun vs H Q E h=> ?_) (fun cdv A outer s H vs Q E hr h=> ?_)
 ·walk_at"g1";obtain⟨part,z,rfl,hz,k⟩:=h;walk_at"g2";rfl
 ·walk_at"g1";obtain⟨part,z,rfl,hz,k⟩:=h;walk_at"g2";have nd:=sc_need_name.nd;walk_at"hu";have F_is_name:= @J4 P w K mg base m;refine⟨_,(aE (cF (oN (iL (bK F_is_name hr (aA (pv 1) aB)))) (aE fN) bP)),?_⟩;refine aM (σ:=[some (.str part),some (.str z)]) rfl ?_;walk_at"cx";walk_at"go";exact k _ (by walk_at"sm")
theorem D4 (m:M K mg):Fc P w K mg base "need_name" 2 ["part","thing"] (jY K):=⟨_,_,m.HR,m.lD.F.kp,m.lD.b,GD m⟩
inductive iQ (K:PySem.W.Frag)(vs:List V)(H:Hp)(Q:VK)(E:XK):Prop
 | mk (part:Str) (i l:Int) (_:vs=[.str part,.int i,.int l]) (_:l<=i) (_:Q .non H):iQ K vs H Q E
theorem D1 {H:Hp}{Q:VK}{E:XK}{part:Str}{i l:Int} (hz:l<=i) (h:Q .non H):iQ K [.str part,.int i,.int l] H Q E:=⟨_,_,_,rfl,hz,h⟩
theorem CV (m:M K mg):FnOk P w K mg base CX0 2 m.o9 m.kF.d ["part","thing","least"] (iQ K):=by
 refine m.kF.F.ok sc_need_whole (fun vs H Q E h=> ?_) (fun cdv A outer s H vs Q E hr h=> ?_)
 ·walk_at"g1";obtain⟨part,i,l,rfl,hz,k⟩:=h;walk_at"g2";rfl
 ·walk_at"g1";obtain⟨part,i,l,rfl,hz,k⟩:=h;walk_at"g2";have nd:=sc_need_whole.nd;walk_at"hu";have F_is_whole:= @HE P w K mg base m;refine⟨_,(aE (cF (PW.pt (ST (oN (iL (bK F_is_whole hr (aA (pv 1) aB)))) (NH (bC mP (pv 1) (pv 2) (bH _))))) (aE fN) bP)),?_⟩;refine aM (σ:=[some (.str part),some (.int i),some (.int l)]) rfl ?_;walk_at"cx";walk_at"go";exact k
theorem iN (m:M K mg):Fc P w K mg base "need_whole" 2 ["part","thing","least"] (iQ K):=⟨_,_,m.GO,m.kF.F.kp,m.kF.b,CV m⟩
local macro_rules| `(tactic| walk_at"rd1")=> `(tactic| first|((with_reducible refine' GV ?s ?_);(case s=>assumption);intro H' S')|((with_reducible refine' D1 ?s ?_);(case s=>walk_at"sd")))
abbrev lJ (n s e w:V):List (Str×V):=cI "wide" w (cI "end" e (cI "start" s (cI "name" n [])))
def d5 (e:V):Prop:=e= .non∨∃z,e= .str z/\aZ z=true
inductive dD (K:PySem.W.Frag)(vs:List V)(H:Hp)(Q:VK)(E:XK):Prop
 | mk (p C dx:Addr) (n s:Str) (e:V) (wd:Int) (_:vs=[.ref p,.str n,.str s,e,.int wd]) (_:DCls K C) (_:H p=some (.ins C dx [])) (_:aZ n=true) (_:aZ s=true) (_:d5 e) (_:0<=wd) (_:∀H',SameBut p H H'->H' p=some (.ins C dx (lJ (.str n) (.str s) e (.int wd)))->Q .non H'):dD K vs H Q E
theorem wK {H:Hp}{Q:VK}{E:XK}{p C dx:Addr}{n s:Str}{e:V}{wd:Int} (dc:DCls K C) (hp:H p=some (.ins C dx [])) (hn:aZ n=true) (hs:aZ s=true) (he:d5 e) (hw:0<=wd)
  (k:∀H',SameBut p H H'->H' p=some (.ins C dx (lJ (.str n) (.str s) e (.int wd)))->Q .non H'):dD K [.ref p,.str n,.str s,e,.int wd] H Q E:=⟨_,_,_,_,_,_,_,rfl,dc,hp,hn,hs,he,hw,k⟩
theorem iW (m:M K mg):FnOk P w K mg base CX0 3 m.gA m.eV ["self","name","start","end","wide"] (dD K):=by
 refine m.kH.ok sc_Door___init__ (fun vs H Q E h=> ?_) (fun cdv A outer s H vs Q E hr h=> ?_)
 ·walk_at"g1";obtain⟨p,C,dx,n,st,e,wd,rfl,dc,hp,hn,hs,he,hw,k⟩:=h;walk_at"g2";rfl
 ·walk_at"g1";obtain⟨p,C,dx,n,st,e,wd,rfl,dc,hp,hn,hs,he,hw,k⟩:=h;walk_at"g2";have nd:=sc_Door___init__.nd;walk_at"hu";have F_need_name:= @D4 P w K mg base m;have F_need_whole:= @iN P w K mg base m;refine⟨_,(aC (bU (bK F_need_name hr (aA gO (aA (pv 1) aB))))
   (aC (bU (bK F_need_name hr (aA gO (aA (pv 2) aB))))
   (aC (cF (bC A1 (pv 3) oI (bH _)) (aE (bU (bK F_need_name hr (aA gO (aA (pv 3) aB))))) bP)
   (aC (bU (bK F_need_whole hr (aA gO (aA (pv 4) (aA aF aB)))))
   (aC (eJ (pv 0) (pv 1) rfl)
   (aC (eJ (pv 0) (pv 2) rfl)
   (aC (eJ (pv 0) (pv 3) rfl)
   (aE (eJ (pv 0) (pv 4) rfl))))))))),?_⟩
  refine aM (σ:=[some (.ref p),some (.str n),some (.str st),some (e),some (.int wd)]) rfl ?_;walk_at"cx";rcases he with rfl|⟨z,rfl,hz⟩
  ·walk_at"go";exact k _ (by walk_at"sb") (by assumption)
  ·walk_at"go";exact k _ (by walk_at"sb") (by assumption)
theorem N7 (m:M K mg):Kc P w K mg base "Door" m.fV 3 [] (dD K):=⟨_,_,_,_,m.GI,m.XE,.nil,m.qG,iW m⟩
theorem fY (m:M K mg):Dc P w K mg base "Door" "__init__" 3 (dD K):=⟨_,_,_,_,m.GI,m.c7.1,m.c7.2.1,m.c7.2.2,m.kH.kp,m.qG,iW m⟩
theorem qS (m:M K mg):DcD P w K mg base "Door" "__init__" 3 [.int 1] (dD K):=by
 obtain⟨ds,h1,h2⟩:=m.vF;exact⟨_,_,_,_,_,m.GI,m.c7.1,m.c7.2.1,m.c7.2.2,m.kH.kp,h1,h2,iW m⟩
theorem SE {H:Hp}{Q:VK}{E:XK}{C:Addr}{vs dvs:List V}{n s:Str}{e:V}{wd:Int} (ev:vs++dvs=[.str n,.str s,e,.int wd]) (dc:DCls K C) (hn:aZ n=true) (hs:aZ s=true) (he:d5 e) (hw:0<=wd)
  (k:∀p dx H',H p=none->Same H H'->H' p=some (.ins C dx (lJ (.str n) (.str s) e (.int wd)))->Q (.ref p) H'):p7 C (dD K) dvs E Q vs H :=
 nQ (fun p dx H0 Q' h k' s0=>by rw[ev];exact wK dc h hn hs he hw k') k
local macro_rules| `(tactic| walk_at"rd1")=> `(tactic| ((with_reducible refine' SE ?v ?d ?hn ?hs ?he ?hw ?_);(case v=>rfl);(case d=>assumption);(case hn=>assumption);(case hs=>assumption);(case he=>first|assumption|exact .inl rfl|exact .inr ⟨_,rfl,by assumption⟩);(case hw=>walk_at"sd");intro p' dx' H' n' S' e'))
inductive fG (K:PySem.W.Frag)(vs:List V)(H:Hp)(Q:VK)(E:XK):Prop
 | mk (p C dx:Addr) (fs:List (Str×V)) (e:V) (_:vs=[.ref p]) (_:DCls K C) (_:H p=some (.ins C dx fs)) (_:fs.lookup ("end" :Str)=some e) (_:Q (.bl (decide (e= .non))) H):fG K vs H Q E
theorem WC {H:Hp}{Q:VK}{E:XK}{p C dx:Addr}{fs:List (Str×V)} (hp:H p=some (.ins C dx fs)) (dc:DCls K C) (l:fs.lookup ("end" :Str)=some .non) (k:Q (.bl true) H):fG K [.ref p] H Q E:=⟨_,_,_,_,_,rfl,dc,hp,l,k⟩
theorem W3 {H:Hp}{Q:VK}{E:XK}{p C dx:Addr}{fs:List (Str×V)}{z:Str} (hp:H p=some (.ins C dx fs)) (dc:DCls K C) (l:fs.lookup ("end" :Str)=some (.str z)) (k:Q (.bl false) H):fG K [.ref p] H Q E :=
 ⟨_,_,_,_,_,rfl,dc,hp,l,by rw[decide_eq_false (fun z=>by cases z)];exact k⟩
theorem eM (m:M K mg):FnOk P w K mg base CX0 1 m.c8 m.c6.d ["self"] (fG K):=by
 refine m.c6.F.ok sc_Door_is_exit (fun vs H Q E h=> ?_) (fun cdv A outer s H vs Q E hr h=> ?_)
 ·walk_at"g1";obtain⟨p,C,dx,fs,e,rfl,dc,hp,l,k⟩:=h;walk_at"g2";rfl
 ·walk_at"g1";obtain⟨p,C,dx,fs,e,rfl,dc,hp,l,k⟩:=h;walk_at"g2";have nd:=sc_Door_is_exit.nd;walk_at"hu";refine⟨_,(aE (aT (nA OV (bA (pv 0) rfl) oI (bH _)))),?_⟩;refine aM (σ:=[some (.ref p)]) rfl ?_;walk_at"cx";walk_at"go";exact k
theorem yK (m:M K mg):Mc P w K mg base m.fV "is_exit" 1 (fG K):=⟨_,_,_,m.rZ.ic.cl,m.zP,m.c6.b,eM m⟩
theorem xH (m:M K mg):Mc P w K mg base m.g8 "is_exit" 1 (fG K):=⟨_,_,_,m.oU.ic.cl,m.xX,m.c6.b,eM m⟩
theorem xG (m:M K mg):Mc P w K mg base m.gY "is_exit" 1 (fG K):=⟨_,_,_,m.pM.ic.cl,m.xY,m.c6.b,eM m⟩
theorem yS (m:M K mg):Mc P w K mg base m.kB "is_exit" 1 (fG K):=⟨_,_,_,m.r6.ic.cl,m.zR,m.c6.b,eM m⟩
theorem yA (m:M K mg):Mc P w K mg base m.j5 "is_exit" 1 (fG K):=⟨_,_,_,m.r9.ic.cl,m.zN,m.c6.b,eM m⟩
local macro_rules| `(tactic| walk_at"rd1")=> `(tactic| first|((with_reducible refine' WC ?e ?d ?l ?_);(case e=>walk_at"hp");(case d=>assumption);(case l=>walk_at"lk"))|((with_reducible refine' W3 ?e ?d ?l ?_);(case e=>walk_at"hp");(case d=>assumption);(case l=>walk_at"lk")))
inductive jU (K:PySem.W.Frag)(vs:List V)(H:Hp)(Q:VK)(E:XK):Prop
 | mk (p C dx:Addr) (fs:List (Str×V)) (t wd:Int) (_:vs=[.ref p,.int t]) (_:DCls K C) (_:H p=some (.ins C dx fs)) (_:fs.lookup ("wide" :Str)=some (.int wd)) (_:Q (.int wd) H):jU K vs H Q E
theorem GY {H:Hp}{Q:VK}{E:XK}{p C dx:Addr}{fs:List (Str×V)}{t wd:Int} (hp:H p=some (.ins C dx fs)) (dc:DCls K C) (l:fs.lookup ("wide" :Str)=some (.int wd)) (k:Q (.int wd) H):jU K [.ref p,.int t] H Q E:=⟨_,_,_,_,_,_,rfl,dc,hp,l,k⟩
theorem EY (m:M K mg):FnOk P w K mg base CX0 1 m.qU m.qZ.d ["self","turn"] (jU K):=by
 refine m.qZ.F.ok sc_Door_lets (fun vs H Q E h=> ?_) (fun cdv A outer s H vs Q E hr h=> ?_)
 ·walk_at"g1";obtain⟨p,C,dx,fs,t,wd,rfl,dc,hp,l,k⟩:=h;walk_at"g2";rfl
 ·walk_at"g1";obtain⟨p,C,dx,fs,t,wd,rfl,dc,hp,l,k⟩:=h;walk_at"g2";have nd:=sc_Door_lets.nd;walk_at"hu";refine⟨_,(aE (aT (bA (pv 0) rfl))),?_⟩;refine aM (σ:=[some (.ref p),some (.int t)]) rfl ?_;walk_at"cx";walk_at"go";exact k
theorem EX (m:M K mg):Mc P w K mg base m.fV "lets" 1 (jU K):=⟨_,_,_,m.rZ.ic.cl,m.GM,m.qZ.b,EY m⟩
local macro_rules| `(tactic| walk_at"rd1")=> `(tactic| ((with_reducible refine' wK ?d ?e ?hn ?hs ?he ?hw ?_);(case d=>assumption);(case e=>walk_at"hp");(case hn=>assumption);(case hs=>assumption);(case he=>assumption);(case hw=>walk_at"sd");intro H' B' e'))
abbrev vY (n s e w i0:V):List (Str×V):=cI "since" i0 (lJ n s e w)
inductive fR (K:PySem.W.Frag)(vs:List V)(H:Hp)(Q:VK)(E:XK):Prop
 | mk (p C dx:Addr) (n s:Str) (e:V) (wd i0:Int) (_:vs=[.ref p,.str n,.str s,e,.int wd,.int i0]) (_:DCls K C) (_:H p=some (.ins C dx [])) (_:aZ n=true) (_:aZ s=true) (_:d5 e) (_:0<=wd) (_:0<=i0) (_:∀H',SameBut p H H'->H' p=some (.ins C dx (vY (.str n) (.str s) e (.int wd) (.int i0)))->Q .non H'):fR K vs H Q E
theorem FT {H:Hp}{Q:VK}{E:XK}{p C dx:Addr}{n s:Str}{e:V}{wd i0:Int} (dc:DCls K C) (hp:H p=some (.ins C dx [])) (hn:aZ n=true) (hs:aZ s=true) (he:d5 e) (hw:0<=wd) (b0:0<=i0)
  (k:∀H',SameBut p H H'->H' p=some (.ins C dx (vY (.str n) (.str s) e (.int wd) (.int i0)))->Q .non H'):fR K [.ref p,.str n,.str s,e,.int wd,.int i0] H Q E:=⟨_,_,_,_,_,_,_,_,rfl,dc,hp,hn,hs,he,hw,b0,k⟩
theorem v9 (m:M K mg):FnOk P w K mg base CX0 4 m.jB m.jA.d ["self","name","start","end","wide","since"] (fR K):=by
 refine m.jA.F.ok sc_Since___init__ (fun vs H Q E h=> ?_) (fun cdv A outer s H vs Q E hr h=> ?_)
 ·walk_at"g1";obtain⟨p,C,dx,n,st,e,wd,i0,rfl,dc,hp,hn,hs,he,hw,b0,k⟩:=h;walk_at"g2";rfl
 ·walk_at"g1";obtain⟨p,C,dx,n,st,e,wd,i0,rfl,dc,hp,hn,hs,he,hw,b0,k⟩:=h;walk_at"g2";have nd:=sc_Since___init__.nd;walk_at"hu";have D_Door___init__:= @fY P w K mg base m;have F_need_whole:= @iN P w K mg base m;refine⟨_,(aC (bU (KS D_Door___init__ hr (aA (pv 0) (aA (pv 1) (aA (pv 2) (aA (pv 3) (aA (pv 4) aB)))))))
   (aC (bU (bK F_need_whole hr (aA gO (aA (pv 5) (aA aF aB)))))
   (aE (eJ (pv 0) (pv 5) rfl)))),?_⟩
  refine aM (σ:=[some (.ref p),some (.str n),some (.str st),some (e),some (.int wd),some (.int i0)]) rfl ?_;walk_at"cx";walk_at"go";exact k _ (by walk_at"sb") (by assumption)
theorem JW (m:M K mg):Kc P w K mg base "Since" m.g8 4 [] (fR K):=⟨_,_,_,_,m.XA,m.SJ,.nil,m.jA.b,v9 m⟩
theorem NE {H:Hp}{Q:VK}{E:XK}{C:Addr}{vs dvs:List V}{n s:Str}{e:V}{wd i0:Int} (ev:vs++dvs=[.str n,.str s,e,.int wd,.int i0]) (dc:DCls K C) (hn:aZ n=true) (hs:aZ s=true) (he:d5 e) (hw:0<=wd) (b0:0<=i0)
  (k:∀p dx H',H p=none->Same H H'->H' p=some (.ins C dx (vY (.str n) (.str s) e (.int wd) (.int i0)))->Q (.ref p) H'):p7 C (fR K) dvs E Q vs H :=
 nQ (fun p dx H0 Q' h k' s0=>by rw[ev];exact FT dc h hn hs he hw b0 k') k
local macro_rules| `(tactic| walk_at"rd1")=> `(tactic| ((with_reducible refine' NE ?v ?d ?hn ?hs ?he ?hw ?b0 ?_);(case v=>rfl);(case d=>assumption);(case hn=>assumption);(case hs=>assumption);(case he=>first|assumption|exact .inl rfl|exact .inr ⟨_,rfl,by assumption⟩);(case hw=>walk_at"sd");(case b0=>walk_at"sd");intro p' dx' H' n' S' e'))
def rV (wd i0 t:Int):Int:=if i0<=t then wd else 0
inductive iP (K:PySem.W.Frag)(vs:List V)(H:Hp)(Q:VK)(E:XK):Prop
 | mk (p C dx:Addr) (fs:List (Str×V)) (t wd i0:Int) (_:vs=[.ref p,.int t]) (_:DCls K C) (_:H p=some (.ins C dx fs)) (_:fs.lookup ("wide" :Str)=some (.int wd)) (_:fs.lookup ("since" :Str)=some (.int i0)) (_:0<=t) (_:0<=i0) (_:Q (.int (rV wd i0 t)) H):iP K vs H Q E
theorem u3 {H:Hp}{Q:VK}{E:XK}{p C dx:Addr}{fs:List (Str×V)}{t wd i0:Int} (hp:H p=some (.ins C dx fs)) (dc:DCls K C) (l:fs.lookup ("wide" :Str)=some (.int wd)) (m0:fs.lookup ("since" :Str)=some (.int i0)) (ht:0<=t) (b0:0<=i0) (k:Q (.int (rV wd i0 t)) H):iP K [.ref p,.int t] H Q E:=⟨_,_,_,_,_,_,_,rfl,dc,hp,l,m0,ht,b0,k⟩
theorem C1 (m:M K mg):FnOk P w K mg base CX0 1 m.o0 m.oZ.d ["self","turn"] (iP K):=by
 refine m.oZ.F.ok sc_Since_lets (fun vs H Q E h=> ?_) (fun cdv A outer s H vs Q E hr h=> ?_)
 ·walk_at"g1";obtain⟨p,C,dx,fs,t,wd,i0,rfl,dc,hp,l,m0,ht,b0,k⟩:=h;walk_at"g2";rfl
 ·walk_at"g1";obtain⟨p,C,dx,fs,t,wd,i0,rfl,dc,hp,l,m0,ht,b0,k⟩:=h;walk_at"g2";have nd:=sc_Since_lets.nd;walk_at"hu";refine⟨_,(aE (aT (wW (bC JU (pv 1) (bA (pv 0) rfl) (bH _)) (bA (pv 0) rfl) aF))),?_⟩;refine aM (σ:=[some (.ref p),some (.int t)]) rfl ?_;walk_at"cx";unfold rV at k;walk_at"go";refine cN (fun hw=> ?_) (fun hw=> ?_)
  ·walk_at"go";rw[if_pos hw]at k;exact k
  ·walk_at"go";rw[if_neg hw]at k;exact k
theorem C3 (m:M K mg):Mc P w K mg base m.g8 "lets" 1 (iP K):=⟨_,_,_,m.oU.ic.cl,m.DJ,m.oZ.b,C1 m⟩
local macro_rules| `(tactic| walk_at"rd1")=> `(tactic| ((with_reducible refine' u3 ?e ?d ?l ?m0 ?ht ?b0 ?_);(case e=>walk_at"hp");(case d=>assumption);(case l=>walk_at"lk");(case m0=>walk_at"lk");(case ht=>walk_at"sd");(case b0=>walk_at"sd")))
abbrev v3 (n s e w i0:V):List (Str×V):=cI "until" i0 (lJ n s e w)
inductive fU (K:PySem.W.Frag)(vs:List V)(H:Hp)(Q:VK)(E:XK):Prop
 | mk (p C dx:Addr) (n s:Str) (e:V) (wd i0:Int) (_:vs=[.ref p,.str n,.str s,e,.int wd,.int i0]) (_:DCls K C) (_:H p=some (.ins C dx [])) (_:aZ n=true) (_:aZ s=true) (_:d5 e) (_:0<=wd) (_:0<=i0) (_:∀H',SameBut p H H'->H' p=some (.ins C dx (v3 (.str n) (.str s) e (.int wd) (.int i0)))->Q .non H'):fU K vs H Q E
theorem D3 {H:Hp}{Q:VK}{E:XK}{p C dx:Addr}{n s:Str}{e:V}{wd i0:Int} (dc:DCls K C) (hp:H p=some (.ins C dx [])) (hn:aZ n=true) (hs:aZ s=true) (he:d5 e) (hw:0<=wd) (b0:0<=i0)
  (k:∀H',SameBut p H H'->H' p=some (.ins C dx (v3 (.str n) (.str s) e (.int wd) (.int i0)))->Q .non H'):fU K [.ref p,.str n,.str s,e,.int wd,.int i0] H Q E:=⟨_,_,_,_,_,_,_,_,rfl,dc,hp,hn,hs,he,hw,b0,k⟩
theorem wD (m:M K mg):FnOk P w K mg base CX0 4 m.i9 m.i7.d ["self","name","start","end","wide","until"] (fU K):=by
 refine m.i7.F.ok sc_Until___init__ (fun vs H Q E h=> ?_) (fun cdv A outer s H vs Q E hr h=> ?_)
 ·walk_at"g1";obtain⟨p,C,dx,n,st,e,wd,i0,rfl,dc,hp,hn,hs,he,hw,b0,k⟩:=h;walk_at"g2";rfl
 ·walk_at"g1";obtain⟨p,C,dx,n,st,e,wd,i0,rfl,dc,hp,hn,hs,he,hw,b0,k⟩:=h;walk_at"g2";have nd:=sc_Until___init__.nd;walk_at"hu";have D_Door___init__:= @fY P w K mg base m;have F_need_whole:= @iN P w K mg base m;refine⟨_,(aC (bU (KS D_Door___init__ hr (aA (pv 0) (aA (pv 1) (aA (pv 2) (aA (pv 3) (aA (pv 4) aB)))))))
   (aC (bU (bK F_need_whole hr (aA gO (aA (pv 5) (aA aF aB)))))
   (aE (eJ (pv 0) (pv 5) rfl)))),?_⟩
  refine aM (σ:=[some (.ref p),some (.str n),some (.str st),some (e),some (.int wd),some (.int i0)]) rfl ?_;walk_at"cx";walk_at"go";exact k _ (by walk_at"sb") (by assumption)
theorem LQ (m:M K mg):Kc P w K mg base "Until" m.gY 4 [] (fU K):=⟨_,_,_,_,m.XB,m.SG,.nil,m.i7.b,wD m⟩
theorem MR {H:Hp}{Q:VK}{E:XK}{C:Addr}{vs dvs:List V}{n s:Str}{e:V}{wd i0:Int} (ev:vs++dvs=[.str n,.str s,e,.int wd,.int i0]) (dc:DCls K C) (hn:aZ n=true) (hs:aZ s=true) (he:d5 e) (hw:0<=wd) (b0:0<=i0)
  (k:∀p dx H',H p=none->Same H H'->H' p=some (.ins C dx (v3 (.str n) (.str s) e (.int wd) (.int i0)))->Q (.ref p) H'):p7 C (fU K) dvs E Q vs H :=
 nQ (fun p dx H0 Q' h k' s0=>by rw[ev];exact D3 dc h hn hs he hw b0 k') k
local macro_rules| `(tactic| walk_at"rd1")=> `(tactic| ((with_reducible refine' MR ?v ?d ?hn ?hs ?he ?hw ?b0 ?_);(case v=>rfl);(case d=>assumption);(case hn=>assumption);(case hs=>assumption);(case he=>first|assumption|exact .inl rfl|exact .inr ⟨_,rfl,by assumption⟩);(case hw=>walk_at"sd");(case b0=>walk_at"sd");intro p' dx' H' n' S' e'))
def rN (wd i0 t:Int):Int:=if t<i0 then wd else 0
inductive iR (K:PySem.W.Frag)(vs:List V)(H:Hp)(Q:VK)(E:XK):Prop
 | mk (p C dx:Addr) (fs:List (Str×V)) (t wd i0:Int) (_:vs=[.ref p,.int t]) (_:DCls K C) (_:H p=some (.ins C dx fs)) (_:fs.lookup ("wide" :Str)=some (.int wd)) (_:fs.lookup ("until" :Str)=some (.int i0)) (_:0<=t) (_:0<=i0) (_:Q (.int (rN wd i0 t)) H):iR K vs H Q E
theorem u9 {H:Hp}{Q:VK}{E:XK}{p C dx:Addr}{fs:List (Str×V)}{t wd i0:Int} (hp:H p=some (.ins C dx fs)) (dc:DCls K C) (l:fs.lookup ("wide" :Str)=some (.int wd)) (m0:fs.lookup ("until" :Str)=some (.int i0)) (ht:0<=t) (b0:0<=i0) (k:Q (.int (rN wd i0 t)) H):iR K [.ref p,.int t] H Q E:=⟨_,_,_,_,_,_,_,rfl,dc,hp,l,m0,ht,b0,k⟩
theorem CP (m:M K mg):FnOk P w K mg base CX0 1 m.oS m.o6.d ["self","turn"] (iR K):=by
 refine m.o6.F.ok sc_Until_lets (fun vs H Q E h=> ?_) (fun cdv A outer s H vs Q E hr h=> ?_)
 ·walk_at"g1";obtain⟨p,C,dx,fs,t,wd,i0,rfl,dc,hp,l,m0,ht,b0,k⟩:=h;walk_at"g2";rfl
 ·walk_at"g1";obtain⟨p,C,dx,fs,t,wd,i0,rfl,dc,hp,l,m0,ht,b0,k⟩:=h;walk_at"g2";have nd:=sc_Until_lets.nd;walk_at"hu";refine⟨_,(aE (aT (wW (bC mP (pv 1) (bA (pv 0) rfl) (bH _)) (bA (pv 0) rfl) aF))),?_⟩;refine aM (σ:=[some (.ref p),some (.int t)]) rfl ?_;walk_at"cx";unfold rN at k;walk_at"go";refine cN (fun hw=> ?_) (fun hw=> ?_)
  ·walk_at"go";rw[if_pos hw]at k;exact k
  ·walk_at"go";rw[if_neg hw]at k;exact k
theorem DA (m:M K mg):Mc P w K mg base m.gY "lets" 1 (iR K):=⟨_,_,_,m.pM.ic.cl,m.DI,m.o6.b,CP m⟩
local macro_rules| `(tactic| walk_at"rd1")=> `(tactic| ((with_reducible refine' u9 ?e ?d ?l ?m0 ?ht ?b0 ?_);(case e=>walk_at"hp");(case d=>assumption);(case l=>walk_at"lk");(case m0=>walk_at"lk");(case ht=>walk_at"sd");(case b0=>walk_at"sd")))
abbrev yH (n s e w i0 i1:V):List (Str×V):=cI "since" i1 (cI "every" i0 (lJ n s e w))
inductive gN (K:PySem.W.Frag)(vs:List V)(H:Hp)(Q:VK)(E:XK):Prop
 | mk (p C dx:Addr) (n s:Str) (e:V) (wd i0 i1:Int) (_:vs=[.ref p,.str n,.str s,e,.int wd,.int i0,.int i1]) (_:DCls K C) (_:H p=some (.ins C dx [])) (_:aZ n=true) (_:aZ s=true) (_:d5 e) (_:0<=wd) (_:1<=i0) (_:0<=i1) (_:∀H',SameBut p H H'->H' p=some (.ins C dx (yH (.str n) (.str s) e (.int wd) (.int i0) (.int i1)))->Q .non H'):gN K vs H Q E
theorem HA {H:Hp}{Q:VK}{E:XK}{p C dx:Addr}{n s:Str}{e:V}{wd i0 i1:Int} (dc:DCls K C) (hp:H p=some (.ins C dx [])) (hn:aZ n=true) (hs:aZ s=true) (he:d5 e) (hw:0<=wd) (b0:1<=i0) (b1:0<=i1)
  (k:∀H',SameBut p H H'->H' p=some (.ins C dx (yH (.str n) (.str s) e (.int wd) (.int i0) (.int i1)))->Q .non H'):gN K [.ref p,.str n,.str s,e,.int wd,.int i0,.int i1] H Q E:=⟨_,_,_,_,_,_,_,_,_,rfl,dc,hp,hn,hs,he,hw,b0,b1,k⟩
theorem xK (m:M K mg):FnOk P w K mg base CX0 4 m.kA m.gB ["self","name","start","end","wide","every","since"] (gN K):=by
 refine m.zQ.ok sc_Beat___init__ (fun vs H Q E h=> ?_) (fun cdv A outer s H vs Q E hr h=> ?_)
 ·walk_at"g1";obtain⟨p,C,dx,n,st,e,wd,i0,i1,rfl,dc,hp,hn,hs,he,hw,b0,b1,k⟩:=h;walk_at"g2";rfl
 ·walk_at"g1";obtain⟨p,C,dx,n,st,e,wd,i0,i1,rfl,dc,hp,hn,hs,he,hw,b0,b1,k⟩:=h;walk_at"g2";have nd:=sc_Beat___init__.nd;walk_at"hu";have D_Door___init__:= @fY P w K mg base m;have F_need_whole:= @iN P w K mg base m;refine⟨_,(aC (bU (KS D_Door___init__ hr (aA (pv 0) (aA (pv 1) (aA (pv 2) (aA (pv 3) (aA (pv 4) aB)))))))
   (aC (bU (bK F_need_whole hr (aA gO (aA (pv 5) (aA aF aB)))))
   (aC (bU (bK F_need_whole hr (aA gO (aA (pv 6) (aA aF aB)))))
   (aC (eJ (pv 0) (pv 5) rfl)
   (aE (eJ (pv 0) (pv 6) rfl)))))),?_⟩
  refine aM (σ:=[some (.ref p),some (.str n),some (.str st),some (e),some (.int wd),some (.int i0),some (.int i1)]) rfl ?_;walk_at"cx";walk_at"go";exact k _ (by walk_at"sb") (by assumption)
theorem N6 (m:M K mg):Kc P w K mg base "Beat" m.kB 4 [] (gN K):=⟨_,_,_,_,m.aAz,m.XC,.nil,m.zS,xK m⟩
theorem QV {H:Hp}{Q:VK}{E:XK}{C:Addr}{vs dvs:List V}{n s:Str}{e:V}{wd i0 i1:Int} (ev:vs++dvs=[.str n,.str s,e,.int wd,.int i0,.int i1]) (dc:DCls K C) (hn:aZ n=true) (hs:aZ s=true) (he:d5 e) (hw:0<=wd) (b0:1<=i0) (b1:0<=i1)
  (k:∀p dx H',H p=none->Same H H'->H' p=some (.ins C dx (yH (.str n) (.str s) e (.int wd) (.int i0) (.int i1)))->Q (.ref p) H'):p7 C (gN K) dvs E Q vs H :=
 nQ (fun p dx H0 Q' h k' s0=>by rw[ev];exact HA dc h hn hs he hw b0 b1 k') k
local macro_rules| `(tactic| walk_at"rd1")=> `(tactic| ((with_reducible refine' QV ?v ?d ?hn ?hs ?he ?hw ?b0 ?b1 ?_);(case v=>rfl);(case d=>assumption);(case hn=>assumption);(case hs=>assumption);(case he=>first|assumption|exact .inl rfl|exact .inr ⟨_,rfl,by assumption⟩);(case hw=>walk_at"sd");(case b0=>walk_at"sd");(case b1=>walk_at"sd");intro p' dx' H' n' S' e'))
def vO (wd i0 i1 t:Int):Int:=if 0<=t - i1/\(t - i1)%i0=0 then wd else 0
inductive jP (K:PySem.W.Frag)(vs:List V)(H:Hp)(Q:VK)(E:XK):Prop
 | mk (p C dx:Addr) (fs:List (Str×V)) (t wd i0 i1:Int) (_:vs=[.ref p,.int t]) (_:DCls K C) (_:H p=some (.ins C dx fs)) (_:fs.lookup ("wide" :Str)=some (.int wd)) (_:fs.lookup ("every" :Str)=some (.int i0)) (_:fs.lookup ("since" :Str)=some (.int i1)) (_:0<=t) (_:1<=i0) (_:0<=i1) (_:Q (.int (vO wd i0 i1 t)) H):jP K vs H Q E
theorem wM {H:Hp}{Q:VK}{E:XK}{p C dx:Addr}{fs:List (Str×V)}{t wd i0 i1:Int} (hp:H p=some (.ins C dx fs)) (dc:DCls K C) (l:fs.lookup ("wide" :Str)=some (.int wd)) (m0:fs.lookup ("every" :Str)=some (.int i0)) (m1:fs.lookup ("since" :Str)=some (.int i1)) (ht:0<=t) (b0:1<=i0) (b1:0<=i1) (k:Q (.int (vO wd i0 i1 t)) H):jP K [.ref p,.int t] H Q E:=⟨_,_,_,_,_,_,_,_,rfl,dc,hp,l,m0,m1,ht,b0,b1,k⟩
theorem GE (m:M K mg):FnOk P w K mg base CX0 1 m.qX m.rB.d ["self","turn"] (jP K):=by
 refine m.rB.F.ok sc_Beat_lets (fun vs H Q E h=> ?_) (fun cdv A outer s H vs Q E hr h=> ?_)
 ·walk_at"g1";obtain⟨p,C,dx,fs,t,wd,i0,i1,rfl,dc,hp,l,m0,m1,ht,b0,b1,k⟩:=h;walk_at"g2";rfl
 ·walk_at"g1";obtain⟨p,C,dx,fs,t,wd,i0,i1,rfl,dc,hp,l,m0,m1,ht,b0,b1,k⟩:=h;walk_at"g2";have nd:=sc_Beat_lets.nd;walk_at"hu";refine⟨_,(aC (aQ (i:=2) nd rfl (by walk_at"oi") (aI jW (pv 1) (bA (pv 0) rfl)))
   (aE (aT (wW (PW.pt (uV (bC JU (pv 2) aF (bH _)) (rT (bC gU (aI bN (pv 2) (bA (pv 0) rfl)) aF (bH _))))) (bA (pv 0) rfl) aF)))),?_⟩
  refine aM (σ:=[some (.ref p),some (.int t),none]) rfl ?_;walk_at"cx";unfold vO at k;walk_at"go";refine cN (fun hw=> ?_) (fun hw=> ?_)
  ·walk_at"go";refine cN (fun hv=> ?_) (fun hv=> ?_)
   ·walk_at"go";rw[if_pos ⟨hw,hv⟩]at k;exact k
   ·walk_at"go";rw[if_neg (fun z=>hv z.2)]at k;exact k
  ·walk_at"go";rw[if_neg (fun z=>hw z.1)]at k;exact k
theorem FQ (m:M K mg):Mc P w K mg base m.kB "lets" 1 (jP K):=⟨_,_,_,m.r6.ic.cl,m.GP,m.rB.b,GE m⟩
local macro_rules| `(tactic| walk_at"rd1")=> `(tactic| ((with_reducible refine' wM ?e ?d ?l ?m0 ?m1 ?ht ?b0 ?b1 ?_);(case e=>walk_at"hp");(case d=>assumption);(case l=>walk_at"lk");(case m0=>walk_at"lk");(case m1=>walk_at"lk");(case ht=>walk_at"sd");(case b0=>walk_at"sd");(case b1=>walk_at"sd")))
abbrev aD:=Str×Str×V×(Int->Int)
def KF:HO->Prop
 | .lst _=>True
 | .dK _=>True
 | .dT _=>True
 | .tbl _=>True
 | .ins _ _ fs=>fs=[]
 | _=>False
structure bD where
 at':Hp->V->aD->Prop
 same:∀{H H' v d},at' H v d->Same H H'->at' H' v d
 but:∀{H H' v d p o},at' H v d->H p=some o->KF o->SameBut p H H'->at' H' v d
def SK (P:Program)(w:World)(K:PySem.W.Frag)(mg:Str->Option Value)(base:Heap)(kL:Option Nat)(p C dx:Addr)(fs:List (Str×V))(fp:List (Addr×HO))(lt:Int->Int):Prop:=∀kl,kL=some kl →
 ∃sp,Mc P w K mg base C "lets" kl sp/\∀(H':Hp) (t:Int) (Q:VK),H' p=some (.ins C dx fs)->(∀x∈fp,H' x.1=some x.2)->0<=t->(∀H'',Same H' H''->Q (.int (lt t)) H'')->sp [.ref p,.int t] H' Q E0
inductive DoorAt (P:Program)(w:World)(K:PySem.W.Frag)(mg:Str->Option Value)(base:Heap)(kL:Option Nat)(H:Hp)(v:V)(d:aD):Prop
 | mk (p C dx:Addr) (fs:List (Str×V)) (fp:List (Addr×HO)) (_:v= .ref p) (_:H p=some (.ins C dx fs)) (_:DCls K C) (_:fs.lookup ("name" :Str)=some (.str d.1)) (_:fs.lookup ("start" :Str)=some (.str d.2.1)) (_:fs.lookup ("end" :Str)=some d.2.2.1) (_:fs.lookup ("is_exit" :Str)=none) (_:fs.lookup ("lets" :Str)=none) (_:Mc P w K mg base C "is_exit" 1 (fG K)) (_:∀x∈fp,H x.1=some x.2/\¬KF x.2) (_:SK P w K mg base kL p C dx fs fp d.2.2.2):DoorAt P w K mg base kL H v d
inductive SL (P:Program)(w:World)(K:PySem.W.Frag)(mg:Str->Option Value)(base:Heap)(kL:Option Nat)(H:Hp)(v:V)(n st:Str)(e:V)(lt:Int->Int):Prop
 | mk (p C dx:Addr) (fs:List (Str×V)) (fp:List (Addr×HO)) (_:v= .ref p) (_:H p=some (.ins C dx fs)) (_:DCls K C) (_:fs.lookup ("name" :Str)=some (.str n)) (_:fs.lookup ("start" :Str)=some (.str st)) (_:fs.lookup ("end" :Str)=some e) (_:fs.lookup ("is_exit" :Str)=none) (_:fs.lookup ("lets" :Str)=none) (_:Mc P w K mg base C "is_exit" 1 (fG K)) (_:∀x∈fp,H x.1=some x.2/\¬KF x.2) (_:SK P w K mg base kL p C dx fs fp lt):SL P w K mg base kL H v n st e lt
theorem DoorAt.ex {kL:Option Nat}{H:Hp}{v:V}{n st:Str}{e:V}{lt:Int->Int} (h:DoorAt P w K mg base kL H v (n,st,e,lt)):SL P w K mg base kL H v n st e lt:=by
 walk_at"g1";obtain⟨p,C,dx,fs,fp,h1,h2,h3,h4,h5,h6,h7,h8,h9,h10,h11⟩:=h;walk_at"g2";exact⟨p,C,dx,fs,fp,h1,h2,h3,h4,h5,h6,h7,h8,h9,h10,h11⟩
def aO (P:Program)(w:World)(K:PySem.W.Frag)(mg:Str->Option Value)(base:Heap)(kL:Option Nat):bD where
 at':=DoorAt P w K mg base kL
 same:=fun⟨p,C,dx,fs,fp,e,hp,dc,l1,l2,l3,l4,l5,mc,hf,lt⟩ s=>⟨p,C,dx,fs,fp,e,s _ _ hp,dc,l1,l2,l3,l4,l5,mc,fun x hx=>⟨s _ _ (hf x hx).1,(hf x hx).2⟩,lt⟩
 but:=fun {H H' v d q o} ⟨p,C,dx,fs,fp,e,hp,dc,l1,l2,l3,l4,l5,mc,hf,lt⟩ ho so sb=>⟨p,C,dx,fs,fp,e,sb _ _ hp (fun z=>by
   rw[z,ho]at hp;cases hp;have h:fs=[]:=so;rw[h]at l1;cases l1),dc,l1,l2,l3,l4,l5,mc,fun x hx=>⟨sb _ _ (hf x hx).1 (fun z=>by
   have h:=(hf x hx).1;rw[z,ho]at h;cases h;exact(hf x hx).2 so),(hf x hx).2⟩,lt⟩
local macro_rules| `(tactic| walk_at"rd1")=> `(tactic| first|(with_reducible refine W2 ?_)|(with_reducible refine VW ?_)|(with_reducible refine X0 ?_)|(with_reducible refine M6 ?_)|(with_reducible refine OI ?_)|(with_reducible refine LN ?_)|(with_reducible refine J9 ?_)|(with_reducible refine P4 ?_)|((with_reducible refine QQ ?_);intro p' H' n' S' e')|((with_reducible refine Q1 ?_);intro p' H' n' S' e'))
theorem jH {H:Hp}{Q:VK}{l:Addr}{xs:List V}{y:V} (e:H l=some (.lst xs)) (hz:xs.length<sizeLine) (h:∀H',SameBut l H H'->H' l=some (.lst (xs++[y]))->Q .non H'):IG (.ref l) [y] H Q :=
 ⟨l,xs,y,rfl,rfl,e,hz,h _ SameBut.upd aS⟩
inductive sW (vs:List V)(H:Hp)(Q:VK)(E:XK):Prop
 | mk (f l:Int) (_:vs=[.int f,.int l]) (_:0<=f) (_:f<=l) (_:Q .non H):sW vs H Q E
theorem VS {H:Hp}{Q:VK}{E:XK}{f l:Int} (h0:0<=f) (h1:f<=l) (h:Q .non H):sW [.int f,.int l] H Q E:=⟨_,_,rfl,h0,h1,h⟩
theorem C6 (m:M K mg):FnOk P w K mg base CX0 1 m.oT m.kC.d ["first","last"] (sW):=by
 refine m.kC.F.ok sc_need_turns (fun vs H Q E h=> ?_) (fun cdv A outer s H vs Q E hr h=> ?_)
 ·walk_at"g1";obtain⟨f,l,rfl,h0,h1,k⟩:=h;walk_at"g2";rfl
 ·walk_at"g1";obtain⟨f,l,rfl,h0,h1,k⟩:=h;walk_at"g2";have nd:=sc_need_turns.nd;walk_at"hu";refine⟨_,(aC (cF (bC mP (pv 0) aF (bH _)) (aE fN) bP)
   (aE (cF (bC mP (pv 1) (pv 0) (bH _)) (aE fN) bP))),?_⟩
  refine aM (σ:=[some (.int f),some (.int l)]) rfl ?_;walk_at"cx";walk_at"go";exact k
theorem CN (m:M K mg):Fc P w K mg base "need_turns" 1 ["first","last"] (sW):=⟨_,_,m.GH,m.kC.F.kp,m.kC.b,C6 m⟩
inductive vL (K:PySem.W.Frag)(vs:List V)(H:Hp)(Q:VK)(E:XK):Prop
 | mk (a:Addr) (ss:List Str) (_:vs=[.ref a]) (_:SqL K H a (ss.map V.str)) (_:ss.Nodup) (_:ss.length<=100) (_:∀H',Same H H'->Q .non H'):vL K vs H Q E
theorem ND {H:Hp}{Q:VK}{E:XK}{a:Addr}{ss:List Str} (hS:SqL K H a (ss.map V.str)) (nd:ss.Nodup) (hl:ss.length<=100) (h:∀H',Same H H'->Q .non H'):vL K [.ref a] H Q E:=⟨_,_,rfl,hS,nd,hl,h⟩
theorem gR {α:Type}{ss:List α} (nd:ss.Nodup) {i:Nat}{z:α} (hz:ss[i]? =some z):z∉ss.take i:=fun h=>by
 obtain⟨hi,e⟩:=List.getElem?_eq_some_iff.mp hz;obtain⟨j,hj,ej⟩:=List.getElem_of_mem h;rw[List.length_take]at hj;rw[List.getElem_take]at ej;exact(List.pairwise_iff_getElem.mp nd) j i (by lia) hi (by lia) (ej.trans e.symm)
theorem bF {α:Type}{ss:List α}{i:Nat}{z:α} (hz:ss[i]? =some z):ss.take (i+1)=ss.take i++[z]:=by rw[List.take_succ,hz];rfl
theorem wC (m:M K mg):FnOk P w K mg base CX0 1 m.i6 m.fO.d ["names"] (vL K):=by
 refine m.fO.F.ok sc_need_each_once (fun vs H Q E h=> ?_) (fun cdv A outer s H vs Q E hr h=> ?_)
 ·walk_at"g1";obtain⟨a,ss,rfl,hS,hnd,hlen,k⟩:=h;walk_at"g2";rfl
 ·walk_at"g1";obtain⟨a,ss,rfl,hS,hnd,hlen,k⟩:=h;walk_at"g2";have nd:=sc_need_each_once.nd;walk_at"hu";refine⟨_,(aC (aQ (i:=1) nd rfl (by walk_at"oi") k3)
   (aE (cG PassesOwn.never rfl (bI (pv 0)) (aK (i:=2) nd rfl (by walk_at"oi")) (aC (cF (F5 (ZT hu1 (pv 2) (pv 1)) (by with_unfolding_all rfl)) (aE fN) bP)
   (aE (c5 hu1 (pv 1) (pv 2) vJ rfl)))))),?_⟩
  refine aM (σ:=[some (.ref a),none,none]) rfl ?_;walk_at"cx";walk_at"go";rename_i p H1 n1 S1 e1;let Pv1:Nat->St->Hp->Prop:=fun i σ' H'=>SameBut p H1 H'/\∃kvs,H' p=some (.dK kvs)/\kvs.length<=i/\(∀z,(bB kvs (.inr z)).isSome=true->z∈ss.take i)/\∃x,σ'=[some (.ref a),some (.ref p),x];refine cU (ss.map V.str) Pv1 ⟨SameBut.refl,[],e1,Nat.le_refl _,(fun z h=>by cases h),_,rfl⟩ (fun i σ' H' _ q=>(SameBut.same n1 S1 q.1).seq hS) ?_ ?_
  ·rintro i x _ H' hx hq_;walk_at"g1";obtain⟨sb,kvs,ek,hk,hin,y,rfl⟩:=hq_;walk_at"g2";rw[List.getElem?_map]at hx;obtain⟨z,hz,rfl⟩:=Option.map_eq_some_iff.mp hx;have hi:i<ss.length:=(List.getElem?_eq_some_iff.mp hz).1;have hno:(bB kvs (.inr z)).isSome=false:=by
    cases e:(bB kvs (.inr z)).isSome with
    | false=>rfl
    | true=>exact absurd (hin z e) (gR hnd hz)
   walk_at"go";refine UJ (.inl ek) ?_;rw[hno];walk_at"go";refine fA ek (by rw[sizeLine_eq];lia) fun H9 B9 e9=> ?_;refine⟨by walk_at"sb",_,e9,Nat.le_trans (fX _ _ _) (by lia),fun y hy=> ?_,_,rfl⟩;rw[sV]at hy;rw[bF hz]
   by_cases e:(Sum.inr y:Key)= .inr z
   ·cases e;exact List.mem_append_right _ (.head _)
   ·rw[if_neg e]at hy;exact List.mem_append_left _ (hin y hy)
  ·rintro _ H' hq_;walk_at"g1";obtain⟨sb,kvs,ek,hk,hin,y,rfl⟩:=hq_;walk_at"g2";exact k _ (SameBut.same n1 S1 sb)
theorem wA (m:M K mg):Fc P w K mg base "need_each_once" 1 ["names"] (vL K):=⟨_,_,m.xW,m.fO.F.kp,m.fO.b,wC m⟩
def dN (rs:List Str)(d:aD):Prop:=d.2.1∈rs/\(d.2.2.1= .non∨∃z,d.2.2.1= .str z/\z∈rs)
def cH (H:Hp)(v:V)(p:Str×Int):Prop:=∃q,v= .ref q/\H q=some (.tup [.str p.1,.int p.2])
theorem lQ {H H':Hp}{vs:List V}{ps:List (Str×Int)} (h:Paired (cH H) vs ps) (s:Same H H'):Paired (cH H') vs ps:=Paired.imp' (fun v z ⟨q,e,h⟩=>⟨q,e,s _ _ h⟩) h
inductive pX (K:PySem.W.Frag)(D:bD)(vs:List V)(H:Hp)(Q:VK)(E:XK):Prop
 | mk (a b:Addr) (us:List V) (ds:List aD) (rs:List Str) (ws:List V) (ps:List (Str×Int)) (_:vs=[.ref a,.ref b]) (_:SqL K H a us) (_:Paired (D.at' H) us ds) (_:(∀d∈ds,dN rs d)) (_:ds.length<=20) (_:SqL K H b ws) (_:Paired (cH H) ws ps) (_:(∀p∈ps,p.1∈rs)) (_:ps.length<=40) (_:∀p (ss:List Str) H',Same H H'->H' p=some (.lst (ss.map V.str))->(∀z∈ss,z∈rs)->ss.length<=80->Q (.ref p) H'):pX K D vs H Q E
theorem SB {D:bD}{H:Hp}{Q:VK}{E:XK}{a b:Addr}{us:List V}{ds:List aD}{rs:List Str}{ws:List V}{ps:List (Str×Int)} (hS:SqL K H a us) (hd:Paired (D.at' H) us ds) (hr:∀d∈ds,dN rs d) (hl:ds.length<=20) (hb:SqL K H b ws) (hw:Paired (cH H) ws ps) (hwr:∀p∈ps,p.1∈rs) (hwl:ps.length<=40) (h:∀p (ss:List Str) H',Same H H'->H' p=some (.lst (ss.map V.str))->(∀z∈ss,z∈rs)->ss.length<=80->Q (.ref p) H'):pX K D [.ref a,.ref b] H Q E:=⟨_,_,_,_,_,_,_,rfl,hS,hd,hr,hl,hb,hw,hwr,hwl,h⟩
theorem uA (m:M K mg):FnOk P w K mg base CX0 2 m.iE m.fD.d ["doors","people"] (pX K (aO P w K mg base (some 4))):=by
 refine m.fD.F.ok sc_rooms_spoken_of (fun vs H Q E h=> ?_) (fun cdv A outer s H vs Q E hr h=> ?_)
 ·walk_at"g1";obtain⟨a,b,us,ds,rs,ws,ps,rfl,hS,hd,hr',hlen,hb,hw,hwr,hwl,k⟩:=h;walk_at"g2";rfl
 ·walk_at"g1";obtain⟨a,b,us,ds,rs,ws,ps,rfl,hS,hd,hr',hlen,hb,hw,hwr,hwl,k⟩:=h;walk_at"g2";have nd:=sc_rooms_spoken_of.nd;walk_at"hu";refine⟨_,(aC (aQ (i:=2) nd rfl (by walk_at"oi") (dO aB))
   (aC (cG PassesOwn.never rfl (bI (pv 0)) (aK (i:=3) nd rfl (by walk_at"oi")) (aC (bU (v4 PySem.F.plainAttrs_list PySem.F.slot_list_append PySem.F.type_list_append lI (pv 2) (aA (bA (pv 3) rfl) aB)))
   (aE (cF (oN (iL (fT 1 hr (pv 3)))) (aE (bU (v4 PySem.F.plainAttrs_list PySem.F.slot_list_append PySem.F.type_list_append lI (pv 2) (aA (bA (pv 3) rfl) aB)))) bP))))
   (aE (aT (aI zK (pv 2) (bW (N:=["room","number"]) (nl:=2) (ci:=[]) rfl (blk (s.heap.objs.size+1) rfl rfl rfl (by kernel_rfl)) (bI (pv 1)) (fun _ _ _ _=>(jJ (K:=K) (n:=2) rfl (aW (aK (i:=0) (show (["room","number"]:List Str).Nodup by decide +kernel) rfl (by walk_at"oi")) (aW (aK (i:=1) (show (["room","number"]:List Str).Nodup by decide +kernel) rfl (by walk_at"oi")) c4)))) (fun _ _ _ _=>d0) (fun _ _ _ _=>(pv 0)))))))),?_⟩
  refine aM (σ:=[some (.ref a),some (.ref b),none,none]) rfl ?_;walk_at"cx";have hul:us.length=ds.length:=Paired.length hd;walk_at"go";rename_i p H1 n1 S1 e1;let Pv2:Nat->St->Hp->Prop:=fun i σ' H'=>SameBut p H1 H'/\(∃ss:List Str,H' p=some (.lst (ss.map V.str))/\(∀z∈ss,z∈rs)/\ss.length<=2 * i)/\∃x,σ'=[some (.ref a),some (.ref b),some (.ref p),x];refine cU us Pv2 ⟨SameBut.refl,⟨[],e1,(fun _ z=>nomatch z),Nat.le_refl _⟩,_,rfl⟩ (fun i σ' H' _ q=>(SameBut.same n1 S1 q.1).seq hS) ?_ ?_
  ·rintro i x _ H' hx hq_;walk_at"g1";obtain⟨sb,⟨ss,es,hin,hsl⟩,y,rfl⟩:=hq_;walk_at"g2";have hi:i<us.length:=(List.getElem?_eq_some_iff.mp hx).1;obtain⟨d,hdx⟩:∃d,ds[i]? =some d:=⟨_,List.getElem?_eq_getElem (by lia)⟩
   walk_at"g1";obtain⟨n,st,e,lt⟩:=d;walk_at"g2";walk_at"g1";obtain⟨q,C9,dx,fs,fp,rfl,hq,dcC,l1,l2,l3,l4,l5,mcE,hfp,hlt⟩:=DoorAt.ex (Paired.at2 hd hx hdx);walk_at"g2";obtain⟨r1,r2⟩:=hr' _ (List.mem_of_getElem? hdx);have hqp:q≠p:=fun z=>by rw[z,n1]at hq;cases hq
   have hq':H' q=some (.ins C9 dx fs):=sb _ _ (S1 _ _ hq) hqp;rcases r2 with r2|⟨z,r2,r3⟩
   ·have r2:e= .non:=r2;subst r2;walk_at"go";refine jH es (by rw[sizeLine_eq,List.length_map];lia) fun H8 B8 e8=> ?_;have hq8:=B8 _ _ hq' hqp;walk_at"go";exact⟨by walk_at"sb",⟨ss++[st],by rw[e8,List.map_append];rfl,fun z hz=>(List.mem_append.mp hz).elim (hin z) (fun w=>by cases List.mem_singleton.mp w;exact r1),by rw[List.length_append];show ss.length+1<=_;lia⟩,_,rfl⟩
   ·have r2:e= .str z:=r2;subst r2;walk_at"go";refine jH es (by rw[sizeLine_eq,List.length_map];lia) fun H8 B8 e8=> ?_;have hq8:=B8 _ _ hq' hqp;walk_at"go";refine jH e8 (by rw[sizeLine_eq,List.length_append,List.length_map];show ss.length+1<_;lia) fun H9 B9 e9=> ?_;walk_at"go";refine⟨by walk_at"sb",⟨ss++[st]++[z],by rw[e9,List.map_append,List.map_append];rfl,fun z hz=> ?_,by rw[List.length_append,List.length_append];show ss.length+1+1<=_;lia⟩,_,rfl⟩;rcases List.mem_append.mp hz with hz|hz
    ·exact(List.mem_append.mp hz).elim (hin z) (fun w=>by cases List.mem_singleton.mp w;exact r1)
    ·cases List.mem_singleton.mp hz;exact r3
  ·rintro _ H' hq_;walk_at"g1";obtain⟨sb,⟨ss,es,hin,hsl⟩,y,rfl⟩:=hq_;walk_at"g2";have sH:Same H H':=SameBut.same n1 S1 sb;have hb':=sH.seq hb;walk_at"go";refine AC (α:=Str×Int) (xs:=ps) (vs:=ws) (fun p=> .str p.1) (fun p=> .int p.2) (fun _=>true) (fun p y _=>y= .str p.1) (fun _ _ _ _ h _=>h) (by rw[sizeLine_eq];lia) (rest:=[]) (by rfl) hb' (lQ hw sH) (fun x H1 hx s1 R hR=>hR _ (Same.refl _)) (fun x H1 hx _ s1 R hR=> ?_) ?_
   ·walk_at"go";exact hR _ _ rfl (Same.refl _)
   intro ys H2 s2 hys;rw[dZ]at hys;obtain rfl:=c9 hys;walk_at"go";rename_i q3 H3 n3 S3 e3 q4 H4 n4 S4 e4;refine k _ (ss++ps.map (·.1)) _ (by walk_at"sm") (by rw[e4,List.map_append,List.map_map];rfl) (fun z hz=> ?_) (by rw[List.length_append,List.length_map];lia);rcases List.mem_append.mp hz with hz|hz
   ·exact hin z hz
   ·obtain⟨p,hp,rfl⟩:=List.mem_map.mp hz;exact hwr p hp
theorem uI (m:M K mg):Fc P w K mg base "rooms_spoken_of" 2 ["doors","people"] (pX K (aO P w K mg base (some 4))):=⟨_,_,m.wE,m.fD.F.kp,m.fD.b,uA m⟩
inductive tS (K:PySem.W.Frag)(vs:List V)(H:Hp)(Q:VK)(E:XK):Prop
 | mk (a b:Addr) (ss:List Str) (kvs:List (Key×V)) (_:vs=[.ref a,.ref b]) (_:SqL K H a (ss.map V.str)) (_:Rd H b (.dK kvs)) (_:(∀z∈ss,(bB kvs (.inr z)).isSome=true)) (_:∀H',Same H H'->Q .non H'):tS K vs H Q E
theorem JD {H:Hp}{Q:VK}{E:XK}{a b:Addr}{ss:List Str}{kvs:List (Key×V)} (hS:SqL K H a (ss.map V.str)) (hb:Rd H b (.dK kvs)) (hk:∀z∈ss,(bB kvs (.inr z)).isSome=true) (h:∀H',Same H H'->Q .non H'):tS K [.ref a,.ref b] H Q E:=⟨_,_,_,_,rfl,hS,hb,hk,h⟩
theorem WH {H H':Hp}{a:Addr}{u:HO} (s:Same H H') (r:Rd H a u):Rd H' a u:=r.elim (fun e=> .inl (s _ _ e)) fun⟨o,e⟩=> .inr ⟨o,s _ _ e⟩
theorem C7 (m:M K mg):FnOk P w K mg base CX0 1 m.pG m.j3.d ["names","sizes"] (tS K):=by
 refine m.j3.F.ok sc_need_rooms (fun vs H Q E h=> ?_) (fun cdv A outer s H vs Q E hr h=> ?_)
 ·walk_at"g1";obtain⟨a,b,ss,kvs,rfl,hS,hb,hk,k⟩:=h;walk_at"g2";rfl
 ·walk_at"g1";obtain⟨a,b,ss,kvs,rfl,hS,hb,hk,k⟩:=h;walk_at"g2";have nd:=sc_need_rooms.nd;walk_at"hu";refine⟨_,(aE (cG PassesOwn.never rfl (bI (pv 0)) (aK (i:=2) nd rfl (by walk_at"oi")) (aE (cF (F5 (CB hu1 (pv 2) (pv 1)) (by with_unfolding_all rfl)) (aE fN) bP)))),?_⟩;refine aM (σ:=[some (.ref a),some (.ref b),none]) rfl ?_;walk_at"cx";walk_at"go";let Pv3:Nat->St->Hp->Prop:=fun i σ' H'=>Same H H'/\∃x,σ'=[some (.ref a),some (.ref b),x];refine cU (ss.map V.str) Pv3 ⟨Same.refl _,_,rfl⟩ (fun i σ' H' _ q=>q.1.seq hS) ?_ ?_
  ·rintro i x _ H' hx ⟨s1,y,rfl⟩;rw[List.getElem?_map]at hx;obtain⟨z,hz,rfl⟩:=Option.map_eq_some_iff.mp hx;have hz':=hk z (List.mem_of_getElem? hz);walk_at"go";refine yJ (WH s1 hb) ?_;rw[hz'];walk_at"go";exact⟨s1,_,rfl⟩
  ·rintro _ H' ⟨s1,y,rfl⟩;exact k _ s1
theorem t5 (m:M K mg):Fc P w K mg base "need_rooms" 1 ["names","sizes"] (tS K):=⟨_,_,m.GR,m.j3.F.kp,m.j3.b,C7 m⟩
theorem RK {H:Hp}{Q:VK}{i j:Int} (h:Q (.int (i+j)) H):XU (.int i) (.int j) H Q:=by
 first|exact h|exact⟨_,_,rfl,rfl,h⟩|exact .inl ⟨_,_,rfl,rfl,h⟩
theorem EC {H H':Hp}{p c:Addr}{kvs:List (Key×V)}{xs:List V} (h:SqL K H c xs) (hp:H p=some (.dK kvs)) (sb:SameBut p H H'):SqL K H' c xs:=by
 rcases h with (h|⟨o,h⟩)|h
 ·exact .inl (.inl (sb _ _ h fun z=>by rw[z,hp]at h;cases h))
 ·exact .inl (.inr ⟨o,sb _ _ h fun z=>by rw[z,hp]at h;cases h⟩)
 ·exact .inr h
def szK (rz:List (Str×Int)):List (Key×V):=rz.map fun e=>((.inr e.1:Key),V.int e.2)
theorem VQ (rz:List (Str×Int)):(szK rz).map (·.1)=(rz.map (·.1)).map (Sum.inr:Str->Key):=by unfold szK;rw[List.map_map,List.map_map];rfl
theorem vA {rs:List Str}(nd:rs.Nodup):(rs.map (Sum.inr:Str->Key)).Nodup:=by
 rw[List.Nodup,List.pairwise_map];exact List.Pairwise.imp (fun h z=>h (Sum.inr.inj z)) nd
theorem xC {rz:List (Str×Int)}(nd:(rz.map (·.1)).Nodup):((szK rz).map (·.1)).Nodup:=by rw[VQ];exact vA nd
theorem AS {rz:List (Str×Int)}(nd:(rz.map (·.1)).Nodup){e:Str×Int}(h:e∈rz):bB (szK rz) (.inr e.1)=some (.int e.2) :=
 mY (e:=((.inr e.1:Key),V.int e.2)) (xC nd) (List.mem_map.mpr ⟨e,h,rfl⟩)
theorem E2 {rz:List (Str×Int)}(nd:(rz.map (·.1)).Nodup){z:Str}(h:z∈rz.map (·.1)):∃i,(z,i)∈rz/\bB (szK rz) (.inr z)=some (.int i):=by
 obtain⟨e,he,rfl⟩:=List.mem_map.mp h;exact⟨e.2,he,AS nd he⟩
theorem uT {kvs:List (Key×V)}{k:Key} (h:∀e∈kvs,e.1≠k):bB kvs k=none:=by
 induction kvs with
 | nil=>rfl
 | cons a l ih =>
  rw[cJ (h a (.head _))];exact ih fun e he=>h e (List.mem_cons_of_mem _ he)
theorem t8:∀(ps kvs:List (Key×V)),(ps.map (·.1)).Nodup->(∀e∈kvs,∀q∈ps,e.1≠q.1)->iK kvs ps=kvs++ps
 | [],kvs,_,_=>(List.append_nil _).symm
 | (k,v)::ps,kvs,nd,h=>by
  have nd':=List.pairwise_cons.mp nd;show iK (bX kvs k v) ps=_;rw[nJ v (uT fun e he=>h e he _ (.head _)),t8 ps _ nd'.2,List.append_assoc]
  ·rfl
  ·intro e he q hq;rcases List.mem_append.mp he with he|he
   ·exact h e he q (List.mem_cons_of_mem _ hq)
   ·cases List.mem_singleton.mp he;exact nd'.1 q.1 (List.mem_map.mpr ⟨q,hq,rfl⟩)
theorem PD {rz:List (Str×Int)}(nd:(rz.map (·.1)).Nodup):iK [] (szK rz)=szK rz:=by
 rw[t8 _ _ (xC nd) (fun e he=>absurd he (List.not_mem_nil))];rfl
theorem yE {kvs:List (Key×V)}:∀(o:Obj) (x:HO),HO.dK kvs≠ .frz o x:=fun _ _ z=>by cases z
def zE (rz:List (Str×Int))(ps:List (Str×Int))(kvs:List (Key×V)):Prop:=∀z∈rz.map (·.1),bB kvs (.inr z)=some (.int (cQ ps z))
inductive tK (K:PySem.W.Frag)(vs:List V)(H:Hp)(Q:VK)(E:XK):Prop
 | mk (a b:Addr) (rz:List (Str×Int)) (ws:List V) (ps:List (Str×Int)) (_:vs=[.ref a,.ref b]) (_:H a=some (.dK (szK rz))) (_:SqL K H b ws) (_:Paired (cH H) ws ps) (_:(∀p∈ps,p.1∈rz.map (·.1))) (_:(rz.map (·.1)).Nodup) (_:rz.length<=100) (_:∀p H' kvs,H p=none->Same H H'->H' p=some (.dK kvs)->kvs.map (·.1)=(szK rz).map (·.1)->zE rz ps kvs->Q (.ref p) H'):tK K vs H Q E
theorem IB {H:Hp}{Q:VK}{E:XK}{a b:Addr}{rz:List (Str×Int)}{ws:List V}{ps:List (Str×Int)} (ha:H a=some (.dK (szK rz))) (hb:SqL K H b ws) (hw:Paired (cH H) ws ps) (hwr:∀p∈ps,p.1∈rz.map (·.1)) (nd:(rz.map (·.1)).Nodup) (hl:rz.length<=100) (h:∀p H' kvs,H p=none->Same H H'->H' p=some (.dK kvs)->kvs.map (·.1)=(szK rz).map (·.1)->zE rz ps kvs->Q (.ref p) H'):tK K [.ref a,.ref b] H Q E:=⟨_,_,_,_,_,rfl,ha,hb,hw,hwr,nd,hl,h⟩
theorem RT {kvs:List (Key×V)}{k:Key}{v:V} (h:(bB kvs k).isSome=true):(bX kvs k v).map (·.1)=kvs.map (·.1):=by
 unfold bX;rw[k4,if_pos h,List.map_map]
 apply List.map_congr_left
 intro x _;show (if x.1=k then (x.1,v) else x).1=x.1
 split<;>rfl
theorem zG (m:M K mg):FnOk P w K mg base CX0 1 m.k8 m.gZ.d ["sizes","people"] (tK K):=by
 refine m.gZ.F.ok sc_added_people (fun vs H Q E h=> ?_) (fun cdv A outer s H vs Q E hr h=> ?_)
 ·walk_at"g1";obtain⟨a,b,rz,ws,ps,rfl,ha,hb,hw,hwr,ndz,hlen,k⟩:=h;walk_at"g2";rfl
 ·walk_at"g1";obtain⟨a,b,rz,ws,ps,rfl,ha,hb,hw,hwr,ndz,hlen,k⟩:=h;walk_at"g2";have nd:=sc_added_people.nd;walk_at"hu";refine⟨_,(aC (aQ (i:=2) nd rfl (by walk_at"oi") k3)
   (aC (VX (cG PassesOwn.never rfl (tM (pv 0)) (aK (i:=3) nd rfl (by walk_at"oi")) (aE (c5 hu1 (pv 2) (pv 3) aF rfl))))
   (aC (cG PassesOwn.never rfl (bI (pv 1)) (lM (n:=2) rfl (aW (aK (i:=3) nd rfl (by walk_at"oi")) (aW (aK (i:=4) nd rfl (by walk_at"oi")) c4))) (aE (WL hu1 (pv 2) (pv 3) (pv 4) Z4 (fun _ _ _=>rfl))))
   (aE (aT (pv 2)))))),?_⟩
  refine aM (σ:=[some (.ref a),some (.ref b),none,none,none]) rfl ?_;walk_at"cx";walk_at"go";rename_i p H1 n1 S1 e1;have hap:a≠p:=fun z=>by rw[z,n1]at ha;cases ha
  have ha1:=S1 _ _ ha;have hl2:(szK rz).length=rz.length:=by unfold szK;rw[List.length_map]
  refine QP ha1 yE ?_;walk_at"go";refine sM ha1 fun o H2 B2 e2=> ?_;have ep2:H2 p=some (.dK []):=B2 _ _ e1 (Ne.symm hap);have hwl:ws.length=ps.length:=Paired.length hw;let Pv1:Nat->St->Hp->Prop:=fun i σ' H'=>SameBut p H2 H'/\H' p=some (.dK ((rz.take i).map fun e=>((.inr e.1:Key),V.int 0)))/\∃x,σ'=[some (.ref a),some (.ref b),some (.ref p),x,none];refine P3 (szK rz) Pv1 ⟨SameBut.refl,ep2,_,rfl⟩ (fun i σ' H' q=>q.1 _ _ e2 hap) ?_ ?_
  ·rintro i kk v _ H' hx hq_;walk_at"g1";obtain⟨sb,ek,y,rfl⟩:=hq_;walk_at"g2";unfold szK at hx;rw[List.getElem?_map]at hx;walk_at"g1";obtain⟨⟨z,sz⟩,hz,ez⟩:=Option.map_eq_some_iff.mp hx;walk_at"g2";cases ez;have hi:i<rz.length:=(List.getElem?_eq_some_iff.mp hz).1;have hnone:bB ((rz.take i).map fun e=>((.inr e.1:Key),V.int 0)) (.inr z)=none:=uT fun e he=>by
    obtain⟨d,hd,rfl⟩:=List.mem_map.mp he;intro zz;have hn:z∉(rz.map (·.1)).take i:=gR ndz (by rw[List.getElem?_map,hz];rfl)
    apply hn
    rw[←List.map_take];exact List.mem_map.mpr ⟨d,hd,Sum.inr.inj zz⟩
   show (_:TG) (.str z) _ _ _;walk_at"go";refine fA ek (by rw[sizeLine_eq,List.length_map,List.length_take];lia) fun H9 B9 e9=> ?_;refine⟨by walk_at"sb",?_,_,rfl⟩;rw[e9,nJ _ hnone,bF hz,List.map_append];rfl
  ·rintro _ H' hq_;walk_at"g1";obtain⟨sb,ek,y,rfl⟩:=hq_;walk_at"g2";rw[hl2,List.take_length]at ek;refine jC (sb _ _ e2 hap) fun H3 B3 e3=> ?_;have ep3:=B3 _ _ ek (Ne.symm hap);have sH:Same H H3:=fun x u hx=>by
    by_cases ex:x=a
    ·subst ex;rw[ha]at hx;cases hx;exact e3
    ·have hxp:x≠p:=fun z=>by rw[z,n1]at hx;cases hx
     exact B3 _ _ (sb _ _ (B2 _ _ (S1 _ _ hx) ex) hxp) ex
   have hb3:=sH.seq hb;have hw3:=lQ hw sH;have hnb:∀{H':Hp}{v:V}{r:Str×Int},SameBut p H3 H'->cH H3 v r->cH H' v r:=fun sb ⟨q,e,hq⟩=>⟨q,e,sb _ _ hq fun z=>by rw[z,ep3]at hq;cases hq⟩
   walk_at"go";let Pv2:Nat->St->Hp->Prop:=fun i σ' H'=>SameBut p H3 H'/\(∃kvs,H' p=some (.dK kvs)/\kvs.map (·.1)=(szK rz).map (·.1)/\zE rz (ps.take i) kvs)/\∃x y,σ'=[some (.ref a),some (.ref b),some (.ref p),x,y];refine cU ws Pv2 ⟨SameBut.refl,⟨_,ep3,?_,?_⟩,_,_,rfl⟩ (fun i σ' H' _ q=>EC hb3 ep3 q.1) ?_ ?_
   ·unfold szK;rw[List.map_map,List.map_map];rfl
   ·intro z hz;obtain⟨e,he,rfl⟩:=List.mem_map.mp hz;exact mY (e:=((.inr e.1:Key),V.int 0)) (by rw[show (rz.map fun e=>((.inr e.1:Key),V.int 0)).map (·.1)=(szK rz).map (·.1) from by unfold szK;rw[List.map_map,List.map_map];rfl];exact xC ndz) (List.mem_map.mpr ⟨e,he,rfl⟩)
   ·rintro i x _ H' hx hq_;walk_at"g1";obtain⟨sb',⟨kvs,ek',hkk,hin⟩,x1,x2,rfl⟩:=hq_;walk_at"g2";have hi:i<ws.length:=(List.getElem?_eq_some_iff.mp hx).1;obtain⟨⟨z,nn⟩,hpx⟩:∃d,ps[i]? =some d:=⟨_,List.getElem?_eq_getElem (by lia)⟩
    obtain⟨q,rfl,hq⟩:=Paired.at2 hw3 hx hpx;have hq':H' q=some (.tup [.str z,.int nn]):=sb' _ _ hq fun zz=>by rw[zz,ep3]at hq;cases hq
    have hzr:z∈rz.map (·.1):=hwr _ (List.mem_of_getElem? hpx);have hkl:kvs.length=rz.length:=by rw[←List.length_map (f:=fun e:Key×V=>e.1),hkk,List.length_map,hl2]
    walk_at"go";refine UF ?_;walk_at"go";refine RB (.inl ek') (hin z hzr) ?_;walk_at"go";refine RK ?_;refine W7 ek' (by rw[sizeLine_eq];lia) fun H9 B9 e9=> ?_;refine⟨by walk_at"sb",⟨_,e9,?_,fun y hy=> ?_⟩,_,_,rfl⟩
    ·rw[RT (by rw[hin z hzr];rfl)];exact hkk
    ·rw[sV,bF hpx,MB]
     by_cases e:(Sum.inr y:Key)= .inr z
     ·cases e;rw[if_pos rfl,if_pos rfl]
     ·rw[if_neg e,if_neg (fun zz=>e (by rw[show z=y from zz])),Int.add_zero];exact hin y hy
   ·rintro _ H' hq_;walk_at"g1";obtain⟨sb',⟨kvs,ek',hkk,hin⟩,x1,x2,rfl⟩:=hq_;walk_at"g2";rw[hwl,List.take_length]at hin;walk_at"go";exact k _ _ _ n1 (SameBut.same n1 (fun x u hx=>sH x u hx) sb') ek' hkk hin
theorem p9 (m:M K mg):Fc P w K mg base "added_people" 1 ["sizes","people"] (tK K):=⟨_,_,m.A2,m.gZ.F.kp,m.gZ.b,zG m⟩
def sK (rz ps:List (Str×Int)):Prop:=(∀p∈ps,0<=p.2)/\∀e∈rz,cQ ps e.1<=e.2
inductive tI (K:PySem.W.Frag)(vs:List V)(H:Hp)(Q:VK)(E:XK):Prop
 | mk (a b:Addr) (rz:List (Str×Int)) (ws:List V) (ps:List (Str×Int)) (_:vs=[.ref a,.ref b]) (_:H a=some (.dK (szK rz))) (_:SqL K H b ws) (_:Paired (cH H) ws ps) (_:(∀p∈ps,p.1∈rz.map (·.1))) (_:(rz.map (·.1)).Nodup) (_:rz.length<=100) (_:ps.length<=100) (_:sK rz ps) (_:∀H',Same H H'->Q .non H'):tI K vs H Q E
theorem WE {H:Hp}{Q:VK}{E:XK}{a b:Addr}{rz:List (Str×Int)}{ws:List V}{ps:List (Str×Int)} (ha:H a=some (.dK (szK rz))) (hb:SqL K H b ws) (hw:Paired (cH H) ws ps) (hwr:∀p∈ps,p.1∈rz.map (·.1)) (nd:(rz.map (·.1)).Nodup) (hl:rz.length<=100) (hpl:ps.length<=100) (hf:sK rz ps) (h:∀H',Same H H'->Q .non H'):tI K [.ref a,.ref b] H Q E:=⟨_,_,_,_,_,rfl,ha,hb,hw,hwr,nd,hl,hpl,hf,h⟩
theorem uW {α:Type}:∀{l:List α}{ys:List V},Paired (fun _ y=>y=V.bl false) l ys->ys=(l.map fun _=>false).map V.bl
 | _,_,.nil=>rfl
 | _,_,.cons h t=>by rw[h,uW t];rfl
theorem BG {α:Type}(l:List α):(l.map fun _=>false).any id=false:=by simp
theorem C8 (m:M K mg):FnOk P w K mg base CX0 2 m.oX m.j8.d ["sizes","people"] (tI K):=by
 refine m.j8.F.ok sc_need_space (fun vs H Q E h=> ?_) (fun cdv A outer s H vs Q E hr h=> ?_)
 ·walk_at"g1";obtain⟨a,b,rz,ws,ps,rfl,ha,hb,hw,hwr,ndz,hlen,hpl,hf,k⟩:=h;walk_at"g2";rfl
 ·walk_at"g1";obtain⟨a,b,rz,ws,ps,rfl,ha,hb,hw,hwr,ndz,hlen,hpl,hf,k⟩:=h;walk_at"g2";have nd:=sc_need_space.nd;walk_at"hu";have F_added_people:= @p9 P w K mg base m;refine⟨_,(aC (cF (iL (bM (BV rfl) rfl m.TX MO (aA (bW (N:=["room","number"]) (nl:=2) (ci:=[]) rfl (blk (s.heap.objs.size+1) rfl rfl rfl (by kernel_rfl)) (bI (pv 1)) (fun _ _ _ _=>(jJ (K:=K) (n:=2) rfl (aW (aK (i:=0) (show (["room","number"]:List Str).Nodup by decide +kernel) rfl (by walk_at"oi")) (aW (aK (i:=1) (show (["room","number"]:List Str).Nodup by decide +kernel) rfl (by walk_at"oi")) c4)))) (fun _ _ _ _=>d0) (fun _ _ _ _=>(nA mP (pv 1) aF (bH _)))) aB))) (aE fN) bP)
   (aC (aQ (i:=2) nd rfl (by walk_at"oi") (bK F_added_people hr (aA (pv 0) (aA (pv 1) aB))))
   (aE (cF (iL (bM (BV rfl) rfl m.TX MO (aA (rK (bW (N:=["room","inside","sizes"]) (nl:=1) (ci:=[2,0]) rfl (blk (s.heap.objs.size+1) rfl rfl rfl (by kernel_rfl)) (tM (pv 0)) (fun _ _ _ _=>(aK (i:=0) (show (["room","inside","sizes"]:List Str).Nodup by decide +kernel) rfl (by walk_at"oi"))) (fun _ _ _ _=>d0) (fun _ _ _ _=>(nA tU (bT hu1 (pv 1) (pv 0) (fun _ _=>rfl)) (bT hu1 (pv 2) (pv 0) (fun _ _=>rfl)) (bH _))))) aB))) (aE fN) bP)))),?_⟩
  refine aM (σ:=[some (.ref a),some (.ref b),none]) rfl ?_;walk_at"cx";walk_at"go";refine AC (α:=Str×Int) (xs:=ps) (vs:=ws) (fun p=> .str p.1) (fun p=> .int p.2) (fun _=>true) (fun p y _=>y= .bl false) (fun _ _ _ _ h _=>h) (by rw[sizeLine_eq];lia) (rest:=[]) (by rfl) hb hw (fun x H1 hx s1 R hR=>hR _ (Same.refl _)) (fun x H1 hx _ s1 R hR=> ?_) ?_
  ·have h0:=hf.1 x hx;walk_at"go";exact hR _ _ (by rw[decide_eq_false (by lia)]) (Same.refl _)
  intro ys H2 s2 hys;rw[dZ]at hys;obtain rfl:=uW hys;walk_at"go";rename_i q H3 n3 S3 e3;refine MM (SqL.of e3) ?_;rw[BG];walk_at"go";have sA:Same H H3:=s2.trans S3;refine IB (sA _ _ ha) (sA.seq hb) (lQ hw sA) hwr ndz hlen fun p H4 kvs n4 S4 e4 hkk hv=> ?_;have ha4:=S4 _ _ (sA _ _ ha);walk_at"go";refine nO ha4 yE ?_;walk_at"go";refine sM ha4 fun o H5 B5 e5=> ?_;have hpa:p≠a:=fun z=>by rw[z,sA _ _ ha]at n4;cases n4
  have ep5:=B5 _ _ e4 hpa;refine FM (fun _=>true) (fun _ y _=>y= .bl false) (fun _ _ _ _ h _=>h) (by rw[sizeLine_eq];unfold szK;rw[List.length_map];lia) (rest:=[some (.ref p),some (.ref a)]) (by rfl) e5 (fun x H6 hx s6 R hR=>hR _ (Same.refl _)) ?_ ?_
  ·rintro x H6 hx - s6 R hR;obtain⟨e,he,rfl⟩:=List.mem_map.mp hx;have hfe:=hf.2 e he;show (_:TE) (some (V.str e.1)::[some (.ref p),some (.ref a)]) H6 R;walk_at"go";refine bL (.inl (s6 _ _ ep5)) (hv e.1 (List.mem_map.mpr ⟨e,he,rfl⟩)) ?_;walk_at"go";refine bL (.inr ⟨o,s6 _ _ e5⟩) (AS ndz he) ?_;walk_at"go";exact hR _ _ (by rw[decide_eq_false (by lia)]) (Same.refl _)
  intro ys H6 s6 hys;rw[dZ]at hys;obtain rfl:=uW hys;walk_at"go";rename_i q7 H7 n7 S7 e7;refine jC (S7 _ _ (s6 _ _ e5)) fun H8 B8 e8=> ?_;have hq7:q7≠a:=fun z=>by rw[z,s6 _ _ e5]at n7;cases n7
  have e78:=B8 _ _ e7 hq7;walk_at"go";refine MM (SqL.of e78) ?_;rw[BG];walk_at"go";exact k _ (qB (ha) (fun x u hx hxa=>B5 _ _ (S4 _ _ (sA _ _ hx)) hxa) (Same.but (s6.trans S7)) B8 e8)
theorem CS (m:M K mg):Fc P w K mg base "need_space" 2 ["sizes","people"] (tI K):=⟨_,_,m.GJ,m.j8.F.kp,m.j8.b,C8 m⟩
def RoomsAt (H:Hp)(vs:List V)(rz:List (Str×Int)):Prop:=Paired (cH H) vs rz
theorem RoomsAt.sm {H H':Hp}{vs:List V}{rs:List (Str×Int)} (h:RoomsAt H vs rs) (s:Same H H'):RoomsAt H' vs rs:=Paired.imp' (fun v z ⟨q,e,h⟩=>⟨q,e,s _ _ h⟩) h
theorem wH {H:Hp}:∀{vs:List V}{rs:List (Str×Int)},RoomsAt H vs rs->vW H vs (szK rs)
 | _,_,.nil=> .nil
 | _,_,.cons h t=> .cons h (wH t)
theorem nC {D:bD}{H H':Hp}{us:List V}{ds:List aD} (h:Paired (D.at' H) us ds) (s:Same H H'):Paired (D.at' H') us ds:=Paired.imp' (fun v d h=>D.same h s) h
abbrev JB (f l:Int)(qs qp qd:Addr):List (Str×V):=cI "named_doors" (.ref qd) (cI "people" (.ref qp) (cI "sizes" (.ref qs) (cI "last" (.int l) (cI "first" (.int f) []))))
def mO (D:bD)(H:Hp)(nk:List (Key×V))(ds:List aD):Prop:=Paired (fun e d=>e.1= .inr d.1/\D.at' H e.2 d) nk ds
theorem P7 {D:bD}{H H':Hp}{nk:List (Key×V)}{ds:List aD} (h:mO D H nk ds) (s:Same H H'):mO D H' nk ds:=Paired.imp' (fun e d h=>⟨h.1,D.same h.2 s⟩) h
structure aR (C:Addr)(D:bD)(H:Hp)(h:Addr)(f l:Int)(rz ps:List (Str×Int))(ds:List aD):Prop where
 ex:∃dx qs qp qd nk kvs,H h=some (.ins C dx (JB f l qs qp qd))/\H qs=some (.dK (szK rz))/\H qp=some (.dK kvs)/\kvs.map (·.1)=(szK rz).map (·.1)/\zE rz ps kvs/\H qd=some (.dK nk)/\mO D H nk ds
theorem aU {C:Addr}{D:bD}{H H':Hp}{h:Addr}{f l:Int}{rz ps:List (Str×Int)}{ds:List aD} (x:aR C D H h f l rz ps ds) (s:Same H H'):aR C D H' h f l rz ps ds:=by
 walk_at"g1";obtain⟨dx,qs,qp,qd,nk,kvs,e1,e2,e3,e4,e5,e6,e7⟩:=x.ex;walk_at"g2";exact⟨dx,qs,qp,qd,nk,kvs,s _ _ e1,s _ _ e2,s _ _ e3,e4,e5,s _ _ e6,P7 e7 s⟩
theorem IC {H H':Hp}{p c C dx:Addr}{fs:List (Str×V)}{xs:List V} (h:SqL K H c xs) (hp:H p=some (.ins C dx fs)) (sb:SameBut p H H'):SqL K H' c xs:=by
 rcases h with (h|⟨o,h⟩)|h
 ·exact .inl (.inl (sb _ _ h fun z=>by rw[z,hp]at h;cases h))
 ·exact .inl (.inr ⟨o,sb _ _ h fun z=>by rw[z,hp]at h;cases h⟩)
 ·exact .inr h
theorem zL {α β:Type}{F:α->β->Prop}:∀{l:List α}{m:List β}{x:α},Paired F l m->x∈l->∃y∈m,F x y
 | _,_,_,.cons r t,h=>by
  rcases List.mem_cons.mp h with rfl|h
  ·exact⟨_,.head _,r⟩
  ·obtain⟨y,hy,f⟩:=zL t h;exact⟨y,List.mem_cons_of_mem _ hy,f⟩
 | _,_,_,.nil,h=>nomatch h
inductive fS (K:PySem.W.Frag)(D:bD)(vs:List V)(H:Hp)(Q:VK)(E:XK):Prop
 | mk (p C dx a b c:Addr) (ws us cs:List V) (rz ps:List (Str×Int)) (ds:List aD) (f l:Int) (_:vs=[.ref p,.ref a,.ref b,.ref c,.int l,.int f]) (_:DCls K C) (_:H p=some (.ins C dx [])) (_:H a=some (.lst ws)) (_:RoomsAt H ws rz) (_:SqL K H b us) (_:Paired (D.at' H) us ds) (_:SqL K H c cs) (_:Paired (cH H) cs ps) (_:(rz.map (·.1)).Nodup) (_:(ds.map (·.1)).Nodup) (_:(∀d∈ds,dN (rz.map (·.1)) d)) (_:(∀p∈ps,p.1∈rz.map (·.1))) (_:sK rz ps) (_:rz.length<=20) (_:ds.length<=20) (_:ps.length<=40) (_:0<=f) (_:f<=l) (_:∀H',SameBut p H H'->aR C D H' p f l rz ps ds->Q .non H'):fS K D vs H Q E
theorem D0 {D:bD}{H:Hp}{Q:VK}{E:XK}{p C dx a b c:Addr}{ws us cs:List V}{rz ps:List (Str×Int)}{ds:List aD}{f l:Int} (dc:DCls K C) (hp:H p=some (.ins C dx [])) (ha:H a=some (.lst ws)) (hr:RoomsAt H ws rz) (hb:SqL K H b us) (hd:Paired (D.at' H) us ds) (hc:SqL K H c cs) (hcp:Paired (cH H) cs ps) (nr:(rz.map (·.1)).Nodup) (nd:(ds.map (·.1)).Nodup) (hin:∀d∈ds,dN (rz.map (·.1)) d) (hpr:∀p∈ps,p.1∈rz.map (·.1)) (hf:sK rz ps) (lr:rz.length<=20) (ld:ds.length<=20) (lp:ps.length<=40) (h0:0<=f) (h1:f<=l)
  (k:∀H',SameBut p H H'->aR C D H' p f l rz ps ds->Q .non H'):fS K D [.ref p,.ref a,.ref b,.ref c,.int l,.int f] H Q E:=⟨_,_,_,_,_,_,_,_,_,_,_,_,_,_,rfl,dc,hp,ha,hr,hb,hd,hc,hcp,nr,nd,hin,hpr,hf,lr,ld,lp,h0,h1,k⟩
theorem wB (m:M K mg):FnOk P w K mg base CX0 4 m.i8 m.fP ["self","rooms","doors","people","last","first"] (fS K (aO P w K mg base (some 4))):=by
 refine m.xV.ok sc_House___init__ (fun vs H Q E h=> ?_) (fun cdv A outer s H vs Q E hr h=> ?_)
 ·walk_at"g1";obtain⟨p,C,dx,a,b,c,ws,us,cs,rz,ps,ds,f,l,rfl,dc,hp,ha,hra,hb,hd,hc,hcp,nr,nd',hin,hpr,hf,lr,ld,lp,h0,h1,k⟩:=h;walk_at"g2";rfl
 ·walk_at"g1";obtain⟨p,C,dx,a,b,c,ws,us,cs,rz,ps,ds,f,l,rfl,dc,hp,ha,hra,hb,hd,hc,hcp,nr,nd',hin,hpr,hf,lr,ld,lp,h0,h1,k⟩:=h;walk_at"g2";have nd:=sc_House___init__.nd;walk_at"hu";have F_added_people:= @p9 P w K mg base m;have F_need_each_once:= @wA P w K mg base m;have F_need_rooms:= @t5 P w K mg base m;have F_need_space:= @CS P w K mg base m;have F_need_turns:= @CN P w K mg base m;have F_rooms_spoken_of:= @uI P w K mg base m;refine⟨_,(aC (bU (bK F_need_turns hr (aA (pv 5) (aA (pv 4) aB))))
   (aC (bU (bK F_need_each_once hr (aA (bW (N:=["name","size"]) (nl:=2) (ci:=[]) rfl (blk (s.heap.objs.size+1) rfl rfl rfl (by kernel_rfl)) (bI (pv 1)) (fun _ _ _ _=>(jJ (K:=K) (n:=2) rfl (aW (aK (i:=0) (show (["name","size"]:List Str).Nodup by decide +kernel) rfl (by walk_at"oi")) (aW (aK (i:=1) (show (["name","size"]:List Str).Nodup by decide +kernel) rfl (by walk_at"oi")) c4)))) (fun _ _ _ _=>d0) (fun _ _ _ _=>(pv 0))) aB)))
   (aC (bU (bK F_need_each_once hr (aA (bW (N:=["door"]) (nl:=1) (ci:=[]) rfl (blk (s.heap.objs.size+1) rfl rfl rfl (by kernel_rfl)) (bI (pv 2)) (fun _ _ _ _=>(aK (i:=0) (show (["door"]:List Str).Nodup by decide +kernel) rfl (by walk_at"oi"))) (fun _ _ _ _=>d0) (fun _ _ _ _=>(rL (K:=K) (pv 0) rfl))) aB)))
   (aC (aQ (i:=6) nd rfl (by walk_at"oi") (lK (x9 rfl) rfl m.O7 JF (aA (pv 1) aB)))
   (aC (bU (bK F_need_rooms hr (aA (bK F_rooms_spoken_of hr (aA (pv 2) (aA (pv 3) aB))) (aA (pv 6) aB))))
   (aC (bU (bK F_need_space hr (aA (pv 6) (aA (pv 3) aB))))
   (aC (eJ (pv 0) (pv 5) rfl)
   (aC (eJ (pv 0) (pv 4) rfl)
   (aC (eJ (pv 0) (pv 6) rfl)
   (aC (eJ (pv 0) (bK F_added_people hr (aA (pv 6) (aA (pv 3) aB))) rfl)
   (aC (eJ (pv 0) k3 rfl)
   (aE (cG PassesOwn.never rfl (bI (pv 2)) (aK (i:=7) nd rfl (by walk_at"oi")) (aE (c5 hu1 (bA (pv 0) rfl) (bA (pv 7) rfl) (pv 7) rfl))))))))))))))),?_⟩
  refine aM (σ:=[some (.ref p),some (.ref a),some (.ref b),some (.ref c),some (.int l),some (.int f),none,none]) rfl ?_;walk_at"cx";have hul:us.length=ds.length:=Paired.length hd;have hwl:ws.length=rz.length:=Paired.length hra;walk_at"go";refine VS h0 h1 ?_;walk_at"go";refine AC (α:=Str×Int) (xs:=rz) (vs:=ws) (fun e=> .str e.1) (fun e=> .int e.2) (fun _=>true) (fun z y _=>y= .str z.1) (fun _ _ _ _ h _=>h) (by rw[sizeLine_eq];lia) (rest:=[]) (by rfl) (SqL.of ha) hra (fun x H1 hx s1 R hR=>hR _ (Same.refl _)) (fun x H1 hx _ s1 R hR=> ?_) ?_
  ·walk_at"go";exact hR _ _ rfl (Same.refl _)
  intro ys H1 s1 hys;rw[dZ]at hys;obtain rfl:=c9 hys;walk_at"go";rename_i q1 H2 n2 S2 e2;refine ND (ss:=rz.map (·.1)) (SqL.of (by rw[e2,List.map_map];rfl)) nr (by rw[List.length_map];lia) fun H3 S3=> ?_;have sA:Same H H3:=(s1.trans S2).trans S3;walk_at"go";refine jE (α:=aD) (xs:=ds) (vs:=us) ((aO P w K mg base (some 4)).at' H3) (fun _=>true) (fun d y _=>y= .str d.1) (fun _ _ _ _ h _=>h) (by rw[sizeLine_eq];lia) (rest:=[]) (by rfl) (sA.seq hb) (nC hd sA) (fun v x H1 _ hx s1 R hR=>hR _ (Same.refl _)) ?_ ?_
  ·rintro v ⟨n,st,e,lt⟩ H4 hv hm - s4 R hR;walk_at"g1";obtain⟨q,C9,dx',fs,fp,rfl,hq,dcC,l1,l2,l3,l4,l5,mcE,hfp,hlt⟩:=DoorAt.ex hv;walk_at"g2";have hq':=s4 _ _ hq;walk_at"go";exact hR _ _ rfl (Same.refl _)
  intro ys H4 s4 hys;rw[dZ]at hys;obtain rfl:=c9 hys;walk_at"go";rename_i q5 H5 n5 S5 e5;refine ND (ss:=ds.map (·.1)) (SqL.of (by rw[e5,List.map_map];rfl)) nd' (by rw[List.length_map];lia) fun H6 S6=> ?_;have sB:Same H H6:=((sA.trans s4).trans S5).trans S6;walk_at"go";refine FY (sB _ _ ha) (wH (hra.sm sB)) fun qs H7 n7 S7 e7=> ?_;rw[PD nr]at e7;have sC:Same H H7:=sB.trans S7;walk_at"go";refine SB (sC.seq hb) (nC hd sC) hin ld (sC.seq hc) (lQ hcp sC) hpr lp fun q8 ss H8 S8 e8 hss lss=> ?_;walk_at"go";refine JD (SqL.of e8) (.inl (S8 _ _ e7)) (fun z hz=>by obtain⟨i,_,e⟩:=E2 nr (hss z hz);rw[e];rfl) fun H9 S9=> ?_;have sD:Same H7 H9:=S8.trans S9;walk_at"go";refine WE (sD _ _ e7) ((sC.trans sD).seq hc) (lQ hcp (sC.trans sD)) hpr nr (by lia) (by lia) hf fun H10 S10=> ?_;have sE:Same H H10:=(sC.trans sD).trans S10;have es:H10 qs=some (.dK (szK rz)):=S10 _ _ (sD _ _ e7);have hp10:=sE _ _ hp;have hqp:qs≠p:=fun z=>by rw[z,hp10]at es;cases es
  walk_at"go";rename_i H11 B11 e11 H12 B12 e12 H13 B13 e13;have sb13:SameBut p H10 H13:=by walk_at"sb"
  have es13:=sb13 _ _ es hqp;have hc13:SqL K H13 c cs:=IC (sE.seq hc) hp10 sb13;have hcp13:Paired (cH H13) cs ps:=Paired.imp' (fun v r ⟨q,e,hq⟩=>⟨q,e,sb13 _ _ (sE _ _ hq) fun z=>by rw[z,hp]at hq;cases hq⟩) hcp;refine IB es13 hc13 hcp13 hpr nr (by lia) fun qp H14 kvs n14 S14 e14 hkk hv14=> ?_;have hp14:=S14 _ _ e13;walk_at"go";rename_i H15 B15 e15 qd H16 n16 S16 e16 H17 B17 e17;have hqd:qd≠p:=fun z=>by rw[z,e15]at n16;cases n16
  have sb17:SameBut p H10 H17:=((((sb13.trans S14.but).trans B15).trans S16.but).trans B17)
  have es17:=sb17 _ _ es hqp;have ed17:=B17 _ _ e16 hqd;have hqpp:qp≠p:=fun z=>by rw[z,e13]at n14;cases n14
  have eq17:H17 qp=some (.dK kvs):=B17 _ _ (S16 _ _ (B15 _ _ e14 hqpp)) hqpp;have hqpd:qp≠qd:=fun z=>by rw[←z,B15 _ _ e14 hqpp]at n16;cases n16
  have fresh:∀x u,H10 x=some u->x≠p->x≠qd:=fun x u hx hxp z=>by
   have h15:H15 x=some u:=B15 _ _ (S14 _ _ (sb13 _ _ hx hxp)) hxp;rw[z,n16]at h15;cases h15
  have hb17:SqL K H17 b us:=IC (sE.seq hb) hp10 sb17;have hd17:Paired ((aO P w K mg base (some 4)).at' H17) us ds:=Paired.imp' (fun v d h=>(aO P w K mg base (some 4)).but ((aO P w K mg base (some 4)).same h sE) hp10 rfl sb17) hd;have ddq:∀{H':Hp}{v:V}{d:aD},SameBut qd H17 H'->(aO P w K mg base (some 4)).at' H17 v d->(aO P w K mg base (some 4)).at' H' v d:=fun sb h=>(aO P w K mg base (some 4)).but h ed17 trivial sb;refine BJ hb17 ?_;let Pv1:Nat->St->Hp->Prop:=fun i σ' H'=>SameBut qd H17 H'/\(∃nk,H' qd=some (.dK nk)/\nk.length<=i/\Paired (fun e d=>e.1= .inr d.1/\(aO P w K mg base (some 4)).at' H17 e.2 d) nk (ds.take i))/\∃x,σ'=[some (.ref p),some (.ref a),some (.ref b),some (.ref c),some (.int l),some (.int f),some (.ref qs),x];refine cU us Pv1 ⟨SameBut.refl,⟨[],ed17,Nat.le_refl _,.nil⟩,_,rfl⟩ (fun i σ' H' _ q=>EC hb17 ed17 q.1) ?_ ?_
  ·rintro i x _ H' hx hq_;walk_at"g1";obtain⟨sb,⟨nk,ek,hk,pr⟩,y,rfl⟩:=hq_;walk_at"g2";have hi:i<us.length:=(List.getElem?_eq_some_iff.mp hx).1;obtain⟨d,hdx⟩:∃d,ds[i]? =some d:=⟨_,List.getElem?_eq_getElem (by lia)⟩
   have hD:=Paired.at2 hd17 hx hdx;walk_at"g1";obtain⟨n,st,e,lt⟩:=d;walk_at"g2";have hD':=ddq sb hD;walk_at"g1";obtain⟨q,C9,dx',fs,fp,rfl,hq',dcC,l1,l2,l3,l4,l5,mcE,hfp,hlt⟩:=DoorAt.ex hD';walk_at"g2";have hpp:H' p=some (.ins C dx (JB f l qs qp qd)):=sb _ _ e17 (Ne.symm hqd);have hnone:bB nk (.inr n)=none:=uT fun e he=>by
    walk_at"g1";obtain⟨d',hd',h1,_⟩:=zL pr he;walk_at"g2";rw[h1];intro z;have hn:n∉(ds.map (·.1)).take i:=gR nd' (by rw[List.getElem?_map,hdx];rfl)
    apply hn
    rw[←List.map_take];exact List.mem_map.mpr ⟨d',hd',Sum.inr.inj z⟩
   walk_at"go";refine fA ek (by rw[sizeLine_eq];lia) fun H9' B9' e9'=> ?_;rw[nJ _ hnone]at e9';refine⟨by walk_at"sb",⟨_,e9',by rw[List.length_append];show nk.length+1<=_;lia,?_⟩,_,rfl⟩;rw[bF hdx];exact L2.Paired.snoc pr ⟨rfl,hD⟩
  ·rintro _ H' hq_;walk_at"g1";obtain⟨sb,⟨nk,ek,hk,pr⟩,y,rfl⟩:=hq_;walk_at"g2";rw[hul,List.take_length]at pr;refine k _ (fun x u hx hxp=>sb _ _ (sb17 _ _ (sE _ _ hx) hxp) (fresh x u (sE _ _ hx) hxp)) ⟨dx,qs,qp,qd,nk,kvs,sb _ _ e17 (Ne.symm hqd),sb _ _ es17 (fresh _ _ es hqp),sb _ _ eq17 hqpd,hkk,hv14,ek,?_⟩;exact Paired.imp' (fun e d h=>⟨h.1,ddq sb h.2⟩) pr
theorem KK (m:M K mg):Kc P w K mg base "House" m.aL 4 [] (fS K (aO P w K mg base (some 4))):=⟨_,_,_,_,m.W9,m.SI,.nil,m.xT,wB m⟩
theorem OS {C:Addr}{D:bD}{H:Hp}{Q:VK}{E:XK}{dvs vs:List V}{a b c:Addr}{ws us cs:List V}{rz ps:List (Str×Int)}{ds:List aD}{f l:Int} (ev:vs++dvs=[.ref a,.ref b,.ref c,.int l,.int f]) (dc:DCls K C) (ha:H a=some (.lst ws)) (hr:RoomsAt H ws rz) (hb:SqL K H b us) (hd:Paired (D.at' H) us ds) (hc:SqL K H c cs) (hcp:Paired (cH H) cs ps) (nr:(rz.map (·.1)).Nodup) (nd:(ds.map (·.1)).Nodup) (hin:∀d∈ds,dN (rz.map (·.1)) d) (hpr:∀p∈ps,p.1∈rz.map (·.1)) (hf:sK rz ps) (lr:rz.length<=20) (ld:ds.length<=20) (lp:ps.length<=40) (h0:0<=f) (h1:f<=l)
  (k:∀p H',H p=none->Same H H'->aR C D H' p f l rz ps ds->Q (.ref p) H'):p7 C (fS K D) dvs E Q vs H:=by
 intro x dx nx nd0 ne;have s0:Same H (upd (upd H dx (.own x)) x (.ins C dx [])):=fun b o e=>by
  rw[aJ (bE e nx),aJ (bE e nd0)];exact e
 rw[ev];exact D0 dc aS (s0 _ _ ha) (hr.sm s0) (s0.seq hb) (nC hd s0) (s0.seq hc) (lQ hcp s0) nr nd hin hpr hf lr ld lp h0 h1 fun H' sb hh=>⟨rfl,k x H' nx (fun b o q=>sb b o (s0 b o q) (bE q nx)) hh⟩
theorem VZ (rz:List (Str×Int)):((szK rz).map fun e=>kV e.1)=(rz.map (·.1)).map V.str:=by unfold szK;rw[List.map_map,List.map_map];rfl
theorem zB {D:bD}{H:Hp}:∀{nk:List (Key×V)}{ds:List aD},mO D H nk ds->(nk.map fun e=>kV e.1)=(ds.map (·.1)).map V.str
 | _,_,.nil=>rfl
 | (k,v)::_,_,.cons h t=>by
  rw[List.map_cons,zB t,List.map_cons,List.map_cons];have:k= .inr _:=h.1;rw[this];rfl
theorem yG {D:bD}{H:Hp}:∀{nk:List (Key×V)}{ds:List aD},mO D H nk ds->nk.map (·.1)=(ds.map (·.1)).map (Sum.inr:Str->Key)
 | _,_,.nil=>rfl
 | (k,v)::_,_,.cons h t=>by
  rw[List.map_cons,yG t,List.map_cons,List.map_cons];have:k= .inr _:=h.1;rw[this]
theorem M4 {D:bD}{H:Hp}{nk:List (Key×V)}{ds:List aD} (h:mO D H nk ds):nk.length=ds.length:=Paired.length h
theorem QW {D:bD}{H:Hp}{nk:List (Key×V)}{ds:List aD} (h:mO D H nk ds) (nd:(ds.map (·.1)).Nodup) {d:aD} (hd:d∈ds):∃v,bB nk (.inr d.1)=some v/\D.at' H v d:=by
 obtain⟨i,hi,e⟩:=List.getElem_of_mem hd;have hl:=M4 h;have hx:nk[i]? =some nk[i]:=List.getElem?_eq_getElem (by lia);obtain⟨h1,h2⟩:=Paired.at2 h hx (show ds[i]? =some d by rw[List.getElem?_eq_getElem hi,e]);refine⟨_,?_,h2⟩;rw[←h1];exact mY (by rw[yG h];exact vA nd) (List.mem_of_getElem? hx)
inductive kZ (C:Addr)(D:bD)(g:List (Str×Int)->List aD->List Str)(vs:List V)(H:Hp)(Q:VK)(E:XK):Prop
 | mk (h:Addr) (f l:Int) (rz ps:List (Str×Int)) (ds:List aD) (_:vs=[.ref h]) (_:aR C D H h f l rz ps ds) (_:∀p H',H p=none->Same H H'->H' p=some (.lst ((g rz ds).map V.str))->Q (.ref p) H'):kZ C D g vs H Q E
theorem jF {C:Addr}{D:bD}{g:List (Str×Int)->List aD->List Str}{H:Hp}{Q:VK}{E:XK}{h:Addr}{f l:Int}{rz ps:List (Str×Int)}{ds:List aD} (hh:aR C D H h f l rz ps ds) (k:∀p H',H p=none->Same H H'->H' p=some (.lst ((g rz ds).map V.str))->Q (.ref p) H'):kZ C D g [.ref h] H Q E:=⟨_,_,_,_,_,_,rfl,hh,k⟩
theorem AE (m:M K mg):FnOk P w K mg base CX0 1 m.l6 m.mJ.d ["self"] (kZ m.aL (aO P w K mg base (some 4)) fun rz _=>rz.map (·.1)):=by
 refine m.mJ.F.ok sc_House_rooms (fun vs H Q E h=> ?_) (fun cdv A outer s H vs Q E hr h=> ?_)
 ·walk_at"g1";obtain⟨h,f,l,rz,ps,ds,rfl,hh,k⟩:=h;walk_at"g2";rfl
 ·walk_at"g1";obtain⟨h,f,l,rz,ps,ds,rfl,hh,k⟩:=h;walk_at"g2";have nd:=sc_House_rooms.nd;walk_at"hu";have w_dc_House:=m.aY;refine⟨_,(aE (aT (lK (yM rfl) rfl m.O5 JG (aA (bA (pv 0) rfl) aB)))),?_⟩;refine aM (σ:=[some (.ref h)]) rfl ?_;walk_at"cx";walk_at"g1";obtain⟨dx,qs,qp,qd,nk,kvs,e1,e2,e3,e4,e5,e6,e7⟩:=hh.ex;walk_at"g2";walk_at"go";refine D8 (.inl e2) fun p H1 n1 S1 e8=> ?_;rw[VZ]at e8;walk_at"go";exact k _ _ n1 S1 e8
theorem fF (m:M K mg):Mc P w K mg base m.aL "rooms" 1 (kZ m.aL (aO P w K mg base (some 4)) fun rz _=>rz.map (·.1)):=⟨_,_,_,m.aY.ic.cl,m.BA,m.mJ.b,AE m⟩
theorem AU (m:M K mg):FnOk P w K mg base CX0 1 m.mB m.mI.d ["self"] (kZ m.aL (aO P w K mg base (some 4)) fun _ ds=>ds.map (·.1)):=by
 refine m.mI.F.ok sc_House_doors (fun vs H Q E h=> ?_) (fun cdv A outer s H vs Q E hr h=> ?_)
 ·walk_at"g1";obtain⟨h,f,l,rz,ps,ds,rfl,hh,k⟩:=h;walk_at"g2";rfl
 ·walk_at"g1";obtain⟨h,f,l,rz,ps,ds,rfl,hh,k⟩:=h;walk_at"g2";have nd:=sc_House_doors.nd;walk_at"hu";have w_dc_House:=m.aY;refine⟨_,(aE (aT (lK (yM rfl) rfl m.O5 JG (aA (bA (pv 0) rfl) aB)))),?_⟩;refine aM (σ:=[some (.ref h)]) rfl ?_;walk_at"cx";walk_at"g1";obtain⟨dx,qs,qp,qd,nk,kvs,e1,e2,e3,e4,e5,e6,e7⟩:=hh.ex;walk_at"g2";walk_at"go";refine D8 (.inl e6) fun p H1 n1 S1 e8=> ?_;rw[zB e7]at e8;walk_at"go";exact k _ _ n1 S1 e8
theorem rP (m:M K mg):Mc P w K mg base m.aL "doors" 1 (kZ m.aL (aO P w K mg base (some 4)) fun _ ds=>ds.map (·.1)):=⟨_,_,_,m.aY.ic.cl,m.A9,m.mI.b,AU m⟩
inductive jO (C:Addr)(D:bD)(vs:List V)(H:Hp)(Q:VK)(E:XK):Prop
 | mk (h:Addr) (z:Str) (f l:Int) (rz ps:List (Str×Int)) (ds:List aD) (_:vs=[.ref h,.str z]) (_:aR C D H h f l rz ps ds) (_:(rz.map (·.1)).Nodup) (_:z∈rz.map (·.1)) (_:∀H',Same H H'->Q .non H'):jO C D vs H Q E
theorem lA {C:Addr}{D:bD}{H:Hp}{Q:VK}{E:XK}{h:Addr}{z:Str}{f l:Int}{rz ps:List (Str×Int)}{ds:List aD} (hh:aR C D H h f l rz ps ds) (nr:(rz.map (·.1)).Nodup) (hz:z∈rz.map (·.1)) (k:∀H',Same H H'->Q .non H'):jO C D [.ref h,.str z] H Q E:=⟨_,_,_,_,_,_,_,rfl,hh,nr,hz,k⟩
theorem uS (m:M K mg):FnOk P w K mg base CX0 2 m.iI m.iD.d ["self","room"] (jO m.aL (aO P w K mg base (some 4))):=by
 refine m.iD.F.ok sc_House_need_room (fun vs H Q E h=> ?_) (fun cdv A outer s H vs Q E hr h=> ?_)
 ·walk_at"g1";obtain⟨h,z,f,l,rz,ps,ds,rfl,hh,nr,hz,k⟩:=h;walk_at"g2";rfl
 ·walk_at"g1";obtain⟨h,z,f,l,rz,ps,ds,rfl,hh,nr,hz,k⟩:=h;walk_at"g2";have nd:=sc_House_need_room.nd;walk_at"hu";have F_need_rooms:= @t5 P w K mg base m;have w_dc_House:=m.aY;refine⟨_,(aE (bU (bK F_need_rooms hr (aA (dO (aA (pv 1) aB)) (aA (bA (pv 0) rfl) aB))))),?_⟩;refine aM (σ:=[some (.ref h),some (.str z)]) rfl ?_;walk_at"cx";walk_at"g1";obtain⟨dx,qs,qp,qd,nk,kvs,e1,e2,e3,e4,e5,e6,e7⟩:=hh.ex;walk_at"g2";obtain⟨i,hi,ev⟩:=E2 nr hz;walk_at"go";rename_i p H1 n1 S1 e8;refine JD (ss:=[z]) (SqL.of e8) (.inl (S1 _ _ e2)) (fun y hy=>by cases List.mem_singleton.mp hy;rw[ev];rfl) fun H2 S2=> ?_;walk_at"go";exact k _ (S1.trans S2)
theorem eQ (m:M K mg):Mc P w K mg base m.aL "need_room" 2 (jO m.aL (aO P w K mg base (some 4))):=⟨_,_,_,m.aY.ic.cl,m.vG,m.iD.b,uS m⟩
inductive sN (C:Addr)(D:bD)(vs:List V)(H:Hp)(Q:VK)(E:XK):Prop
 | mk (h:Addr) (z:Str) (i f l:Int) (rz ps:List (Str×Int)) (ds:List aD) (_:vs=[.ref h,.str z]) (_:aR C D H h f l rz ps ds) (_:(rz.map (·.1)).Nodup) (_:(z,i)∈rz) (_:∀H',Same H H'->Q (.int i) H'):sN C D vs H Q E
theorem WO {C:Addr}{D:bD}{H:Hp}{Q:VK}{E:XK}{h:Addr}{z:Str}{i f l:Int}{rz ps:List (Str×Int)}{ds:List aD} (hh:aR C D H h f l rz ps ds) (nr:(rz.map (·.1)).Nodup) (hz:(z,i)∈rz) (k:∀H',Same H H'->Q (.int i) H'):sN C D [.ref h,.str z] H Q E:=⟨_,_,_,_,_,_,_,_,rfl,hh,nr,hz,k⟩
theorem z7 (m:M K mg):FnOk P w K mg base CX0 3 m.l8 m.mF.d ["self","room"] (sN m.aL (aO P w K mg base (some 4))):=by
 refine m.mF.F.ok sc_House_holds (fun vs H Q E h=> ?_) (fun cdv A outer s H vs Q E hr h=> ?_)
 ·walk_at"g1";obtain⟨h,z,i,f,l,rz,ps,ds,rfl,hh,nr,hz,k⟩:=h;walk_at"g2";rfl
 ·walk_at"g1";obtain⟨h,z,i,f,l,rz,ps,ds,rfl,hh,nr,hz,k⟩:=h;walk_at"g2";have nd:=sc_House_holds.nd;walk_at"hu";have w_dc_House:=m.aY;have w_mc_House_need_room:= @eQ P w K mg base m;refine⟨_,(aC (bU (dL 2 hr (pv 0) (aA (pv 1) aB)))
   (aE (aT (bT hu1 (bA (pv 0) rfl) (pv 1) (fun _ _=>rfl))))),?_⟩
  refine aM (σ:=[some (.ref h),some (.str z)]) rfl ?_;walk_at"cx";walk_at"g1";obtain⟨dx,qs,qp,qd,nk,kvs,e1,e2,e3,e4,e5,e6,e7⟩:=hh.ex;walk_at"g2";walk_at"go";refine lA hh nr (List.mem_map.mpr ⟨_,hz,rfl⟩) fun H1 S1=> ?_;have e11:=S1 _ _ e1;walk_at"go";refine bL (.inl (S1 _ _ e2)) (AS nr hz) ?_;walk_at"go";exact k _ S1
theorem AG (m:M K mg):Mc P w K mg base m.aL "holds" 3 (sN m.aL (aO P w K mg base (some 4))):=⟨_,_,_,m.aY.ic.cl,m.A5,m.mF.b,z7 m⟩
inductive tD (C:Addr)(D:bD)(vs:List V)(H:Hp)(Q:VK)(E:XK):Prop
 | mk (h:Addr) (z:Str) (f l:Int) (rz ps:List (Str×Int)) (ds:List aD) (_:vs=[.ref h,.str z]) (_:aR C D H h f l rz ps ds) (_:(rz.map (·.1)).Nodup) (_:z∈rz.map (·.1)) (_:∀H',Same H H'->Q (.int (cQ ps z)) H'):tD C D vs H Q E
theorem A0 {C:Addr}{D:bD}{H:Hp}{Q:VK}{E:XK}{h:Addr}{z:Str}{f l:Int}{rz ps:List (Str×Int)}{ds:List aD} (hh:aR C D H h f l rz ps ds) (nr:(rz.map (·.1)).Nodup) (hz:z∈rz.map (·.1)) (k:∀H',Same H H'->Q (.int (cQ ps z)) H'):tD C D [.ref h,.str z] H Q E:=⟨_,_,_,_,_,_,_,rfl,hh,nr,hz,k⟩
theorem AX (m:M K mg):FnOk P w K mg base CX0 3 m.mH m.mE.d ["self","room"] (tD m.aL (aO P w K mg base (some 4))):=by
 refine m.mE.F.ok sc_House_found (fun vs H Q E h=> ?_) (fun cdv A outer s H vs Q E hr h=> ?_)
 ·walk_at"g1";obtain⟨h,z,f,l,rz,ps,ds,rfl,hh,nr,hz,k⟩:=h;walk_at"g2";rfl
 ·walk_at"g1";obtain⟨h,z,f,l,rz,ps,ds,rfl,hh,nr,hz,k⟩:=h;walk_at"g2";have nd:=sc_House_found.nd;walk_at"hu";have w_dc_House:=m.aY;have w_mc_House_need_room:= @eQ P w K mg base m;refine⟨_,(aC (bU (dL 2 hr (pv 0) (aA (pv 1) aB)))
   (aE (aT (bT hu1 (bA (pv 0) rfl) (pv 1) (fun _ _=>rfl))))),?_⟩
  refine aM (σ:=[some (.ref h),some (.str z)]) rfl ?_;walk_at"cx";walk_at"g1";obtain⟨dx,qs,qp,qd,nk,kvs,e1,e2,e3,e4,e5,e6,e7⟩:=hh.ex;walk_at"g2";walk_at"go";refine lA hh nr hz fun H1 S1=> ?_;have e11:=S1 _ _ e1;walk_at"go";refine bL (.inl (S1 _ _ e3)) (e5 z hz) ?_;walk_at"go";exact k _ S1
theorem kR (m:M K mg):Mc P w K mg base m.aL "found" 3 (tD m.aL (aO P w K mg base (some 4))):=⟨_,_,_,m.aY.ic.cl,m.A4,m.mE.b,AX m⟩
inductive vM (C:Addr)(D:bD)(vs:List V)(H:Hp)(Q:VK)(E:XK):Prop
 | mk (h:Addr) (d:aD) (f l:Int) (rz ps:List (Str×Int)) (ds:List aD) (_:vs=[.ref h,.str d.1]) (_:aR C D H h f l rz ps ds) (_:(ds.map (·.1)).Nodup) (_:d∈ds) (_:∀v,D.at' H v d->Q v H):vM C D vs H Q E
theorem rH {C:Addr}{D:bD}{H:Hp}{Q:VK}{E:XK}{h:Addr}{d:aD}{f l:Int}{rz ps:List (Str×Int)}{ds:List aD} (hh:aR C D H h f l rz ps ds) (nd:(ds.map (·.1)).Nodup) (hd:d∈ds) (k:∀v,D.at' H v d->Q v H):vM C D [.ref h,.str d.1] H Q E:=⟨_,_,_,_,_,_,_,rfl,hh,nd,hd,k⟩
theorem CT (m:M K mg):FnOk P w K mg base CX0 1 m.oQ m.oR.d ["self","name"] (vM m.aL (aO P w K mg base (some 4))):=by
 refine m.oR.F.ok sc_House_door (fun vs H Q E h=> ?_) (fun cdv A outer s H vs Q E hr h=> ?_)
 ·walk_at"g1";obtain⟨h,d,f,l,rz,ps,ds,rfl,hh,ndd,hd,k⟩:=h;walk_at"g2";rfl
 ·walk_at"g1";obtain⟨h,d,f,l,rz,ps,ds,rfl,hh,ndd,hd,k⟩:=h;walk_at"g2";have nd:=sc_House_door.nd;walk_at"hu";have w_dc_House:=m.aY;refine⟨_,(aC (cF (F5 (CB hu1 (pv 1) (bA (pv 0) rfl)) (by with_unfolding_all rfl)) (aE fN) bP)
   (aE (aT (bT hu1 (bA (pv 0) rfl) (pv 1) (fun _ _=>rfl))))),?_⟩
  refine aM (σ:=[some (.ref h),some (.str d.1)]) rfl ?_;walk_at"cx";walk_at"g1";obtain⟨dx,qs,qp,qd,nk,kvs,e1,e2,e3,e4,e5,e6,e7⟩:=hh.ex;walk_at"g2";obtain⟨v,ev,hv⟩:=QW e7 ndd hd;walk_at"go";refine yJ (.inl e6) ?_;rw[show (bB nk (.inr d.1)).isSome=true by rw[ev];rfl];walk_at"go";refine bL (.inl e6) ev ?_;walk_at"go";exact k _ hv
theorem d7 (m:M K mg):Mc P w K mg base m.aL "door" 1 (vM m.aL (aO P w K mg base (some 4))):=⟨_,_,_,m.aY.ic.cl,m.DF,m.oR.b,CT m⟩
def cB (rz:List (Str×Int))(f:Int)(n:Nat):List (Str×Int):=((List.range n).map fun (i:Nat)=>rz.map fun e=>(e.1,f+(i:Int))).flatten
theorem iM (rz:List (Str×Int))(f:Int)(n:Nat):cB rz f (n+1)=cB rz f n++rz.map fun e=>(e.1,f+(n:Int)):=by
 unfold cB;rw[List.range_succ,List.map_append,List.flatten_append];simp
theorem tE (rz:List (Str×Int))(f:Int):∀n,(cB rz f n).length=n * rz.length
 | 0=>by simp[cB]
 | n+1=>by rw[iM,List.length_append,tE rz f n,List.length_map,Nat.succ_mul]
theorem ER {H:Hp}{t:Int}:∀{rz:List (Str×Int)}{ys:List V},Paired (fun (e:Key×V) y=>∀z,e.1= .inr z->cH H y (z,t)) (szK rz) ys->Paired (cH H) ys (rz.map fun e=>(e.1,t))
 | [],_,.nil=> .nil
 | _::_,_,.cons h t=> .cons (h _ rfl) (ER t)
theorem JK {H H':Hp}{p:Addr}{xs ws:List V}{ps:List (Str×Int)} (h:Paired (cH H) ws ps) (e:H p=some (.lst xs)) (sb:SameBut p H H'):Paired (cH H') ws ps:=Paired.imp' (fun v r ⟨q,e1,h⟩=>⟨q,e1,sb _ _ h fun z=>by rw[z,e]at h;cases h⟩) h
theorem yF {α β:Type}{F:α->β->Prop}:∀{l l2:List α}{m m2:List β},Paired F l m->Paired F l2 m2->Paired F (l++l2) (m++m2)
 | _,_,_,_,.nil,h=>h
 | _,_,_,_,.cons r t,h=> .cons r (yF t h)
inductive sS (C:Addr)(D:bD)(vs:List V)(H:Hp)(Q:VK)(E:XK):Prop
 | mk (h:Addr) (f l:Int) (rz ps:List (Str×Int)) (ds:List aD) (_:vs=[.ref h]) (_:aR C D H h f l rz ps ds) (_:0<=f) (_:f<=l) (_:l<1000000000000) (_:l - f<=1000) (_:rz.length<=20) (_:∀p ys H',H p=none->Same H H'->H' p=some (.lst ys)->Paired (cH H') ys (cB rz f (l+1 - f).toNat)->Q (.ref p) H'):sS C D vs H Q E
theorem V6 {C:Addr}{D:bD}{H:Hp}{Q:VK}{E:XK}{h:Addr}{f l:Int}{rz ps:List (Str×Int)}{ds:List aD} (hh:aR C D H h f l rz ps ds) (h0:0<=f) (h1:f<=l) (h2:l<1000000000000) (h3:l - f<=1000) (lr:rz.length<=20) (k:∀p ys H',H p=none->Same H H'->H' p=some (.lst ys)->Paired (cH H') ys (cB rz f (l+1 - f).toNat)->Q (.ref p) H'):sS C D [.ref h] H Q E:=⟨_,_,_,_,_,_,rfl,hh,h0,h1,h2,h3,lr,k⟩
theorem AD (m:M K mg):FnOk P w K mg base CX0 1 m.l9 m.mG.d ["self"] (sS m.aL (aO P w K mg base (some 4))):=by
 refine m.mG.F.ok sc_House_pairs (fun vs H Q E h=> ?_) (fun cdv A outer s H vs Q E hr h=> ?_)
 ·walk_at"g1";obtain⟨h,f,l,rz,ps,ds,rfl,hh,h0,h1,h2,h3,lr,k⟩:=h;walk_at"g2";rfl
 ·walk_at"g1";obtain⟨h,f,l,rz,ps,ds,rfl,hh,h0,h1,h2,h3,lr,k⟩:=h;walk_at"g2";have nd:=sc_House_pairs.nd;walk_at"hu";have w_dc_House:=m.aY;refine⟨_,(aC (aQ (i:=1) nd rfl (by walk_at"oi") (dO aB))
   (aC (cG PassesOwn.never rfl (uM rfl m.hG (aA (bA (pv 0) rfl) (aA (aI bS (bA (pv 0) rfl) aF) aB))) (aK (i:=2) nd rfl (by walk_at"oi")) (aE (bU (v4 PySem.F.plainAttrs_list PySem.F.slot_list_extend PySem.F.type_list_extend L5 (pv 1) (aA (rK (bW (N:=["room","turn"]) (nl:=1) (ci:=[2]) rfl (blk (s.heap.objs.size+1) rfl rfl rfl (by kernel_rfl)) (tM (bA (pv 0) rfl)) (fun _ _ _ _=>(aK (i:=0) (show (["room","turn"]:List Str).Nodup by decide +kernel) rfl (by walk_at"oi"))) (fun _ _ _ _=>d0) (fun _ _ _ _=>(dM (aA (pv 0) (aA (pv 1) aB)))))) aB)))))
   (aE (aT (pv 1))))),?_⟩
  refine aM (σ:=[some (.ref h),none,none]) rfl ?_;walk_at"cx";walk_at"g1";obtain⟨dx,qs,qp,qd,nk,kvs,e1,e2,e3,e4,e5,e6,e7⟩:=hh.ex;walk_at"g2";have hl2:(szK rz).length=rz.length:=by unfold szK;rw[List.length_map]
  walk_at"go";rename_i p H1 n1 S1 ep;have e21:=S1 _ _ e2;have e11:=S1 _ _ e1;have hqsp:qs≠p:=fun z=>by rw[z,n1]at e2;cases e2
  have hhp:h≠p:=fun z=>by rw[z,n1]at e1;cases e1
  let Pv1:Nat->St->Hp->Prop:=fun i σ' H'=>SameBut p H1 H'/\(∃ys,H' p=some (.lst ys)/\Paired (cH H') ys (cB rz f i))/\∃x,σ'=[some (.ref h),some (.ref p),x];refine rG Pv1 ⟨SameBut.refl,⟨[],ep,.nil⟩,_,rfl⟩ ?_ ?_
  ·rintro i _ H' hi hq_;walk_at"g1";obtain⟨sb,⟨ys,ey,hys⟩,x,rfl⟩:=hq_;walk_at"g2";have e2':=sb _ _ e21 hqsp;have e1':=sb _ _ e11 hhp;have hyl:ys.length=i * rz.length:=by rw[Paired.length hys,tE]
   have hyb:ys.length<=1001 * 20:=by
    rw[hyl];exact Nat.mul_le_mul (by lia) lr
   walk_at"go";refine nO e2' yE ?_;walk_at"go";refine sM e2' fun o H2 B2 e22=> ?_;have hpq:p≠qs:=Ne.symm hqsp;refine FM (fun _=>true) (fun e y H=>∀z,e.1= .inr z->cH H y (z,f+(i:Int))) (fun _ _ _ _ hh s z hz=>let ⟨q,a1,a2⟩:=hh z hz;⟨q,a1,s _ _ a2⟩) (by rw[sizeLine_eq];lia) (rest:=[some (.int (f+(i:Int)))]) (by rfl) e22 (fun x H6 hx s6 R hR=>hR _ (Same.refl _)) ?_ ?_
   ·rintro x H6 hx - s6 R hR;obtain⟨e,he,rfl⟩:=List.mem_map.mp hx;show (_:TE) (some (V.str e.1)::[some (.int (f+(i:Int)))]) H6 R;walk_at"go";rename_i q7 H7 n7 S7 e77;exact hR _ _ (fun z hz=>by cases hz;exact⟨q7,rfl,e77⟩) S7
   intro zs H3 s3 hzs;rw[dZ]at hzs;have hzp:=ER hzs;walk_at"go";rename_i q4 H4 n4 S4 e44;refine jC (S4 _ _ (s3 _ _ e22)) fun H5 B5 e55=> ?_;have hq4:q4≠qs:=fun z=>by rw[z,s3 _ _ e22]at n4;cases n4
   have ey2:=B2 _ _ ey hpq;have ey5:H5 p=some (.lst ys):=B5 _ _ (S4 _ _ (s3 _ _ ey2)) hpq;have sX:Same H' H5:=qB e2' B2 (Same.but (s3.trans S4)) B5 e55;have hz5:Paired (cH H5) zs (rz.map fun e=>(e.1,f+(i:Int))):=Paired.imp' (fun v r ⟨q,a1,a2⟩=>⟨q,a1,B5 _ _ (S4 _ _ a2) fun z=>by rw[z,s3 _ _ e22]at a2;cases a2⟩) hzp;have hzl:zs.length=rz.length:=by rw[Paired.length hz5,List.length_map]
   walk_at"go";refine MC ey5 (B5 _ _ e44 hq4) (by rw[sizeLine_eq];lia) fun H6 B6 e66=> ?_;walk_at"go";refine⟨(sb.trans sX.but).trans B6,⟨_,e66,?_⟩,_,rfl⟩;rw[iM];exact yF (JK (lQ hys sX) ey5 B6) (JK hz5 ey5 B6)
  ·rintro _ H' hq_;walk_at"g1";obtain⟨sb,⟨ys,ey,hys⟩,x,rfl⟩:=hq_;walk_at"g2";walk_at"go";exact k _ _ _ n1 (SameBut.same n1 S1 sb) ey hys
theorem AB (m:M K mg):Mc P w K mg base m.aL "pairs" 1 (sS m.aL (aO P w K mg base (some 4))):=⟨_,_,_,m.aY.ic.cl,m.BB,m.mG.b,AD m⟩
local macro_rules| `(tactic| walk_at"rd1")=> `(tactic| first|(with_reducible refine rd_vals ?_)|(with_reducible refine rd_v13 ?_)|(with_reducible refine rd_s13 ?_)|(with_reducible refine rd_v14 ?_)|(with_reducible refine rd_s14 ?_)|(with_reducible refine rd_v15 ?_)|(with_reducible refine rd_s15 ?_)|(with_reducible refine rd_v16 ?_)|(with_reducible refine rd_s16 ?_)|(with_reducible refine rd_v17 ?_)|(with_reducible refine rd_s17 ?_)|(with_reducible refine rd_v18 ?_)|(with_reducible refine rd_s18 ?_)|(with_reducible refine rd_iEnum ?_)|((with_reducible refine' rd_iEnumV ?e ?_);(case e=>walk_at"hp"))|((with_reducible refine' rd_repS ?a ?b ?c ?_);(case a=>walk_at"sd");(case b=>walk_at"sd");(case c=>walk_at"sz")))
def bJ (ds:List aD)(z:Str):List Str:=(ds.filter fun d=>decide (d.2.1=z)).map (·.1)
def dJ (ds:List aD)(z:Str):List Str:=(ds.filter fun d=>decide (d.2.2.1= .str z)).map (·.1)
inductive mZ (C:Addr)(D:bD)(g:List aD->Str->List Str)(vs:List V)(H:Hp)(Q:VK)(E:XK):Prop
 | mk (h:Addr) (z:Str) (f l:Int) (rz ps:List (Str×Int)) (ds:List aD) (_:vs=[.ref h,.str z]) (_:aR C D H h f l rz ps ds) (_:(rz.map (·.1)).Nodup) (_:z∈rz.map (·.1)) (_:ds.length<=20) (_:(∀d∈ds,dN (rz.map (·.1)) d)) (_:∀p H',H p=none->Same H H'->H' p=some (.lst ((g ds z).map V.str))->Q (.ref p) H'):mZ C D g vs H Q E
theorem uN {C:Addr}{D:bD}{g:List aD->Str->List Str}{H:Hp}{Q:VK}{E:XK}{h:Addr}{z:Str}{f l:Int}{rz ps:List (Str×Int)}{ds:List aD} (hh:aR C D H h f l rz ps ds) (nr:(rz.map (·.1)).Nodup) (hz:z∈rz.map (·.1)) (ld:ds.length<=20) (hin:∀d∈ds,dN (rz.map (·.1)) d) (k:∀p H',H p=none->Same H H'->H' p=some (.lst ((g ds z).map V.str))->Q (.ref p) H'):mZ C D g [.ref h,.str z] H Q E:=⟨_,_,_,_,_,_,_,rfl,hh,nr,hz,ld,hin,k⟩
theorem u4 (m:M K mg):FnOk P w K mg base CX0 3 m.iG m.iF.d ["self","room"] (mZ m.aL (aO P w K mg base (some 4)) bJ):=by
 refine m.iF.F.ok sc_House_from_room (fun vs H Q E h=> ?_) (fun cdv A outer s H vs Q E hr h=> ?_)
 ·walk_at"g1";obtain⟨h,z,f,l,rz,ps,ds,rfl,hh,nr,hz,hlen,hin,k⟩:=h;walk_at"g2";rfl
 ·walk_at"g1";obtain⟨h,z,f,l,rz,ps,ds,rfl,hh,nr,hz,hlen,hin,k⟩:=h;walk_at"g2";have nd:=sc_House_from_room.nd;walk_at"hu";have w_dc_House:=m.aY;have w_mc_House_need_room:= @eQ P w K mg base m;refine⟨_,(aC (bU (dL 2 hr (pv 0) (aA (pv 1) aB)))
   (aE (aT (rK (bW (N:=["name","door","room"]) (nl:=2) (ci:=[1]) rfl (blk (s.heap.objs.size+1) rfl rfl rfl (by kernel_rfl)) (CG (bA (pv 0) rfl)) (fun _ _ _ _=>(jJ (K:=K) (n:=2) rfl (aW (aK (i:=0) (show (["name","door","room"]:List Str).Nodup by decide +kernel) rfl (by walk_at"oi")) (aW (aK (i:=1) (show (["name","door","room"]:List Str).Nodup by decide +kernel) rfl (by walk_at"oi")) c4)))) (fun _ _ _ _=>(gH (bC gU (rL (K:=K) (pv 1) rfl) (pv 2) (bH _)))) (fun _ _ _ _=>(pv 0))))))),?_⟩
  refine aM (σ:=[some (.ref h),some (.str z)]) rfl ?_;walk_at"cx";walk_at"g1";obtain⟨dx,qs,qp,qd,nk,kvs,e1,e2,e3',e4',e5',e6,e7⟩:=hh.ex;walk_at"g2";walk_at"go";refine lA hh nr hz fun H1 S1=> ?_;have e31:=S1 _ _ e6;have e11:=S1 _ _ e1;walk_at"go";refine nO e31 yE ?_;walk_at"go";refine BT e31 fun o H2 B2 e32=> ?_;have hn2:mO (aO P w K mg base (some 4)) H2 nk ds:=Paired.imp' (fun e d h=>⟨h.1,(aO P w K mg base (some 4)).but ((aO P w K mg base (some 4)).same h.2 S1) e31 trivial B2⟩) e7;refine JQ (α:=aD) (xs:=ds) (fun e d=>e.1= .inr d.1/\(aO P w K mg base (some 4)).at' H2 e.2 d) (fun d=>decide (d.2.1=z)) (fun d y _=>y= .str d.1) (fun _ _ _ _ h _=>h) (by rw[sizeLine_eq];lia) (rest:=[some (.str z)]) (by rfl) e32 hn2 ?_ ?_ ?_
  ·rintro ⟨kk,v⟩ ⟨n,st,e,lt⟩ H3 ⟨h1,h2⟩ hm s3 R hR;walk_at"g1";obtain⟨q,C9,dx,fs,fp,h3,hq,dcC,l1,l2,l3,l4,l5,mcE,hfp,hlt⟩:=DoorAt.ex h2;walk_at"g2";cases h1;have h3:v= .ref q:=h3;subst h3;have hq:=s3 _ _ hq;show (_:TT) (some (V.str n)::some (V.ref q)::[some (.str z)]) H3 R;walk_at"go";exact hR _ (Same.refl _)
  ·rintro ⟨kk,v⟩ ⟨n,st,e,lt⟩ H3 ⟨h1,h2⟩ hm - s3 R hR;cases h1;show (_:TE) (some (V.str n)::some v::[some (.str z)]) H3 R;walk_at"go";exact hR _ _ rfl (Same.refl _)
  intro ys H3 s3 hys;have ey:=c9 hys;walk_at"go";rename_i p H4 n4 S4 e4;refine jC (S4 _ _ (s3 _ _ e32)) fun H5 B5 e5=> ?_;have hpq:p≠qd:=fun z=>by rw[z,s3 _ _ e32]at n4;cases n4
  have hn:H p=none:=by
   cases hq:H p with
   | none=>rfl
   | some u =>
    have:=s3 _ _ (B2 _ _ (S1 _ _ hq) hpq);rw[n4]at this;cases this
  walk_at"go";refine k p H5 hn (qB e6 (fun x u hx hxa=>B2 _ _ (S1 _ _ hx) hxa) (Same.but (s3.trans S4)) B5 e5) ?_;have:=B5 _ _ e4 hpq;rw[this,ey];unfold bJ;rw[List.map_map];rfl
theorem lO (m:M K mg):Mc P w K mg base m.aL "from_room" 3 (mZ m.aL (aO P w K mg base (some 4)) bJ):=⟨_,_,_,m.aY.ic.cl,m.vC,m.iF.b,u4 m⟩
theorem CU (m:M K mg):FnOk P w K mg base CX0 3 m.pK m.oW.d ["self","room"] (mZ m.aL (aO P w K mg base (some 4)) dJ):=by
 refine m.oW.F.ok sc_House_into (fun vs H Q E h=> ?_) (fun cdv A outer s H vs Q E hr h=> ?_)
 ·walk_at"g1";obtain⟨h,z,f,l,rz,ps,ds,rfl,hh,nr,hz,hlen,hin,k⟩:=h;walk_at"g2";rfl
 ·walk_at"g1";obtain⟨h,z,f,l,rz,ps,ds,rfl,hh,nr,hz,hlen,hin,k⟩:=h;walk_at"g2";have nd:=sc_House_into.nd;walk_at"hu";have w_dc_House:=m.aY;have w_mc_House_need_room:= @eQ P w K mg base m;refine⟨_,(aC (bU (dL 2 hr (pv 0) (aA (pv 1) aB)))
   (aE (aT (rK (bW (N:=["name","door","room"]) (nl:=2) (ci:=[1]) rfl (blk (s.heap.objs.size+1) rfl rfl rfl (by kernel_rfl)) (CG (bA (pv 0) rfl)) (fun _ _ _ _=>(jJ (K:=K) (n:=2) rfl (aW (aK (i:=0) (show (["name","door","room"]:List Str).Nodup by decide +kernel) rfl (by walk_at"oi")) (aW (aK (i:=1) (show (["name","door","room"]:List Str).Nodup by decide +kernel) rfl (by walk_at"oi")) c4)))) (fun _ _ _ _=>(gH (bC gU (rL (K:=K) (pv 1) rfl) (pv 2) (bH _)))) (fun _ _ _ _=>(pv 0))))))),?_⟩
  refine aM (σ:=[some (.ref h),some (.str z)]) rfl ?_;walk_at"cx";walk_at"g1";obtain⟨dx,qs,qp,qd,nk,kvs,e1,e2,e3',e4',e5',e6,e7⟩:=hh.ex;walk_at"g2";walk_at"go";refine lA hh nr hz fun H1 S1=> ?_;have e31:=S1 _ _ e6;have e11:=S1 _ _ e1;walk_at"go";refine nO e31 yE ?_;walk_at"go";refine BT e31 fun o H2 B2 e32=> ?_;have hn2:mO (aO P w K mg base (some 4)) H2 nk ds:=Paired.imp' (fun e d h=>⟨h.1,(aO P w K mg base (some 4)).but ((aO P w K mg base (some 4)).same h.2 S1) e31 trivial B2⟩) e7;refine JQ (α:=aD) (xs:=ds) (fun e d=>e.1= .inr d.1/\(aO P w K mg base (some 4)).at' H2 e.2 d) (fun d=>decide (d.2.2.1= .str z)) (fun d y _=>y= .str d.1) (fun _ _ _ _ h _=>h) (by rw[sizeLine_eq];lia) (rest:=[some (.str z)]) (by rfl) e32 hn2 ?_ ?_ ?_
  ·rintro ⟨kk,v⟩ ⟨n,st,e,lt⟩ H3 ⟨h1,h2⟩ hm s3 R hR;walk_at"g1";obtain⟨q,C9,dx,fs,fp,h3,hq,dcC,l1,l2,l3,l4,l5,mcE,hfp,hlt⟩:=DoorAt.ex h2;walk_at"g2";cases h1;have h3:v= .ref q:=h3;subst h3;have hq:=s3 _ _ hq;have hend:=(hin _ hm).2;have hR':=hR _ (Same.refl _);show (_:TT) (some (V.str n)::some (V.ref q)::[some (.str z)]) H3 R;rcases hend with hend|⟨y,hend,hy⟩
   ·have hde:e= .non:=hend;subst hde;rw[show decide (((n,st,V.non,lt):aD).2.2.1= .str z)=false from decide_eq_false fun z=>nomatch z]at hR';walk_at"go";exact hR'
   ·have hde:e= .str y:=hend;subst hde;rw[show decide (((n,st,V.str y,lt):aD).2.2.1= .str z)=decide (y=z) by
     by_cases h:y=z
     ·rw[decide_eq_true h];exact decide_eq_true (by rw[h])
     ·rw[decide_eq_false h];exact decide_eq_false fun x=>h (V.str.inj x)]at hR'
    walk_at"go";exact hR'
  ·rintro ⟨kk,v⟩ ⟨n,st,e,lt⟩ H3 ⟨h1,h2⟩ hm - s3 R hR;cases h1;show (_:TE) (some (V.str n)::some v::[some (.str z)]) H3 R;walk_at"go";exact hR _ _ rfl (Same.refl _)
  intro ys H3 s3 hys;have ey:=c9 hys;walk_at"go";rename_i p H4 n4 S4 e4;refine jC (S4 _ _ (s3 _ _ e32)) fun H5 B5 e5=> ?_;have hpq:p≠qd:=fun z=>by rw[z,s3 _ _ e32]at n4;cases n4
  have hn:H p=none:=by
   cases hq:H p with
   | none=>rfl
   | some u =>
    have:=s3 _ _ (B2 _ _ (S1 _ _ hq) hpq);rw[n4]at this;cases this
  walk_at"go";refine k p H5 hn (qB e6 (fun x u hx hxa=>B2 _ _ (S1 _ _ hx) hxa) (Same.but (s3.trans S4)) B5 e5) ?_;have:=B5 _ _ e4 hpq;rw[this,ey];unfold dJ;rw[List.map_map];rfl
theorem CW (m:M K mg):Mc P w K mg base m.aL "into" 3 (mZ m.aL (aO P w K mg base (some 4)) dJ):=⟨_,_,_,m.aY.ic.cl,m.DG,m.oW.b,CU m⟩
def hZ (f l:Int)(d:aD)(t:Int):Int:=if f<=t/\t<l then d.2.2.2 t else 0
inductive tH (C:Addr)(D:bD)(vs:List V)(H:Hp)(Q:VK)(E:XK):Prop
 | mk (h:Addr) (d:aD) (t f l:Int) (rz ps:List (Str×Int)) (ds:List aD) (_:vs=[.ref h,.str d.1,.int t]) (_:aR C D H h f l rz ps ds) (_:(ds.map (·.1)).Nodup) (_:d∈ds) (_:0<=f) (_:∀H',Same H H'->Q (.int (hZ f l d t)) H'):tH C D vs H Q E
theorem UG {C:Addr}{D:bD}{H:Hp}{Q:VK}{E:XK}{h:Addr}{d:aD}{t f l:Int}{rz ps:List (Str×Int)}{ds:List aD} (hh:aR C D H h f l rz ps ds) (nd:(ds.map (·.1)).Nodup) (hd:d∈ds) (hf:0<=f) (k:∀H',Same H H'->Q (.int (hZ f l d t)) H'):tH C D [.ref h,.str d.1,.int t] H Q E:=⟨_,_,_,_,_,_,_,_,rfl,hh,nd,hd,hf,k⟩
theorem CO (m:M K mg):FnOk P w K mg base CX0 6 m.pJ m.o8.d ["self","name","turn"] (tH m.aL (aO P w K mg base (some 4))):=by
 refine m.o8.F.ok sc_House_lets (fun vs H Q E h=> ?_) (fun cdv A outer s H vs Q E hr h=> ?_)
 ·walk_at"g1";obtain⟨h,d,t,f,l,rz,ps,ds,rfl,hh,ndd,hd,hf,k⟩:=h;walk_at"g2";rfl
 ·walk_at"g1";obtain⟨h,d,t,f,l,rz,ps,ds,rfl,hh,ndd,hd,hf,k⟩:=h;walk_at"g2";have nd:=sc_House_lets.nd;walk_at"hu";have w_dc_House:=m.aY;have w_mc_House_door:= @d7 P w K mg base m;refine⟨_,(aC (aQ (i:=3) nd rfl (by walk_at"oi") (dL 1 hr (pv 0) (aA (pv 1) aB)))
   (aC (cF (PW.pt (ST (bC mP (pv 2) (bA (pv 0) rfl) (bH _)) (NH (bC JU (pv 2) (bA (pv 0) rfl) (bH _))))) (aE (aT aF)) bP)
   (aE (aT (dL 4 hr (pv 3) (aA (pv 2) aB)))))),?_⟩
  refine aM (σ:=[some (.ref h),some (.str d.1),some (.int t),none]) rfl ?_;walk_at"cx";walk_at"g1";obtain⟨dx,qs,qp,qd,nk,kvs,e1,_⟩:=hh.ex;walk_at"g2";walk_at"g1";obtain⟨n,st,e,lt⟩:=d;walk_at"g2";walk_at"go";refine rH (d:=(n,st,e,lt)) hh ndd hd fun v hv=> ?_;walk_at"g1";obtain⟨q2,C2,dx2,fs2,fp2,rfl,hq2,dcC,l1,l2,l3,l4,l5,mcE,hfp,hlt⟩:=DoorAt.ex hv;walk_at"g2";obtain⟨sp,mcL,hsp⟩:=hlt _ rfl;walk_at"go";refine cN (fun hc=> ?_) (fun hc=> ?_)
  ·have hk:hZ f l (n,st,e,lt) t=0:=by unfold hZ;rw[if_neg (by lia)]
   rw[hk]at k;walk_at"go";exact k _ (Same.refl _)
  ·walk_at"go";refine cN (fun hc2=> ?_) (fun hc2=> ?_)
   ·have hk:hZ f l (n,st,e,lt) t=0:=by unfold hZ;rw[if_neg (by lia)]
    rw[hk]at k;walk_at"go";exact k _ (Same.refl _)
   ·have hk:hZ f l (n,st,e,lt) t=lt t:=by unfold hZ;rw[if_pos (by lia)]
    rw[hk]at k;walk_at"go";exact hsp _ _ _ hq2 (fun x hx=>(hfp x hx).1) (by lia) k
theorem C4 (m:M K mg):Mc P w K mg base m.aL "lets" 6 (tH m.aL (aO P w K mg base (some 4))):=⟨_,_,_,m.aY.ic.cl,m.DK,m.o8.b,CO m⟩
def uU (H:Hp)(v:V)(r:aH):Prop:=∃q,v= .ref q/\H q=some (.tup [.int r.1,.str r.2.1,.int r.2.2])
abbrev bY (H:Hp)(vs:List V)(rows:List aH):Prop:=Paired (uU H) vs rows
theorem dI {H H':Hp}{vs:List V}{rows:List aH} (h:bY H vs rows) (s:Same H H'):bY H' vs rows:=Paired.imp' (fun v r ⟨q,e,h⟩=>⟨q,e,s _ _ h⟩) h
theorem qN {α β:Type}{F:α->β->Prop}:∀{l:List α}{m:List β},Paired F l m->Paired (fun b a=>F a b) m l
 | _,_,.nil=> .nil
 | _,_,.cons h t=> .cons h (qN t)
def cnt (ns:List Str)(f l:Int)(r:aH):Bool:=decide (r.2.1∈ns)&&(decide (f<=r.1)&&decide (r.1<l))
inductive tL (K:PySem.W.Frag)(C:Addr)(D:bD)(vs:List V)(H:Hp)(Q:VK)(E:XK):Prop
 | mk (h a:Addr) (f l:Int) (rz ps:List (Str×Int)) (ds:List aD) (us:List V) (rows:List aH) (_:vs=[.ref h,.ref a]) (_:aR C D H h f l rz ps ds) (_:SqL K H a us) (_:bY H us rows) (_:rows.length<=200) (_:∀p ys H',H p=none->Same H H'->H' p=some (.lst ys)->bY H' ys (rows.filter (cnt (ds.map (·.1)) f l))->Q (.ref p) H'):tL K C D vs H Q E
theorem AT {C:Addr}{D:bD}{H:Hp}{Q:VK}{E:XK}{h a:Addr}{f l:Int}{rz ps:List (Str×Int)}{ds:List aD}{us:List V}{rows:List aH} (hh:aR C D H h f l rz ps ds) (hS:SqL K H a us) (hp:bY H us rows) (hl:rows.length<=200) (k:∀p ys H',H p=none->Same H H'->H' p=some (.lst ys)->bY H' ys (rows.filter (cnt (ds.map (·.1)) f l))->Q (.ref p) H'):tL K C D [.ref h,.ref a] H Q E:=⟨_,_,_,_,_,_,_,_,_,rfl,hh,hS,hp,hl,k⟩
theorem u0 (m:M K mg):FnOk P w K mg base CX0 2 m.iH m.fE.d ["house","plan"] (tL K m.aL (aO P w K mg base (some 4))):=by
 refine m.fE.F.ok sc_rows_that_count (fun vs H Q E h=> ?_) (fun cdv A outer s H vs Q E hr h=> ?_)
 ·walk_at"g1";obtain⟨h,a,f,l,rz,ps,ds,us,rows,rfl,hh,hS,hpl,hlen,k⟩:=h;walk_at"g2";rfl
 ·walk_at"g1";obtain⟨h,a,f,l,rz,ps,ds,us,rows,rfl,hh,hS,hpl,hlen,k⟩:=h;walk_at"g2";have nd:=sc_rows_that_count.nd;walk_at"hu";have w_dc_House:=m.aY;have w_mc_House_doors:= @rP P w K mg base m;refine⟨_,(aC (aQ (i:=2) nd rfl (by walk_at"oi") (fT 1 hr (pv 0)))
   (aE (aT (bW (N:=["row","doors","house"]) (nl:=1) (ci:=[2,0]) rfl (blk (s.heap.objs.size+1) rfl rfl rfl (by kernel_rfl)) (bI (pv 1)) (fun _ _ _ _=>(aK (i:=0) (show (["row","doors","house"]:List Str).Nodup by decide +kernel) rfl (by walk_at"oi"))) (fun _ _ _ _=>(gH (PW.pt (uV (bC (yI (K:=K)) (dH (jG (K:=K)) (pv 0) aF (fun _ _=>rfl)) (pv 1) (by with_unfolding_all rfl)) (rT (Q7 KW mP (rL (K:=K) (pv 2) rfl) (dH (jG (K:=K)) (pv 0) aF (fun _ _=>rfl)) (rL (K:=K) (pv 2) rfl))))))) (fun _ _ _ _=>(pv 0)))))),?_⟩
  refine aM (σ:=[some (.ref h),some (.ref a),none]) rfl ?_;walk_at"cx";walk_at"g1";obtain⟨dx,qs,qp,qd,nk,kvs,e1,e2,e3,e4,e5,e6,e7⟩:=hh.ex;walk_at"g2";walk_at"go";refine jF hh fun p1 H1 n1 S1 e8=> ?_;have e11:=S1 _ _ e1;walk_at"go";refine jE (α:=aH) (xs:=rows) (vs:=us) (uU H1) (cnt (ds.map (·.1)) f l) (fun r y H=>uU H y r) (fun _ _ _ _ ⟨q,h1,h2⟩ s=>⟨q,h1,s _ _ h2⟩) (by rw[sizeLine_eq];lia) (rest:=[some (.ref p1),some (.ref h)]) (by rfl) (S1.seq hS) (dI hpl S1) ?_ ?_ ?_
  ·rintro v ⟨t0,n0,j0⟩ H2 ⟨q,rfl,hq⟩ hm s2 R hR;have hq':H2 q=some (.tup [.int t0,.str n0,.int j0]):=s2 _ _ hq;have ep:=s2 _ _ e8;have eh:=s2 _ _ e11;walk_at"go";refine⟨q,_,1,_,rfl,rfl,SqT.of hq',rfl,?_⟩;walk_at"go";refine OE (SqL.of ep) ?_;have hR':=hR _ (Same.refl _);unfold cnt at hR';walk_at"go";refine cN (fun hc=> ?_) (fun hc=> ?_)
   ·rw[decide_eq_true hc,Bool.true_and]at hR';walk_at"go";refine⟨q,_,0,_,rfl,rfl,SqT.of hq',rfl,?_⟩;walk_at"go";refine cN (fun hc2=> ?_) (fun hc2=> ?_)
    ·rw[decide_eq_true hc2,Bool.true_and]at hR';walk_at"go";exact hR'
    ·rw[decide_eq_false hc2,Bool.false_and]at hR';exact⟨false,rfl,hR'⟩
   ·rw[decide_eq_false hc,Bool.false_and]at hR';exact hR'
  ·rintro v ⟨t0,n0,j0⟩ H2 ⟨q,rfl,hq⟩ hm - s2 R hR;walk_at"go";exact hR _ _ ⟨q,rfl,s2 _ _ hq⟩ (Same.refl _)
  intro ys H2 s2 hys;have hpl2:=qN hys;walk_at"go";rename_i p3 H3 n3 S3 e33;refine k _ _ _ ?_ ((S1.trans s2).trans S3) e33 (dI hpl2 S3);cases hq:H p3 with
  | none=>rfl
  | some u=>rw[s2 _ _ (S1 _ _ hq)]at n3;cases n3
theorem gG (m:M K mg):Fc P w K mg base "rows_that_count" 2 ["house","plan"] (tL K m.aL (aO P w K mg base (some 4))):=⟨_,_,m.wF,m.fE.F.kp,m.fE.b,u0 m⟩
def uK (key:aH->Option (List Key))(kvs:List (List Key×V))(r:aH):List (List Key×V):=match key r with
 | some k=>bX kvs k (.int (mK ((bB kvs k).getD (.int 0))+r.2.2))
 | none=>kvs
def hO (key:aH->Option (List Key))(rows:List aH):List (List Key×V):=rows.foldl (uK key) []
theorem jD (key:aH->Option (List Key))(rows:List aH)(r:aH):hO key (rows++[r])=uK key (hO key rows) r:=by unfold hO;rw[List.foldl_append];rfl
def kW (key:aH->Option (List Key))(rows:List aH)(k:List Key):Int:=((rows.filter fun r=>decide (key r=some k)).map (·.2.2)).sum
theorem NB (key:aH->Option (List Key))(rows:List aH)(r:aH)(k:List Key):kW key (rows++[r]) k=kW key rows k+if key r=some k then r.2.2 else 0:=by
 unfold kW;rw[List.filter_append,List.map_append,List.sum_append]
 congr 1
 by_cases h:key r=some k
 ·rw[if_pos h];simp[h]
 ·rw[if_neg h];simp[h]
theorem PQ (key:aH->Option (List Key))(k:List Key)(rows:List aH):mK ((bB (hO key rows) k).getD (.int 0))=kW key rows k:=by
 induction rows using mX with
 | h0=>rfl
 | hs l r ih =>
  rw[jD,NB];unfold uK;cases hk:key r with
  | none =>
   rw[if_neg (by intro z;cases z),Int.add_zero];exact ih
  | some k2 =>
   show mK ((bB (bX (hO key l) k2 _) k).getD (.int 0))=_;rw[sV]
   by_cases e:k=k2
   ·subst e;rw[if_pos rfl,if_pos rfl,←ih];rfl
   ·rw[if_neg e,if_neg (fun z=>e (Option.some.inj z).symm),Int.add_zero];exact ih
theorem NF (key:aH->Option (List Key))(rows:List aH):∀e∈hO key rows,∃i,e.2= .int i:=by
 induction rows using mX with
 | h0=>intro e h;nomatch h
 | hs l r ih =>
  rw[jD];unfold uK;cases hk:key r with
  | none=>exact ih
  | some k2 =>
   intro e he;rcases EK he with h|⟨h1,h2⟩
   ·exact ih e h
   ·exact⟨_,h2⟩
theorem w9 (key:aH->Option (List Key))(rows:List aH)(k:List Key):∃i,(bB (hO key rows) k).getD (.int 0)= .int i:=by
 cases h:bB (hO key rows) k with
 | none=>exact⟨0,rfl⟩
 | some v =>
  obtain⟨i,e⟩:=NF key rows _ (vB h);exact⟨i,e⟩
theorem E7 (key:aH->Option (List Key))(rows:List aH):(hO key rows).length<=rows.length:=by
 induction rows using mX with
 | h0=>exact Nat.le_refl _
 | hs l r ih =>
  rw[jD,List.length_append];unfold uK;cases hk:key r with
  | none=>exact Nat.le_trans ih (Nat.le_add_right _ _)
  | some k2=>exact Nat.le_trans (fX _ _ _) (by simp;lia)
def dX (ds:List aD)(n:Str):Option aD:=ds.find? fun d=>decide (d.1=n)
theorem tV {ds:List aD}{n:Str} (h:n∈ds.map (·.1)):∃d∈ds,d.1=n/\dX ds n=some d:=by
 obtain⟨d,hd,e⟩:=List.mem_map.mp h;cases hf:dX ds n with
 | none =>
  have:=List.find?_eq_none.mp hf d hd;exact absurd (decide_eq_true e) this
 | some d2 =>
  have h1:decide (d2.1=n)=true:=List.find?_some (p:=fun d:aD=>decide (d.1=n)) hf;exact⟨d2,List.mem_of_find?_eq_some hf,of_decide_eq_true h1,rfl⟩
def gI (ds:List aD)(r:aH):Option (List Key):=(dX ds r.2.1).map fun d=>[.inr d.2.1,.inl r.1]
def fM (ds:List aD)(r:aH):Option (List Key):=(dX ds r.2.1).bind fun d=>match d.2.2.1 with
 | .str z=>some [.inr z,.inl r.1]
 | _=>none
inductive kM (K:PySem.W.Frag)(C:Addr)(D:bD)(key:List aD->aH->Option (List Key))(vs:List V)(H:Hp)(Q:VK)(E:XK):Prop
 | mk (h a:Addr) (f l:Int) (rz ps:List (Str×Int)) (ds:List aD) (us:List V) (rows:List aH) (_:vs=[.ref h,.ref a]) (_:aR C D H h f l rz ps ds) (_:(ds.map (·.1)).Nodup) (_:(∀d∈ds,dN (rz.map (·.1)) d)) (_:SqL K H a us) (_:bY H us rows) (_:rows.length<=200) (_:∀p H',H p=none->Same H H'->H' p=some (.dT (hO (key ds) (rows.filter (cnt (ds.map (·.1)) f l))))->Q (.ref p) H'):kM K C D key vs H Q E
theorem ID {C:Addr}{D:bD}{key:List aD->aH->Option (List Key)}{H:Hp}{Q:VK}{E:XK}{h a:Addr}{f l:Int}{rz ps:List (Str×Int)}{ds:List aD}{us:List V}{rows:List aH} (hh:aR C D H h f l rz ps ds) (nd:(ds.map (·.1)).Nodup) (hin:∀d∈ds,dN (rz.map (·.1)) d) (hS:SqL K H a us) (hp:bY H us rows) (hl:rows.length<=200) (k:∀p H',H p=none->Same H H'->H' p=some (.dT (hO (key ds) (rows.filter (cnt (ds.map (·.1)) f l))))->Q (.ref p) H'):kM K C D key [.ref h,.ref a] H Q E:=⟨_,_,_,_,_,_,_,_,_,rfl,hh,nd,hin,hS,hp,hl,k⟩
theorem K0 (m:M K mg):FnOk P w K mg base CX0 3 m.vE m.qI.d ["house","plan"] (kM K m.aL (aO P w K mg base (some 4)) gI):=by
 refine m.qI.F.ok sc_leaving (fun vs H Q E h=> ?_) (fun cdv A outer s H vs Q E hr h=> ?_)
 ·walk_at"g1";obtain⟨h,a,f,l,rz,ps,ds,us,rows,rfl,hh,ndd,hin,hS,hpl,hlen,k⟩:=h;walk_at"g2";rfl
 ·walk_at"g1";obtain⟨h,a,f,l,rz,ps,ds,us,rows,rfl,hh,ndd,hin,hS,hpl,hlen,k⟩:=h;walk_at"g2";have nd:=sc_leaving.nd;walk_at"hu";have F_rows_that_count:= @gG P w K mg base m;have w_dc_House:=m.aY;have w_mc_House_door:= @d7 P w K mg base m;refine⟨_,(aC (aQ (i:=2) nd rfl (by walk_at"oi") tG)
   (aC (cG PassesOwn.never rfl (bI (bK F_rows_that_count hr (aA (pv 0) (aA (pv 1) aB)))) (lM (n:=3) rfl (aW (aK (i:=3) nd rfl (by walk_at"oi")) (aW (aK (i:=4) nd rfl (by walk_at"oi")) (aW (aK (i:=5) nd rfl (by walk_at"oi")) c4)))) (aC (aQ (i:=6) nd rfl (by walk_at"oi") (dM (aA (bA (dL 1 hr (pv 0) (aA (pv 4) aB)) rfl) (aA (pv 3) aB))))
   (aE (c5 hu1 (pv 2) (pv 6) (aI bS (nK hu1 (pv 2) (pv 6) aF ⟨rfl,rfl,rfl,rfl⟩) (pv 5)) rfl))))
   (aE (aT (pv 2))))),?_⟩
  refine aM (σ:=[some (.ref h),some (.ref a),none,none,none,none,none]) rfl ?_;walk_at"cx";walk_at"go";rename_i p H1 n1 S1 ep;refine AT (aU hh S1) (S1.seq hS) (dI hpl S1) hlen fun q ys H2 n2 S2 eq hcr=> ?_;generalize hce:rows.filter (cnt (ds.map (·.1)) f l)=cr at hcr k;have hcn:∀r∈cr,r.2.1∈ds.map (·.1):=fun r hr=>by
   rw[←hce]at hr;have:=(List.mem_filter.mp hr).2;unfold cnt at this;rw[Bool.and_eq_true]at this;exact of_decide_eq_true this.1
  have hcl:cr.length<=200:=by rw[←hce];exact Nat.le_trans (List.length_filter_le _ _) hlen
  have hyl:ys.length=cr.length:=Paired.length hcr;have ep2:=S2 _ _ ep;have hqp:q≠p:=fun z=>by rw[z,ep]at n2;cases n2
  have hh2:=aU hh (S1.trans S2);have npd:∀x u,H x=some u->x≠p:=fun x u hx z=>by rw[z,n1]at hx;cases hx
  walk_at"go";let Pv1:Nat->St->Hp->Prop:=fun i σ' H'=>SameBut p H2 H'/\H' p=some (.dT (hO (gI ds) (cr.take i)))/\∃x y z u,σ'=[some (.ref h),some (.ref a),some (.ref p),x,y,z,u];refine cU ys Pv1 ⟨SameBut.refl,ep2,_,_,_,_,rfl⟩ (fun i σ' H' _ g=>SqL.of (g.1 _ _ eq hqp)) ?_ ?_
  ·rintro i x _ H' hx hq_;walk_at"g1";obtain⟨sb,ek,x1,x2,x3,x4,rfl⟩:=hq_;walk_at"g2";have hi:i<ys.length:=(List.getElem?_eq_some_iff.mp hx).1;obtain⟨⟨t,n,j⟩,hrx⟩:∃r,cr[i]? =some r:=⟨_,List.getElem?_eq_getElem (by lia)⟩
   obtain⟨q1,rfl,hq1⟩:=Paired.at2 hcr hx hrx;have hq1':H' q1=some (.tup [.int t,.str n,.int j]):=sb _ _ hq1 fun z=>by rw[z,ep2]at hq1;cases hq1
   have sH:Same H H':=fun x u hx=>sb _ _ (S2 _ _ (S1 _ _ hx)) (npd x u hx);have hh':=aU hh sH;walk_at"g1";obtain⟨dx,qs,qp,qd,nk,kvs,e1,_⟩:=hh'.ex;walk_at"g2";walk_at"g1";obtain⟨⟨dn,dst,de,dw⟩,hd,rfl,hdo⟩:=tV (hcn _ (List.mem_of_getElem? hrx));walk_at"g2";have hkey:gI ds (t,dn,j)=some [.inr dst,.inl t]:=by
    unfold gI;rw[show dX ds ((t,dn,j):aH).2.1=some (dn,dst,de,dw) from hdo];rfl
   obtain⟨i0,ei⟩:=w9 (gI ds) (cr.take i) [.inr dst,.inl t];have hkl:=E7 (gI ds) (cr.take i);rw[List.length_take]at hkl;walk_at"go";refine rH (d:=(dn,dst,de,dw)) hh' ndd hd fun v hv=> ?_;walk_at"g1";obtain⟨q2,C2,dx2,fs2,fp2,rfl,hq2,dcC,l1,l2,l3,l4,l5,mcE,hfp,hlt⟩:=DoorAt.ex hv;walk_at"g2";walk_at"go";rename_i b3 H3 n3 S3 e3;refine lH (S3 _ _ ek) ?_;walk_at"go";refine oJ [.inr dst,.inl t] (S3 _ _ ek) e3 ?_;rw[ei];walk_at"go";refine oM [.inr dst,.inl t] (S3 _ _ ek) e3 (by rw[sizeLine_eq];lia) fun H4 B4 e4=> ?_;refine⟨(sb.trans S3.but).trans B4,?_,_,_,_,_,rfl⟩;rw[e4,bF hrx,jD];unfold uK;rw[hkey];show _=some (HO.dT (bX _ _ (.int (mK ((bB _ _).getD (.int 0))+j))));rw[ei];rfl
  ·rintro _ H' hq_;walk_at"g1";obtain⟨sb,ek,x1,x2,x3,x4,rfl⟩:=hq_;walk_at"g2";rw[hyl,List.take_length]at ek;walk_at"go";exact k _ _ n1 (fun x u hx=>sb _ _ (S2 _ _ (S1 _ _ hx)) (npd x u hx)) ek
theorem KL (m:M K mg):Fc P w K mg base "leaving" 3 ["house","plan"] (kM K m.aL (aO P w K mg base (some 4)) gI):=⟨_,_,m.O4,m.qI.F.kp,m.qI.b,K0 m⟩
theorem OP (m:M K mg):FnOk P w K mg base CX0 3 m.xZ m.tX.d ["house","plan"] (kM K m.aL (aO P w K mg base (some 4)) fM):=by
 refine m.tX.F.ok sc_coming (fun vs H Q E h=> ?_) (fun cdv A outer s H vs Q E hr h=> ?_)
 ·walk_at"g1";obtain⟨h,a,f,l,rz,ps,ds,us,rows,rfl,hh,ndd,hin,hS,hpl,hlen,k⟩:=h;walk_at"g2";rfl
 ·walk_at"g1";obtain⟨h,a,f,l,rz,ps,ds,us,rows,rfl,hh,ndd,hin,hS,hpl,hlen,k⟩:=h;walk_at"g2";have nd:=sc_coming.nd;walk_at"hu";have F_rows_that_count:= @gG P w K mg base m;have w_dc_House:=m.aY;have w_mc_House_door:= @d7 P w K mg base m;refine⟨_,(aC (aQ (i:=2) nd rfl (by walk_at"oi") tG)
   (aC (cG PassesOwn.never rfl (bI (bK F_rows_that_count hr (aA (pv 0) (aA (pv 1) aB)))) (lM (n:=3) rfl (aW (aK (i:=3) nd rfl (by walk_at"oi")) (aW (aK (i:=4) nd rfl (by walk_at"oi")) (aW (aK (i:=5) nd rfl (by walk_at"oi")) c4)))) (aC (aQ (i:=6) nd rfl (by walk_at"oi") (dL 1 hr (pv 0) (aA (pv 4) aB)))
   (aE (cF (oN (iL (fT 1 hr (pv 6)))) (aC (aQ (i:=7) nd rfl (by walk_at"oi") (dM (aA (bA (pv 6) rfl) (aA (pv 3) aB))))
   (aE (c5 hu1 (pv 2) (pv 7) (aI bS (nK hu1 (pv 2) (pv 7) aF ⟨rfl,rfl,rfl,rfl⟩) (pv 5)) rfl))) bP))))
   (aE (aT (pv 2))))),?_⟩
  refine aM (σ:=[some (.ref h),some (.ref a),none,none,none,none,none,none]) rfl ?_;walk_at"cx";walk_at"go";rename_i p H1 n1 S1 ep;refine AT (aU hh S1) (S1.seq hS) (dI hpl S1) hlen fun q ys H2 n2 S2 eq hcr=> ?_;generalize hce:rows.filter (cnt (ds.map (·.1)) f l)=cr at hcr k;have hcn:∀r∈cr,r.2.1∈ds.map (·.1):=fun r hr=>by
   rw[←hce]at hr;have:=(List.mem_filter.mp hr).2;unfold cnt at this;rw[Bool.and_eq_true]at this;exact of_decide_eq_true this.1
  have hcl:cr.length<=200:=by rw[←hce];exact Nat.le_trans (List.length_filter_le _ _) hlen
  have hyl:ys.length=cr.length:=Paired.length hcr;have ep2:=S2 _ _ ep;have hqp:q≠p:=fun z=>by rw[z,ep]at n2;cases n2
  have hh2:=aU hh (S1.trans S2);have npd:∀x u,H x=some u->x≠p:=fun x u hx z=>by rw[z,n1]at hx;cases hx
  walk_at"go";let Pv2:Nat->St->Hp->Prop:=fun i σ' H'=>SameBut p H2 H'/\H' p=some (.dT (hO (fM ds) (cr.take i)))/\∃x y z u w,σ'=[some (.ref h),some (.ref a),some (.ref p),x,y,z,u,w];refine cU ys Pv2 ⟨SameBut.refl,ep2,_,_,_,_,_,rfl⟩ (fun i σ' H' _ g=>SqL.of (g.1 _ _ eq hqp)) ?_ ?_
  ·rintro i x _ H' hx hq_;walk_at"g1";obtain⟨sb,ek,x1,x2,x3,x4,x5,rfl⟩:=hq_;walk_at"g2";have hi:i<ys.length:=(List.getElem?_eq_some_iff.mp hx).1;obtain⟨⟨t,n,j⟩,hrx⟩:∃r,cr[i]? =some r:=⟨_,List.getElem?_eq_getElem (by lia)⟩
   obtain⟨q1,rfl,hq1⟩:=Paired.at2 hcr hx hrx;have hq1':H' q1=some (.tup [.int t,.str n,.int j]):=sb _ _ hq1 fun z=>by rw[z,ep2]at hq1;cases hq1
   have sH:Same H H':=fun x u hx=>sb _ _ (S2 _ _ (S1 _ _ hx)) (npd x u hx);have hh':=aU hh sH;walk_at"g1";obtain⟨dx,qs,qp,qd,nk,kvs,e1,_⟩:=hh'.ex;walk_at"g2";walk_at"g1";obtain⟨⟨dn,dst,de,dw⟩,hd,rfl,hdo⟩:=tV (hcn _ (List.mem_of_getElem? hrx));walk_at"g2";have hkl:=E7 (fM ds) (cr.take i);rw[List.length_take]at hkl;have hend:=(hin _ hd).2;walk_at"go";refine rH (d:=(dn,dst,de,dw)) hh' ndd hd fun v hv=> ?_;walk_at"g1";obtain⟨q2,C2,dx2,fs2,fp2,rfl,hq2,dcC,l1,l2,l3,l4,l5,mcE,hfp,hlt⟩:=DoorAt.ex hv;walk_at"g2";rcases hend with hend|⟨z,hend,hz⟩
   ·have hde:de= .non:=hend;subst hde;have hkey:fM ds (t,dn,j)=none:=by
     unfold fM;rw[show dX ds ((t,dn,j):aH).2.1=some (dn,dst,.non,dw) from hdo];rfl
    walk_at"go";refine⟨sb,?_,_,_,_,_,_,rfl⟩;rw[ek,bF hrx,jD];unfold uK;rw[hkey]
   ·have hde:de= .str z:=hend;subst hde;have hkey:fM ds (t,dn,j)=some [.inr z,.inl t]:=by
     unfold fM;rw[show dX ds ((t,dn,j):aH).2.1=some (dn,dst,.str z,dw) from hdo];rfl
    obtain⟨i0,ei⟩:=w9 (fM ds) (cr.take i) [.inr z,.inl t];walk_at"go";rename_i b3 H3 n3 S3 e3;refine lH (S3 _ _ ek) ?_;walk_at"go";refine oJ [.inr z,.inl t] (S3 _ _ ek) e3 ?_;rw[ei];walk_at"go";refine oM [.inr z,.inl t] (S3 _ _ ek) e3 (by rw[sizeLine_eq];lia) fun H4 B4 e4=> ?_;refine⟨(sb.trans S3.but).trans B4,?_,_,_,_,_,_,rfl⟩;rw[e4,bF hrx,jD];unfold uK;rw[hkey];show _=some (HO.dT (bX _ _ (.int (mK ((bB _ _).getD (.int 0))+j))));rw[ei];rfl
  ·rintro _ H' hq_;walk_at"g1";obtain⟨sb,ek,x1,x2,x3,x4,x5,rfl⟩:=hq_;walk_at"g2";rw[hyl,List.take_length]at ek;walk_at"go";exact k _ _ n1 (fun x u hx=>sb _ _ (S2 _ _ (S1 _ _ hx)) (npd x u hx)) ek
theorem L9 (m:M K mg):Fc P w K mg base "coming" 3 ["house","plan"] (kM K m.aL (aO P w K mg base (some 4)) fM):=⟨_,_,m.SF,m.tX.F.kp,m.tX.b,OP m⟩
theorem F9 (key:aH->Option (List Key))(rows:List aH)(k:List Key):(bB (hO key rows) k).getD (.int 0)= .int (kW key rows k):=by
 obtain⟨i,e⟩:=w9 key rows k;have h:=PQ key k rows;rw[e]at h ⊢;rw[←h];rfl
theorem pairsN_mem {rz:List (Str×Int)}{f:Int}{z:Str}{t:Int}:∀{n:Nat},(z,t)∈cB rz f n↔z∈rz.map (·.1)/\∃i:Nat,i<n/\t=f+i
 | 0=>⟨(fun h=>by cases h),(fun⟨_,i,h,_⟩=>absurd h (Nat.not_lt_zero _))⟩
 | n+1=>by
  rw[iM,List.mem_append,pairsN_mem (n:=n)]
  constructor
  ·rintro (⟨h1,i,h2,h3⟩|h)
   ·exact⟨h1,i,by lia,h3⟩
   ·obtain⟨e,he,ee⟩:=List.mem_map.mp h;cases ee;exact⟨List.mem_map.mpr ⟨e,he,rfl⟩,n,by lia,rfl⟩
  ·rintro hq_;walk_at"g1";obtain⟨h1,i,h2,h3⟩:=hq_;walk_at"g2"
   by_cases hi:i=n
   ·subst hi;obtain⟨e,he,rfl⟩:=List.mem_map.mp h1;exact .inr (List.mem_map.mpr ⟨e,he,by rw[h3]⟩)
   ·exact .inl ⟨h1,i,by lia,h3⟩
theorem nF {rz:List (Str×Int)}(nd:(rz.map (·.1)).Nodup)(f:Int):∀n,(cB rz f n).Nodup
 | 0=>by simp[cB]
 | n+1=>by
  rw[iM,List.nodup_append];refine⟨nF nd f n,?_,?_⟩
  ·rw[List.Nodup,List.pairwise_map]at nd ⊢;exact nd.imp fun h z=>h (Prod.mk.inj z).1
  ·intro a ha b hb e;subst e;obtain⟨z,t⟩:=a;walk_at"g1";obtain⟨_,i,hi,ht⟩:=pairsN_mem.mp ha;walk_at"g2";obtain⟨e,_,ee⟩:=List.mem_map.mp hb;cases ee
   lia
theorem yD (rz:List (Str×Int))(f:Int)(m:Nat):∀k,∃l,cB rz f (m+k)=cB rz f m++l
 | 0=>⟨[],by rw[Nat.add_zero,List.append_nil]⟩
 | k+1=>by
  obtain⟨l,e⟩:=yD rz f m k;exact⟨l++_,by rw[←Nat.add_assoc,iM,e,List.append_assoc]⟩
theorem EI {rz:List (Str×Int)}{f:Int}{n i:Nat}{z:Str}{t:Int} (h:(cB rz f n)[i]? =some (z,t)) (ht:t≠f):(z,t - 1)∈(cB rz f n).take i/\f<t:=by
 have hi:=(List.getElem?_eq_some_iff.mp h).1;walk_at"g1";obtain⟨hz,m,hm,rfl⟩:=pairsN_mem.mp (List.mem_of_getElem? h);walk_at"g2";have hm0:0<m:=by
  cases m with
  | zero=>exact absurd (by simp) ht
  | succ m=>exact Nat.succ_pos _
 obtain⟨l,el⟩:=yD rz f m (n - m);rw[show m+(n - m)=n by lia]at el;have hge:(cB rz f m).length<=i:=by
  rcases Nat.lt_or_ge i (cB rz f m).length with hlt|hge
  ·rw[el,List.getElem?_append_left hlt]at h;walk_at"g1";obtain⟨_,j,hj,ej⟩:=pairsN_mem.mp (List.mem_of_getElem? h);walk_at"g2"
   lia
  ·exact hge
 refine⟨?_,by lia⟩;have h1:(z,f+(m:Int) - 1)∈cB rz f m:=pairsN_mem.mpr ⟨hz,m - 1,by lia,by lia⟩;rw[el,List.take_append,List.take_of_length_le hge];exact List.mem_append_left _ h1
def aX (p:Str×Int):List Key:=[.inr p.1,.inl p.2]
theorem kQ {a b:Str×Int}(h:aX a=aX b):a=b:=by
 unfold aX at h;injection h with h1 h2;injection h2 with h2;exact Prod.ext (Sum.inr.inj h1) (Sum.inl.inj h2)
def dQ (ps:List (Str×Int))(L C:List Key->Int)(z:Str)(f:Int):Nat->Int
 | 0=>cQ ps z
 | n+1=>dQ ps L C z f n - L (aX (z,f+(n:Int)))+C (aX (z,f+(n:Int)))
def nG (ps:List (Str×Int))(L C:List Key->Int)(f:Int)(pp:List (Str×Int)):List (List Key×V):=pp.map fun p=>(aX p,V.int (dQ ps L C p.1 f (p.2 - f).toNat))
theorem E6 {ps:List (Str×Int)}{L C:List Key->Int}{f:Int}{pp:List (Str×Int)} (nd:pp.Nodup) {p:Str×Int} (h:p∈pp):bB (nG ps L C f pp) (aX p)=some (.int (dQ ps L C p.1 f (p.2 - f).toNat)):=by
 refine mY (e:=(aX p,V.int (dQ ps L C p.1 f (p.2 - f).toNat))) ?_ (List.mem_map.mpr ⟨p,h,rfl⟩);unfold nG;rw[List.map_map,List.Nodup,List.pairwise_map];exact nd.imp fun hne z=>hne (kQ z)
theorem DS {ps:List (Str×Int)}{L C:List Key->Int}{f:Int}{pp:List (Str×Int)}{p:Str×Int} (h:p∉pp):bB (nG ps L C f pp) (aX p)=none:=by
 have:∀e∈nG ps L C f pp,e.1≠aX p:=fun e he z=>by
  obtain⟨q,hq,rfl⟩:=List.mem_map.mp he;exact h (kQ z▸hq)
 revert this;generalize nG ps L C f pp=kvs;intro this
 induction kvs with
 | nil=>rfl
 | cons a l ih =>
  rw[cJ (this a (.head _))];exact ih fun e he=>this e (List.mem_cons_of_mem _ he)
inductive xR (K:PySem.W.Frag)(C:Addr)(D:bD)(vs:List V)(H:Hp)(Q:VK)(E:XK):Prop
 | mk (h a:Addr) (f l:Int) (rz ps:List (Str×Int)) (ds:List aD) (us:List V) (rows:List aH) (_:vs=[.ref h,.ref a]) (_:aR C D H h f l rz ps ds) (_:(rz.map (·.1)).Nodup) (_:(ds.map (·.1)).Nodup) (_:(∀d∈ds,dN (rz.map (·.1)) d)) (_:0<=f) (_:f<=l) (_:l<1000000000000) (_:l - f<=1000) (_:rz.length<=20) (_:SqL K H a us) (_:bY H us rows) (_:rows.length<=200) (_:∀p H',H p=none->Same H H'->H' p=some (.dT (nG ps (kW (gI ds) (rows.filter (cnt (ds.map (·.1)) f l))) (kW (fM ds) (rows.filter (cnt (ds.map (·.1)) f l))) f (cB rz f (l+1 - f).toNat)))->Q (.ref p) H'):xR K C D vs H Q E
theorem RL (m:M K mg):FnOk P w K mg base CX0 4 m.A7 m.v7.d ["house","plan"] (xR K m.aL (aO P w K mg base (some 4))):=by
 refine m.v7.F.ok sc_there (fun vs H Q E h=> ?_) (fun cdv A outer s H vs Q E hr h=> ?_)
 ·walk_at"g1";obtain⟨h,a,f,l,rz,ps,ds,us,rows,rfl,hh,nr,ndd,hin,h0,h1,h2,h3,lr,hS,hpl,hlen,k⟩:=h;walk_at"g2";rfl
 ·walk_at"g1";obtain⟨h,a,f,l,rz,ps,ds,us,rows,rfl,hh,nr,ndd,hin,h0,h1,h2,h3,lr,hS,hpl,hlen,k⟩:=h;walk_at"g2";have nd:=sc_there.nd;walk_at"hu";have F_coming:= @L9 P w K mg base m;have F_leaving:= @KL P w K mg base m;have w_dc_House:=m.aY;have w_mc_House_pairs:= @AB P w K mg base m;have w_mc_House_found:= @kR P w K mg base m;refine⟨_,(aC (aQ (i:=2) nd rfl (by walk_at"oi") (bK F_leaving hr (aA (pv 0) (aA (pv 1) aB))))
   (aC (aQ (i:=3) nd rfl (by walk_at"oi") (bK F_coming hr (aA (pv 0) (aA (pv 1) aB))))
   (aC (aQ (i:=4) nd rfl (by walk_at"oi") tG)
   (aC (cG PassesOwn.never rfl (bI (fT 1 hr (pv 0))) (lM (n:=2) rfl (aW (aK (i:=5) nd rfl (by walk_at"oi")) (aW (aK (i:=6) nd rfl (by walk_at"oi")) c4))) (aE (cF (bC gU (pv 6) (bA (pv 0) rfl) (bH _)) (aE (c5 hu1 (pv 4) (dM (aA (pv 5) (aA (pv 6) aB))) (dL 3 hr (pv 0) (aA (pv 5) aB)) rfl)) (aC (aQ (i:=7) nd rfl (by walk_at"oi") (dM (aA (pv 5) (aA (aI jW (pv 6) aF) aB))))
   (aE (c5 hu1 (pv 4) (dM (aA (pv 5) (aA (pv 6) aB))) (aI bS (aI jW (bT hu1 (pv 4) (pv 7) (fun _ _=>rfl)) (nK hu1 (pv 2) (pv 7) aF ⟨rfl,rfl,rfl,rfl⟩)) (nK hu1 (pv 3) (pv 7) aF ⟨rfl,rfl,rfl,rfl⟩)) rfl))))))
   (aE (aT (pv 4))))))),?_⟩
  refine aM (σ:=[some (.ref h),some (.ref a),none,none,none,none,none,none]) rfl ?_;walk_at"cx";walk_at"g1";obtain⟨dx,qs,qp,qd,nk,kvs,e1,_⟩:=hh.ex;walk_at"g2";walk_at"go";refine ID hh ndd hin hS hpl hlen fun pL H1 n1 S1 eL=> ?_;walk_at"go";refine ID (aU hh S1) ndd hin (S1.seq hS) (dI hpl S1) hlen fun pC H2 n2 S2 eC=> ?_;have e12:=S2 _ _ (S1 _ _ e1);walk_at"go";rename_i p H3 n3 S3 ep;have e13:=S3 _ _ e12;walk_at"go";have sA:Same H H3:=(S1.trans S2).trans S3;refine V6 (aU hh sA) h0 h1 h2 h3 lr fun q ys H4 n4 S4 eq hpp=> ?_;have ep4:=S4 _ _ ep;have hqp:q≠p:=fun z=>by rw[z,ep]at n4;cases n4
  have npd:∀x u,H2 x=some u->x≠p:=fun x u hx z=>by rw[z,n3]at hx;cases hx
  have pnd:=nF nr f (l+1 - f).toNat;have pll:=tE rz f (l+1 - f).toNat;have plb:(l+1 - f).toNat * rz.length<=1001 * 20:=Nat.mul_le_mul (by lia) lr;have hyl:ys.length=(cB rz f (l+1 - f).toNat).length:=Paired.length hpp;generalize hLe:kW (gI ds) (rows.filter (cnt (ds.map (·.1)) f l))=LL at k;generalize hCe:kW (fM ds) (rows.filter (cnt (ds.map (·.1)) f l))=CC at k;walk_at"go";let Pv1:Nat->St->Hp->Prop:=fun i σ' H'=>SameBut p H4 H'/\H' p=some (.dT (nG ps LL CC f ((cB rz f (l+1 - f).toNat).take i)))/\∃x y z,σ'=[some (.ref h),some (.ref a),some (.ref pL),some (.ref pC),some (.ref p),x,y,z];refine cU ys Pv1 ⟨SameBut.refl,ep4,_,_,_,rfl⟩ (fun i σ' H' _ g=>SqL.of (g.1 _ _ eq hqp)) ?_ ?_
  ·rintro i x _ H' hx hq_;walk_at"g1";obtain⟨sb,ek,x1,x2,x3,rfl⟩:=hq_;walk_at"g2";have hi:i<ys.length:=(List.getElem?_eq_some_iff.mp hx).1;obtain⟨⟨z,t⟩,hrx⟩:∃r,(cB rz f (l+1 - f).toNat)[i]? =some r:=⟨_,List.getElem?_eq_getElem (by lia)⟩
   obtain⟨q1,rfl,hq1⟩:=Paired.at2 hpp hx hrx;have hq1':H' q1=some (.tup [.str z,.int t]):=sb _ _ hq1 fun zz=>by rw[zz,ep4]at hq1;cases hq1
   have sH2:Same H2 H':=fun x u hx=>sb _ _ (S4 _ _ (S3 _ _ hx)) (npd x u hx);have hh':=aU hh ((S1.trans S2).trans sH2);have e1':=sH2 _ _ e12;have eL':=sH2 _ _ (S2 _ _ eL);have eC':=sH2 _ _ eC;have hz:z∈rz.map (·.1):=(pairsN_mem.mp (List.mem_of_getElem? hrx)).1;have hnew:(z,t)∉(cB rz f (l+1 - f).toNat).take i:=gR pnd hrx;have hkl:(nG ps LL CC f ((cB rz f (l+1 - f).toNat).take i)).length<=20020:=by unfold nG;rw[List.length_map,List.length_take];lia
   have nd':((cB rz f (l+1 - f).toNat).take i).Nodup:=pnd.sublist (List.take_sublist _ _);walk_at"go";refine cN (fun hc=> ?_) (fun hc=> ?_)
   ·subst hc;walk_at"go";refine A0 hh' nr hz fun H5 S5=> ?_;walk_at"go";rename_i b6 H6 n6 S6 e6;have ek6:=S6 _ _ (S5 _ _ ek);refine oM (aX (z,t)) ek6 e6 (by rw[sizeLine_eq];lia) fun H7 B7 e7=> ?_;refine⟨(sb.trans (S5.trans S6).but).trans B7,?_,_,_,_,rfl⟩;rw[e7,nJ _ (DS hnew),bF hrx];unfold nG;rw[List.map_append]
    congr 3
    show [(aX (z,t),V.int (cQ ps z))]=[(aX (z,t),V.int (dQ ps LL CC z t (t - t).toNat))];rw[show (t - t).toNat=0 by lia];rfl
   ·obtain⟨hah,hft⟩:=EI hrx hc;have gL:(bB (hO (gI ds) (rows.filter (cnt (ds.map (·.1)) f l))) (aX (z,t - 1))).getD (.int 0)= .int (LL (aX (z,t - 1))):=by rw[←hLe];exact F9 _ _ _
    have gC:(bB (hO (fM ds) (rows.filter (cnt (ds.map (·.1)) f l))) (aX (z,t - 1))).getD (.int 0)= .int (CC (aX (z,t - 1))):=by rw[←hCe];exact F9 _ _ _
    walk_at"go";rename_i b6 H6 n6 S6 e6;refine EH (aX (z,t - 1)) (.inl (S6 _ _ ek)) e6 (E6 nd' hah) ?_;walk_at"go";refine lH (S6 _ _ eL') ?_;walk_at"go";refine oJ (aX (z,t - 1)) (S6 _ _ eL') e6 ?_;rw[gL];walk_at"go";refine lH (S6 _ _ eC') ?_;walk_at"go";refine oJ (aX (z,t - 1)) (S6 _ _ eC') e6 ?_;rw[gC];walk_at"go";rename_i b8 H8 n8 S8 e8;have ek8:=S8 _ _ (S6 _ _ ek);refine oM (aX (z,t)) ek8 e8 (by rw[sizeLine_eq];lia) fun H9 B9 e9=> ?_;refine⟨(sb.trans (S6.trans S8).but).trans B9,?_,_,_,_,rfl⟩;rw[e9,nJ _ (DS hnew),bF hrx];unfold nG;rw[List.map_append]
    congr 3
    show [(aX (z,t),V.int (dQ ps LL CC z f (t - 1 - f).toNat - LL (aX (z,t - 1))+CC (aX (z,t - 1))))]=[(aX (z,t),V.int (dQ ps LL CC z f (t - f).toNat))];rw[show (t - f).toNat=(t - 1 - f).toNat+1 by lia];show _=[(aX (z,t),V.int (dQ ps LL CC z f (t - 1 - f).toNat - LL (aX (z,f+((t - 1 - f).toNat:Int)))+CC (aX (z,f+((t - 1 - f).toNat:Int)))))];rw[show f+((t - 1 - f).toNat:Int)=t - 1 by lia]
  ·rintro _ H' hq_;walk_at"g1";obtain⟨sb,ek,x1,x2,x3,rfl⟩:=hq_;walk_at"g2";rw[hyl,List.take_length]at ek;walk_at"go";refine k _ _ ?_ (fun x u hx=>sb _ _ (S4 _ _ (S3 _ _ (S2 _ _ (S1 _ _ hx)))) (npd x u (S2 _ _ (S1 _ _ hx)))) ek;cases hq:H p with
   | none=>rfl
   | some u=>rw[S2 _ _ (S1 _ _ hq)]at n3;cases n3
theorem P0 (m:M K mg):Fc P w K mg base "there" 4 ["house","plan"] (xR K m.aL (aO P w K mg base (some 4))):=⟨_,_,m.XF,m.v7.F.kp,m.v7.b,RL m⟩
def mM (ds:List aD)(n:Str):Bool:=match dX ds n with
 | some d=>decide (d.2.2.1= .non)
 | none=>false
def jT (ds:List aD)(f l:Int)(rows:List aH)(t:Int):Int:=(((rows.filter (cnt (ds.map (·.1)) f l)).filter fun r=>decide (r.1<t)&&mM ds r.2.1).map (·.2.2)).sum
inductive tF (K:PySem.W.Frag)(C:Addr)(D:bD)(vs:List V)(H:Hp)(Q:VK)(E:XK):Prop
 | mk (h a:Addr) (t f l:Int) (rz ps:List (Str×Int)) (ds:List aD) (us:List V) (rows:List aH) (_:vs=[.ref h,.ref a,.int t]) (_:aR C D H h f l rz ps ds) (_:(ds.map (·.1)).Nodup) (_:(∀d∈ds,dN (rz.map (·.1)) d)) (_:SqL K H a us) (_:bY H us rows) (_:rows.length<=200) (_:∀H',Same H H'->Q (.int (jT ds f l rows t)) H'):tF K C D vs H Q E
theorem U0 {C:Addr}{D:bD}{H:Hp}{Q:VK}{E:XK}{h a:Addr}{t f l:Int}{rz ps:List (Str×Int)}{ds:List aD}{us:List V}{rows:List aH} (hh:aR C D H h f l rz ps ds) (nd:(ds.map (·.1)).Nodup) (hin:∀d∈ds,dN (rz.map (·.1)) d) (hS:SqL K H a us) (hp:bY H us rows) (hl:rows.length<=200) (k:∀H',Same H H'->Q (.int (jT ds f l rows t)) H'):tF K C D [.ref h,.ref a,.int t] H Q E:=⟨_,_,_,_,_,_,_,_,_,_,rfl,hh,nd,hin,hS,hp,hl,k⟩
theorem N2 (m:M K mg):FnOk P w K mg base CX0 3 m.x0 m.tZ.d ["house","plan","turn"] (tF K m.aL (aO P w K mg base (some 4))):=by
 refine m.tZ.F.ok sc_out_by (fun vs H Q E h=> ?_) (fun cdv A outer s H vs Q E hr h=> ?_)
 ·walk_at"g1";obtain⟨h,a,t,f,l,rz,ps,ds,us,rows,rfl,hh,ndd,hin,hS,hpl,hlen,k⟩:=h;walk_at"g2";rfl
 ·walk_at"g1";obtain⟨h,a,t,f,l,rz,ps,ds,us,rows,rfl,hh,ndd,hin,hS,hpl,hlen,k⟩:=h;walk_at"g2";have nd:=sc_out_by.nd;walk_at"hu";have F_rows_that_count:= @gG P w K mg base m;have w_dc_House:=m.aY;have w_mc_House_door:= @d7 P w K mg base m;refine⟨_,(aC (aQ (i:=3) nd rfl (by walk_at"oi") (bK F_rows_that_count hr (aA (pv 0) (aA (pv 1) aB))))
   (aE (aT (bM (uF rfl) rfl m.LX DR (aA (bW (N:=["at","name","number","turn","house"]) (nl:=3) (ci:=[2,0]) rfl (blk (s.heap.objs.size+1) rfl rfl rfl (by kernel_rfl)) (bI (pv 3)) (fun _ _ _ _=>(jJ (K:=K) (n:=3) rfl (aW (aK (i:=0) (show (["at","name","number","turn","house"]:List Str).Nodup by decide +kernel) rfl (by walk_at"oi")) (aW (aK (i:=1) (show (["at","name","number","turn","house"]:List Str).Nodup by decide +kernel) rfl (by walk_at"oi")) (aW (aK (i:=2) (show (["at","name","number","turn","house"]:List Str).Nodup by decide +kernel) rfl (by walk_at"oi")) c4))))) (fun _ _ _ _=>(gH (PW.pt (uV (bC mP (pv 0) (pv 3) (bH _)) (rT (iL (TZ (P:=P) (w:=w) (K:=K) (mg:=mg) (base:=base) 1 hr (NO (P:=P) (w:=w) (K:=K) (mg:=mg) (base:=base) 1 hr (pv 4) (aA (pv 1) aB))))))))) (fun _ _ _ _=>(pv 2))) aB))))),?_⟩
  refine aM (σ:=[some (.ref h),some (.ref a),some (.int t),none]) rfl ?_;walk_at"cx";walk_at"go";refine AT hh hS hpl hlen fun q ys H1 n1 S1 eq hcr=> ?_;unfold jT at k;generalize hce:rows.filter (cnt (ds.map (·.1)) f l)=cr at hcr k;have hcn:∀r∈cr,r.2.1∈ds.map (·.1):=fun r hr=>by
   rw[←hce]at hr;have:=(List.mem_filter.mp hr).2;unfold cnt at this;rw[Bool.and_eq_true]at this;exact of_decide_eq_true this.1
  have hcl:cr.length<=200:=by rw[←hce];exact Nat.le_trans (List.length_filter_le _ _) hlen
  have hyl:ys.length=cr.length:=Paired.length hcr;have hh1:=aU hh S1;walk_at"go";refine IR (α:=aH) (xs:=cr) (vs:=ys) (fun r=> .int r.1) (fun r=> .str r.2.1) (fun r=> .int r.2.2) (fun r=>decide (r.1<t)&&mM ds r.2.1) (fun r y _=>y= .int r.2.2) (fun _ _ _ _ h _=>h) (by rw[sizeLine_eq];lia) (rest:=[some (.int t),some (.ref h)]) (by rfl) (SqL.of eq) hcr ?_ ?_ ?_
  ·rintro ⟨t0,n0,j0⟩ H2 hm s2 R hR;have hR':=hR _ (Same.refl _);have hh2:=aU hh1 s2;walk_at"g1";obtain⟨dx,qs,qp,qd,nk,kvs,e1,_⟩:=hh2.ex;walk_at"g2";walk_at"g1";obtain⟨⟨dn,dst,de,lt⟩,hd,rfl,hdo⟩:=tV (hcn _ hm);walk_at"g2";have hend:=(hin _ hd).2;have hx:mM ds dn=decide (de= .non):=by unfold mM;rw[hdo]
   walk_at"go";refine cN (fun hc=> ?_) (fun hc=> ?_)
   ·rw[show (decide (((t0,dn,j0):aH).1<t))=true from decide_eq_true hc,Bool.true_and,hx]at hR';walk_at"go";refine rH (d:=(dn,dst,de,lt)) hh2 ndd hd fun v hv=> ?_;walk_at"g1";obtain⟨q2,C2,dx2,fs2,fp2,rfl,hq2,dcC,l1,l2,l3,l4,l5,mcE,hfp,hlt⟩:=DoorAt.ex hv;walk_at"g2";rcases hend with hend|⟨z,hend,hz⟩
    ·have hde:de= .non:=hend;subst hde;walk_at"go";exact hR'
    ·have hde:de= .str z:=hend;subst hde;rw[decide_eq_false (fun z=>nomatch z)]at hR';walk_at"go";exact hR'
   ·rw[show (decide (((t0,dn,j0):aH).1<t))=false from decide_eq_false hc,Bool.false_and]at hR';exact hR'
  ·rintro ⟨t0,n0,j0⟩ H2 hm - s2 R hR;walk_at"go";exact hR _ _ rfl (Same.refl _)
  intro ys2 H2 s2 hys2;have ey2:ys2=((cr.filter fun r=>decide (r.1<t)&&mM ds r.2.1).map (·.2.2)).map V.int:=by rw[c9 hys2,List.map_map];rfl
  subst ey2;walk_at"go";rename_i q3 H3 n3 S3 e3;refine DX (SqL.of e3) ?_;exact k _ ((S1.trans s2).trans S3)
theorem OW (m:M K mg):Fc P w K mg base "out_by" 3 ["house","plan","turn"] (tF K m.aL (aO P w K mg base (some 4))):=⟨_,_,m.SH,m.tZ.F.kp,m.tZ.b,N2 m⟩
inductive zC (K:PySem.W.Frag)(vs:List V)(H:Hp)(Q:VK)(E:XK):Prop
 | mk (a:Addr) (us:List V) (rows:List aH) (_:vs=[.ref a]) (_:SqL K H a us) (_:bY H us rows) (_:rows.length<=200) (_:∀p H',H p=none->Same H H'->H' p=some (.dT (jL rows))->Q (.ref p) H'):zC K vs H Q E
theorem aA4 {H:Hp}{Q:VK}{E:XK}{a:Addr}{us:List V}{rows:List aH} (hS:SqL K H a us) (hr:bY H us rows) (hl:rows.length<=200) (h:∀p H',H p=none->Same H H'->H' p=some (.dT (jL rows))->Q (.ref p) H'):zC K [.ref a] H Q E:=⟨_,_,_,rfl,hS,hr,hl,h⟩
theorem HK (m:M K mg):FnOk P w K mg base CX0 1 m.tW m.mU.d ["plan"] (zC K):=by
 refine m.mU.F.ok sc_added_up (fun vs H Q E h=> ?_) (fun cdv A outer s H vs Q E hr h=> ?_)
 ·walk_at"g1";obtain⟨a,us,rows,rfl,hS,hpl,hlen,k⟩:=h;walk_at"g2";rfl
 ·walk_at"g1";obtain⟨a,us,rows,rfl,hS,hpl,hlen,k⟩:=h;walk_at"g2";have nd:=sc_added_up.nd;walk_at"hu";refine⟨_,(aC (aQ (i:=1) nd rfl (by walk_at"oi") tG)
   (aC (cG PassesOwn.never rfl (bI (pv 0)) (lM (n:=3) rfl (aW (aK (i:=2) nd rfl (by walk_at"oi")) (aW (aK (i:=3) nd rfl (by walk_at"oi")) (aW (aK (i:=4) nd rfl (by walk_at"oi")) c4)))) (aE (c5 hu1 (pv 1) (dM (aA (pv 2) (aA (pv 3) aB))) (aI bS (nK hu1 (pv 1) (dM (aA (pv 2) (aA (pv 3) aB))) aF ⟨rfl,rfl,rfl,rfl⟩) (pv 4)) rfl)))
   (aE (aT (pv 1))))),?_⟩
  refine aM (σ:=[some (.ref a),none,none,none,none]) rfl ?_;walk_at"cx";have hul:us.length=rows.length:=Paired.length hpl;walk_at"go";rename_i p H1 n1 S1 e1;let Pv1:Nat->St->Hp->Prop:=fun i σ' H'=>SameBut p H1 H'/\H' p=some (.dT (jL (rows.take i)))/\∃x y z,σ'=[some (.ref a),some (.ref p),x,y,z];refine cU us Pv1 ⟨SameBut.refl,e1,_,_,_,rfl⟩ (fun i σ' H' _ q=>(SameBut.same n1 S1 q.1).seq hS) ?_ ?_
  ·rintro i x _ H' hx hq_;walk_at"g1";obtain⟨sb,ek,x1,x2,x3,rfl⟩:=hq_;walk_at"g2";have hi:i<us.length:=(List.getElem?_eq_some_iff.mp hx).1;obtain⟨⟨t,n,j⟩,hrx⟩:∃r,rows[i]? =some r:=⟨_,List.getElem?_eq_getElem (by lia)⟩
   obtain⟨q,rfl,hq⟩:=Paired.at2 hpl hx hrx;have hq':H' q=some (.tup [.int t,.str n,.int j]):=(SameBut.same n1 S1 sb) _ _ hq;obtain⟨i0,ei⟩:=SC (rows.take i) t n;have hkl:=ED (rows.take i);rw[List.length_take]at hkl;walk_at"go";refine lH ek ?_;walk_at"go";rename_i b1 H2 n2 S2 e2;refine oJ (gS t n) (by walk_at"hp") (by assumption) ?_;rw[ei];walk_at"go";rename_i b3 H3 n3 S3 e3;refine oM (gS t n) (by walk_at"hp") (by assumption) (by rw[sizeLine_eq];lia) fun H4 B4 e4=> ?_;refine⟨by walk_at"sb",?_,_,_,_,rfl⟩;rw[e4,bF hrx,qD];unfold KJ;rw[ei];rfl
  ·rintro _ H' hq_;walk_at"g1";obtain⟨sb,ek,x1,x2,x3,rfl⟩:=hq_;walk_at"g2";rw[hul,List.take_length]at ek;walk_at"go";exact k _ _ n1 (SameBut.same n1 S1 sb) ek
theorem HG (m:M K mg):Fc P w K mg base "added_up" 1 ["plan"] (zC K):=⟨_,_,m.LW,m.mU.F.kp,m.mU.b,HK m⟩
theorem wS {α β γ:Type}{F:α->γ->Prop} (g:β->γ):∀{l:List β}{m:List α},Paired (fun x y=>F y (g x)) l m->Paired F m (l.map g)
 | _,_,.nil=> .nil
 | _,_,.cons r t=> .cons r (wS g t)
theorem rX {H:Hp}{Q:VK}{p:Addr}{xs:List V}{j:Nat}{v:V} (e:SqL K H p xs) (hx:xs[j]? =some v) (h:Q v H):F2 K (.ref p) (.int (j:Int)) H Q:=⟨p,xs,_,v,rfl,rfl,e,vV hx,h⟩
theorem dA {ds:List aD}(nd:(ds.map (·.1)).Nodup){d:aD}(hd:d∈ds):dX ds d.1=some d:=by
 induction ds with
 | nil=>exact nomatch hd
 | cons a l ih =>
  have nd':=List.nodup_cons.mp nd;unfold dX;rcases List.mem_cons.mp hd with rfl|h
  ·rw[List.find?_cons_of_pos (by simp)]
  ·have hne:¬a.1=d.1:=fun z=>nd'.1 (show a.1∈_ by rw[z];exact List.mem_map.mpr ⟨d,h,rfl⟩);rw[List.find?_cons_of_neg (by simpa using hne)];exact ih nd'.2 h
theorem WW {ds:List aD}{d:aD} (h:dX ds d.1=some d) (rt rj:Int) (z:Str) (t:Int):fM ds (rt,d.1,rj)=some (aX (z,t))↔d.2.2.1= .str z/\rt=t:=by
 unfold fM;rw[show dX ds ((rt,d.1,rj):aH).2.1=some d from h,Option.bind_some];walk_at"g1";obtain⟨dn,dst,de,lt⟩:=d;walk_at"g2";show (match de with| .str z=>some [Sum.inr z,Sum.inl rt]|_=>none)=_↔de= .str z/\rt=t;cases de with
 | str y =>
  show some (aX (y,rt))=_↔_
  constructor
  ·intro h;have h:=kQ (Option.some.inj h);cases h;exact⟨rfl,rfl⟩
  ·rintro ⟨h,rfl⟩;cases h;rfl
 | _=>exact⟨(fun h=>nomatch h),(fun h=>nomatch h.1)⟩
abbrev goL (ds:List aD)(f l:Int)(rows:List aH):List Key->Int:=kW (gI ds) (rows.filter (cnt (ds.map (·.1)) f l))
abbrev goC (ds:List aD)(f l:Int)(rows:List aH):List Key->Int:=kW (fM ds) (rows.filter (cnt (ds.map (·.1)) f l))
def wt (g:Int->Str->Bool)(rows:List aH):Int:=((rows.filter fun r=>g r.1 r.2.1).map (·.2.2)).sum
theorem rF (g:Int->Str->Bool)(r:aH)(rows:List aH):wt g (r::rows)=(if g r.1 r.2.1=true then r.2.2 else 0)+wt g rows:=by
 unfold wt
 by_cases h:g r.1 r.2.1=true
 ·rw[List.filter_cons_of_pos (p:=fun r:aH=>g r.1 r.2.1) h,List.map_cons,List.sum_cons,if_pos h]
 ·rw[List.filter_cons_of_neg (p:=fun r:aH=>g r.1 r.2.1) h,if_neg h,Int.zero_add]
theorem sZ (r:aH)(rows:List aH)(t:Int)(n:Str):aP (r::rows) t n=(if (r.1,r.2.1)=(t,n) then r.2.2 else 0)+aP rows t n:=by
 have h:=rF (fun t' n'=>decide (t'=t)&&decide (n'=n)) r rows;have e:((decide (r.1=t)&&decide (r.2.1=n))=true)↔((r.1,r.2.1)=(t,n)):=by
  rw[Bool.and_eq_true,decide_eq_true_eq,decide_eq_true_eq,Prod.mk.injEq]
 by_cases c:(r.1,r.2.1)=(t,n)
 ·rw[if_pos (e.mpr c)]at h;rw[if_pos c];exact h
 ·rw[if_neg (fun z=>c (e.mp z))]at h;rw[if_neg c];exact h
theorem w4 {α:Type}(f g:α->Int):∀l:List α,(l.map fun x=>f x+g x).sum=(l.map f).sum+(l.map g).sum
 | []=>rfl
 | a::l=>by
  have ih:=w4 f g l;simp only[List.map_cons,List.sum_cons]
  lia
theorem d3 {α:Type}{f:α->Int}:∀{l:List α},(∀x∈l,f x=0)->(l.map f).sum=0
 | [],_=>rfl
 | a::l,h=>by
  rw[List.map_cons,List.sum_cons,h a (.head _),d3 fun x hx=>h x (List.mem_cons_of_mem _ hx)];rfl
theorem AW {α:Type}[DecidableEq α]{a:α}{c:Int}:∀{l:List α},l.Nodup->a∈l->(l.map fun x=>if a=x then c else 0).sum=c
 | b::l,nd,h=>by
  have nd':=List.nodup_cons.mp nd;rw[List.map_cons,List.sum_cons];rcases List.mem_cons.mp h with rfl|h
  ·rw[if_pos rfl,d3 (fun x hx=>if_neg fun z=>nd'.1 (by rw[z];exact hx))];exact Int.add_zero _
  ·rw[if_neg (fun z=>nd'.1 (by rw[←z];exact h)),AW nd'.2 h];exact Int.zero_add _
def ded {α:Type}[DecidableEq α]:List α->List α
 | []=>[]
 | a::l=>if a∈ded l then ded l else a::ded l
theorem AH {α:Type}[DecidableEq α]{x:α}:∀{l:List α},x∈l->x∈ded l
 | a::l,h=>by
  unfold ded;rcases List.mem_cons.mp h with rfl|h
  ·split
   ·assumption
   ·exact .head _
  ·split
   ·exact AH h
   ·exact List.mem_cons_of_mem _ (AH h)
theorem u6 {α:Type}[DecidableEq α]:∀l:List α,(ded l).Nodup
 | []=>List.nodup_nil
 | a::l=>by
  unfold ded
  split
  ·exact u6 l
  ·rename_i h;exact List.nodup_cons.mpr ⟨h,u6 l⟩
theorem z9 (g:Int->Str->Bool){Ks:List (Int×Str)}(nd:Ks.Nodup):∀{rows:List aH},(∀r∈rows,(r.1,r.2.1)∈Ks)->wt g rows=(Ks.map fun k=>if g k.1 k.2=true then aP rows k.1 k.2 else 0).sum
 | [],_=>by
  rw[d3 (fun k _=>by split<;>rfl)];rfl
 | r::rows,h=>by
  have ih:=z9 g nd (rows:=rows) fun r hr=>h r (List.mem_cons_of_mem _ hr);have hk:=h r (.head _);rw[rF,ih];have e:(fun k:Int×Str=>if g k.1 k.2=true then aP (r::rows) k.1 k.2 else 0)=fun k=>(if (r.1,r.2.1)=k then (if g r.1 r.2.1=true then r.2.2 else 0) else 0)+(if g k.1 k.2=true then aP rows k.1 k.2 else 0):=by
   funext k
   rw[sZ]
   by_cases c:(r.1,r.2.1)=k
   ·subst c;rw[if_pos rfl,if_pos rfl]
    by_cases d:g r.1 r.2.1=true
    ·rw[if_pos d,if_pos d,if_pos d]
    ·rw[if_neg d,if_neg d,if_neg d];rfl
   ·rw[if_neg c,if_neg c,Int.zero_add,Int.zero_add]
  rw[e,w4,AW nd hk]
theorem IO {g g':Int->Str->Bool}{rows:List aH} (h:∀t n,aP rows t n≠0->g t n=g' t n):wt g rows=wt g' rows:=by
 have nd:=u6 (rows.map fun r=>(r.1,r.2.1));have hm:∀r∈rows,(r.1,r.2.1)∈ded (rows.map fun r=>(r.1,r.2.1)):=fun r hr=>AH (List.mem_map.mpr ⟨r,hr,rfl⟩);rw[z9 g nd hm,z9 g' nd hm]
 congr 2
 funext k
 by_cases c:aP rows k.1 k.2=0
 ·rw[c,ite_self,ite_self]
 ·rw[h _ _ c]
theorem HY (rows:List aH):wt (fun _ _=>false) rows=0:=by
 unfold wt;rw[List.filter_eq_nil_iff.mpr (fun _ _=>Bool.false_ne_true)];rfl
theorem rE (ds:List aD)(f l:Int)(rows:List aH)(k:List Key):goL ds f l rows k=wt (fun t n=>decide (gI ds (t,n,0)=some k)&&cnt (ds.map (·.1)) f l (t,n,0)) rows:=by
 unfold goL kW;rw[List.filter_filter];rfl
theorem rO (ds:List aD)(f l:Int)(rows:List aH)(k:List Key):goC ds f l rows k=wt (fun t n=>decide (fM ds (t,n,0)=some k)&&cnt (ds.map (·.1)) f l (t,n,0)) rows:=by
 unfold goC kW;rw[List.filter_filter];rfl
theorem JA (ds:List aD)(f l:Int)(rows:List aH)(T:Int):jT ds f l rows T=wt (fun t n=>(decide (t<T)&&mM ds n)&&cnt (ds.map (·.1)) f l (t,n,0)) rows:=by
 unfold jT;rw[List.filter_filter];rfl
theorem EV {ds:List aD}{f l t:Int}{d:aD} (hd:d∈ds) (h0:f<=t) (h1:t<l):cnt (ds.map (·.1)) f l (t,d.1,0)=true:=by
 unfold cnt;simp only[Bool.and_eq_true,decide_eq_true_eq];exact⟨List.mem_map.mpr ⟨d,hd,rfl⟩,h0,h1⟩
theorem F1 {ds:List aD}(nd:(ds.map (·.1)).Nodup){f l t:Int}{d:aD} (hd:d∈ds) (h0:f<=t) (h1:t<l) (c:Int) (R:List aH) (z:Str) (t':Int):goL ds f l ((t,d.1,c)::R) (aX (z,t'))=(if d.2.1=z/\t=t' then c else 0)+goL ds f l R (aX (z,t')):=by
 rw[rE,rE,rF]
 congr 1
 show (if (decide (gI ds (t,d.1,0)=some (aX (z,t')))&&cnt (ds.map (·.1)) f l (t,d.1,0))=true then c else 0)=_;rw[EV hd h0 h1,Bool.and_true];have e:gI ds (t,d.1,0)=some (aX (d.2.1,t)):=by
  unfold gI;rw[show dX ds ((t,d.1,0):aH).2.1=some d from dA nd hd];rfl
 rw[e]
 by_cases h:d.2.1=z/\t=t'
 ·rw[if_pos h,if_pos (by rw[h.1,h.2];exact decide_eq_true rfl)]
 ·rw[if_neg h,if_neg (fun y=>h (by
   have:=kQ (Option.some.inj (of_decide_eq_true y));exact⟨(Prod.mk.inj this).1,(Prod.mk.inj this).2⟩))]
theorem FA {ds:List aD}(nd:(ds.map (·.1)).Nodup){f l t:Int}{d:aD} (hd:d∈ds) (h0:f<=t) (h1:t<l) (c:Int) (R:List aH) (z:Str) (t':Int):goC ds f l ((t,d.1,c)::R) (aX (z,t'))=(if d.2.2.1= .str z/\t=t' then c else 0)+goC ds f l R (aX (z,t')):=by
 rw[rO,rO,rF]
 congr 1
 show (if (decide (fM ds (t,d.1,0)=some (aX (z,t')))&&cnt (ds.map (·.1)) f l (t,d.1,0))=true then c else 0)=_;rw[EV hd h0 h1,Bool.and_true];have e:=WW (dA nd hd) t 0 z t'
 by_cases h:d.2.2.1= .str z/\t=t'
 ·rw[if_pos h,if_pos (decide_eq_true (e.mpr h))]
 ·rw[if_neg h,if_neg (fun y=>h (e.mp (of_decide_eq_true y)))]
theorem BQ {ps:List (Str×Int)}{L C L' C':List Key->Int}{z:Str}{f:Int}:∀{n:Nat},(∀j:Nat,j<n->L (aX (z,f+(j:Int)))=L' (aX (z,f+(j:Int)))/\C (aX (z,f+(j:Int)))=C' (aX (z,f+(j:Int))))->dQ ps L C z f n=dQ ps L' C' z f n
 | 0,_=>rfl
 | n+1,h=>by
  have ih:=BQ (ps:=ps) (n:=n) fun j hj=>h j (by lia);have h1:=h n (by lia);show dQ ps L C z f n - L (aX (z,f+(n:Int)))+C (aX (z,f+(n:Int)))=dQ ps L' C' z f n - L' (aX (z,f+(n:Int)))+C' (aX (z,f+(n:Int)));rw[ih,h1.1,h1.2]
theorem OJ {ds:List aD}{t c T:Int}{n z:Str} (h:gI ds (t,n,c)=some (aX (z,T))):t=T:=by
 unfold gI at h;obtain⟨d,_,e⟩:=Option.map_eq_some_iff.mp h;exact(Prod.mk.inj (kQ (a:=(d.2.1,t)) (b:=(z,T)) e)).2
theorem MW {ds:List aD}{t c T:Int}{n z:Str} (h:fM ds (t,n,c)=some (aX (z,T))):t=T:=by
 unfold fM at h;obtain⟨d,_,e⟩:=Option.bind_eq_some_iff.mp h;walk_at"g1";obtain⟨dn,dst,de,lt⟩:=d;walk_at"g2";cases de<;>first|(cases e;done)|skip
 rename_i y e;have e:some (aX (y,t))=some (aX (z,T)):=e;exact(Prod.mk.inj (kQ (Option.some.inj e))).2
theorem Q2 {ds:List aD}{f l T:Int}{R:List aH} (tm:∀t n,aP R t n≠0->t<T) (z:Str):goL ds f l R (aX (z,T))=0:=by
 rw[rE,←HY R];refine IO fun t n hne=> ?_;have:=tm t n hne;rw[decide_eq_false (fun y=>by have:=OJ y;lia),Bool.false_and]
theorem R9 {ds:List aD}{f l T:Int}{R:List aH} (tm:∀t n,aP R t n≠0->t<T) (z:Str):goC ds f l R (aX (z,T))=0:=by
 rw[rO,←HY R];refine IO fun t n hne=> ?_;have:=tm t n hne;rw[decide_eq_false (fun y=>by have:=MW y;lia),Bool.false_and]
theorem JM {ps:List (Str×Int)}(h:∀p∈ps,0<=p.2)(z:Str):0<=cQ ps z:=by
 induction ps with
 | nil=>exact Int.le_refl _
 | cons a l ih =>
  have h1:=ih fun p hp=>h p (List.mem_cons_of_mem _ hp);have h2:=h a (.head _);unfold cQ at h1 ⊢
  by_cases e:a.1=z
  ·rw[List.filter_cons_of_pos (by simpa using e),List.map_cons,List.sum_cons];lia
  ·rw[List.filter_cons_of_neg (by simpa using e)];exact h1
def cK (ks:List Str)(g:Str->Int):List (Key×V):=ks.map fun n=>(Sum.inr n,V.int (g n))
def cD (g:Str->Int)(n:Str)(v:Int):Str->Int:=fun x=>if x=n then v else g x
theorem CH (ks:List Str)(g:Str->Int):(cK ks g).map (·.1)=ks.map (Sum.inr:Str->Key):=by unfold cK;rw[List.map_map];rfl
theorem nT (ks:List Str)(g:Str->Int):(cK ks g).length=ks.length:=by unfold cK;rw[List.length_map]
theorem cC {g:Str->Int}{n:Str}:∀{ks:List Str},n∈ks->bB (cK ks g) (.inr n)=some (.int (g n))
 | a::ks,h=>by
  show bB ((Sum.inr a,V.int (g a))::cK ks g) (.inr n)=_
  by_cases e:a=n
  ·subst e;rw[cW rfl]
  ·rw[cJ (fun z=>e (Sum.inr.inj z))];exact cC ((List.mem_cons.mp h).resolve_left (fun z=>e z.symm))
theorem FJ {g:Str->Int}{n:Str}{ks:List Str}:((cK ks g).any fun kv=>decide (kv.1=Sum.inr n))=decide (n∈ks):=by
 rw[Bool.eq_iff_iff,List.any_eq_true,decide_eq_true_eq]
 constructor
 ·rintro ⟨e,he,hk⟩;obtain⟨x,hx,rfl⟩:=List.mem_map.mp he;have:=Sum.inr.inj (of_decide_eq_true hk);exact this▸hx
 ·intro h;exact⟨_,List.mem_map.mpr ⟨n,h,rfl⟩,decide_eq_true rfl⟩
theorem wY {ks:List Str}{g:Str->Int}{n:Str}{v:Int} (h:n∈ks):bX (cK ks g) (.inr n) (.int v)=cK ks (cD g n v):=by
 unfold bX;rw[FJ,decide_eq_true h,if_pos rfl];unfold cK;rw[List.map_map];refine List.map_congr_left fun x _=> ?_;show (if (Sum.inr x:Key)=Sum.inr n then ((Sum.inr x:Key),V.int v) else (Sum.inr x,V.int (g x)))=_;unfold cD
 by_cases e:x=n
 ·rw[if_pos (by rw[e]),if_pos e]
 ·rw[if_neg (fun z=>e (Sum.inr.inj z)),if_neg e]
theorem FH {ks:List Str}{g:Str->Int}{n:Str}{v:Int} (h:n∉ks):bX (cK ks g) (.inr n) (.int v)=cK (ks++[n]) (cD g n v):=by
 unfold bX;rw[FJ,decide_eq_false h,if_neg Bool.false_ne_true];unfold cK;rw[List.map_append,List.map_singleton]
 congr 1
 ·refine List.map_congr_left fun x hx=> ?_;unfold cD;rw[if_neg (fun z:x=n=>h (z▸hx))]
 ·unfold cD;rw[if_pos rfl]
theorem OL (g:Str->Int)(n:Str):cD g n (g n)=g:=funext fun x=>by
 unfold cD
 split
 ·subst_vars;rfl
 ·rfl
theorem P8 {ks:List Str}{g:Str->Int}{n:Str} (h:n∉ks):bX (cK ks g) (.inr n) (.int (g n))=cK (ks++[n]) g:=by rw[FH h,OL]
theorem xB {g:Str->Int}{n:Str}{v:Int}:∀{ks:List Str},ks.Nodup->n∈ks->(ks.map (cD g n v)).sum=(ks.map g).sum - g n+v
 | a::ks,nd,h=>by
  have nd':=List.nodup_cons.mp nd;rw[List.map_cons,List.sum_cons,List.map_cons,List.sum_cons]
  by_cases e:a=n
  ·subst e;have:ks.map (cD g a v)=ks.map g:=List.map_congr_left fun x hx=>by
    unfold cD;rw[if_neg (fun z:x=a=>nd'.1 (z▸hx))]
   rw[this];show (if a=a then v else g a)+_=_;rw[if_pos rfl];lia
  ·rw[xB nd'.2 ((List.mem_cons.mp h).resolve_left (fun z=>e z.symm))];show (if a=n then v else g a)+_=_;rw[if_neg e];lia
theorem rD {g:Str->Int}:∀{ks:List Str},(∀n∈ks,0<=g n)->0<=(ks.map g).sum
 | [],_=>Int.le_refl _
 | a::ks,h=>by
  rw[List.map_cons,List.sum_cons];have:=rD (ks:=ks) fun n hn=>h n (List.mem_cons_of_mem _ hn);have:=h a (.head _)
  lia
theorem JE {g:Str->Int}:∀{ks:List Str},0<(ks.map g).sum->∃n∈ks,0<g n
 | [],h=>absurd h (Int.lt_irrefl 0)
 | a::ks,h=>by
  rw[List.map_cons,List.sum_cons]at h
  by_cases c:0<g a
  ·exact⟨a,.head _,c⟩
  ·obtain⟨n,hn,hp⟩:=JE (g:=g) (ks:=ks) (by lia);exact⟨n,List.mem_cons_of_mem _ hn,hp⟩
def bV (ds:List aD)(g:Str->Int)(z:Str):Int:=((bJ ds z).map g).sum
def cZ (ds:List aD)(g:Str->Int)(z:Str):Int:=((dJ ds z).map g).sum
def sLf (ds:List aD)(g:Str->Int)(z n:Str):Int:=match dX ds n with
 | some d=>if d.2.1=z then g n else 0
 | none=>0
def sCf (ds:List aD)(g:Str->Int)(z n:Str):Int:=match dX ds n with
 | some d=>if d.2.2.1= .str z then g n else 0
 | none=>0
theorem yB {ds:List aD}(nd:(ds.map (·.1)).Nodup){d:aD}(hd:d∈ds)(g:Str->Int)(z:Str):sLf ds g z d.1=if d.2.1=z then g d.1 else 0:=by unfold sLf;rw[dA nd hd]
theorem yT {ds:List aD}(nd:(ds.map (·.1)).Nodup){d:aD}(hd:d∈ds)(g:Str->Int)(z:Str):sCf ds g z d.1=if d.2.2.1= .str z then g d.1 else 0:=by unfold sCf;rw[dA nd hd]
theorem zZ {α:Type}(q:α->Bool)(h:α->Int):∀l:List α,((l.filter q).map h).sum=(l.map fun x=>if q x=true then h x else 0).sum
 | []=>rfl
 | a::l=>by
  have ih:=zZ q h l;rw[List.map_cons,List.sum_cons]
  by_cases c:q a=true
  ·rw[List.filter_cons_of_pos c,List.map_cons,List.sum_cons,ih,if_pos c]
  ·rw[List.filter_cons_of_neg c,ih,if_neg c,Int.zero_add]
theorem wO {ds:List aD}(nd:(ds.map (·.1)).Nodup)(g:Str->Int)(z:Str):((ds.map (·.1)).map (sLf ds g z)).sum=bV ds g z:=by
 unfold bV bJ;rw[List.map_map,List.map_map,zZ]
 congr 1
 refine List.map_congr_left fun d hd=> ?_;show sLf ds g z d.1=if decide (d.2.1=z)=true then g d.1 else 0;rw[yB nd hd]
 by_cases c:d.2.1=z
 ·rw[if_pos c,if_pos (decide_eq_true c)]
 ·rw[if_neg c,if_neg (fun y=>c (of_decide_eq_true y))]
theorem wT {ds:List aD}(nd:(ds.map (·.1)).Nodup)(g:Str->Int)(z:Str):((ds.map (·.1)).map (sCf ds g z)).sum=cZ ds g z:=by
 unfold cZ dJ;rw[List.map_map,List.map_map,zZ]
 congr 1
 refine List.map_congr_left fun d hd=> ?_;show sCf ds g z d.1=if decide (d.2.2.1= .str z)=true then g d.1 else 0;rw[yT nd hd]
 by_cases c:d.2.2.1= .str z
 ·rw[if_pos c,if_pos (decide_eq_true c)]
 ·rw[if_neg c,if_neg (fun y=>c (of_decide_eq_true y))]
theorem gM {f:Str->Int}{a b:List Str} (h:a.Perm b):(a.map f).sum=(b.map f).sum:=by
 induction h with
 | nil=>rfl
 | cons x _ ih=>rw[List.map_cons,List.sum_cons,List.map_cons,List.sum_cons,ih]
 | swap x y l=>simp only[List.map_cons,List.sum_cons];lia
 | trans _ _ h1 h2=>exact h1.trans h2
def DO (rz:List (Str×Int))(ds:List aD)(g I:Str->Int):Prop:=∀e∈rz,bV ds g e.1<=I e.1/\I e.1 - bV ds g e.1+cZ ds g e.1<=e.2
def cE (T:Int)(g:Str->Int)(L:List Str):List aH:=(L.filter fun n=>decide (0<g n)).map fun n=>(T,n,g n)
theorem mN (T:Int)(g:Str->Int)(L:List Str)(n:Str):cE T g (L++[n])=if 0<g n then cE T g L++[(T,n,g n)] else cE T g L:=by
 unfold cE;rw[List.filter_append,List.map_append]
 by_cases c:0<g n
 ·rw[List.filter_cons_of_pos (p:=fun n=>decide (0<g n)) (decide_eq_true c),if_pos c];rfl
 ·rw[List.filter_cons_of_neg (p:=fun n=>decide (0<g n)) (fun y=>c (of_decide_eq_true y)),if_neg c];exact List.append_nil _
theorem yC (T:Int)(g:Str->Int)(L:List Str)(n:Str):cE T g (n::L)=if 0<g n then (T,n,g n)::cE T g L else cE T g L:=by
 unfold cE
 by_cases c:0<g n
 ·rw[List.filter_cons_of_pos (p:=fun n=>decide (0<g n)) (decide_eq_true c),if_pos c];rfl
 ·rw[List.filter_cons_of_neg (p:=fun n=>decide (0<g n)) (fun y=>c (of_decide_eq_true y)),if_neg c]
theorem BK (T:Int)(g:Str->Int)(L:List Str):(cE T g L).length<=L.length:=by
 unfold cE;rw[List.length_map];exact List.length_filter_le _ _
theorem uP {T:Int}{g:Str->Int}{L:List Str}{r:aH} (h:r∈cE T g L):r.1=T/\r.2.1∈L/\r.2.2=g r.2.1/\0<r.2.2:=by
 obtain⟨n,hn,rfl⟩:=List.mem_map.mp h;obtain⟨h1,h2⟩:=List.mem_filter.mp hn;exact⟨rfl,h1,rfl,of_decide_eq_true h2⟩
theorem UN (ds:List aD)(f l:Int)(a b:List aH)(k:List Key):goL ds f l (a++b) k=goL ds f l a k+goL ds f l b k:=by
 rw[rE,rE,rE];unfold wt;rw[List.filter_append,List.map_append,List.sum_append]
theorem VT (ds:List aD)(f l:Int)(a b:List aH)(k:List Key):goC ds f l (a++b) k=goC ds f l a k+goC ds f l b k:=by
 rw[rO,rO,rO];unfold wt;rw[List.filter_append,List.map_append,List.sum_append]
theorem EG {ds:List aD}(nd:(ds.map (·.1)).Nodup){f l T:Int}(h0:f<=T)(h1:T<l){g:Str->Int}(z:Str)(t':Int):∀{L:List Str},(∀n∈L,n∈ds.map (·.1)/\0<=g n)->goL ds f l (cE T g L) (aX (z,t'))=if T=t' then (L.map (sLf ds g z)).sum else 0
 | [],_=>by
  rw[show goL ds f l (cE T g []) (aX (z,t'))=0 from rfl]
  split<;>rfl
 | n::L,h=>by
  have ih:=EG nd h0 h1 z t' (L:=L) fun n hn=>h n (List.mem_cons_of_mem _ hn);obtain⟨hn,hg⟩:=h n (.head _);obtain⟨d,hd,rfl⟩:=List.mem_map.mp hn;rw[yC,List.map_cons,List.sum_cons,yB nd hd]
  by_cases c:0<g d.1
  ·rw[if_pos c,F1 nd hd h0 h1,ih]
   by_cases e:T=t'
   ·rw[if_pos e,if_pos e]
    by_cases q:d.2.1=z
    ·rw[if_pos ⟨q,e⟩,if_pos q]
    ·rw[if_neg (fun y=>q y.1),if_neg q]
   ·rw[if_neg e,if_neg e,if_neg (fun y=>e y.2)];rfl
  ·have g0:g d.1=0:=by lia
   rw[if_neg c,ih,g0,ite_self,Int.zero_add]
theorem E4 {ds:List aD}(nd:(ds.map (·.1)).Nodup){f l T:Int}(h0:f<=T)(h1:T<l){g:Str->Int}(z:Str)(t':Int):∀{L:List Str},(∀n∈L,n∈ds.map (·.1)/\0<=g n)->goC ds f l (cE T g L) (aX (z,t'))=if T=t' then (L.map (sCf ds g z)).sum else 0
 | [],_=>by
  rw[show goC ds f l (cE T g []) (aX (z,t'))=0 from rfl]
  split<;>rfl
 | n::L,h=>by
  have ih:=E4 nd h0 h1 z t' (L:=L) fun n hn=>h n (List.mem_cons_of_mem _ hn);obtain⟨hn,hg⟩:=h n (.head _);obtain⟨d,hd,rfl⟩:=List.mem_map.mp hn;rw[yC,List.map_cons,List.sum_cons,yT nd hd]
  by_cases c:0<g d.1
  ·rw[if_pos c,FA nd hd h0 h1,ih]
   by_cases e:T=t'
   ·rw[if_pos e,if_pos e]
    by_cases q:d.2.2.1= .str z
    ·rw[if_pos ⟨q,e⟩,if_pos q]
    ·rw[if_neg (fun y=>q y.1),if_neg q]
   ·rw[if_neg e,if_neg e,if_neg (fun y=>e y.2)];rfl
  ·have g0:g d.1=0:=by lia
   rw[if_neg c,ih,g0,ite_self,Int.zero_add]
structure Lawn (rz ps:List (Str×Int))(ds:List aD)(f l:Int)(i:Nat)(I:Str->Int)(R:List aH):Prop where
 ins:∀z∈rz.map (·.1),I z=dQ ps (goL ds f l R) (goC ds f l R) z f i
 bd:∀e∈rz,0<=I e.1/\I e.1<=e.2
 lv:∀j:Nat,j<i->∀z∈rz.map (·.1),goL ds f l R (aX (z,f+(j:Int)))<=dQ ps (goL ds f l R) (goC ds f l R) z f j
 fu:∀j:Nat,j<=i->∀e∈rz,dQ ps (goL ds f l R) (goC ds f l R) e.1 f j<=e.2
 tm:∀r∈R,f<=r.1/\r.1<f+(i:Int)
 nm:∀r∈R,r.2.1∈ds.map (·.1)
 ps0:∀r∈R,0<r.2.2
 len:R.length<=8 * i
theorem JZ {R:List aH}{t:Int}{n:Str} (h:∀r∈R,r.1≠t):aP R t n=0:=by
 unfold aP;rw[List.filter_eq_nil_iff.mpr (fun r hr=>by
  rw[Bool.and_eq_true,decide_eq_true_eq];exact fun y=>h r hr y.1)]
 rfl
theorem V7 {ds:List aD}{f l T:Int}{R:List aH} (tm:∀r∈R,f<=r.1/\r.1<T) (z:Str):goL ds f l R (aX (z,T))=0/\goC ds f l R (aX (z,T))=0:=by
 have h:∀t n,aP R t n≠0->t<T:=fun t n hne=>by
  by_cases c:t<T
  ·exact c
  ·exact absurd (JZ fun r hr e=>by have:=(tm r hr).2;lia) hne
 exact⟨Q2 h z,R9 h z⟩
theorem Lawn.start {rz ps:List (Str×Int)}{ds:List aD}{f l:Int} (nr:(rz.map (·.1)).Nodup) (hfit:sK rz ps):Lawn rz ps ds f l 0 (fun z=>cQ ps z) []:=by
 refine⟨fun z _=>rfl,fun e he=>⟨?_,hfit.2 e he⟩,fun j hj=>absurd hj (Nat.not_lt_zero _),fun j hj e he=> ?_,(fun _ z=>nomatch z),(fun _ z=>nomatch z),(fun _ z=>nomatch z),Nat.le_refl _⟩
 ·exact JM hfit.1 e.1
 ·obtain rfl:j=0:=by lia
  exact hfit.2 e he
theorem Lawn.step {rz ps:List (Str×Int)}{ds:List aD}{f l:Int}{i:Nat}{I:Str->Int}{R:List aH} (h:Lawn rz ps ds f l i I R) (nd:(ds.map (·.1)).Nodup) (ld:ds.length<=8) (hi:f+(i:Int)<l) {g:Str->Int} (hg:∀d∈ds,0<=g d.1/\g d.1<=hZ f l d (f+(i:Int))) (ok:DO rz ds g I) {L:List Str} (hL:L.Perm (ds.map (·.1))) :
  Lawn rz ps ds f l (i+1) (fun z=>I z - (L.map (sLf ds g z)).sum+(L.map (sCf ds g z)).sum) (R++cE (f+(i:Int)) g L):=by
 have hLn:∀n∈L,n∈ds.map (·.1)/\0<=g n:=fun n hn=>by
  have:=hL.mem_iff.mp hn;obtain⟨d,hd,rfl⟩:=List.mem_map.mp this;exact⟨this,(hg d hd).1⟩
 have ndL:L.Nodup:=hL.nodup_iff.mpr nd;have h0:f<=f+(i:Int):=by lia
 have gz:=V7 (ds:=ds) (l:=l) h.tm;have eL:∀z (j:Nat),goL ds f l (R++cE (f+(i:Int)) g L) (aX (z,f+(j:Int)))=if j=i then bV ds g z else goL ds f l R (aX (z,f+(j:Int))):=fun z j=>by
  rw[UN,EG nd h0 hi z _ hLn,gM hL,wO nd]
  by_cases c:j=i
  ·subst c;rw[if_pos rfl,if_pos rfl,(gz z).1,Int.zero_add]
  ·rw[if_neg (by lia),if_neg c,Int.add_zero]
 have eC:∀z (j:Nat),goC ds f l (R++cE (f+(i:Int)) g L) (aX (z,f+(j:Int)))=if j=i then cZ ds g z else goC ds f l R (aX (z,f+(j:Int))):=fun z j=>by
  rw[VT,E4 nd h0 hi z _ hLn,gM hL,wT nd]
  by_cases c:j=i
  ·subst c;rw[if_pos rfl,if_pos rfl,(gz z).2,Int.zero_add]
  ·rw[if_neg (by lia),if_neg c,Int.add_zero]
 have eI:∀z (j:Nat),j<=i->dQ ps (goL ds f l (R++cE (f+(i:Int)) g L)) (goC ds f l (R++cE (f+(i:Int)) g L)) z f j=dQ ps (goL ds f l R) (goC ds f l R) z f j:=fun z j hj=>BQ fun q hq=>by
  rw[eL,eC,if_neg (by lia),if_neg (by lia)];exact⟨rfl,rfl⟩
 have eI1:∀z∈rz.map (·.1),dQ ps (goL ds f l (R++cE (f+(i:Int)) g L)) (goC ds f l (R++cE (f+(i:Int)) g L)) z f (i+1)=I z - bV ds g z+cZ ds g z:=fun z hz=>by
  show dQ ps (goL ds f l (R++cE (f+(i:Int)) g L)) (goC ds f l (R++cE (f+(i:Int)) g L)) z f i - goL ds f l (R++cE (f+(i:Int)) g L) (aX (z,f+(i:Int)))+goC ds f l (R++cE (f+(i:Int)) g L) (aX (z,f+(i:Int)))=_;rw[eI z i (Nat.le_refl _),eL,eC,if_pos rfl,if_pos rfl,h.ins z hz]
 have cn:∀z,0<=cZ ds g z:=fun z=>rD fun n hn=>by
  unfold dJ at hn;obtain⟨d,hd,rfl⟩:=List.mem_map.mp hn;exact(hg d (List.mem_filter.mp hd).1).1
 refine⟨fun z hz=> ?_,fun e he=> ?_,fun j hj z hz=> ?_,fun j hj e he=> ?_,fun r hr=> ?_,fun r hr=> ?_,fun r hr=> ?_,?_⟩
 ·show I z - (L.map (sLf ds g z)).sum+(L.map (sCf ds g z)).sum=_;rw[gM hL,wO nd,gM hL,wT nd];exact(eI1 z hz).symm
 ·show 0<=I e.1 - (L.map (sLf ds g e.1)).sum+(L.map (sCf ds g e.1)).sum/\I e.1 - (L.map (sLf ds g e.1)).sum+(L.map (sCf ds g e.1)).sum<=e.2;rw[gM hL,wO nd,gM hL,wT nd];have:=ok e he;have:=cn e.1
  lia
 ·rw[eL,eI z j (by lia)]
  by_cases c:j=i
  ·subst c;rw[if_pos rfl,←h.ins z hz];obtain⟨e,he,rfl⟩:=List.mem_map.mp hz;exact(ok e he).1
  ·rw[if_neg c];exact h.lv j (by lia) z hz
 ·by_cases c:j<=i
  ·rw[eI _ j c];exact h.fu j c e he
  ·obtain rfl:j=i+1:=by lia
   rw[eI1 _ (List.mem_map.mpr ⟨e,he,rfl⟩)];exact(ok e he).2
 ·rcases List.mem_append.mp hr with hr|hr
  ·have:=h.tm r hr;lia
  ·have:=(uP hr).1;lia
 ·rcases List.mem_append.mp hr with hr|hr
  ·exact h.nm r hr
  ·exact(hLn _ (uP hr).2.1).1
 ·rcases List.mem_append.mp hr with hr|hr
  ·exact h.ps0 r hr
  ·exact(uP hr).2.2.2
 ·have l1:=BK (f+(i:Int)) g L;have l2:=hL.length_eq;rw[List.length_map]at l2;have l3:=h.len;rw[List.length_append]
  lia
def lC (ns:List Int)(k:Int):Int:=ns.getD k.toNat 0
inductive vQ (K:PySem.W.Frag)(vs:List V)(H:Hp)(Q:VK)(E:XK):Prop
 | mk (a:Addr) (ns:List Int) (k:Int) (_:vs=[.ref a,.int k]) (_:SqL K H a (ns.map V.int)) (_:0<=k) (_:Q (.int (lC ns k)) H):vQ K vs H Q E
theorem aAc {H:Hp}{Q:VK}{E:XK}{a:Addr}{ns:List Int}{i:Int} (hS:SqL K H a (ns.map V.int)) (hi:0<=i) (h:Q (.int (lC ns i)) H):vQ K [.ref a,.int i] H Q E:=⟨_,_,_,rfl,hS,hi,h⟩
theorem yP (m:M K mg):FnOk P w K mg base CX0 1 m.k5 m.g9.d ["_law_script","_law_k"] (vQ K):=by
 refine m.g9.F.ok sc__law_cell_at (fun vs H Q E h=> ?_) (fun cdv A outer s H vs Q E hr h=> ?_)
 ·walk_at"g1";obtain⟨a,ns,i,rfl,hS,hi,k⟩:=h;walk_at"g2";rfl
 ·walk_at"g1";obtain⟨a,ns,i,rfl,hS,hi,k⟩:=h;walk_at"g2";have nd:=sc__law_cell_at.nd;walk_at"hu";refine⟨_,(aC (cF (bC mP (pv 1) (bM dC rfl m.hJ fK (aA (pv 0) aB)) (bH _)) (aE (aT (dH gT (pv 0) (pv 1) (fun _ _=>rfl)))) bP)
   (aE (aT aF))),?_⟩
  refine aM (σ:=[some (.ref a),some (.int i)]) rfl ?_;walk_at"cx";walk_at"go";rw[List.length_map];refine cN (fun h1=> ?_) (fun h1=> ?_)
  ·have hlt:i.toNat<ns.length:=by lia
   have e:=vV (xs:=ns.map V.int) (j:=i.toNat) (v:= .int (lC ns i)) (by
    rw[List.getElem?_map,List.getElem?_eq_getElem hlt];unfold lC;rw[List.getD_eq_getElem?_getD,List.getElem?_eq_getElem hlt];rfl)
   rw[show ((i.toNat:Nat):Int)=i by lia]at e;exact⟨_,rfl,_,rfl,a,_,i,_,rfl,rfl,hS,e,k⟩
  ·have e:lC ns i=0:=by
    unfold lC;rw[List.getD_eq_getElem?_getD,List.getElem?_eq_none (by lia)];rfl
   rw[e]at k;exact k
theorem jQ (m:M K mg):Fc P w K mg base "_law_cell_at" 1 ["_law_script","_law_k"] (vQ K):=⟨_,_,m.A8,m.g9.F.kp,m.g9.b,yP m⟩
def EL (c k:Int):Int:=(c+7919 * k+1) * 48271%2147483647
def FD (c k:Int):Int:=EL c k * (EL c k/1009+69621)%2147483647
def bG (c k:Int):Int:=if c%2=1 then c/2^(20 * k+1).toNat%1048576 else (FD c k+31 * k+1) * (FD c k/757+16807)%2147483629
theorem FV (c k:Int):0<=bG c k:=by
 unfold bG
 split
 ·exact Int.emod_nonneg _ (by decide)
 ·exact Int.emod_nonneg _ (by decide)
theorem DU (c k:Int):bG c k<2147483648:=by
 unfold bG
 split
 ·exact Int.lt_trans (Int.emod_lt_of_pos _ (by decide)) (by decide)
 ·exact Int.lt_trans (Int.emod_lt_of_pos _ (by decide)) (by decide)
inductive sR (vs:List V)(H:Hp)(Q:VK)(E:XK):Prop
 | mk (c k:Int) (_:vs=[.int c,.int k]) (_:0<=k) (_:k<=100) (_:((0<=bG c k/\bG c k<2147483648)->Q (.int (bG c k)) H)):sR vs H Q E
theorem W8 {H:Hp}{Q:VK}{E:XK}{c k:Int} (h0:0<=k) (h1:k<=100) (h:∀n,n=bG c k->0<=n->n<2147483648->Q (.int n) H):sR [.int c,.int k] H Q E:=⟨_,_,rfl,h0,h1,fun x=>h _ rfl x.1 x.2⟩
theorem DD (m:M K mg):FnOk P w K mg base CX0 1 m.oP m.kE.d ["_law_cell","_law_k"] (sR):=by
 refine m.kE.F.ok sc__law_drawn (fun vs H Q E h=> ?_) (fun cdv A outer s H vs Q E hr h=> ?_)
 ·walk_at"g1";obtain⟨c,j,rfl,j0,j1,k⟩:=h;walk_at"g2";rfl
 ·walk_at"g1";obtain⟨c,j,rfl,j0,j1,k⟩:=h;walk_at"g2";have nd:=sc__law_drawn.nd;walk_at"hu";refine⟨_,(aC (cF (bC gU (aI bN (pv 0) aF) aF (bH _)) (aE (aT (aI bN (aI OT (pv 0) (aI bS (aI oH aF (pv 1)) aF)) aF))) bP)
   (aC (aQ (i:=2) nd rfl (by walk_at"oi") (aI bN (aI oH (aI bS (aI bS (pv 0) (aI oH aF (pv 1))) aF) aF) aF))
   (aC (aQ (i:=2) nd rfl (by walk_at"oi") (aI bN (aI oH (pv 2) (aI bS (aI d8 (pv 2) aF) aF)) aF))
   (aE (aT (aI bN (aI oH (aI bS (aI bS (pv 2) (aI oH aF (pv 1))) aF) (aI bS (aI d8 (pv 2) aF) aF)) aF)))))),?_⟩
  refine aM (σ:=[some (.int c),some (.int j),none]) rfl ?_;walk_at"cx";have k:=k ⟨FV c j,DU c j⟩;walk_at"go";refine cN (fun h=> ?_) (fun h=> ?_)
  ·have e:bG c j=c/2^(20 * j+1).toNat%1048576:=by unfold bG;rw[if_pos h]
   rw[e]at k;walk_at"go";refine⟨_,_,rfl,rfl,by lia,?_⟩;walk_at"go";exact k
  ·unfold bG FD EL at k;rw[if_neg h]at k;walk_at"go";exact k
theorem iO (m:M K mg):Fc P w K mg base "_law_drawn" 1 ["_law_cell","_law_k"] (sR):=⟨_,_,m.GK,m.kE.F.kp,m.kE.b,DD m⟩
local macro_rules| `(tactic| walk_at"rd1")=> `(tactic| first|((with_reducible refine' aAc ?e ?s ?_);(case e=>walk_at"hp");(case s=>walk_at"sd"))|((with_reducible refine' W8 ?u ?v ?_);(case u=>walk_at"sd");(case v=>walk_at"sd");intro n' d' h0' h1'))
theorem vN:iB "abcdefghijklmnopqrstuvwxyz" =true:=by decide +kernel
theorem JC:("abcdefghijklmnopqrstuvwxyz" :Str).length=26:=by rw[cM];decide
theorem I0 {x rest:Str}{b p:Int}{ch:Nat} (hx:iB x=true) (hb0:0<=b) (hb:b<8) (er:rest=Txt.slice x none (some b)) (hp0:0<=p) (hp:p<rest.length+1) (hc:iB ⟨#[ch]⟩=true):aZ (Txt.slice rest none (some p)++⟨#[ch]⟩++Txt.slice rest (some p) none)=true:=by
 have l1:rest.length<=7:=by
  rcases PyProof.Rows.slice_ns_cases x b hb0 with h|h
  ·rw[er];lia
  ·rw[er];lia
 have hr:iB rest=true:=by rw[er];exact jX hx
 have l2:=(PyProof.Rows.fact_slice_ns rest p).1 hp0 (by lia);have l3:=(PyProof.Rows.fact_slice_sn rest p).1 hp0 (by lia);have l4:(⟨#[ch]⟩:Str).length=1:=rfl;refine RW ?_ ?_ (FZ (FZ (jX hr) hc) (jX hr))
 ·rw[eX,eX];lia
 ·rw[eX,eX];lia
theorem w5:("abcdefghijklmnopqrstuvwxyz" :Str).cps.toList=List.range' 97 26:=by decide +kernel
theorem aAh {i:Int}(h0:0<=i)(h1:i<26):atI ("abcdefghijklmnopqrstuvwxyz" :Str).cps.toList i=some (97+i.toNat):=by
 have e:=vV (xs:=("abcdefghijklmnopqrstuvwxyz" :Str).cps.toList) (j:=i.toNat) (v:=97+i.toNat) (by rw[w5,List.getElem?_range' (by lia)];simp);rw[show ((i.toNat:Nat):Int)=i by lia]at e;exact e
def J3 (c:Int):Str:=Txt.slice (Txt.slice "abcdefghijklmnopqrstuvwxyz" (some (bG c 1%20)) none) none (some (bG c 2%8))
def OZ (c:Int):Int:=bG c 3%((J3 c).length+1)
def cX (c k:Int):Str:=Txt.slice (J3 c) none (some (OZ c))++⟨#[97+((bG c 4+5 * k)%26).toNat]⟩++Txt.slice (J3 c) (some (OZ c)) none
theorem N5 {c k1 k2:Int}(h0:0<=k1)(h1:k1<26)(h2:0<=k2)(h3:k2<26)(h:cX c k1=cX c k2):k1=k2:=by
 have h':=congrArg (fun z:Str=>z.cps.toList) h;unfold cX at h';simp only[wI]at h';have h4:=List.append_cancel_left (List.append_cancel_right h');have h5:97+((bG c 4+5 * k1)%26).toNat=97+((bG c 4+5 * k2)%26).toNat:=by simpa using h4
 omega
inductive sY (vs:List V)(H:Hp)(Q:VK)(E:XK):Prop
 | mk (c k:Int) (_:vs=[.int c,.int k]) (_:(aZ (cX c k)=true->Q (.str (cX c k)) H)):sY vs H Q E
theorem W4 {H:Hp}{Q:VK}{E:XK}{c k:Int} (h:∀z,z=cX c k->aZ z=true->Q (.str z) H):sY [.int c,.int k] H Q E:=⟨_,_,rfl,h _ rfl⟩
theorem GB (m:M K mg):FnOk P w K mg base CX0 2 m.qT m.lE.d ["_law_cell","_law_k"] (sY):=by
 refine m.lE.F.ok sc__law_name (fun vs H Q E h=> ?_) (fun cdv A outer s H vs Q E hr h=> ?_)
 ·walk_at"g1";obtain⟨c,j,rfl,k⟩:=h;walk_at"g2";rfl
 ·walk_at"g1";obtain⟨c,j,rfl,k⟩:=h;walk_at"g2";have nd:=sc__law_name.nd;walk_at"hu";have F__law_drawn:= @iO P w K mg base m;refine⟨_,(aC (aQ (i:=2) nd rfl (by walk_at"oi") gO)
   (aC (aQ (i:=3) nd rfl (by walk_at"oi") (nW zH (nW zH (pv 2) (mW (aI bN (bK F__law_drawn hr (aA (pv 0) (aA aF aB))) aF)) vX) vX (mW (aI bN (bK F__law_drawn hr (aA (pv 0) (aA aF aB))) aF))))
   (aC (aQ (i:=4) nd rfl (by walk_at"oi") (aI bN (bK F__law_drawn hr (aA (pv 0) (aA aF aB))) (aI bS (bM BM rfl m.hJ fK (aA (pv 3) aB)) aF)))
   (aE (aT (aI IL (aI IL (nW zH (pv 3) vX (mW (pv 4))) (dH aAa (pv 2) (aI bN (aI bS (bK F__law_drawn hr (aA (pv 0) (aA aF aB))) (aI oH aF (pv 1))) aF) (fun _ _=>rfl))) (nW zH (pv 3) (mW (pv 4)) vX))))))),?_⟩
  refine aM (σ:=[some (.int c),some (.int j),none,none,none]) rfl ?_;walk_at"cx";have hl:=JC;walk_at"go";refine⟨_,_,_,rfl,rfl,(by walk_at"sz"),aAh (by lia) (by lia),?_⟩;walk_at"go"
  subst_vars
  refine k ?_;refine' I0 (x:=Txt.slice "abcdefghijklmnopqrstuvwxyz" (some (bG c 1%20)) none) (b:=bG c 2%8) ?x ?b0 ?b1 ?er ?p0 ?p1 ?hc
  case er=>rfl
  case x=>exact jX vN
  case b0=>lia
  case b1=>lia
  case p0=>exact Int.emod_nonneg _ (by lia)
  case p1=>exact Int.emod_lt_of_pos _ (by lia)
  case hc =>
   refine FU vN ?_;rw[w5,List.mem_range'_1]
   lia
theorem FG (m:M K mg):Fc P w K mg base "_law_name" 2 ["_law_cell","_law_k"] (sY):=⟨_,_,m.HQ,m.lE.F.kp,m.lE.b,GB m⟩
local macro_rules| `(tactic| walk_at"rd1")=> `(tactic| ((with_reducible refine W4 ?_);intro z' dz' hz'))
theorem Mc.mono {C:Addr}{nm:Str}{j k:Nat}{sp:Sp} (F:Mc P w K mg base C nm j sp) (h:j<=k):Mc P w K mg base C nm k sp:=by
 walk_at"g1";obtain⟨f,fd,ps,h1,h2,h3,h4⟩:=F.ex;walk_at"g2";exact⟨f,fd,ps,h1,h2,h3,h4.mono h⟩
abbrev x8 (n s e l:V):List (Str×V):=cI "letting" l (lJ n s e (.int 1))
inductive gQ (K:PySem.W.Frag)(vs:List V)(H:Hp)(Q:VK)(E:XK):Prop
 | mk (p C dx:Addr) (n s:Str) (e l:V) (_:vs=[.ref p,.str n,.str s,e,l]) (_:DCls K C) (_:H p=some (.ins C dx [])) (_:aZ n=true) (_:aZ s=true) (_:d5 e) (_:∀H',SameBut p H H'->H' p=some (.ins C dx (x8 (.str n) (.str s) e l))->Q .non H'):gQ K vs H Q E
theorem HD {H:Hp}{Q:VK}{E:XK}{p C dx:Addr}{n s:Str}{e l:V} (dc:DCls K C) (hp:H p=some (.ins C dx [])) (hn:aZ n=true) (hs:aZ s=true) (he:d5 e)
  (k:∀H',SameBut p H H'->H' p=some (.ins C dx (x8 (.str n) (.str s) e l))->Q .non H'):gQ K [.ref p,.str n,.str s,e,l] H Q E:=⟨_,_,_,_,_,_,_,rfl,dc,hp,hn,hs,he,k⟩
theorem xD (m:M K mg):FnOk P w K mg base CX0 4 m.j6 m.j4.d ["self","name","start","end","letting"] (gQ K):=by
 refine m.j4.F.ok sc_Told___init__ (fun vs H Q E h=> ?_) (fun cdv A outer s H vs Q E hr h=> ?_)
 ·walk_at"g1";obtain⟨p,C,dx,n,st,e,l,rfl,dc,hp,hn,hs,he,k⟩:=h;walk_at"g2";rfl
 ·walk_at"g1";obtain⟨p,C,dx,n,st,e,l,rfl,dc,hp,hn,hs,he,k⟩:=h;walk_at"g2";have nd:=sc_Told___init__.nd;walk_at"hu";have DD_Door___init___1:=qS (P:=P) (w:=w) (base:=base) m;refine⟨_,(aC (bU (Y6 DD_Door___init___1 hr (aA (pv 0) (aA (pv 1) (aA (pv 2) (aA (pv 3) aB))))))
   (aE (eJ (pv 0) (pv 4) rfl))),?_⟩
  refine aM (σ:=[some (.ref p),some (.str n),some (.str st),some (e),some (l)]) rfl ?_;walk_at"cx";walk_at"go";refine RF ?_;walk_at"go";show dD K [.ref p,.str n,.str st,e,.int 1] _ _ _;walk_at"go";exact k _ (by walk_at"sb") (by assumption)
theorem MY (m:M K mg):Kc P w K mg base "Told" m.j5 4 [] (gQ K):=⟨_,_,_,_,m.aAB,m.XD,.nil,m.j4.b,xD m⟩
theorem P5 {H:Hp}{Q:VK}{E:XK}{C:Addr}{vs dvs:List V}{n s:Str}{e l:V} (ev:vs++dvs=[.str n,.str s,e,l]) (dc:DCls K C) (hn:aZ n=true) (hs:aZ s=true) (he:d5 e)
  (k:∀p dx H',H p=none->Same H H'->H' p=some (.ins C dx (x8 (.str n) (.str s) e l))->Q (.ref p) H'):p7 C (gQ K) dvs E Q vs H :=
 nQ (fun p dx H0 Q' h k' s0=>by rw[ev];exact HD dc h hn hs he k') k
inductive jS (P:Program)(w:World)(K:PySem.W.Frag)(mg:Str->Option Value)(base:Heap)(vs:List V)(H:Hp)(Q:VK)(E:XK):Prop
 | mk (p C dx:Addr) (fs:List (Str×V)) (t:Int) (F:Addr) (o:Obj) (fd:FuncData) (ps:List Str) (sp:Sp) (_:vs=[.ref p,.int t]) (_:DCls K C) (_:H p=some (.ins C dx fs)) (_:fs.lookup ("letting" :Str)=some (.ref F)) (_:H F=some (kn o)) (_:o.data= .func fd) (_:Binds K fd ps []) (_:FnOk P w K mg base CX0 3 F fd ps sp) (_:sp [.int t] H Q E0):jS P w K mg base vs H Q E
theorem HF {H:Hp}{Q:VK}{E:XK}{p C dx:Addr}{fs:List (Str×V)}{t:Int}{F:Addr}{o:Obj}{fd:FuncData}{ps:List Str}{sp:Sp} (hp:H p=some (.ins C dx fs)) (dc:DCls K C) (l:fs.lookup ("letting" :Str)=some (.ref F)) (hF:H F=some (kn o)) (hd:o.data= .func fd)
  (hb:Binds K fd ps [])(hf:FnOk P w K mg base CX0 3 F fd ps sp)(k:sp [.int t] H Q E0):jS P w K mg base [.ref p,.int t] H Q E:=⟨_,_,_,_,_,_,_,_,_,_,rfl,dc,hp,l,hF,hd,hb,hf,k⟩
theorem FB (m:M K mg):FnOk P w K mg base CX0 4 m.qY m.qV.d ["self","turn"] (jS P w K mg base):=by
 refine m.qV.F.ok sc_Told_lets (fun vs H Q E h=> ?_) (fun cdv A outer s H vs Q E hr h=> ?_)
 ·walk_at"g1";obtain⟨p,C,dx,fs,t,F,o,fd,ps,sp,rfl,dc,hp,l,hF,hd,hb,hf,k⟩:=h;walk_at"g2";rfl
 ·walk_at"g1";obtain⟨p,C,dx,fs,t,F,o,fd,ps,sp,rfl,dc,hp,l,hF,hd,hb,hf,k⟩:=h;walk_at"g2";have nd:=sc_Told_lets.nd;walk_at"hu";refine⟨_,(aC (aQ (i:=2) nd rfl (by walk_at"oi") (bA (pv 0) rfl))
   (aE (aT (R8 3 2 hr (aA (pv 1) aB))))),?_⟩
  refine aM (σ:=[some (.ref p),some (.int t),none]) rfl ?_;walk_at"cx";walk_at"go";refine⟨F,o,fd,rfl,hF,hd,?_⟩;walk_at"go";exact⟨ps,sp,hF,hb,hf,k⟩
theorem E8 (m:M K mg):Mc P w K mg base m.j5 "lets" 4 (jS P w K mg base):=⟨_,_,_,m.r9.ic.cl,m.GQ,m.qV.b,FB m⟩
theorem VP {H:Hp}{p dx:Addr}{n st:Str}{e:V}{wd:Int} (m:M K mg) (h:H p=some (.ins m.fV dx (lJ (.str n) (.str st) e (.int wd)))):(aO P w K mg base (some 4)).at' H (.ref p) (n,st,e,fun _=>wd) :=
 ⟨p,_,dx,_,[],rfl,h,m.rZ,by walk_at"lk",by walk_at"lk",by walk_at"lk",by walk_at"lk",by walk_at"lk",yK m,(fun _ z=>nomatch z),fun kl hk=>by
  cases hk;exact⟨_,Mc.mono (EX m) (by decide),fun H' t Q hp _ ht k=>GY hp m.rZ (by walk_at"lk") (k _ (Same.refl _))⟩⟩
theorem Q0 {H:Hp}{p dx:Addr}{n st:Str}{e:V}{wd i0:Int} (m:M K mg) (b0:0<=i0) (h:H p=some (.ins m.g8 dx (vY (.str n) (.str st) e (.int wd) (.int i0)))):(aO P w K mg base (some 4)).at' H (.ref p) (n,st,e,rV wd i0) :=
 ⟨p,_,dx,_,[],rfl,h,m.oU,by walk_at"lk",by walk_at"lk",by walk_at"lk",by walk_at"lk",by walk_at"lk",xH m,(fun _ z=>nomatch z),fun kl hk=>by
  cases hk;exact⟨_,Mc.mono (C3 m) (by decide),fun H' t Q hp _ ht k=>u3 hp m.oU (by walk_at"lk") (by walk_at"lk") ht b0 (k _ (Same.refl _))⟩⟩
theorem QY {H:Hp}{p dx:Addr}{n st:Str}{e:V}{wd i0:Int} (m:M K mg) (b0:0<=i0) (h:H p=some (.ins m.gY dx (v3 (.str n) (.str st) e (.int wd) (.int i0)))):(aO P w K mg base (some 4)).at' H (.ref p) (n,st,e,rN wd i0) :=
 ⟨p,_,dx,_,[],rfl,h,m.pM,by walk_at"lk",by walk_at"lk",by walk_at"lk",by walk_at"lk",by walk_at"lk",xG m,(fun _ z=>nomatch z),fun kl hk=>by
  cases hk;exact⟨_,Mc.mono (DA m) (by decide),fun H' t Q hp _ ht k=>u9 hp m.pM (by walk_at"lk") (by walk_at"lk") ht b0 (k _ (Same.refl _))⟩⟩
theorem WA {H:Hp}{p dx:Addr}{n st:Str}{e:V}{wd i0 i1:Int} (m:M K mg) (b0:1<=i0) (b1:0<=i1) (h:H p=some (.ins m.kB dx (yH (.str n) (.str st) e (.int wd) (.int i0) (.int i1)))):(aO P w K mg base (some 4)).at' H (.ref p) (n,st,e,vO wd i0 i1) :=
 ⟨p,_,dx,_,[],rfl,h,m.r6,by walk_at"lk",by walk_at"lk",by walk_at"lk",by walk_at"lk",by walk_at"lk",yS m,(fun _ z=>nomatch z),fun kl hk=>by
  cases hk;exact⟨_,Mc.mono (FQ m) (by decide),fun H' t Q hp _ ht k=>wM hp m.r6 (by walk_at"lk") (by walk_at"lk") (by walk_at"lk") ht b0 b1 (k _ (Same.refl _))⟩⟩
theorem ZM {kL:Option Nat}{H H':Hp}{v:V}{d:aD} (h:DoorAt P w K mg base kL H v d) (T:SameT H H'):DoorAt P w K mg base kL H' v d:=by
 walk_at"g1";obtain⟨p,C,dx,fs,fp,e,hp,dc,l1,l2,l3,l4,l5,mc,hf,lt⟩:=h;walk_at"g2";exact⟨p,C,dx,fs,fp,e,T _ _ hp (fun ps z=>by cases z),dc,l1,l2,l3,l4,l5,mc,fun x hx=>⟨T _ _ (hf x hx).1 (fun ps z=>(hf x hx).2 (by rw[z];trivial)),(hf x hx).2⟩,lt⟩
theorem CJ (n:Nat){a b:Nat}(h:a≠b:=by decide){i j:Nat}:(([(i,n+a),(j,n+b)]:List (Nat×Addr)).map (·.2)).Nodup:=by
 show ([n+a,n+b]:List Nat).Nodup;simp only[List.nodup_cons,List.mem_cons,List.not_mem_nil,or_false,List.nodup_nil,and_true,not_false_eq_true]
 lia
def Y2 (n f t:Int):Int:=n/2^((t - f)%17).toNat%4
theorem ZH {H:Hp}{c1 c2:Addr}{v1 v2:V} (h:lG H [c1,c2] [v1,v2]):∃o1 o2:Obj,H c1=some (kn o1)/\H c2=some (kn o2)/\∀H':Hp,H' c1=some (kn o1)->H' c2=some (kn o2)->lG H' [c1,c2] [v1,v2]:=by
 cases h with
 | cons a t =>
  cases t with
  | cons b t =>
   walk_at"g1";obtain⟨o1,u1,e1,d1⟩:=a;walk_at"g2";walk_at"g1";obtain⟨o2,u2,e2,d2⟩:=b;walk_at"g2";exact⟨o1,o2,e1,e2,fun H' g1 g2=> .cons ⟨o1,u1,g1,d1⟩ (.cons ⟨o2,u2,g2,d2⟩ .nil)⟩
inductive TD (P:Program)(w:World)(K:PySem.W.Frag)(mg:Str->Option Value)(base:Heap)(H:Hp)(F:Addr)(lt:Int->Int):Prop
 | mk (o:Obj) (fd:FuncData) (fp:List (Addr×HO)) (sp:Sp) (_:o.data= .func fd) (_:Binds K fd ["_law_at"] []) (_:FnOk P w K mg base CX0 3 F fd ["_law_at"] sp) (_:(F,kn o)∈fp) (_:∀x∈fp,H x.1=some x.2/\¬KF x.2)
  (_:∀(H':Hp) (t:Int) (Q:VK),(∀x∈fp,H' x.1=some x.2)->0<=t->Q (.int (lt t)) H'->sp [.int t] H' Q E0)
theorem XS {H:Hp}{F:Addr}{fd:FuncData}{qual:Str}{args:Arguments}{body:Expr}{lsc:Scope}{ys:List Str}{c1 c2:Addr}{v1 v2:V}{val:Int->Int} (hL:LamL H F fd qual args body lsc (ys.zip [c1,c2])) (kc:lG H [c1,c2] [v1,v2]) (hbd:Binds K fd ["_law_at"] [])
  (FL:FnOk P w K mg base CX0 3 F fd ["_law_at"] (IU F fd qual args body lsc ys [c1,c2] [v1,v2] val)):TD P w K mg base H F val:=by
 walk_at"g1";obtain⟨o1,o2,g1,g2,gk⟩:=ZH kc;walk_at"g2";walk_at"g1";obtain⟨c',pm,ctv,oc,fv,tt,hfd,hF,hc',hdc,hfv⟩:=hL;walk_at"g2";refine⟨PySem.W.kla_obj "<lambda>" qual args body lsc (ys.zip [c1,c2]) pm c' ctv,fd,[(F,kn (PySem.W.kla_obj "<lambda>" qual args body lsc (ys.zip [c1,c2]) pm c' ctv)),(c',kn oc),(c1,kn o1),(c2,kn o2)],_,by rw[hfd],hbd,FL,.head _,fun x hx=> ?_,fun H' t Q hfp ht hq=> ?_⟩
 ·simp only[List.mem_cons,List.not_mem_nil,or_false]at hx;rcases hx with rfl|rfl|rfl|rfl
  ·exact⟨hF,fun z=>z⟩
  ·exact⟨hc',fun z=>z⟩
  ·exact⟨g1,fun z=>z⟩
  ·exact⟨g2,fun z=>z⟩
 ·have gF:=hfp _ (.head _);have gc':=hfp _ (.tail _ (.head _));have a1:=hfp _ (.tail _ (.tail _ (.head _)));have a2:=hfp _ (.tail _ (.tail _ (.tail _ (.head _))));exact⟨t,rfl,ht,⟨c',pm,ctv,oc,fv,tt,hfd,gF,gc',hdc,hfv⟩,gk H' a1 a2,hq⟩
abbrev nY:Pos:=⟨279,58,279,122⟩
abbrev qL:Str:=("_law_door" :Str)++ ".<locals>." ++ "<lambda>"
theorem U5 (m:M K mg){H:Hp}{p dx F:Addr}{nm st:Str}{e:V}{lt:Int->Int} (hp:H p=some (.ins m.j5 dx (x8 (.str nm) (.str st) e (.ref F)))) (hL:TD P w K mg base H F lt):(aO P w K mg base (some 4)).at' H (.ref p) (nm,st,e,lt):=by
 walk_at"g1";obtain⟨o,fd,fp,sp,h1,h2,h3,h4,h5,h6⟩:=hL;walk_at"g2";refine⟨p,_,dx,_,fp,rfl,hp,m.r9,by walk_at"lk",by walk_at"lk",by walk_at"lk",by walk_at"lk",by walk_at"lk",yA m,h5,fun kl hk=> ?_⟩;cases hk;exact⟨_,E8 m,fun H' t Q hp' hfp ht k=>HF hp' m.r9 (by walk_at"lk") (hfp _ h4) h1 h2 h3 (h6 H' t _ hfp ht (k _ (Same.refl _)))⟩
theorem Z6 {wd i:Int}(h:0<=wd)(t:Int):0<=rV wd i t:=by unfold rV;split<;>lia
theorem XL {wd i:Int}(h:0<=wd)(t:Int):0<=rN wd i t:=by unfold rN;split<;>lia
theorem aBm {wd i j:Int}(h:0<=wd)(t:Int):0<=vO wd i j t:=by unfold vO;split<;>lia
theorem aBz {n f:Int}(t:Int):0<=Y2 n f t:=Int.emod_nonneg _ (by decide)
inductive tP (P:Program)(w:World)(K:PySem.W.Frag)(mg:Str->Option Value)(base:Heap)(PL:Addr)(vs:List V)(H:Hp)(Q:VK)(E:XK):Prop
 | mk (dd:Int) (n st:Str) (e:V) (f:Int) (_:vs=[.int dd,.str n,.str st,e,.int f]) (_:0<=dd) (_:aZ n=true) (_:aZ st=true) (_:d5 e) (_:0<=f) (_:TabS H PL nY qL) (_:∀v lt H',SameT H H'->TabS H' PL nY qL->(aO P w K mg base (some 4)).at' H' v (n,st,e,lt)->(∀t,0<=lt t)->Q v H'):tP P w K mg base PL vs H Q E
theorem UE {PL:Addr}{H:Hp}{Q:VK}{E:XK}{dd:Int}{n st:Str}{e:V}{f:Int} (hd:0<=dd) (hn:aZ n=true) (hs:aZ st=true) (he:d5 e) (hf:0<=f) (ht:TabS H PL nY qL) (k:∀v lt H',SameT H H'->TabS H' PL nY qL->(aO P w K mg base (some 4)).at' H' v (n,st,e,lt)->(∀t,0<=lt t)->Q v H'):tP P w K mg base PL [.int dd,.str n,.str st,e,.int f] H Q E:=⟨_,_,_,_,_,rfl,hd,hn,hs,he,hf,ht,k⟩
local macro_rules| `(tactic| walk_at"rd1")=> `(tactic| first|(with_reducible refine T9 ?_)|(with_reducible refine UU ?_)|(with_reducible refine YN ?_)|(with_reducible refine VC ?_))
theorem FW (m:M K mg){cL PL:Addr}(hcL:m.dW.code= .ref cL)(hCL:PySem.W.CodeHd base cL PL)(hBL:base.BuiltinsAt mg PL):FnOk P w K mg base CX0 6 m.rA m.dW ["_law_number","_law_name_here","_law_start","_law_end","_law_first"] (tP P w K mg base PL):=by
 refine m.lF.okL sc__law_door (iys:=[(0,"_law_number"),(4,"_law_first")]) (by decide +kernel) (fun vs H Q E h=> ?_) (fun cdv A outer s H vs Q E ics hcd hics hr h=> ?_)
 ·walk_at"g1";obtain⟨dd,n,st,e,f,rfl,hdd,hn,hs,he,hf,hPL,k⟩:=h;walk_at"g2";rfl
 ·walk_at"g1";obtain⟨dd,n,st,e,f,rfl,hdd,hn,hs,he,hf,hPL,k⟩:=h;walk_at"g2";have nd:=sc__law_door.nd;walk_at"hu";obtain rfl:=hcd.symm.trans hcL;obtain rfl:=YW hics (js:=[(0,s.heap.objs.size+1),(4,s.heap.objs.size+2)]) (.cons ⟨rfl,by kernel_rfl⟩ (.cons ⟨rfl,by kernel_rfl⟩ (.nil)));refine⟨CJ _,?_⟩;have K_Beat_0:= @N6 P w K mg base m;have K_Door_0:= @N7 P w K mg base m;have K_Since_0:= @JW P w K mg base m;have K_Told_0:= @MY P w K mg base m;have K_Until_0:= @LQ P w K mg base m;have w_dc_Door:=m.rZ;have w_dc_Since:=m.oU;have w_dc_Until:=m.pM;have w_dc_Beat:=m.r6;have w_dc_Told:=m.r9;refine⟨_,(oA (aQ (i:=5) nd rfl (by walk_at"oi") (aI bN (aI d8 (pv 0) aF) aF))
   (oA (aQ (i:=6) nd rfl (by walk_at"oi") (aI bS (pv 4) (aI bN (aI d8 (pv 0) aF) aF)))
   (oA (cF (bC gU (aI bN (pv 0) aF) aF (bH _)) (aE (aT (vP K_Since_0 hr (aA (pv 1) (aA (pv 2) (aA (pv 3) (aA (pv 5) (aA (pv 6) aB)))))))) bP)
   (oA (cF (bC gU (aI bN (pv 0) aF) aF (bH _)) (aE (aT (vP K_Until_0 hr (aA (pv 1) (aA (pv 2) (aA (pv 3) (aA (aI bS (pv 5) aF) (aA (pv 6) aB)))))))) bP)
   (oA (cF (bC gU (aI bN (pv 0) aF) aF (bH _)) (aE (aT (vP K_Beat_0 hr (aA (pv 1) (aA (pv 2) (aA (pv 3) (aA (aI bS (pv 5) aF) (aA (aI bS aF (aI bN (aI d8 (pv 0) aF) aF)) (aA (aI bS (pv 4) (aI bN (aI d8 (pv 0) aF) aF)) aB))))))))) bP)
   (XM (bC gU (aI bN (pv 0) aF) aF (bH _)) (UL (vP K_Told_0 hr (aA (pv 1) (aA (pv 2) (aA (pv 3) (aA (WM rfl hCL hBL rfl) aB))))))
   (UZ (aE (aT (vP K_Door_0 hr (aA (pv 1) (aA (pv 2) (aA (pv 3) (aA (pv 5) aB)))))))))))))),?_⟩
  refine M9 (σ:=[some (.int dd),some (.str n),some (.str st),some (e),some (.int f),none,none]) rfl ?_;walk_at"go";refine cN (fun h1=> ?_) (fun h1=> ?_)
  ·walk_at"go";rename_i p dx H2 n2 S2 e2;exact k _ _ _ (Same.t S2) (hPL.same S2) (Q0 (P:=P) (w:=w) (base:=base) m (by lia) e2) (Z6 (by lia))
  walk_at"go";refine cN (fun h2=> ?_) (fun h2=> ?_)
  ·walk_at"go";rename_i p dx H2 n2 S2 e2;exact k _ _ _ (Same.t S2) (hPL.same S2) (QY (P:=P) (w:=w) (base:=base) m (by lia) e2) (XL (by lia))
  walk_at"go";refine cN (fun h3=> ?_) (fun h3=> ?_)
  ·walk_at"go";rename_i p dx H2 n2 S2 e2;exact k _ _ _ (Same.t S2) (hPL.same S2) (WA (P:=P) (w:=w) (base:=base) m (by lia) (by lia) e2) (aBm (by lia))
  walk_at"go";refine cN (fun h4=> ?_) (fun h4=> ?_)
  ·walk_at"go";refine⟨hPL,fun F fd G hFn hL T hT'=> ?_⟩;walk_at"go";refine P5 rfl w_dc_Told hn hs he fun p5 dx5 G5 n5 S5 e5=> ?_;refine⟨_,.cons rfl (.cons rfl .nil),fun H2 S2 hnn kc=> ?_⟩;have hL2:=hL.same (S5.trans S2);have hbd:Binds K fd ["_law_at"] []:=by
    walk_at"g1";obtain⟨c',pm,ctv,oc,fv,tt,hfd,_⟩:=id hL2;walk_at"g2";rw[hfd];exact Binds.all<|JR 1 _ fun _=>rfl
   refine k _ _ _ ((T.snoc S5).snoc S2) ((hT'.same S5).same S2) (U5 (P:=P) (w:=w) (base:=base) m (S2 _ _ e5) (XS (ys:=["_law_number","_law_first"]) (val:=Y2 dd f) hL2 kc hbd ?_)) aBz;refine U6 (k:=2) rfl rfl rfl (by decide +kernel) (by kernel_rfl) (by decide +kernel) (by decide +kernel) (by decide +kernel) (CJ s.heap.objs.size (a:=1) (b:=2) (i:=0) (j:=0)) rfl (fun cdv A outer s H E hr=>⟨_,(aI bN (aI OT (pv 1) (aI bN (aI jW (pv 0) (pv 2)) aF)) aF),fun i Q h0 hq=> ?_⟩);show (_:TE) [some (.int i),some (.int dd),some (.int f)] H Q;walk_at"go";refine⟨_,_,rfl,rfl,Int.emod_nonneg _ (by decide),?_⟩;walk_at"go";exact hq
  walk_at"go";rename_i p dx H2 n2 S2 e2;exact k _ _ _ (Same.t S2) (hPL.same S2) (VP (P:=P) (w:=w) (base:=base) m e2) (fun _=>by lia)
theorem F3 (m:M K mg){cL PL:Addr}(hcL:m.dW.code= .ref cL)(hCL:PySem.W.CodeHd base cL PL)(hBL:base.BuiltinsAt mg PL):Fc P w K mg base "_law_door" 6 ["_law_number","_law_name_here","_law_start","_law_end","_law_first"] (tP P w K mg base PL):=⟨_,_,m.HP,m.lF.kp,m.HS,FW m hcL hCL hBL⟩
def TBut (p:Addr)(H H':Hp):Prop:=∀b u,H b=some u->(∀ps,u≠ .tbl ps)->b≠p->H' b=some u
theorem TBut.refl (p:Addr)(H:Hp):TBut p H H:=fun _ _ e _ _=>e
theorem TBut.same {p:Addr}{H H1 H2:Hp} (t:TBut p H H1) (s:Same H1 H2):TBut p H H2:=fun b u e n hb=>s b u (t b u e n hb)
theorem TBut.t {p:Addr}{H H1 H2:Hp} (t:TBut p H H1) (s:SameT H1 H2):TBut p H H2:=fun b u e n hb=>s b u (t b u e n hb) n
theorem TBut.but {p:Addr}{H H1 H2:Hp} (t:TBut p H H1) (s:SameBut p H1 H2):TBut p H H2:=fun b u e n hb=>s b u (t b u e n hb) hb
theorem TBut.out {p:Addr}{H H1 H2:Hp} (n:H p=none) (s:Same H H1) (t:TBut p H1 H2):SameT H H2:=fun b u e hn=>t b u (s b u e) hn fun z=>by rw[z,n]at e;cases e
theorem PY {H H':Hp}{PL p:Addr}{pos:Pos}{q:Str}{xs:List V} (h:TabS H PL pos q) (e:H p=some (.lst xs)) (s:SameBut p H H'):TabS H' PL pos q:=by
 rcases h with h|⟨c',oc,fv,t,h1,h2,h3⟩
 ·exact .inl (s _ _ h fun z=>by rw[z,e]at h;cases h)
 ·exact .inr ⟨c',oc,fv,t,s _ _ h1 (fun z=>by rw[z,e]at h1;cases h1),s _ _ h2 (fun z=>by rw[z,e]at h2;cases h2),h3⟩
theorem VD {α:Type}(nm:α->Str)(sz pp:α->Int):∀{l:List α},(l.map nm).Nodup->(∀i∈l,0<=pp i/\pp i<=sz i)->sK (l.map fun i=>(nm i,sz i)) (l.map fun i=>(nm i,pp i)):=fun {l} nd h=>by
 refine⟨fun p hp=> ?_,fun e he=> ?_⟩
 ·obtain⟨e,he,rfl⟩:=List.mem_map.mp hp;exact(h e he).1
 ·obtain⟨j,hj,rfl⟩:=List.mem_map.mp he;have key:∀l:List α,(l.map nm).Nodup->j∈l->cQ (l.map fun i=>(nm i,pp i)) (nm j)=pp j:=fun l=>by
   induction l with
   | nil=>exact fun _ h=>nomatch h
   | cons a l ih =>
    intro nd hm;have nd':=List.nodup_cons.mp nd;have hz:∀l:List α,nm a∉l.map nm->cQ (l.map fun i=>(nm i,pp i)) (nm a)=0:=fun l=>by
     induction l with
     | nil=>exact fun _=>rfl
     | cons b l ih =>
      intro hn;rw[List.map_cons,List.mem_cons,not_or]at hn;have:=ih hn.2;unfold cQ at this ⊢;rw[List.map_cons,List.filter_cons_of_neg (by simpa using fun z=>hn.1 z.symm),this]
    rcases List.mem_cons.mp hm with h|h
    ·subst h;have:=hz l nd'.1;unfold cQ at this ⊢;rw[List.map_cons,List.filter_cons_of_pos (by simp),List.map_cons,List.sum_cons,this];exact Int.add_zero _
    ·have hne:¬nm a=nm j:=fun z=>nd'.1 (show nm a∈_ by rw[z];exact List.mem_map.mpr ⟨j,h,rfl⟩);have:=ih nd'.2 h;unfold cQ at this ⊢;rw[List.map_cons,List.filter_cons_of_neg (by simpa using hne),this]
  show cQ _ (nm j)<=sz j;rw[key l nd hj];exact(h j hj).2
theorem wJ (c b:Int)(n:Nat)(h0:0<=b)(hb:b+n<=26):((List.range n).map fun k:Nat=>cX c ((k:Int)+b)).Nodup:=by
 rw[List.Nodup,List.pairwise_map];refine List.Pairwise.imp_of_mem ?_ (List.nodup_range (n:=n));intro i j hi hj hne z;have hi':=List.mem_range.mp hi;have hj':=List.mem_range.mp hj;have:=N5 (by lia) (by lia) (by lia) (by lia) z
 lia
theorem E3 (c k:Int):aZ (cX c k)=true:=by
 have hl:=JC;refine I0 (x:=Txt.slice "abcdefghijklmnopqrstuvwxyz" (some (bG c 1%20)) none) (b:=bG c 2%8) (jX vN) (by lia) (by lia) rfl ?_ ?_ ?_
 ·exact Int.emod_nonneg _ (by lia)
 ·exact Int.emod_lt_of_pos _ (by lia)
 ·refine FU vN ?_;rw[w5,List.mem_range'_1]
  lia
def d9 (c sh:Int)(i:Nat):Str×Int:=(cX c (i:Int),bG sh (i:Int)%7)
def uH (c sh c3:Int)(i:Nat):Str×Int:=(cX c (i:Int),bG c3 (i:Int)%(bG sh (i:Int)%7+1))
structure gJ (rz ps:List (Str×Int))(ds:List aD)(f l:Int):Prop where
 nr:(rz.map (·.1)).Nodup
 nd:(ds.map (·.1)).Nodup
 hin:∀d∈ds,dN (rz.map (·.1)) d
 lt0:∀d∈ds,∀t,0<=d.2.2.2 t
 hpr:∀p∈ps,p.1∈rz.map (·.1)
 fit:sK rz ps
 sz:∀e∈rz,0<=e.2/\e.2<=6
 lr:rz.length<=5
 lp:ps.length<=5
 ld:ds.length<=8
 f0:0<=f
 f1:f<=l
 f2:l<=f+8
 f3:f<100000000000
inductive qC (K:PySem.W.Frag)(C:Addr)(D:bD)(PL:Addr)(vs:List V)(H:Hp)(Q:VK)(E:XK):Prop
 | mk (a:Addr) (ns:List Int) (f l:Int) (_:vs=[.ref a,.int f,.int l]) (_:SqL K H a (ns.map V.int)) (_:0<=f) (_:f<=l) (_:l<=f+8) (_:f<100000000000) (_:TabS H PL nY qL) (_:∀h H' rz ps ds,SameT H H'->aR C D H' h f l rz ps ds->gJ rz ps ds f l->Q (.ref h) H'):qC K C D PL vs H Q E
theorem RZ {C:Addr}{D:bD}{PL:Addr}{H:Hp}{Q:VK}{E:XK}{a:Addr}{ns:List Int}{f l:Int} (hS:SqL K H a (ns.map V.int)) (h0:0<=f) (h1:f<=l) (h2:l<=f+8) (h3:f<100000000000) (ht:TabS H PL nY qL) (k:∀h H' rz ps ds,SameT H H'->aR C D H' h f l rz ps ds->gJ rz ps ds f l->Q (.ref h) H'):qC K C D PL [.ref a,.int f,.int l] H Q E:=⟨_,_,_,_,rfl,hS,h0,h1,h2,h3,ht,k⟩
theorem DB (m:M K mg){cL PL:Addr}(hcL:m.dW.code= .ref cL)(hCL:PySem.W.CodeHd base cL PL)(hBL:base.BuiltinsAt mg PL):FnOk P w K mg base CX0 8 m.pP m.kG.d ["_law_script","_law_first","_law_last"] (qC K m.aL (aO P w K mg base (some 4)) PL):=by
 refine m.kG.F.ok sc__law_house (fun vs H Q E h=> ?_) (fun cdv A outer s H vs Q E hr h=> ?_)
 ·walk_at"g1";obtain⟨a,ns,f,l,rfl,hS,h0,h1,h2,h3,hPL,k⟩:=h;walk_at"g2";rfl
 ·walk_at"g1";obtain⟨a,ns,f,l,rfl,hS,h0,h1,h2,h3,hPL,k⟩:=h;walk_at"g2";have nd:=sc__law_house.nd;walk_at"hu";have F__law_cell_at:= @jQ P w K mg base m;have lF:=F3 (P:=P) (w:=w) (base:=base) m hcL hCL hBL;have F__law_drawn:= @iO P w K mg base m;have F__law_name:= @FG P w K mg base m;have K_House_0:= @KK P w K mg base m;have w_dc_House:=m.aY;refine⟨_,(aC (aQ (i:=3) nd rfl (by walk_at"oi") (bK F__law_cell_at hr (aA (pv 0) (aA aF aB))))
   (aC (aQ (i:=4) nd rfl (by walk_at"oi") (bW (N:=["_law_k","_law_cell"]) (nl:=1) (ci:=[3]) rfl (blk (s.heap.objs.size+1) rfl rfl rfl (by kernel_rfl)) (jI rfl m.hG (aA (aI bS aF (aI bN (aI d8 (pv 3) aF) aF)) aB)) (fun _ _ _ _=>(aK (i:=0) (show (["_law_k","_law_cell"]:List Str).Nodup by decide +kernel) rfl (by walk_at"oi"))) (fun _ _ _ _=>d0) (fun _ _ _ _=>(bK F__law_name hr (aA (pv 1) (aA (pv 0) aB))))))
   (aC (aQ (i:=5) nd rfl (by walk_at"oi") (bW (N:=["_law_k","_law_names","_law_script"]) (nl:=1) (ci:=[4,0]) rfl (blk (s.heap.objs.size+1) rfl rfl rfl (by kernel_rfl)) (jI rfl m.hG (aA (bM dC rfl m.hJ fK (aA (pv 4) aB)) aB)) (fun _ _ _ _=>(aK (i:=0) (show (["_law_k","_law_names","_law_script"]:List Str).Nodup by decide +kernel) rfl (by walk_at"oi"))) (fun _ _ _ _=>d0) (fun _ _ _ _=>(dM (aA (dH (xP (K:=K)) (pv 1) (pv 0) (fun _ _=>rfl)) (aA (aI bN (bK F__law_drawn hr (aA (bK F__law_cell_at hr (aA (pv 2) (aA aF aB))) (aA (pv 0) aB))) aF) aB))))))
   (aC (aQ (i:=6) nd rfl (by walk_at"oi") (dO aB))
   (aC (cG PassesOwn.never rfl (jI rfl m.hG (aA (aI bS aF (aI bN (bK F__law_drawn hr (aA (pv 3) (aA aF aB))) aF)) aB)) (aK (i:=7) nd rfl (by walk_at"oi")) (aC (aQ (i:=8) nd rfl (by walk_at"oi") (bK F__law_drawn hr (aA (pv 3) (aA (aI bS aF (pv 7)) aB))))
   (aC (aQ (i:=9) nd rfl (by walk_at"oi") (dH gT (aI zK (pv 4) (dO (aA oI (aA oI aB)))) (aI bN (aI d8 (pv 8) aF) (aI bS (bM dC rfl m.hJ fK (aA (pv 4) aB)) aF)) (fun _ _=>rfl)))
   (aC (aQ (i:=10) nd rfl (by walk_at"oi") (bK F__law_drawn hr (aA (pv 3) (aA (aI bS aF (pv 7)) aB))))
   (aE (bU (v4 PySem.F.plainAttrs_list PySem.F.slot_list_append PySem.F.type_list_append lI (pv 6) (aA (bK lF hr (aA (pv 10) (aA (bK F__law_name hr (aA (pv 3) (aA (aI bS (pv 7) aF) aB))) (aA (dH gT (pv 4) (aI bN (pv 8) (bM dC rfl m.hJ fK (aA (pv 4) aB))) (fun _ _=>rfl)) (aA (pv 9) (aA (pv 1) aB)))))) aB))))))))
   (aC (KR (i:=11) nd rfl (by walk_at"oi") (N:=["_law_k","_law_rooms","_law_script"]) (nl:=1) (ci:=[5,0]) rfl (blk (s.heap.objs.size+1) rfl rfl rfl (by kernel_rfl)) (jI rfl m.hG (aA (bM dC rfl m.hJ fK (aA (pv 5) aB)) aB)) (fun _ _ _ _=>(aK (i:=0) (show (["_law_k","_law_rooms","_law_script"]:List Str).Nodup by decide +kernel) rfl (by walk_at"oi"))) (fun _ _ _ _=>d0) (fun _ _ _ _=>(dM (aA (dH (jG (K:=K)) (dH (xP (K:=K)) (pv 1) (pv 0) (fun _ _=>rfl)) aF (fun _ _=>rfl)) (aA (aI bN (bK F__law_drawn hr (aA (bK F__law_cell_at hr (aA (pv 2) (aA aF aB))) (aA (pv 0) aB))) (aI bS (dH (jG (K:=K)) (dH (xP (K:=K)) (pv 1) (pv 0) (fun _ _=>rfl)) aF (fun _ _=>rfl)) aF)) aB)))))
   (aE (aT (vP K_House_0 hr (aA (pv 5) (aA (pv 6) (aA (pv 11) (aA (pv 2) (aA (pv 1) aB)))))))))))))),?_⟩
  refine aM (σ:=[some (.ref a),some (.int f),some (.int l),none,none,none,none,none,none,none,none,none]) rfl ?_;walk_at"cx";walk_at"go";generalize hcc:lC ns 0=c0;refine RV (fun i=> .str (cX c0 (i:Int))) (by rw[sizeLine_eq];lia) (rest:=[some (.int c0)]) (by rfl) ?_ ?_
  ·intro i H1 hi s1 R hR;walk_at"go"
   subst_vars
   rw[Int.zero_add];exact hR _ (Same.refl _)
  intro H1 s1;generalize hne:(1+c0/2%5).toNat=n;have hn0:0<n:=by lia
  have hn5:n<=5:=by lia
  have hnl:((List.range n).map fun i:Nat=>V.str (cX c0 (i:Int))).length=n:=by rw[List.length_map,List.length_range]
  have hnm:∀v∈(List.range n).map (fun i:Nat=>V.str (cX c0 (i:Int))),∃i:Nat,i<n/\v= .str (cX c0 (i:Int)):=fun v hv=>by
   obtain⟨i,hi,rfl⟩:=List.mem_map.mp hv;exact⟨i,List.mem_range.mp hi,rfl⟩
  have hat:∀i:Nat,i<n->((List.range n).map fun i:Nat=>V.str (cX c0 (i:Int)))[i]? =some (.str (cX c0 (i:Int))):=fun i hi=>by rw[List.getElem?_map,List.getElem?_range hi];rfl
  generalize hN:((List.range n).map fun i:Nat=>V.str (cX c0 (i:Int)))=N at hnl hnm hat ⊢;walk_at"go";rename_i pN H2 n2 S2 eN;generalize hsh:lC ns 2=sh;rw[show ((N.length:Nat):Int).toNat=n by lia];have hS2:=(s1.trans S2).seq hS;refine DZ (fun i y H=>cH H y (d9 c0 sh i)) (fun _ _ _ _ ⟨q,e,h⟩ s=>⟨q,e,s _ _ h⟩) (by rw[sizeLine_eq];lia) (rest:=[some (.ref pN),some (.ref a)]) (by rfl) ?_ ?_
  ·intro i H3 hi s3 R hR;have eN3:=s3 _ _ eN;have hS3:=s3.seq hS2;walk_at"go";rw[Int.zero_add];refine rX (SqL.of eN3) (hat i hi) ?_;walk_at"go";rename_i q4 H4 n4 S4 e4
   subst_vars
   exact hR _ _ ⟨q4,rfl,e4⟩ S4
  intro ws H3 s3 hws;have hra:RoomsAt H3 ws ((List.range n).map (d9 c0 sh)):=wS (d9 c0 sh) hws;have hwl:ws.length=n:=by rw[Paired.length hra,List.length_map,List.length_range]
  have hrn:((List.range n).map (d9 c0 sh)).map (·.1)=(List.range n).map fun k:Nat=>cX c0 ((k:Int)+0):=by rw[List.map_map];exact List.map_congr_left fun k _=>by rw[Int.add_zero];rfl
  have hnr:(((List.range n).map (d9 c0 sh)).map (·.1)).Nodup:=by rw[hrn];exact wJ c0 0 n (Int.le_refl _) (by lia)
  have hmem:∀i:Nat,i<n->cX c0 (i:Int)∈((List.range n).map (d9 c0 sh)).map (·.1):=fun i hi=>List.mem_map.mpr ⟨d9 c0 sh i,List.mem_map.mpr ⟨i,List.mem_range.mpr hi,rfl⟩,rfl⟩;have hsz:∀i:Nat,0<=bG sh (i:Int)%7/\bG sh (i:Int)%7<=6:=fun i=>by lia
  walk_at"go";rename_i pW H4 n4 S4 eW p H5 n5 S5 ep nn dn hn1 hn2;have eN5:H5 pN=some (.lst N):=S5 _ _ (S4 _ _ (s3 _ _ eN));have eW5:=S5 _ _ eW;have s05:Same H H5:=s1.trans (S2.trans (s3.trans (S4.trans S5)));have hPL5:=hPL.same s05;have hra5:=hra.sm (S4.trans S5);let Pv1:Nat->St->Hp->Prop:=fun i σ' H'=>TBut p H5 H'/\TabS H' PL nY qL/\(∃us ds,H' p=some (.lst us)/\Paired ((aO P w K mg base (some 4)).at' H') us ds/\(∀d∈ds,dN (((List.range n).map (d9 c0 sh)).map (·.1)) d)/\(∀d∈ds,∀t,0<=d.2.2.2 t)/\ds.map (·.1)=(List.range i).map fun k:Nat=>cX c0 ((k:Int)+8))/\∃x y z u,σ'=[some (.ref a),some (.int f),some (.int l),some (.int c0),some (.ref pN),some (.ref pW),some (.ref p),x,y,z,u,none];refine rG Pv1 ⟨TBut.refl _ _,hPL5,⟨[],[],ep,.nil,(fun _ z=>nomatch z),(fun _ z=>nomatch z),rfl⟩,_,_,_,_,rfl⟩ ?_ ?_
  ·rintro i _ H' hi hq_;walk_at"g1";obtain⟨tb,hT,⟨us,ds,eu,hud,hds,hdt,hnm2⟩,x1,x2,x3,x4,rfl⟩:=hq_;walk_at"g2";have hi8:i<8:=by lia
   have hul:us.length=i:=by
    have h5:ds.length=i:=by rw[←List.length_map (f:=fun d:aD=>d.1),hnm2,List.length_map,List.length_range]
    rw[Paired.length hud];exact h5
   have hpN:pN≠p:=fun z=>by rw[z,ep]at eN5;cases eN5;exact absurd hnl (by show ¬0=n;lia)
   have eN':=tb _ _ eN5 (fun ps z=>by cases z) hpN;walk_at"go";rename_i dd ed hd0 hd1 pA G1 m1 T1 eA pB G2 m2 T2 eB hx0 hx1;refine F8 (SqL.of eB) hx0 (by rw[List.length_append];show _<(((N.length+2:Nat)):Int);lia) fun v hv=> ?_;have hve:d5 v/\(v= .non∨∃z,v= .str z/\z∈((List.range n).map (d9 c0 sh)).map (·.1)):=by
    rcases List.mem_append.mp hv with hv|hv
    ·obtain⟨j,hj,rfl⟩:=hnm v hv;exact⟨.inr ⟨_,rfl,E3 c0 _⟩,.inr ⟨_,rfl,hmem j hj⟩⟩
    ·have:v= .non:=by simpa using hv
     exact⟨.inl this,.inl this⟩
   obtain⟨hve,hvi⟩:=hve;clear hv;have tG2:TBut p H5 G2:=tb.same (T1.trans T2);have eN2:=(T1.trans T2) _ _ eN';have hT2:=hT.same (T1.trans T2);have eu2:=(T1.trans T2) _ _ eu;have hud2:Paired ((aO P w K mg base (some 4)).at' G2) us ds:=nC hud (T1.trans T2);clear eB eA;walk_at"go";rename_i kd ekd hk0 hk1 zn ezn hzn hy0 hy1;refine F8 (SqL.of eN2) (by lia) (by lia) fun v2 hv2=> ?_;obtain⟨j2,hj2,rfl⟩:=hnm v2 hv2;walk_at"go";refine UE hk0 hzn (E3 c0 _) hve h0 hT2 fun v6 lt H6 T6 hT6 hd6 hlt6=> ?_;have eu6:=T6 _ _ eu2 (fun ps z=>by cases z);walk_at"go";refine jH eu6 (by rw[sizeLine_eq];lia) fun H7 B7 e7=> ?_;walk_at"go";refine⟨(tG2.t T6).but B7,PY hT6 eu6 B7,⟨us++[v6],ds++[(zn,cX c0 (j2:Int),v,lt)],e7,L2.Paired.snoc (Paired.imp' (fun _ _ h=>(aO P w K mg base (some 4)).but (ZM h T6) eu6 trivial B7) hud2) ((aO P w K mg base (some 4)).but hd6 eu6 trivial B7),?_,?_,?_⟩,_,_,_,_,rfl⟩
   ·intro d' hd';rcases List.mem_append.mp hd' with hd'|hd'
    ·exact hds d' hd'
    ·cases List.mem_singleton.mp hd';exact⟨hmem j2 hj2,hvi⟩
   ·intro d' hd';rcases List.mem_append.mp hd' with hd'|hd'
    ·exact hdt d' hd'
    ·cases List.mem_singleton.mp hd';exact hlt6
   ·rw[List.map_append,hnm2,List.range_succ,List.map_append,List.map_singleton,List.map_singleton,ezn,Int.zero_add]
  ·rintro _ H' hq_;walk_at"g1";obtain⟨tb,hT,⟨us,ds,eu,hud,hds,hdt,hnm2⟩,x1,x2,x3,x4,rfl⟩:=hq_;walk_at"g2";have hdl:ds.length=(1+nn%8).toNat:=by rw[←List.length_map (f:=fun d:aD=>d.1),hnm2,List.length_map,List.length_range]
   have hpW:pW≠p:=fun z=>by rw[z,ep]at eW5;cases eW5;exact absurd hwl (by show ¬0=n;lia)
   have eW':=tb _ _ eW5 (fun ps z=>by cases z) hpW;have T5:SameT H H':=TBut.out (by
    cases hq:H p with
    | none=>rfl
    | some u =>
     have:=(s1.trans (S2.trans (s3.trans S4))) _ _ hq;rw[n5]at this;cases this) s05 tb
   have hS':=T5.seq hS;have hra':RoomsAt H' ws ((List.range n).map (d9 c0 sh)):=Paired.imp' (fun _ _ ⟨q,e,h⟩=>⟨q,e,tb _ _ h (fun ps z=>by cases z) (fun z=>by rw[z,ep]at h;cases h)⟩) hra5;walk_at"go";generalize hc3:lC ns 3=c3;rw[show ((ws.length:Nat):Int).toNat=n by lia];refine DZ (fun i y H=>cH H y (uH c0 sh c3 i)) (fun _ _ _ _ ⟨q,e,h⟩ s=>⟨q,e,s _ _ h⟩) (by rw[sizeLine_eq];lia) (rest:=[some (.ref pW),some (.ref a)]) (by rfl) ?_ ?_
   ·intro i G hi sG R hR;have hwi:ws[i]? =some ws[i]:=List.getElem?_eq_getElem (by lia);have hri:((List.range n).map (d9 c0 sh))[i]? =some (d9 c0 sh i):=by rw[List.getElem?_map,List.getElem?_range hi];rfl
    obtain⟨q,hq,hqt⟩:=Paired.at2 (hra'.sm sG) hwi hri;rw[hq]at hwi;have hqt':G q=some (.tup [.str (cX c0 (i:Int)),.int (bG sh (i:Int)%7)]):=hqt;have eWG:=sG _ _ eW';have hSG:=sG.seq hS';have hs0:=(hsz i).1;walk_at"go";rw[Int.zero_add];refine rX (SqL.of eWG) hwi ?_;walk_at"go";refine⟨q,_,0,_,rfl,rfl,SqT.of hqt',rfl,?_⟩;walk_at"go";refine rX (SqL.of eWG) hwi ?_;walk_at"go";refine⟨q,_,1,_,rfl,rfl,SqT.of hqt',rfl,?_⟩;generalize hz:bG sh (i:Int)%7=z0 at hs0 ⊢;walk_at"go";rename_i nd2 ed2 hd20 hd21 hm0 hm1 q7 G7 m7 T7 e7;refine hR _ _ ⟨q7,rfl,?_⟩ T7;rw[e7,ed2];unfold uH;rw[hz,←hc3]
    try rw[Int.zero_add]
   intro cs G sG hcs;have hcp:Paired (cH G) cs ((List.range n).map (uH c0 sh c3)):=wS (uH c0 sh c3) hcs;have hnd:(ds.map (·.1)).Nodup:=by rw[hnm2];exact wJ c0 8 _ (by decide) (by lia)
   have hszs:∀e∈(List.range n).map (d9 c0 sh),0<=e.2/\e.2<=6:=fun e he=>by
    obtain⟨i,_,rfl⟩:=List.mem_map.mp he;exact hsz i
   have hfit:sK ((List.range n).map (d9 c0 sh)) ((List.range n).map (uH c0 sh c3)):=VD (fun i:Nat=>cX c0 (i:Int)) (fun i:Nat=>bG sh (i:Int)%7) (fun i:Nat=>bG c3 (i:Int)%(bG sh (i:Int)%7+1)) (by
     have:=hnr;rw[List.map_map]at this;exact this) fun i _=>by
    have h0:=(hsz i).1;have h1:=Int.emod_nonneg (bG c3 (i:Int)) (show bG sh (i:Int)%7+1≠0 by lia);have h2:=Int.emod_lt_of_pos (bG c3 (i:Int)) (show 0<bG sh (i:Int)%7+1 by lia);exact⟨h1,by show _<=bG sh (i:Int)%7;lia⟩
   have hpr:∀p∈(List.range n).map (uH c0 sh c3),p.1∈((List.range n).map (d9 c0 sh)).map (·.1):=fun p hp=>by
    obtain⟨i,hi,rfl⟩:=List.mem_map.mp hp;exact hmem i (List.mem_range.mp hi)
   have hrl:((List.range n).map (d9 c0 sh)).length=n:=by rw[List.length_map,List.length_range]
   have hpl:((List.range n).map (uH c0 sh c3)).length=n:=by rw[List.length_map,List.length_range]
   walk_at"go";rename_i pC G2 m2 T2 eC;have sX:=sG.trans T2;refine OS (rz:=(List.range n).map (d9 c0 sh)) (ds:=ds) (ps:=(List.range n).map (uH c0 sh c3)) rfl (by assumption) (sX _ _ eW') (hra'.sm sX) (SqL.of (sX _ _ eu)) (nC hud sX) (SqL.of eC) (lQ hcp T2) hnr hnd hds hpr hfit (by lia) (by lia) (by lia) (by lia) (by lia) fun h G4 m4 T4 hh=> ?_;exact k _ _ _ _ _ (T5.snoc (sX.trans T4)) hh ⟨hnr,hnd,hds,hdt,hpr,hfit,hszs,by lia,by lia,by lia,by lia,by lia,by lia,by lia⟩
theorem C0 (m:M K mg){cL PL:Addr}(hcL:m.dW.code= .ref cL)(hCL:PySem.W.CodeHd base cL PL)(hBL:base.BuiltinsAt mg PL):Fc P w K mg base "_law_house" 8 ["_law_script","_law_first","_law_last"] (qC K m.aL (aO P w K mg base (some 4)) PL):=⟨_,_,m.GL,m.kG.F.kp,m.kG.b,DB m hcL hCL hBL⟩
theorem lP (ss:List Str):Paired (fun (v:V) (x:Str)=>v= .str x) (ss.map V.str) ss:=by
 induction ss with
 | nil=>exact .nil
 | cons a l ih=>exact .cons rfl ih
theorem gK {ds:List aD}{z n:Str} (h:n∈bJ ds z):n∈ds.map (·.1):=by
 unfold bJ at h;obtain⟨d,hd,rfl⟩:=List.mem_map.mp h;exact List.mem_map.mpr ⟨d,(List.mem_filter.mp hd).1,rfl⟩
theorem lN {ds:List aD}{z n:Str} (h:n∈dJ ds z):n∈ds.map (·.1):=by
 unfold dJ at h;obtain⟨d,hd,rfl⟩:=List.mem_map.mp h;exact List.mem_map.mpr ⟨d,(List.mem_filter.mp hd).1,rfl⟩
theorem NQ (ds:List aD)(z:Str):(bJ ds z).length<=ds.length:=by unfold bJ;rw[List.length_map];exact List.length_filter_le _ _
theorem MQ (ds:List aD)(z:Str):(dJ ds z).length<=ds.length:=by unfold dJ;rw[List.length_map];exact List.length_filter_le _ _
inductive QI (rz:List (Str×Int))(ds:List aD)(g I:Str->Int)(H H':Hp)(q:Addr):Prop
 | mk (ss:List Str) (_:Same H H') (_:H' q=some (.lst (ss.map V.str))) (_:∀n∈ss,n∈ds.map (·.1)/\0<g n) (_:ss=[]->DO rz ds g I) (_:ss.length<=8)
inductive yO (C:Addr)(D:bD)(vs:List V)(H:Hp)(Q:VK)(E:XK):Prop
 | mk (h pn pi:Addr) (f l:Int) (rz ps:List (Str×Int)) (ds:List aD) (g I:Str->Int) (_:vs=[.ref h,.ref pn,.ref pi]) (_:aR C D H h f l rz ps ds) (_:gJ rz ps ds f l) (_:H pn=some (.dK (cK (ds.map (·.1)) g))) (_:H pi=some (.dK (cK (rz.map (·.1)) I))) (_:(∀d∈ds,0<=g d.1)) (_:(∀e∈rz,0<=I e.1/\I e.1<=e.2)) (_:∀q H',QI rz ds g I H H' q->Q (.ref q) H'):yO C D vs H Q E
theorem TR {C:Addr}{D:bD}{H:Hp}{Q:VK}{E:XK}{h pn pi:Addr}{f l:Int}{rz ps:List (Str×Int)}{ds:List aD}{g I:Str->Int} (hh:aR C D H h f l rz ps ds) (dh:gJ rz ps ds f l) (en:H pn=some (.dK (cK (ds.map (·.1)) g))) (ei:H pi=some (.dK (cK (rz.map (·.1)) I))) (hg:∀d∈ds,0<=g d.1) (hI:∀e∈rz,0<=I e.1/\I e.1<=e.2) (k:∀q H',QI rz ds g I H H' q->Q (.ref q) H'):yO C D [.ref h,.ref pn,.ref pi] H Q E:=⟨_,_,_,_,_,_,_,_,_,_,rfl,hh,dh,en,ei,hg,hI,k⟩
theorem FS {ds:List aD}{g:Str->Int}{ss:List Str} (hs:∀n∈ss,n∈ds.map (·.1)) (h:0<(ss.map g).sum):ss.filter (fun n=>decide (0<g n))≠[]:=fun z=>by
 obtain⟨n,hn,hp⟩:=JE h;have:n∈ss.filter (fun n=>decide (0<g n)):=List.mem_filter.mpr ⟨hn,decide_eq_true hp⟩;rw[z]at this;exact nomatch this
theorem IF {ds:List aD}{g:Str->Int}{ss:List Str} (hs:∀n∈ss,n∈ds.map (·.1)):∀n∈ss.filter (fun n=>decide (0<g n)),n∈ds.map (·.1)/\0<g n:=fun n hn=>by
 obtain⟨h1,h2⟩:=List.mem_filter.mp hn;exact⟨hs n h1,of_decide_eq_true h2⟩
theorem AM (m:M K mg):FnOk P w K mg base CX0 6 m.mD m.iS.d ["_law_house_here","_law_numbers_here","_law_inside"] (yO m.aL (aO P w K mg base (some 4))):=by
 refine m.iS.F.ok sc__law_excess (fun vs H Q E h=> ?_) (fun cdv A outer s H vs Q E hr h=> ?_)
 ·walk_at"g1";obtain⟨h,pn,pi,f,l,rz,ps,ds,g,I,rfl,hh,dh,en,ei,hg,hI,k⟩:=h;walk_at"g2";rfl
 ·walk_at"g1";obtain⟨h,pn,pi,f,l,rz,ps,ds,g,I,rfl,hh,dh,en,ei,hg,hI,k⟩:=h;walk_at"g2";have nd:=sc__law_excess.nd;walk_at"hu";have w_dc_House:=m.aY;have w_mc_House_rooms:= @fF P w K mg base m;have w_mc_House_from_room:= @lO P w K mg base m;have w_mc_House_into:= @CW P w K mg base m;have w_mc_House_holds:= @AG P w K mg base m;refine⟨_,(aC (aQ (i:=3) nd rfl (by walk_at"oi") k3)
   (aC (cG PassesOwn.never rfl (bI (fT 1 hr (pv 0))) (aK (i:=4) nd rfl (by walk_at"oi")) (aC (c5 hu1 (pv 3) (pv 4) (bM (uF rfl) rfl m.LX DR (aA (bW (N:=["_law_name_here","_law_numbers_here"]) (nl:=1) (ci:=[1]) rfl (blk (s.heap.objs.size+1) rfl rfl rfl (by kernel_rfl)) (bI (dL 3 hr (pv 0) (aA (pv 4) aB))) (fun _ _ _ _=>(aK (i:=0) (show (["_law_name_here","_law_numbers_here"]:List Str).Nodup by decide +kernel) rfl (by walk_at"oi"))) (fun _ _ _ _=>d0) (fun _ _ _ _=>(bT hu1 (pv 1) (pv 0) (fun _ _=>rfl)))) aB)) rfl)
   (aE (cF (bC tU (bT hu1 (pv 3) (pv 4) (fun _ _=>rfl)) (bT hu1 (pv 2) (pv 4) (fun _ _=>rfl)) (bH _)) (aE (aT (bW (N:=["_law_name_here","_law_numbers_here"]) (nl:=1) (ci:=[1]) rfl (blk (s.heap.objs.size+1) rfl rfl rfl (by kernel_rfl)) (bI (dL 3 hr (pv 0) (aA (pv 4) aB))) (fun _ _ _ _=>(aK (i:=0) (show (["_law_name_here","_law_numbers_here"]:List Str).Nodup by decide +kernel) rfl (by walk_at"oi"))) (fun _ _ _ _=>(gH (bC tU (bT hu1 (pv 1) (pv 0) (fun _ _=>rfl)) aF (bH _)))) (fun _ _ _ _=>(pv 0))))) bP))))
   (aC (cG PassesOwn.never rfl (bI (fT 1 hr (pv 0))) (aK (i:=4) nd rfl (by walk_at"oi")) (aC (aQ (i:=5) nd rfl (by walk_at"oi") (bM (uF rfl) rfl m.LX DR (aA (bW (N:=["_law_name_here","_law_numbers_here"]) (nl:=1) (ci:=[1]) rfl (blk (s.heap.objs.size+1) rfl rfl rfl (by kernel_rfl)) (bI (dL 3 hr (pv 0) (aA (pv 4) aB))) (fun _ _ _ _=>(aK (i:=0) (show (["_law_name_here","_law_numbers_here"]:List Str).Nodup by decide +kernel) rfl (by walk_at"oi"))) (fun _ _ _ _=>d0) (fun _ _ _ _=>(bT hu1 (pv 1) (pv 0) (fun _ _=>rfl)))) aB)))
   (aE (cF (bC tU (aI bS (aI jW (bT hu1 (pv 2) (pv 4) (fun _ _=>rfl)) (bT hu1 (pv 3) (pv 4) (fun _ _=>rfl))) (pv 5)) (dL 3 hr (pv 0) (aA (pv 4) aB)) (bH _)) (aE (aT (bW (N:=["_law_name_here","_law_numbers_here"]) (nl:=1) (ci:=[1]) rfl (blk (s.heap.objs.size+1) rfl rfl rfl (by kernel_rfl)) (bI (dL 3 hr (pv 0) (aA (pv 4) aB))) (fun _ _ _ _=>(aK (i:=0) (show (["_law_name_here","_law_numbers_here"]:List Str).Nodup by decide +kernel) rfl (by walk_at"oi"))) (fun _ _ _ _=>(gH (bC tU (bT hu1 (pv 1) (pv 0) (fun _ _=>rfl)) aF (bH _)))) (fun _ _ _ _=>(pv 0))))) bP))))
   (aE (aT (dO aB)))))),?_⟩
  refine aM (σ:=[some (.ref h),some (.ref pn),some (.ref pi),none,none,none]) rfl ?_;walk_at"cx";walk_at"g1";obtain⟨dnr,dnd,dhin,dlt,hpr,dfit,dsz,dlr,dlp,dld,df0,df1,df2,df3⟩:=id dh;walk_at"g2";walk_at"g1";obtain⟨dx,qs,qp,qd,nk,kvs,e1,_⟩:=id hh.ex;walk_at"g2";have fl:=NQ ds;have il:=MQ ds;walk_at"go";rename_i pL H1 n1 S1 eL;refine jF (aU hh S1) fun pR H2 n2 S2 eR=> ?_;walk_at"go";have s02:Same H H2:=S1.trans S2;have eL2:=S2 _ _ eL;have kT:∀(q:Addr) (H':Hp),QI rz ds g I H H' q->Q (.ref q) H':=k;let Pv1:Nat->St->Hp->Prop:=fun i σ' H'=>SameBut pL H2 H'/\H' pL=some (.dK (cK ((rz.map (·.1)).take i) (bV ds g)))/\(∀z∈(rz.map (·.1)).take i,bV ds g z<=I z)/\∃x,σ'=[some (.ref h),some (.ref pn),some (.ref pi),some (.ref pL),x,none];refine cU ((rz.map (·.1)).map V.str) Pv1 ⟨SameBut.refl,by rw[eL2];rfl,(fun _ z=>nomatch z),_,rfl⟩ (fun i σ' H' _ q=>SqL.of (q.1 _ _ eR fun z=>by rw[z,eL2]at eR;cases eR)) ?_ ?_
  ·rintro i x _ H' hx hq_;walk_at"g1";obtain⟨sb,ek,hok,y1,rfl⟩:=hq_;walk_at"g2";rw[List.getElem?_map]at hx;obtain⟨z,hz,rfl⟩:=Option.map_eq_some_iff.mp hx;have hzm:z∈rz.map (·.1):=List.mem_of_getElem? hz;have hzn:=gR dnr hz;have sH:Same H H':=SameBut.same n1 s02 sb;have hh':=aU hh sH;have en':=sH _ _ en;have ei':=sH _ _ ei;have e1':=sH _ _ e1;have flz:=fl z;walk_at"go";refine uN hh' dnr hzm (by lia) dhin fun pF G1 m1 T1 eF=> ?_;walk_at"go";refine jE (α:=Str) (xs:=bJ ds z) (vs:=(bJ ds z).map V.str) (fun v x=>v= .str x) (fun _=>true) (fun n y _=>y= .int (g n)) (fun _ _ _ _ h _=>h) (by rw[sizeLine_eq];lia) (rest:=[some (.ref pn)]) (by rfl) (SqL.of eF) (lP _) ?_ ?_ ?_
   ·exact fun v x H1 _ _ s1 R hR=>hR _ (Same.refl _)
   ·rintro _ n G2 rfl hm - s2 R hR;have en2:=(T1.trans s2) _ _ en';walk_at"go";refine bL (.inl en2) (cC (gK hm)) ?_;exact hR _ _ rfl (Same.refl _)
   intro ys G2 s2 hys;rw[dZ]at hys;have ey:ys=((bJ ds z).map g).map V.int:=by rw[c9 hys,List.map_map];rfl
   subst ey;walk_at"go";rename_i q3 G3 m3 T3 e3;refine DX (SqL.of e3) ?_;have sG:Same H' G3:=T1.trans (s2.trans T3);have ek3:=sG _ _ ek;walk_at"go";refine fA ek3 (by rw[nT,List.length_take,List.length_map,sizeLine_eq];lia) fun G4 B4 e4=> ?_;have e4':G4 pL=some (.dK (cK ((rz.map (·.1)).take (i+1)) (bV ds g))):=by rw[e4,bF hz];exact congrArg (fun x=>some (HO.dK x)) (P8 (g:=bV ds g) hzn)
   have sH4:Same H G4:=SameBut.same n1 s02 ((sb.trans sG.but).trans B4);have ei4:=sH4 _ _ ei;have e14:=sH4 _ _ e1;have en4:=sH4 _ _ en;have hv4:bB (cK ((rz.map (·.1)).take (i+1)) (bV ds g)) (.inr z)=some (.int (bV ds g z)):=cC (by rw[bF hz];exact List.mem_append_right _ (.head _));walk_at"go";refine bL (.inl e4') hv4 ?_;walk_at"go";refine bL (.inl ei4) (cC hzm) ?_;walk_at"go";refine cN (fun hc=> ?_) (fun hc=> ?_)
   ·walk_at"go";refine uN (aU hh sH4) dnr hzm (by lia) dhin fun pF2 G5 m5 T5 eF2=> ?_;walk_at"go";refine jE (α:=Str) (xs:=bJ ds z) (vs:=(bJ ds z).map V.str) (fun v x=>v= .str x) (fun n=>decide (0<g n)) (fun n y _=>y= .str n) (fun _ _ _ _ h _=>h) (by rw[sizeLine_eq];lia) (rest:=[some (.ref pn)]) (by rfl) (SqL.of eF2) (lP _) ?_ ?_ ?_
    ·rintro _ n G6 rfl hm s6 R hR;have en6:=(T5.trans s6) _ _ en4;walk_at"go";refine bL (.inl en6) (cC (gK hm)) ?_;walk_at"go";exact hR _ (Same.refl _)
    ·rintro _ n G6 rfl hm - s6 R hR;walk_at"go";exact hR _ _ rfl (Same.refl _)
    intro ys G6 s6 hys;obtain rfl:=c9 hys;walk_at"go";rename_i q7 G7 m7 T7 e7;have s47:Same G4 G7:=T5.trans (s6.trans T7);have hI0:0<=I z:=by obtain⟨e,he,rfl⟩:=List.mem_map.mp hzm;exact(hI e he).1
    exact kT _ _ (.mk _ (sH4.trans s47) e7 (IF fun n hn=>gK hn) (fun y=>absurd y (FS (ds:=ds) (fun n hn=>gK hn) (by unfold bV at hc;lia))) (Nat.le_trans (List.length_filter_le _ _) (by lia)))
   ·walk_at"go";refine⟨(sb.trans sG.but).trans B4,e4',fun z' hz'=> ?_,_,rfl⟩;rw[bF hz]at hz';rcases List.mem_append.mp hz' with hz'|hz'
    ·exact hok z' hz'
    ·cases List.mem_singleton.mp hz'
     lia
  ·rintro _ H' hq_;walk_at"g1";obtain⟨sb,ek,hok,y1,rfl⟩:=hq_;walk_at"g2";rw[List.length_map,List.take_length]at ek hok;have sH:Same H H':=SameBut.same n1 s02 sb;have hh':=aU hh sH;have e1':=sH _ _ e1;walk_at"go";refine jF hh' fun pR2 H3 n3 S3 eR2=> ?_;have s03:Same H H3:=sH.trans S3;have en3:=s03 _ _ en;have ei3:=s03 _ _ ei;have ek3:=S3 _ _ ek;have e13:=s03 _ _ e1;walk_at"go";let Pv2:Nat->St->Hp->Prop:=fun i σ' H'=>Same H3 H'/\(∀e∈rz.take i,I e.1 - bV ds g e.1+cZ ds g e.1<=e.2)/\∃x u,σ'=[some (.ref h),some (.ref pn),some (.ref pi),some (.ref pL),x,u];refine cU ((rz.map (·.1)).map V.str) Pv2 ⟨Same.refl _,(fun _ z=>nomatch z),_,_,rfl⟩ (fun i σ' H' _ q=>SqL.of (q.1 _ _ eR2)) ?_ ?_
   ·rintro i x _ G hx hq_;walk_at"g1";obtain⟨sG,hfu,y1,y2,rfl⟩:=hq_;walk_at"g2";rw[List.getElem?_map]at hx;obtain⟨z,hz,rfl⟩:=Option.map_eq_some_iff.mp hx;rw[List.getElem?_map]at hz;walk_at"g1";obtain⟨⟨z',sz'⟩,he,rfl⟩:=Option.map_eq_some_iff.mp hz;walk_at"g2";have hem:(z',sz')∈rz:=List.mem_of_getElem? he;have hzm:z'∈rz.map (·.1):=List.mem_map.mpr ⟨_,hem,rfl⟩;have s0G:Same H G:=s03.trans sG;have hhG:=aU hh s0G;have enG:=sG _ _ en3;have eiG:=sG _ _ ei3;have ekG:=sG _ _ ek3;have e1G:=sG _ _ e13;have ilz:=il z';show (_:TG) (V.str z') _ _ _;walk_at"go";refine uN hhG dnr hzm (by lia) dhin fun pF G1 m1 T1 eF=> ?_;walk_at"go";refine jE (α:=Str) (xs:=dJ ds z') (vs:=(dJ ds z').map V.str) (fun v x=>v= .str x) (fun _=>true) (fun n y _=>y= .int (g n)) (fun _ _ _ _ h _=>h) (by rw[sizeLine_eq];lia) (rest:=[some (.ref pn)]) (by rfl) (SqL.of eF) (lP _) ?_ ?_ ?_
    ·exact fun v x H1 _ _ s1 R hR=>hR _ (Same.refl _)
    ·rintro _ n G2 rfl hm - s2 R hR;have en2:=(T1.trans s2) _ _ enG;walk_at"go";refine bL (.inl en2) (cC (lN hm)) ?_;exact hR _ _ rfl (Same.refl _)
    intro ys G2 s2 hys;rw[dZ]at hys;have ey:ys=((dJ ds z').map g).map V.int:=by rw[c9 hys,List.map_map];rfl
    subst ey;walk_at"go";rename_i q3 G3 m3 T3 e3;refine DX (SqL.of e3) ?_;have sG3:Same G G3:=T1.trans (s2.trans T3);have ei3':=sG3 _ _ eiG;have ek3':=sG3 _ _ ekG;have e13':=sG3 _ _ e1G;have en3':=sG3 _ _ enG;walk_at"go";refine bL (.inl ei3') (cC hzm) ?_;walk_at"go";refine bL (.inl ek3') (cC hzm) ?_;walk_at"go";refine WO (i:=sz') (aU hhG sG3) dnr hem fun G4 T4=> ?_;have hcm:((dJ ds z').map g).sum=cZ ds g z':=rfl;rw[hcm];have en4:=T4 _ _ en3';have e14:=T4 _ _ e13';walk_at"go";refine cN (fun hc=> ?_) (fun hc=> ?_)
    ·walk_at"go";refine uN (aU hhG (sG3.trans T4)) dnr hzm (by lia) dhin fun pF2 G5 m5 T5 eF2=> ?_;walk_at"go";refine jE (α:=Str) (xs:=dJ ds z') (vs:=(dJ ds z').map V.str) (fun v x=>v= .str x) (fun n=>decide (0<g n)) (fun n y _=>y= .str n) (fun _ _ _ _ h _=>h) (by rw[sizeLine_eq];lia) (rest:=[some (.ref pn)]) (by rfl) (SqL.of eF2) (lP _) ?_ ?_ ?_
     ·rintro _ n G6 rfl hm s6 R hR;have en6:=(T5.trans s6) _ _ en4;walk_at"go";refine bL (.inl en6) (cC (lN hm)) ?_;walk_at"go";exact hR _ (Same.refl _)
     ·rintro _ n G6 rfl hm - s6 R hR;walk_at"go";exact hR _ _ rfl (Same.refl _)
     intro ys G6 s6 hys;obtain rfl:=c9 hys;walk_at"go";rename_i q7 G7 m7 T7 e7;have hI1:I z'<=sz':=(hI _ hem).2;have hl0:0<=bV ds g z':=rD fun n hn=>by
      obtain⟨d,hd,rfl⟩:=List.mem_map.mp (gK hn);exact hg d hd
     exact kT _ _ (.mk _ (s0G.trans (sG3.trans (T4.trans (T5.trans (s6.trans T7))))) e7 (IF fun n hn=>lN hn) (fun y=>absurd y (FS (ds:=ds) (fun n hn=>lN hn) (by rw[hcm];lia))) (Nat.le_trans (List.length_filter_le _ _) (by lia)))
    ·walk_at"go";refine⟨sG.trans (sG3.trans T4),fun e' he'=> ?_,_,_,rfl⟩;rw[bF he]at he';rcases List.mem_append.mp he' with he'|he'
     ·exact hfu e' he'
     ·cases List.mem_singleton.mp he';show I z' - bV ds g z'+cZ ds g z'<=sz'
      lia
   ·rintro _ G hq_;walk_at"g1";obtain⟨sG,hfu,y1,y2,rfl⟩:=hq_;walk_at"g2";rw[List.length_map,List.length_map,List.take_length]at hfu;walk_at"go";rename_i q7 G7 m7 T7 e7;exact kT _ _ (.mk [] (s03.trans (sG.trans T7)) e7 (fun _ z=>nomatch z) (fun _ e he=>⟨hok _ (List.mem_map.mpr ⟨e,he,rfl⟩),hfu e he⟩) (Nat.zero_le _))
theorem AJ (m:M K mg):Fc P w K mg base "_law_excess" 6 ["_law_house_here","_law_numbers_here","_law_inside"] (yO m.aL (aO P w K mg base (some 4))):=⟨_,_,m.DH,m.iS.F.kp,m.iS.b,AM m⟩
inductive YU (rz:List (Str×Int))(ds:List aD)(f l t:Int)(I:Str->Int)(H H':Hp)(p:Addr):Prop
 | mk (g:Str->Int) (_:H p=none) (_:Same H H') (_:H' p=some (.dK (cK (ds.map (·.1)) g))) (_:∀d∈ds,0<=g d.1/\g d.1<=hZ f l d t) (_:DO rz ds g I)
inductive yY (C:Addr)(D:bD)(vs:List V)(H:Hp)(Q:VK)(E:XK):Prop
 | mk (h pi:Addr) (c t f l:Int) (rz ps:List (Str×Int)) (ds:List aD) (I:Str->Int) (_:vs=[.ref h,.int c,.int t,.ref pi]) (_:aR C D H h f l rz ps ds) (_:gJ rz ps ds f l) (_:H pi=some (.dK (cK (rz.map (·.1)) I))) (_:(∀e∈rz,0<=I e.1/\I e.1<=e.2)) (_:∀p H',YU rz ds f l t I H H' p->Q (.ref p) H'):yY C D vs H Q E
theorem aAK {C:Addr}{D:bD}{H:Hp}{Q:VK}{E:XK}{h pi:Addr}{c t f l:Int}{rz ps:List (Str×Int)}{ds:List aD}{I:Str->Int} (hh:aR C D H h f l rz ps ds) (dh:gJ rz ps ds f l) (ei:H pi=some (.dK (cK (rz.map (·.1)) I))) (hI:∀e∈rz,0<=I e.1/\I e.1<=e.2) (k:∀p H',YU rz ds f l t I H H' p->Q (.ref p) H'):yY C D [.ref h,.int c,.int t,.ref pi] H Q E:=⟨_,_,_,_,_,_,_,_,_,_,rfl,hh,dh,ei,hI,k⟩
theorem ZE {rz ps:List (Str×Int)}{ds:List aD}{f l:Int} (dh:gJ rz ps ds f l) {d:aD} (hd:d∈ds) (t:Int):0<=hZ f l d t:=by
 unfold hZ
 split
 ·exact dh.lt0 d hd t
 ·exact Int.le_refl _
theorem zF (m:M K mg):FnOk P w K mg base CX0 9 m.k7 m.g7.d ["_law_house_here","_law_cell","_law_turn","_law_inside"] (yY m.aL (aO P w K mg base (some 4))):=by
 refine m.g7.F.ok sc__law_numbers (fun vs H Q E h=> ?_) (fun cdv A outer s H vs Q E hr h=> ?_)
 ·walk_at"g1";obtain⟨h,pi,c,t,f,l,rz,ps,ds,I,rfl,hh,dh,ei,hI,k⟩:=h;walk_at"g2";rfl
 ·walk_at"g1";obtain⟨h,pi,c,t,f,l,rz,ps,ds,I,rfl,hh,dh,ei,hI,k⟩:=h;walk_at"g2";have nd:=sc__law_numbers.nd;walk_at"hu";have F__law_drawn:= @iO P w K mg base m;have F__law_excess:= @AJ P w K mg base m;have w_dc_House:=m.aY;have w_mc_House_doors:= @rP P w K mg base m;have w_mc_House_lets:= @C4 P w K mg base m;refine⟨_,(aC (aQ (i:=4) nd rfl (by walk_at"oi") k3)
   (aC (aQ (i:=5) nd rfl (by walk_at"oi") (fT 1 hr (pv 0)))
   (aC (cG PassesOwn.never rfl (jI rfl m.hG (aA (bM dC rfl m.hJ fK (aA (pv 5) aB)) aB)) (aK (i:=6) nd rfl (by walk_at"oi")) (aE (c5 hu1 (pv 4) (dH gT (pv 5) (pv 6) (fun _ _=>rfl)) (aI bN (bK F__law_drawn hr (aA (pv 1) (aA (pv 6) aB))) (aI bS (dL 6 hr (pv 0) (aA (dH gT (pv 5) (pv 6) (fun _ _=>rfl)) (aA (pv 2) aB))) aF)) rfl)))
   (aC (aQ (i:=7) nd rfl (by walk_at"oi") (bK F__law_excess hr (aA (pv 0) (aA (pv 4) (aA (pv 3) aB)))))
   (aC (R4 PassesOwn.never (bC (EN hu0) (pv 7) (dO aB) (bH _)) (aC (aQ (i:=8) nd rfl (by walk_at"oi") (dH gT (pv 7) (aI bN (pv 1) (bM dC rfl m.hJ fK (aA (pv 7) aB))) (fun _ _=>rfl)))
   (aC (c5 hu1 (pv 4) (pv 8) (aI jW (bT hu1 (pv 4) (pv 8) (fun _ _=>rfl)) aF) rfl)
   (aE (aQ (i:=7) nd rfl (by walk_at"oi") (bK F__law_excess hr (aA (pv 0) (aA (pv 4) (aA (pv 3) aB)))))))))
   (aE (aT (pv 4)))))))),?_⟩
  refine aM (σ:=[some (.ref h),some (.int c),some (.int t),some (.ref pi),none,none,none,none,none]) rfl ?_;walk_at"cx";walk_at"g1";obtain⟨dnr,dnd,dhin,dlt,hpr,dfit,dsz,dlr,dlp,dld,df0,df1,df2,df3⟩:=id dh;walk_at"g2";walk_at"g1";obtain⟨dx,qs,qp,qd,nk,kvs,e1,_⟩:=id hh.ex;walk_at"g2";walk_at"go";rename_i p H1 n1 S1 eP;refine jF (aU hh S1) fun pN H2 n2 S2 eN=> ?_;have s02:Same H H2:=S1.trans S2;have eP2:=S2 _ _ eP;have hNp:pN≠p:=fun z=>by rw[z,eP2]at eN;cases eN
  have nl:((ds.map (·.1)).map V.str).length=ds.length:=by rw[List.length_map,List.length_map]
  walk_at"go";rw[show ((((ds.map (·.1)).map V.str).length:Nat):Int).toNat=ds.length by lia];let Pv1:Nat->St->Hp->Prop:=fun i σ' H'=>SameBut p H2 H'/\(∃g,H' p=some (.dK (cK ((ds.map (·.1)).take i) g))/\∀d∈ds.take i,0<=g d.1/\g d.1<=hZ f l d t)/\∃x,σ'=[some (.ref h),some (.int c),some (.int t),some (.ref pi),some (.ref p),some (.ref pN),x,none,none];refine rG Pv1 ⟨SameBut.refl,⟨fun _=>0,by rw[eP2];rfl,(fun _ z=>nomatch z)⟩,_,rfl⟩ ?_ ?_
  ·rintro i _ H' hi hq_;walk_at"g1";obtain⟨sb,⟨g,ek,hg⟩,y1,rfl⟩:=hq_;walk_at"g2";have sH:Same H H':=SameBut.same n1 s02 sb;have hh':=aU hh sH;have e1':=sH _ _ e1;have eN':=sb _ _ eN hNp;have hd:ds[i]? =some ds[i]:=List.getElem?_eq_getElem hi;have hdm:ds[i]∈ds:=List.getElem_mem hi;have hni:(ds.map (·.1))[i]? =some ds[i].1:=by rw[List.getElem?_map,hd];rfl
   have hvi:((ds.map (·.1)).map V.str)[i]? =some (.str ds[i].1):=by rw[List.getElem?_map,hni];rfl
   have hnn:=ZE dh hdm t;generalize ds[i]=d at hd hdm hni hvi hnn;walk_at"go";rename_i nn en hn0 hn1;rw[Int.zero_add];refine rX (SqL.of eN') hvi ?_;walk_at"go";refine UG hh' dnd hdm df0 fun H3 S3=> ?_;generalize hlt:hZ f l d t=lt at hnn ⊢;walk_at"go";rename_i hv0 hv1;refine rX (SqL.of (S3 _ _ eN')) hvi ?_;generalize nn%(lt+1)=vv at hv0 hv1 ⊢;have ek3:=S3 _ _ ek;refine fA ek3 (by rw[nT,List.length_take,List.length_map,sizeLine_eq];lia) fun H4 B4 e4=> ?_;have hnew:=gR dnd hni;refine⟨(sb.trans S3.but).trans B4,⟨cD g d.1 vv,by rw[e4,bF hni,FH hnew],fun d' hd'=> ?_⟩,_,rfl⟩;rw[bF hd]at hd';rcases List.mem_append.mp hd' with hd'|hd'
   ·unfold cD;rw[if_neg (fun z:d'.1=d.1=>hnew (by rw[←z,←List.map_take];exact List.mem_map.mpr ⟨d',hd',rfl⟩))];exact hg d' hd'
   ·cases List.mem_singleton.mp hd';unfold cD;rw[if_pos rfl];have:=hlt
    lia
  ·rintro _ H' hq_;walk_at"g1";obtain⟨sb,⟨g,ek,hg⟩,y1,rfl⟩:=hq_;walk_at"g2";rw[show (ds.map (·.1)).take ds.length=ds.map (·.1) by rw[←List.length_map (f:=fun d:aD=>d.1),List.take_length]]at ek;rw[List.take_length]at hg;have sH:Same H H':=SameBut.same n1 s02 sb;walk_at"go";refine TR (aU hh sH) dh ek (sH _ _ ei) (fun d hd=>(hg d hd).1) hI fun q H3 hX=> ?_;walk_at"g1";obtain⟨ss,S3,eS,hss,hx,hsl⟩:=hX;walk_at"g2";walk_at"go";refine QE (W:=fun m' σ' H'=>SameBut p H2 H'/\(∃(g:Str->Int) (ss:List Str) (pS:Addr) (x1 x4:Option V),H' p=some (.dK (cK (ds.map (·.1)) g))/\(∀d∈ds,0<=g d.1/\g d.1<=hZ f l d t)/\H' pS=some (.lst (ss.map V.str))/\(∀n∈ss,n∈ds.map (·.1)/\0<g n)/\(ss=[]->DO rz ds g I)/\ss.length<=8/\m'=(((ds.map (·.1)).map g).sum).toNat/\σ'=[some (.ref h),some (.int c),some (.int t),some (.ref pi),some (.ref p),some (.ref pN),x1,some (.ref pS),x4])) _ ⟨sb.trans S3.but,g,ss,q,_,_,S3 _ _ ek,hg,eS,hss,hx,hsl,rfl,rfl⟩ ?_;clear hg hss hx hsl eS ek sb sH;clear ss S3 H3 q g y1 H';rintro m' _ H' hq_;walk_at"g1";obtain⟨sb,g,ss,pS,x1,x4,ek,hg,eS,hss,hx,hsl,rfl,rfl⟩:=hq_;walk_at"g2";have sH:Same H H':=SameBut.same n1 s02 sb;walk_at"go";rename_i pZ H3 n3 S3 eZ;have eS3:=S3 _ _ eS;have ek3:=S3 _ _ ek;refine DY (SqL.of eS3) (SqL.of eZ) ?_;walk_at"go";cases ss with
   | nil =>
    rw[if_neg (show ¬((!(([]:List Str).map V.str).isEmpty)=true) from fun z=>by cases z)];walk_at"go";exact k _ _ (.mk g (by
     cases hq:H p with
     | none=>rfl
     | some u=>rw[n1]at hq;cases hq) (sH.trans S3) ek3 hg (hx rfl))
   | cons z0 ss0 =>
    generalize hse:z0::ss0=ss at hss hx hsl eS eS3 ⊢;have hs0:0<ss.length:=by rw[←hse];exact Nat.succ_pos _
    have hie:(!(ss.map V.str).isEmpty)=true:=by rw[←hse];rfl
    rw[hie,if_pos rfl];refine Y1 ?_;have hsl':(ss.map V.str).length=ss.length:=List.length_map ..;walk_at"go";rename_i hi0 hi1;refine F8 (SqL.of eS3) hi0 hi1 fun v hv=> ?_;obtain⟨n,hn,rfl⟩:=List.mem_map.mp hv;obtain⟨hnm,hgn⟩:=hss n hn;walk_at"go";refine bL (.inl ek3) (cC hnm) ?_;generalize hgv:g n=gv at hgn ⊢;walk_at"go";refine fA ek3 (by rw[nT,List.length_map,sizeLine_eq];lia) fun H4 B4 e4=> ?_;rw[wY hnm]at e4;have sb4:SameBut p H2 H4:=(sb.trans S3.but).trans B4;have sH4:Same H H4:=SameBut.same n1 s02 sb4;have hsm:=xB (g:=g) (v:=gv - 1) dnd hnm;have hg':∀d∈ds,0<=cD g n (gv - 1) d.1/\cD g n (gv - 1) d.1<=hZ f l d t:=fun d hd=>by
     have h1:=hg d hd;unfold cD
     by_cases e:d.1=n
     ·rw[if_pos e];rw[e,hgv]at h1
      lia
     ·rw[if_neg e];exact h1
    have hs0':0<=((ds.map (·.1)).map (cD g n (gv - 1))).sum:=rD fun x hx=>by
     obtain⟨d,hd,rfl⟩:=List.mem_map.mp hx;exact(hg' d hd).1
    walk_at"go";refine TR (aU hh sH4) dh e4 (sH4 _ _ ei) (fun d hd=>(hg' d hd).1) hI fun q H5 hX=> ?_;walk_at"g1";obtain⟨ss',S5,eS5,hss',hx',hsl5⟩:=hX;walk_at"g2";walk_at"go";refine⟨_,?_,sb4.trans S5.but,_,ss',q,_,_,S5 _ _ e4,hg',eS5,hss',hx',hsl5,rfl,rfl⟩;rw[hgv]at hsm
    lia
theorem yQ (m:M K mg):Fc P w K mg base "_law_numbers" 9 ["_law_house_here","_law_cell","_law_turn","_law_inside"] (yY m.aL (aO P w K mg base (some 4))):=⟨_,_,m.A3,m.g7.F.kp,m.g7.b,zF m⟩
def Same2 (p q:Addr)(H H':Hp):Prop:=∀b u,H b=some u->b≠p->b≠q->H' b=some u
theorem Same2.refl (p q:Addr)(H:Hp):Same2 p q H H:=fun _ _ e _ _=>e
theorem Same2.same {p q:Addr}{H H1 H2:Hp} (t:Same2 p q H H1) (s:Same H1 H2):Same2 p q H H2:=fun b u e n hb=>s b u (t b u e n hb)
theorem Same2.fst {p q:Addr}{H H1 H2:Hp} (t:Same2 p q H H1) (s:SameBut p H1 H2):Same2 p q H H2:=fun b u e n hb=>s b u (t b u e n hb) n
theorem Same2.snd {p q:Addr}{H H1 H2:Hp} (t:Same2 p q H H1) (s:SameBut q H1 H2):Same2 p q H H2:=fun b u e n hb=>s b u (t b u e n hb) hb
theorem Same2.out {p q:Addr}{H H1 H2:Hp} (n1:H p=none) (n2:H q=none) (s:Same H H1) (t:Same2 p q H1 H2):Same H H2:=fun b u e=>t b u (s b u e) (fun z=>by rw[z,n1]at e;cases e) (fun z=>by rw[z,n2]at e;cases e)
theorem pV {H H':Hp}{p:Addr} (s:Same H H') (n:H' p=none):H p=none:=by
 cases hq:H p with
 | none=>rfl
 | some u=>rw[s _ _ hq]at n;cases n
theorem tJ {H H':Hp}{p:Addr}{o:HO}{us:List V}{R:List aH} (h:bY H us R) (e:H p=some o) (ho:∀xs,o≠ .tup xs) (s:SameBut p H H'):bY H' us R:=Paired.imp' (fun v r ⟨q,e1,h1⟩=>⟨q,e1,s _ _ h1 (fun z=>by
 rw[z,e]at h1;cases h1;exact ho _ rfl)⟩) h
theorem LG {ks:List Str}(nd:ks.Nodup)(g:Str->Int):iK [] (cK ks g)=cK ks g:=by
 rw[t8 _ _ (by rw[CH];exact vA nd) (fun _ z=>by cases z)];rfl
def inJ (ds:List aD)(g I:Str->Int)(L:List Str)(z:Str):Int:=I z - (L.map (sLf ds g z)).sum+(L.map (sCf ds g z)).sum
theorem VV {ds:List aD}(nd:(ds.map (·.1)).Nodup){d:aD}(hd:d∈ds)(he:d.2.2.1= .non)(g I:Str->Int)(L:List Str):cD (inJ ds g I L) d.2.1 (inJ ds g I L d.2.1 - g d.1)=inJ ds g I (L++[d.1]):=funext fun z=>by
 unfold cD inJ;rw[List.map_append,List.sum_append,List.map_append,List.sum_append,List.map_singleton,List.map_singleton,yB nd hd,yT nd hd,he,if_neg (show ¬V.non=V.str z from fun y=>by cases y)]
 by_cases c:z=d.2.1
 ·subst c;rw[if_pos rfl,if_pos rfl];simp only[List.sum_cons,List.sum_nil]
  lia
 ·rw[if_neg c,if_neg (fun y=>c y.symm)];simp only[List.sum_cons,List.sum_nil]
  lia
theorem XW {ds:List aD}(nd:(ds.map (·.1)).Nodup){d:aD}(hd:d∈ds){y:Str}(he:d.2.2.1= .str y)(g I:Str->Int)(L:List Str):cD (cD (inJ ds g I L) d.2.1 (inJ ds g I L d.2.1 - g d.1)) y (cD (inJ ds g I L) d.2.1 (inJ ds g I L d.2.1 - g d.1) y+g d.1)=inJ ds g I (L++[d.1]):=funext fun z=>by
 have e1:∀z,cD (inJ ds g I L) d.2.1 (inJ ds g I L d.2.1 - g d.1) z=inJ ds g I L z - (if d.2.1=z then g d.1 else 0):=fun z=>by
  unfold cD
  by_cases c:z=d.2.1
  ·rw[if_pos c,if_pos c.symm,c]
  ·rw[if_neg c,if_neg (fun y=>c y.symm),Int.sub_zero]
 have e2:∀z,cD (cD (inJ ds g I L) d.2.1 (inJ ds g I L d.2.1 - g d.1)) y (cD (inJ ds g I L) d.2.1 (inJ ds g I L d.2.1 - g d.1) y+g d.1) z=cD (inJ ds g I L) d.2.1 (inJ ds g I L d.2.1 - g d.1) z+(if y=z then g d.1 else 0):=fun z=>by
  show (if z=y then _ else _)=_
  by_cases c:z=y
  ·rw[if_pos c,if_pos c.symm,c]
  ·rw[if_neg c,if_neg (fun y=>c y.symm),Int.add_zero]
 rw[e2,e1];unfold inJ;rw[List.map_append,List.sum_append,List.map_append,List.sum_append,List.map_singleton,List.map_singleton,yB nd hd,yT nd hd,he];have e3:(if V.str y=V.str z then g d.1 else 0)=if y=z then g d.1 else 0:=by
  by_cases c:y=z
  ·rw[if_pos c,if_pos (by rw[c])]
  ·rw[if_neg c,if_neg (fun q=>c (by injection q))]
 rw[e3];simp only[List.sum_cons,List.sum_nil]
 lia
inductive Z0 (rz ps:List (Str×Int))(ds:List aD)(f l:Int)(H H':Hp)(p:Addr):Prop
 | mk (us:List V) (R:List aH) (I:Str->Int) (_:H p=none) (_:Same H H') (_:H' p=some (.lst us)) (_:bY H' us R) (_:Lawn rz ps ds f l (l - f).toNat I R)
inductive p8 (K:PySem.W.Frag)(C:Addr)(D:bD)(vs:List V)(H:Hp)(Q:VK)(E:XK):Prop
 | mk (h b:Addr) (f l:Int) (rz ps:List (Str×Int)) (ds:List aD) (cs:List Int) (_:vs=[.ref h,.ref b]) (_:aR C D H h f l rz ps ds) (_:gJ rz ps ds f l) (_:SqL K H b (cs.map V.int)) (_:∀p H',Z0 rz ps ds f l H H' p->Q (.ref p) H'):p8 K C D vs H Q E
theorem PU {C:Addr}{D:bD}{H:Hp}{Q:VK}{E:XK}{h b:Addr}{f l:Int}{rz ps:List (Str×Int)}{ds:List aD}{cs:List Int} (hh:aR C D H h f l rz ps ds) (dh:gJ rz ps ds f l) (hS:SqL K H b (cs.map V.int)) (k:∀p H',Z0 rz ps ds f l H H' p->Q (.ref p) H'):p8 K C D [.ref h,.ref b] H Q E:=⟨_,_,_,_,_,_,_,_,rfl,hh,dh,hS,k⟩
theorem AL (m:M K mg):FnOk P w K mg base CX0 11 m.l7 m.iT.d ["_law_house_here","_law_cells"] (p8 K m.aL (aO P w K mg base (some 4))):=by
 refine m.iT.F.ok sc__law_lawful (fun vs H Q E h=> ?_) (fun cdv A outer s H vs Q E hr h=> ?_)
 ·walk_at"g1";obtain⟨h,b,f,l,rz,ps,ds,cs,rfl,hh,dh,hS,k⟩:=h;walk_at"g2";rfl
 ·walk_at"g1";obtain⟨h,b,f,l,rz,ps,ds,cs,rfl,hh,dh,hS,k⟩:=h;walk_at"g2";have nd:=sc__law_lawful.nd;walk_at"hu";have F__law_cell_at:= @jQ P w K mg base m;have F__law_numbers:= @yQ P w K mg base m;have w_dc_House:=m.aY;have w_mc_House_rooms:= @fF P w K mg base m;have w_mc_House_found:= @kR P w K mg base m;have w_mc_House_door:= @d7 P w K mg base m;refine⟨_,(aC (aQ (i:=2) nd rfl (by walk_at"oi") (dO aB))
   (aC (aQ (i:=3) nd rfl (by walk_at"oi") (lK (x9 rfl) rfl m.O7 JF (aA (bW (N:=["_law_room","_law_house_here"]) (nl:=1) (ci:=[0]) rfl (blk (s.heap.objs.size+1) rfl rfl rfl (by kernel_rfl)) (bI (fT 1 hr (pv 0))) (fun _ _ _ _=>(aK (i:=0) (show (["_law_room","_law_house_here"]:List Str).Nodup by decide +kernel) rfl (by walk_at"oi"))) (fun _ _ _ _=>d0) (fun _ _ _ _=>(dM (aA (pv 0) (aA (NO (P:=P) (w:=w) (K:=K) (mg:=mg) (base:=base) 3 hr (pv 1) (aA (pv 0) aB)) aB))))) aB)))
   (aC (cG PassesOwn.never rfl (uM rfl m.hG (aA (bA (pv 0) rfl) (aA (bA (pv 0) rfl) aB))) (aK (i:=4) nd rfl (by walk_at"oi")) (aC (aQ (i:=5) nd rfl (by walk_at"oi") (bK F__law_numbers hr (aA (pv 0) (aA (bK F__law_cell_at hr (aA (pv 1) (aA (aI jW (pv 4) (bA (pv 0) rfl)) aB))) (aA (pv 4) (aA (pv 3) aB))))))
   (aE (cG PassesOwn.never rfl (bI (bM (CY rfl) rfl m.xU uG (aA (pv 5) aB))) (aK (i:=6) nd rfl (by walk_at"oi")) (aC (aQ (i:=7) nd rfl (by walk_at"oi") (dL 1 hr (pv 0) (aA (pv 6) aB)))
   (aC (c5 hu1 (pv 3) (bA (pv 7) rfl) (aI jW (bT hu1 (pv 3) (bA (pv 7) rfl) (fun _ _=>rfl)) (bT hu1 (pv 5) (pv 6) (fun _ _=>rfl))) rfl)
   (aC (cF (bC A1 (bA (pv 7) rfl) oI (bH _)) (aE (c5 hu1 (pv 3) (bA (pv 7) rfl) (aI bS (bT hu1 (pv 3) (bA (pv 7) rfl) (fun _ _=>rfl)) (bT hu1 (pv 5) (pv 6) (fun _ _=>rfl))) rfl)) bP)
   (aE (cF (bC tU (bT hu1 (pv 5) (pv 6) (fun _ _=>rfl)) aF (bH _)) (aE (bU (v4 PySem.F.plainAttrs_list PySem.F.slot_list_append PySem.F.type_list_append lI (pv 2) (aA (dM (aA (pv 4) (aA (pv 6) (aA (bT hu1 (pv 5) (pv 6) (fun _ _=>rfl)) aB)))) aB)))) bP)))))))))
   (aE (aT (pv 2)))))),?_⟩
  refine aM (σ:=[some (.ref h),some (.ref b),none,none,none,none,none,none]) rfl ?_;walk_at"cx";walk_at"g1";obtain⟨dnr,dnd,dhin,dlt,hpr,dfit,dsz,dlr,dlp,dld,df0,df1,df2,df3⟩:=id dh;walk_at"g2";walk_at"g1";obtain⟨dx,qs,qp,qd,nk,kvs,e1,_⟩:=id hh.ex;walk_at"g2";walk_at"go";rename_i p H1 n1 S1 eP;refine jF (aU hh S1) fun pR H2 n2 S2 eR=> ?_;have s02:Same H H2:=S1.trans S2;walk_at"go";refine jE (α:=Str) (xs:=rz.map (·.1)) (vs:=(rz.map (·.1)).map V.str) (fun v x=>v= .str x) (fun _=>true) (fun n y H=>∃q,y= .ref q/\H q=some (.tup [.str n,.int (cQ ps n)])) (fun _ _ _ _ ⟨q,h1,h2⟩ s=>⟨q,h1,s _ _ h2⟩) (by rw[sizeLine_eq,List.length_map];lia) (rest:=[some (.ref h)]) (by rfl) (SqL.of eR) (lP _) ?_ ?_ ?_
  ·exact fun v x H1 _ _ s1 R hR=>hR _ (Same.refl _)
  ·rintro _ n G2 rfl hm - s2 R hR;have e12:=(s02.trans s2) _ _ e1;walk_at"go";refine A0 (aU hh (s02.trans s2)) dnr hm fun G3 T3=> ?_;walk_at"go";rename_i q4 G4 m4 T4 e4;exact hR _ _ ⟨q4,rfl,e4⟩ (T3.trans T4)
  intro ys H3 s3 hys;rw[dZ]at hys;walk_at"go";rename_i pD H4 n4 S4 eD;have pr:vW H4 ys (cK (rz.map (·.1)) (cQ ps)):=by
   have key:∀{ks:List Str}{ys:List V},Paired (fun x y=>∃q,y=V.ref q/\H3 q=some (.tup [.str x,.int (cQ ps x)])) ks ys->vW H4 ys (cK ks (cQ ps)):=fun h=>by
    induction h with
    | nil=>exact .nil
    | cons a t ih =>
     obtain⟨q,e,hq⟩:=a;exact .cons ⟨q,e,S4 _ _ hq⟩ ih
   exact key hys
  refine FY eD pr fun pi H5 n5 S5 e5=> ?_;rw[LG dnr]at e5;have s05:Same H H5:=s02.trans (s3.trans (S4.trans S5));have nP:H p=none:=n1;have nI:H pi=none:=pV (s02.trans (s3.trans S4)) n5;have eP5:H5 p=some (.lst []):=(S2.trans (s3.trans (S4.trans S5))) _ _ eP;have hpi:pi≠p:=fun z=>by rw[z,eP5]at e5;cases e5
  have e15:=s05 _ _ e1;clear hys pr eD eR;clear S4 n4 pD ys;walk_at"go";let Pv1:Nat->St->Hp->Prop:=fun i σ' H'=>Same H H'/\(∃us R I,H' p=some (.lst us)/\bY H' us R/\H' pi=some (.dK (cK (rz.map (·.1)) I))/\Lawn rz ps ds f l i I R)/\∃x y z u,σ'=[some (.ref h),some (.ref b),some (.ref p),some (.ref pi),x,y,z,u];refine rG Pv1 ⟨s05,⟨[],[],_,eP5,.nil,e5,Lawn.start dnr dfit⟩,_,_,_,_,rfl⟩ ?_ ?_
  ·rintro i _ H' hi hq_;walk_at"g1";obtain⟨sH,⟨us,R,I,ep,hpl,ei,hL⟩,y1,y2,y3,y4,rfl⟩:=hq_;walk_at"g2";have hh':=aU hh sH;have e1':=sH _ _ e1;have hS':=sH.seq hS;have hT:f+(i:Int)<l:=by lia
   have rl:=hL.len;have ul:us.length=R.length:=Paired.length hpl;walk_at"go";refine aAK hh' dh ei hL.bd fun pn H6 hX=> ?_;walk_at"g1";obtain⟨g,nn,S6,en,hg,hok⟩:=hX;walk_at"g2";walk_at"go";refine NI en (CH _ _) (by rw[List.length_map];lia) fun pT H7 n7 S7 eT=> ?_;have hLp:=dP (ds.map (·.1));generalize cP (ds.map (·.1))=L at hLp eT;have ndL:L.Nodup:=hLp.nodup_iff.mpr dnd;have Ll:L.length=ds.length:=by rw[hLp.length_eq,List.length_map]
   have s67:=S6.trans S7;have s07:Same H H7:=sH.trans s67;have en7:=S7 _ _ en;have ep7:=s67 _ _ ep;have ei7:=s67 _ _ ei;have hnp:pn≠p:=fun z=>by rw[z,ep]at nn;cases nn
   have hni:pn≠pi:=fun z=>by rw[z,ei]at nn;cases nn
   have hTp:pT≠p:=fun z=>by rw[z,S6 _ _ ep]at n7;cases n7
   have hTi:pT≠pi:=fun z=>by rw[z,S6 _ _ ei]at n7;cases n7
   have inJ0:inJ ds g I []=I:=funext fun z=>by unfold inJ;simp only[List.map_nil,List.sum_nil];lia
   walk_at"go";let Pv2:Nat->St->Hp->Prop:=fun j σ' G=>Same2 p pi H7 G/\(∃us,G p=some (.lst us)/\bY G us (R++cE (f+(i:Int)) g (L.take j))/\G pi=some (.dK (cK (rz.map (·.1)) (inJ ds g I (L.take j)))))/\∃x y,σ'=[some (.ref h),some (.ref b),some (.ref p),some (.ref pi),some (.int (f+(i:Int))),some (.ref pn),x,y];refine cU (L.map V.str) Pv2 ⟨Same2.refl _ _ _,⟨us,ep7,by rw[show R++cE (f+(i:Int)) g (L.take 0)=R from List.append_nil _];exact dI hpl s67,by rw[List.take_zero,inJ0];exact ei7⟩,_,_,rfl⟩ (fun j σ' G _ q=>SqL.of (q.1 _ _ eT hTp hTi)) ?_ ?_
   ·rintro j x _ G hx hq_;walk_at"g1";obtain⟨s2,⟨vs,epG,hplG,eiG⟩,x1,x2,rfl⟩:=hq_;walk_at"g2";rw[List.getElem?_map]at hx;obtain⟨n,hn,rfl⟩:=Option.map_eq_some_iff.mp hx;have hnm:n∈ds.map (·.1):=hLp.mem_iff.mp (List.mem_of_getElem? hn);walk_at"g1";obtain⟨⟨n',st,e,lt⟩,hd,rfl⟩:=List.mem_map.mp hnm;walk_at"g2";have sG:Same H G:=Same2.out nP nI s07 s2;have hhG:=aU hh sG;have e1G:=sG _ _ e1;have enG:=s2 _ _ en7 hnp hni;obtain⟨hst,hend⟩:=dhin _ hd;have vl:vs.length<=200:=by
     have h1:vs.length=_:=Paired.length hplG;have h2:=BK (f+(i:Int)) g (L.take j);rw[List.length_append]at h1;rw[List.length_take]at h2
     lia
    show (_:TG) (V.str n') _ _ _;walk_at"go";refine rH (d:=(n',st,e,lt)) hhG dnd hd fun v hv=> ?_;walk_at"g1";obtain⟨q2,C2,dx2,fs2,fp2,rfl,hq2,dcC,l1,l2,l3,l4,l5,mcE,hfp,hlt⟩:=DoorAt.ex hv;walk_at"g2";walk_at"go";have hts:=bF hn;generalize L.take j=Lj at hts hplG eiG ⊢;refine bL (.inl eiG) (cC hst) ?_;walk_at"go";refine bL (.inl enG) (cC hnm) ?_;walk_at"go";refine fA eiG (by rw[nT,List.length_map,sizeLine_eq];lia) fun G1 B1 e1'=> ?_;rw[wY hst]at e1';have hq2':G1 q2=some (.ins C2 dx2 fs2):=B1 _ _ hq2 (fun z=>by rw[z,eiG]at hq2;cases hq2);have en1:=B1 _ _ enG hni;have ep1:=B1 _ _ epG (fun z=>hpi z.symm);have hpl1:=tJ hplG eiG (fun _ z=>by cases z) B1;have s21:=s2.snd B1;rcases hend with hend|⟨y,hend,hy⟩
    ·have hee:e= .non:=hend;subst hee;have ei1:=e1';rw[VV (d:=(n',st,.non,lt)) dnd hd rfl,←hts]at ei1;walk_at"go";refine bL (.inl en1) (cC hnm) ?_;walk_at"go";refine cN (fun hc=> ?_) (fun hc=> ?_)
     ·walk_at"go";refine bL (.inl en1) (cC hnm) ?_;walk_at"go";rename_i q8 G8 m8 T8 e8;have ep8:=T8 _ _ ep1;refine jH ep8 (by rw[sizeLine_eq];lia) fun G9 B9 e9=> ?_;have hq8:q8≠p:=fun z=>by rw[z,ep8]at e8;cases e8
      have hip:pi≠p:=hpi;walk_at"go";refine⟨(s21.same T8).fst B9,⟨vs++[.ref q8],e9,?_,B9 _ _ (T8 _ _ ei1) hip⟩,_,_,rfl⟩;rw[hts,mN,if_pos (show 0<g n' from hc),←List.append_assoc];exact L2.Paired.snoc (tJ (dI hpl1 T8) ep8 (fun _ z=>by cases z) B9) ⟨q8,rfl,B9 _ _ e8 hq8⟩
     ·walk_at"go";refine⟨s21,⟨vs,ep1,?_,ei1⟩,_,_,rfl⟩;rw[hts,mN,if_neg (show ¬0<g n' from hc)];exact hpl1
    ·have hee:e= .str y:=hend;subst hee;walk_at"go";refine bL (.inl e1') (cC hy) ?_;walk_at"go";refine bL (.inl en1) (cC hnm) ?_;walk_at"go";refine fA e1' (by rw[nT,List.length_map,sizeLine_eq];lia) fun G3 B3 e3'=> ?_;rw[wY hy]at e3';have hq3:G3 q2=some (.ins C2 dx2 fs2):=B3 _ _ hq2' (fun z=>by rw[z,e1']at hq2';cases hq2');have en3:=B3 _ _ en1 hni;have ep3:=B3 _ _ ep1 (fun z=>hpi z.symm);have hpl3:=tJ hpl1 e1' (fun _ z=>by cases z) B3;have s23:=s21.snd B3;have ei3:=e3';rw[XW (d:=(n',st,.str y,lt)) dnd hd rfl,←hts]at ei3;walk_at"go";refine bL (.inl en3) (cC hnm) ?_;walk_at"go";refine cN (fun hc=> ?_) (fun hc=> ?_)
     ·walk_at"go";refine bL (.inl en3) (cC hnm) ?_;walk_at"go";rename_i q8 G8 m8 T8 e8;have ep8:=T8 _ _ ep3;refine jH ep8 (by rw[sizeLine_eq];lia) fun G9 B9 e9=> ?_;have hq8:q8≠p:=fun z=>by rw[z,ep8]at e8;cases e8
      have hip:pi≠p:=hpi;walk_at"go";refine⟨(s23.same T8).fst B9,⟨vs++[.ref q8],e9,?_,B9 _ _ (T8 _ _ ei3) hip⟩,_,_,rfl⟩;rw[hts,mN,if_pos (show 0<g n' from hc),←List.append_assoc];exact L2.Paired.snoc (tJ (dI hpl3 T8) ep8 (fun _ z=>by cases z) B9) ⟨q8,rfl,B9 _ _ e8 hq8⟩
     ·walk_at"go";refine⟨s23,⟨vs,ep3,?_,ei3⟩,_,_,rfl⟩;rw[hts,mN,if_neg (show ¬0<g n' from hc)];exact hpl3
   ·rintro _ G hq_;walk_at"g1";obtain⟨s2,⟨vs,epG,hplG,eiG⟩,x1,x2,rfl⟩:=hq_;walk_at"g2";rw[List.length_map,List.take_length]at hplG eiG;refine⟨Same2.out nP nI s07 s2,⟨vs,_,_,epG,hplG,eiG,hL.step dnd dld hT hg hok hLp⟩,_,_,_,_,rfl⟩
  ·rintro _ H' hq_;walk_at"g1";obtain⟨sH,⟨us,R,I,ep,hpl,ei,hL⟩,y1,y2,y3,y4,rfl⟩:=hq_;walk_at"g2";walk_at"go";exact k _ _ (.mk us R I nP sH ep hpl hL)
theorem AA (m:M K mg):Fc P w K mg base "_law_lawful" 11 ["_law_house_here","_law_cells"] (p8 K m.aL (aO P w K mg base (some 4))):=⟨_,_,m.DE,m.iT.F.kp,m.iT.b,AL m⟩
inductive vS (K:PySem.W.Frag)(vs:List V)(H:Hp)(Q:VK)(E:XK):Prop
 | mk (a:Addr) (us:List V) (rows:List aH) (_:vs=[.ref a]) (_:SqL K H a us) (_:bY H us rows) (_:rows.length<=200) (_:(gW rows).length<64) (_:∀p ws xs H',H p=none->Same H H'->H' p=some (.lst ws)->bY H' ws xs->xs.map fJ=mQ (gW rows)->Q (.ref p) H'):vS K vs H Q E
theorem X8 {H:Hp}{Q:VK}{E:XK}{a:Addr}{us:List V}{rows:List aH} (hS:SqL K H a us) (hr:bY H us rows) (hl:rows.length<=200) (h64:(gW rows).length<64) (h:∀p ws xs H',H p=none->Same H H'->H' p=some (.lst ws)->bY H' ws xs->xs.map fJ=mQ (gW rows)->Q (.ref p) H'):vS K [.ref a] H Q E:=⟨_,_,_,rfl,hS,hr,hl,h64,h⟩
theorem BL {H:Hp}:∀{es:List (List Key×V)}{ys:List V},Paired (fun e y=>∃q,y= .ref q/\H q=some (.tup ((LR e).map kV))) es ys->KRows H ys (es.map LR)
 | _,_,.nil=> .nil
 | _,_,.cons h t=> .cons h (BL t)
theorem zD {H:Hp}:∀{ws:List V}{ks:List (List Key)},KRows H ws ks->(∀k∈ks,∃r:aH,k=fJ r)->∃xs,bY H ws xs/\xs.map fJ=ks
 | _,_,.nil,_=>⟨[],.nil,rfl⟩
 | _,_,.cons ⟨p,e,h⟩ t,hk=>by
  obtain⟨xs,h1,h2⟩:=zD t fun k hk'=>hk k (List.mem_cons_of_mem _ hk');obtain⟨r,rfl⟩:=hk _ (.head _);exact⟨r::xs,.cons ⟨p,e,h⟩ h1,by rw[List.map_cons,h2]⟩
theorem KZ (m:M K mg):FnOk P w K mg base CX0 2 m.vD m.qH.d ["plan"] (vS K):=by
 refine m.qH.F.ok sc_as_told (fun vs H Q E h=> ?_) (fun cdv A outer s H vs Q E hr h=> ?_)
 ·walk_at"g1";obtain⟨a,us,rows,rfl,hS,hpl,hlen,h64,k⟩:=h;walk_at"g2";rfl
 ·walk_at"g1";obtain⟨a,us,rows,rfl,hS,hpl,hlen,h64,k⟩:=h;walk_at"g2";have nd:=sc_as_told.nd;walk_at"hu";have F_added_up:= @HG P w K mg base m;refine⟨_,(aE (aT (bM uZ rfl m.xU uG (aA (bW (N:=["place","number"]) (nl:=2) (ci:=[]) rfl (blk (s.heap.objs.size+1) rfl rfl rfl (by kernel_rfl)) (OH (bK F_added_up hr (aA (pv 0) aB))) (fun _ _ _ _=>(jJ (K:=K) (n:=2) rfl (aW (aK (i:=0) (show (["place","number"]:List Str).Nodup by decide +kernel) rfl (by walk_at"oi")) (aW (aK (i:=1) (show (["place","number"]:List Str).Nodup by decide +kernel) rfl (by walk_at"oi")) c4)))) (fun _ _ _ _=>(gH (bC tU (pv 1) aF (bH _)))) (fun _ _ _ _=>(dM (aA (dH (jG (K:=K)) (pv 0) aF (fun _ _=>rfl)) (aA (dH (jG (K:=K)) (pv 0) aF (fun _ _=>rfl)) (aA (pv 1) aB)))))) aB)))),?_⟩;refine aM (σ:=[some (.ref a)]) rfl ?_;walk_at"cx";have hkl:=ED rows;walk_at"go";refine aA4 hS hpl hlen fun p H1 n1 S1 e1=> ?_;walk_at"go";refine MN e1 fun o H2 B2 e2=> ?_;have sA:Same H H2:=SameBut.same n1 S1 B2;refine XO SD (fun e y H=>∃q,y= .ref q/\H q=some (.tup ((LR e).map kV))) (fun _ _ _ _ ⟨q,h1,h2⟩ s=>⟨q,h1,s _ _ h2⟩) (by rw[sizeLine_eq];lia) (rest:=[]) (by rfl) e2 ?_ ?_ ?_
  ·rintro ⟨kk,v⟩ H3 q hm s3 hq R hR;walk_at"g1";obtain⟨t,n,i,e⟩:=(eU rows).2 _ hm;walk_at"g2";cases e;show (_:TT) (some (V.ref q)::some (V.int i)::[]) H3 R;walk_at"go";exact hR _ (Same.refl _)
  ·rintro ⟨kk,v⟩ H3 q hm - s3 hq R hR;walk_at"g1";obtain⟨t,n,i,e⟩:=(eU rows).2 _ hm;walk_at"g2";cases e;have hq':H3 q=some (.tup [.int t,.str n]):=hq;show (_:TE) (some (V.ref q)::some (V.int i)::[]) H3 R;walk_at"go";refine⟨q,_,0,_,rfl,rfl,SqT.of hq',rfl,?_⟩;walk_at"go";refine⟨q,_,1,_,rfl,rfl,SqT.of hq',rfl,?_⟩;walk_at"go";rename_i q4 H4 n4 S4 e4;exact hR _ _ ⟨q4,rfl,e4⟩ S4
  intro ys H3 s3 hys;have kr:=BL hys;walk_at"go";rename_i q4 H4 n4 S4 e4;refine DP (SqL.of e4) (kr.same S4) (by rw[Paired.length kr];exact h64) (yX rows) (by decide) fun l ws H5 n5 S5 e5 kr5=> ?_;obtain⟨xs,h1,h2⟩:=zD kr5 fun kk hk=>by
   walk_at"g1";obtain⟨t,n,rfl,_⟩:=mem_told.mp ((mL _).mem_iff.mp hk);walk_at"g2";exact⟨_,rfl⟩
  have sB:Same H H5:=((sA.trans s3).trans S4).trans S5;have sB4:Same H H4:=(sA.trans s3).trans S4;walk_at"go";refine k l ws xs H5 ?_ sB e5 h1 h2;cases hq:H l with
  | none=>rfl
  | some u=>rw[sB4 _ _ hq]at n5;cases n5
theorem LP (m:M K mg):Fc P w K mg base "as_told" 2 ["plan"] (vS K):=⟨_,_,m.O3,m.qH.F.kp,m.qH.b,KZ m⟩
def cT (t:Int)(D:List Str)(r:aH):Bool:=decide (r.1=t)&&decide (r.2.1∈D)
def z5 (H:Hp)(ys:List V)(xs:List aH):Prop:=KRows H ys (xs.map Y0)
inductive sI (K:PySem.W.Frag)(C:Addr)(D:bD)(vs:List V)(H:Hp)(Q:VK)(E:XK):Prop
 | mk (h a:Addr) (z:Str) (t f l:Int) (rz ps:List (Str×Int)) (ds:List aD) (us:List V) (rows:List aH) (_:vs=[.ref h,.ref a,.str z,.int t]) (_:aR C D H h f l rz ps ds) (_:(rz.map (·.1)).Nodup) (_:z∈rz.map (·.1)) (_:ds.length<=20) (_:(∀d∈ds,dN (rz.map (·.1)) d)) (_:(ds.map (·.1)).Nodup) (_:SqL K H a us) (_:bY H us rows) (_:rows.length<=200) (_:∀p ys H',H p=none->Same H H'->H' p=some (.lst ys)->z5 H' ys (fB rows t (cP (bJ ds z)))->Q (.ref p) H'):sI K C D vs H Q E
theorem WT {C:Addr}{D:bD}{H:Hp}{Q:VK}{E:XK}{h a:Addr}{z:Str}{t f l:Int}{rz ps:List (Str×Int)}{ds:List aD}{us:List V}{rows:List aH} (hh:aR C D H h f l rz ps ds) (nr:(rz.map (·.1)).Nodup) (hz:z∈rz.map (·.1)) (hl:ds.length<=20) (hin:∀d∈ds,dN (rz.map (·.1)) d) (nd:(ds.map (·.1)).Nodup) (hS:SqL K H a us) (hp:bY H us rows) (hr:rows.length<=200)
  (k:∀p ys H',H p=none->Same H H'->H' p=some (.lst ys)->z5 H' ys (fB rows t (cP (bJ ds z)))->Q (.ref p) H'):sI K C D [.ref h,.ref a,.str z,.int t] H Q E:=⟨_,_,_,_,_,_,_,_,_,_,_,rfl,hh,nr,hz,hl,hin,nd,hS,hp,hr,k⟩
theorem mR {ds:List aD}{z:Str} (nd:(ds.map (·.1)).Nodup):(bJ ds z).Nodup:=by
 unfold bJ;rw[List.Nodup,List.pairwise_map]at nd ⊢;exact nd.filter _
theorem QR (ds:List aD)(z:Str):(bJ ds z).length<=ds.length:=by unfold bJ;rw[List.length_map];exact List.length_filter_le _ _
theorem FP {H:Hp}:∀{xs:List aH}{ys:List V},Paired (fun (r:aH) y=>∃q,y= .ref q/\H q=some (.tup [.str r.2.1,.int r.2.2])) xs ys->z5 H ys xs
 | _,_,.nil=> .nil
 | _,_,.cons h t=> .cons h (FP t)
theorem DW:∀{xs ys:List aH},xs.map fJ=ys.map fJ->xs=ys
 | [],[],_=>rfl
 | [],_::_,h=>by cases h
 | _::_,[],h=>by cases h
 | x::xs,y::ys,h=>by
  rw[List.map_cons,List.map_cons]at h;injection h with h1 h2;rw[FK h1,DW h2]
theorem PB (m:M K mg):FnOk P w K mg base CX0 5 m.A6 m.v8.d ["house","plan","room","turn"] (sI K m.aL (aO P w K mg base (some 4))):=by
 refine m.v8.F.ok sc_signs (fun vs H Q E h=> ?_) (fun cdv A outer s H vs Q E hr h=> ?_)
 ·walk_at"g1";obtain⟨h,a,z,t,f,l,rz,ps,ds,us,rows,rfl,hh,nr,hz,hl,hin,ndn,hS,hpl,hlen,k⟩:=h;walk_at"g2";rfl
 ·walk_at"g1";obtain⟨h,a,z,t,f,l,rz,ps,ds,us,rows,rfl,hh,nr,hz,hl,hin,ndn,hS,hpl,hlen,k⟩:=h;walk_at"g2";have nd:=sc_signs.nd;walk_at"hu";have F_as_told:= @LP P w K mg base m;have w_dc_House:=m.aY;have w_mc_House_from_room:= @lO P w K mg base m;refine⟨_,(aC (aQ (i:=4) nd rfl (by walk_at"oi") (dL 3 hr (pv 0) (aA (pv 2) aB)))
   (aC (aQ (i:=5) nd rfl (by walk_at"oi") (bK F_as_told hr (aA (bW (N:=["row","turn","doors"]) (nl:=1) (ci:=[3,4]) rfl (blk (s.heap.objs.size+1) rfl rfl rfl (by kernel_rfl)) (bI (pv 1)) (fun _ _ _ _=>(aK (i:=0) (show (["row","turn","doors"]:List Str).Nodup by decide +kernel) rfl (by walk_at"oi"))) (fun _ _ _ _=>(gH (PW.pt (uV (bC gU (dH (jG (K:=K)) (pv 0) aF (fun _ _=>rfl)) (pv 1) (bH _)) (rT (bC (yI (K:=K)) (dH (jG (K:=K)) (pv 0) aF (fun _ _=>rfl)) (pv 2) (by with_unfolding_all rfl))))))) (fun _ _ _ _=>(pv 0))) aB)))
   (aE (aT (bW (N:=["at","name","number"]) (nl:=3) (ci:=[]) rfl (blk (s.heap.objs.size+1) rfl rfl rfl (by kernel_rfl)) (bI (pv 5)) (fun _ _ _ _=>(jJ (K:=K) (n:=3) rfl (aW (aK (i:=0) (show (["at","name","number"]:List Str).Nodup by decide +kernel) rfl (by walk_at"oi")) (aW (aK (i:=1) (show (["at","name","number"]:List Str).Nodup by decide +kernel) rfl (by walk_at"oi")) (aW (aK (i:=2) (show (["at","name","number"]:List Str).Nodup by decide +kernel) rfl (by walk_at"oi")) c4))))) (fun _ _ _ _=>d0) (fun _ _ _ _=>(dM (aA (pv 1) (aA (pv 2) aB))))))))),?_⟩
  refine aM (σ:=[some (.ref h),some (.ref a),some (.str z),some (.int t),none,none]) rfl ?_;walk_at"cx";have hul:us.length=rows.length:=Paired.length hpl;have fnd:=mR (z:=z) ndn;have ffl:=QR ds z;walk_at"g1";obtain⟨dx,qs,qp,qd,nk,kvs,e1,_⟩:=hh.ex;walk_at"g2";walk_at"go";refine uN hh nr hz hl hin fun p1 H1 n1 S1 e1'=> ?_;walk_at"go";refine jE (α:=aH) (xs:=rows) (vs:=us) (uU H1) (cT t (bJ ds z)) (fun r y H=>uU H y r) (fun _ _ _ _ ⟨q,h1,h2⟩ s=>⟨q,h1,s _ _ h2⟩) (by rw[sizeLine_eq];lia) (rest:=[some (.int t),some (.ref p1)]) (by rfl) (S1.seq hS) (dI hpl S1) ?_ ?_ ?_
  ·rintro v ⟨t0,n0,j0⟩ H2 ⟨q,rfl,hq⟩ hm s2 R hR;have hq':H2 q=some (.tup [.int t0,.str n0,.int j0]):=s2 _ _ hq;have ep:=s2 _ _ e1';walk_at"go";refine⟨q,_,0,_,rfl,rfl,SqT.of hq',rfl,?_⟩;walk_at"go";refine cN (fun hc=> ?_) (fun hc=> ?_)
   ·walk_at"go";refine⟨q,_,1,_,rfl,rfl,SqT.of hq',rfl,?_⟩;walk_at"go";refine OE (SqL.of ep) ?_;walk_at"go";have:=hR _ (Same.refl _);unfold cT at this;rw[decide_eq_true hc,Bool.true_and]at this;exact this
   ·have:=hR _ (Same.refl _);unfold cT at this;rw[decide_eq_false hc,Bool.false_and]at this;exact this
  ·rintro v ⟨t0,n0,j0⟩ H2 ⟨q,rfl,hq⟩ hm - s2 R hR;walk_at"go";exact hR _ _ ⟨q,rfl,s2 _ _ hq⟩ (Same.refl _)
  intro ys H2 s2 hys;have hpl2:=qN hys;walk_at"go";rename_i p3 H3 n3 S3 e3;have fl:(rows.filter (cT t (bJ ds z))).length<=rows.length:=List.length_filter_le _ _;refine X8 (SqL.of e3) (dI hpl2 S3) (by lia) (Nat.lt_of_le_of_lt (FI rows t fnd) (by lia)) fun p4 ws xs H4 n4 S4 e4 hx4 hxs=> ?_;have exs:xs=fB rows t (cP (bJ ds z)):=DW (hxs.trans (GT rows t fnd));have hxl:xs.length<=20:=by
   have h1:xs.length=(gW (rows.filter (cT t (bJ ds z)))).length:=by rw[←List.length_map (f:=fJ),hxs,(mL _).length_eq]
   have h2:=FI rows t fnd;have h3:xs.length<=(bJ ds z).length:=by rw[h1];exact h2
   lia
  walk_at"go";refine IR (α:=aH) (xs:=xs) (vs:=ws) (fun r=> .int r.1) (fun r=> .str r.2.1) (fun r=> .int r.2.2) (fun _=>true) (fun r y H=>∃q,y= .ref q/\H q=some (.tup [.str r.2.1,.int r.2.2])) (fun _ _ _ _ ⟨q,h1,h2⟩ s=>⟨q,h1,s _ _ h2⟩) (by rw[sizeLine_eq];lia) (rest:=[]) (by rfl) (SqL.of e4) hx4 (fun x H1 hx s1 R hR=>hR _ (Same.refl _)) (fun x H1 hx _ s1 R hR=> ?_) ?_
  ·walk_at"go";rename_i q9 H9 n9 S9 e9;exact hR _ _ ⟨q9,rfl,e9⟩ S9
  intro ys5 H5 s5 hys5;rw[dZ]at hys5;have hn5:=FP hys5;walk_at"go";rename_i p6 H6 n6 S6 e6;have sB:Same H H5:=((((S1.trans s2).trans S3).trans S4).trans s5)
  refine k p6 ys5 H6 ?_ (sB.trans S6) e6 ?_
  ·cases hq:H p6 with
   | none=>rfl
   | some u=>rw[sB _ _ hq]at n6;cases n6
  ·rw[←exs];exact KRows.same hn5 S6
theorem P6 (m:M K mg):Fc P w K mg base "signs" 5 ["house","plan","room","turn"] (sI K m.aL (aO P w K mg base (some 4))):=⟨_,_,m.XG,m.v8.F.kp,m.v8.b,PB m⟩
def oV:Option Str->V
 | none=> .non
 | some z=> .str z
def cO (o:Option Str)(hs:List (Option Str)):Int:=(hs.countP fun x=>decide (x=o):Nat)
theorem fW (a o:Option Str)(hs:List (Option Str)):cO a (o::hs)=(if o=a then 1 else 0)+cO a hs:=by
 unfold cO;rw[List.countP_cons]
 by_cases h:o=a
 ·rw[if_pos h,decide_eq_true h,if_pos rfl];lia
 ·rw[if_neg h,decide_eq_false h,if_neg Bool.false_ne_true];lia
theorem rQ (a:Option Str):∀x y:List (Option Str),cO a (x++y)=cO a x+cO a y
 | [],y=>by show cO a y=0+cO a y;lia
 | o::x,y=>by
  rw[List.cons_append,fW,fW,rQ a x y];lia
theorem EU (a o':Option Str):∀{hs:List (Option Str)}{k:Nat}{o:Option Str},hs[k]? =some o->cO a (hs.set k o')=cO a hs - (if o=a then 1 else 0)+(if o'=a then 1 else 0)
 | x::hs,0,o,h=>by
  have h:x=o:=by simpa using h
  subst h;rw[List.set_cons_zero,fW,fW];lia
 | x::hs,k+1,o,h=>by
  have h:hs[k]? =some o:=by simpa using h
  rw[List.set_cons_succ,fW,fW,EU a o' h];lia
theorem CI {ds:List aD}(nd:(ds.map (·.1)).Nodup){f l t:Int}{d:aD} (hd:d∈ds) (h0:f<=t) (h1:t<l) (c:Int) (R:List aH) (T:Int):jT ds f l ((t,d.1,c)::R) T=(if t<T/\d.2.2.1= .non then c else 0)+jT ds f l R T:=by
 rw[JA,JA,rF]
 congr 1
 show (if ((decide (t<T)&&mM ds d.1)&&cnt (ds.map (·.1)) f l (t,d.1,0))=true then c else 0)=_;rw[EV hd h0 h1,Bool.and_true];have e:mM ds d.1=decide (d.2.2.1= .non):=by unfold mM;rw[dA nd hd]
 rw[e]
 by_cases h:t<T/\d.2.2.1= .non
 ·rw[if_pos h,if_pos (by rw[decide_eq_true h.1,decide_eq_true h.2];rfl)]
 ·rw[if_neg h,if_neg (fun y=>h (by
   rw[Bool.and_eq_true,decide_eq_true_eq,decide_eq_true_eq]at y;exact y))]
def i4 (ks:List Str)(v:Str->V):List (Key×V):=ks.map fun n=>(Sum.inr n,v n)
def kY (g:Str->V)(n:Str)(v:V):Str->V:=fun x=>if x=n then v else g x
theorem wR (ks:List Str)(v:Str->V):(i4 ks v).length=ks.length:=by unfold i4;rw[List.length_map]
theorem kK {v:Str->V}{n:Str}:∀{ks:List Str},n∈ks->bB (i4 ks v) (.inr n)=some (v n)
 | a::ks,h=>by
  show bB ((Sum.inr a,v a)::i4 ks v) (.inr n)=_
  by_cases e:a=n
  ·subst e;rw[cW rfl]
  ·rw[cJ (fun z=>e (Sum.inr.inj z))];exact kK ((List.mem_cons.mp h).resolve_left (fun z=>e z.symm))
theorem EZ {v:Str->V}{n:Str}{ks:List Str}:((i4 ks v).any fun kv=>decide (kv.1=Sum.inr n))=decide (n∈ks):=by
 rw[Bool.eq_iff_iff,List.any_eq_true,decide_eq_true_eq]
 constructor
 ·rintro ⟨e,he,hk⟩;obtain⟨x,hx,rfl⟩:=List.mem_map.mp he;have:=Sum.inr.inj (of_decide_eq_true hk);exact this▸hx
 ·intro h;exact⟨_,List.mem_map.mpr ⟨n,h,rfl⟩,decide_eq_true rfl⟩
theorem PM {ks:List Str}{g:Str->V}{n:Str}{v:V} (h:n∈ks):bX (i4 ks g) (.inr n) v=i4 ks (kY g n v):=by
 unfold bX;rw[EZ,decide_eq_true h,if_pos rfl];unfold i4;rw[List.map_map];refine List.map_congr_left fun x _=> ?_;show (if (Sum.inr x:Key)=Sum.inr n then ((Sum.inr x:Key),v) else (Sum.inr x,g x))=_;unfold kY
 by_cases e:x=n
 ·rw[if_pos (by rw[e]),if_pos e]
 ·rw[if_neg (fun z=>e (Sum.inr.inj z)),if_neg e]
theorem PX {ks:List Str}{g:Str->V}{n:Str}{v:V} (h:n∉ks):bX (i4 ks g) (.inr n) v=i4 (ks++[n]) (kY g n v):=by
 unfold bX;rw[EZ,decide_eq_false h,if_neg Bool.false_ne_true];unfold i4;rw[List.map_append,List.map_singleton]
 congr 1
 ·refine List.map_congr_left fun x hx=> ?_;unfold kY;rw[if_neg (fun z:x=n=>h (z▸hx))]
 ·unfold kY;rw[if_pos rfl]
theorem iV {ds:List aD}(nd:(ds.map (·.1)).Nodup){d:aD}(hd:d∈ds)(z:Str):d.1∈bJ ds z↔d.2.1=z:=by
 unfold bJ
 constructor
 ·intro h;obtain⟨d',hd',e⟩:=List.mem_map.mp h;obtain⟨h1,h2⟩:=List.mem_filter.mp hd';have e2:=dA nd h1;rw[e,dA nd hd]at e2;cases e2;exact of_decide_eq_true h2
 ·intro h;exact List.mem_map.mpr ⟨d,List.mem_filter.mpr ⟨hd,decide_eq_true h⟩,rfl⟩
theorem tR {ds:List aD}(nd:(ds.map (·.1)).Nodup){d:aD}(hd:d∈ds)(z:Str):d.1∈dJ ds z↔d.2.2.1= .str z:=by
 unfold dJ
 constructor
 ·intro h;obtain⟨d',hd',e⟩:=List.mem_map.mp h;obtain⟨h1,h2⟩:=List.mem_filter.mp hd';have e2:=dA nd h1;rw[e,dA nd hd]at e2;cases e2;exact of_decide_eq_true h2
 ·intro h;exact List.mem_map.mpr ⟨d,List.mem_filter.mpr ⟨hd,decide_eq_true h⟩,rfl⟩
def qR (ds:List aD):List Str:=(ds.filter fun d=>decide (d.2.2.1= .non)).map (·.1)
theorem IW {ds:List aD}(nd:(ds.map (·.1)).Nodup){d:aD}(hd:d∈ds):d.1∈qR ds↔d.2.2.1= .non:=by
 unfold qR
 constructor
 ·intro h;obtain⟨d',hd',e⟩:=List.mem_map.mp h;obtain⟨h1,h2⟩:=List.mem_filter.mp hd';have e2:=dA nd h1;rw[e,dA nd hd]at e2;cases e2;exact of_decide_eq_true h2
 ·intro h;exact List.mem_map.mpr ⟨d,List.mem_filter.mpr ⟨hd,decide_eq_true h⟩,rfl⟩
theorem yU {ds:List aD}{z:Str} (nd:(ds.map (·.1)).Nodup):(dJ ds z).Nodup:=by
 unfold dJ;rw[List.Nodup,List.pairwise_map]at nd ⊢;exact nd.filter _
theorem BN {ds:List aD}(nd:(ds.map (·.1)).Nodup):(qR ds).Nodup:=by
 unfold qR;rw[List.Nodup,List.pairwise_map]at nd ⊢;exact nd.filter _
theorem UB {ds:List aD}{n:Str} (h:n∈qR ds):n∈ds.map (·.1):=by
 unfold qR at h;obtain⟨d,hd,rfl⟩:=List.mem_map.mp h;exact List.mem_map.mpr ⟨d,(List.mem_filter.mp hd).1,rfl⟩
theorem t9 {S:List Str}(nd:S.Nodup)(t T:Int)(n:Str)(c:Int)(R:List aH):(S.map fun x=>aP ((t,n,c)::R) T x).sum=(if t=T/\n∈S then c else 0)+(S.map fun x=>aP R T x).sum:=by
 have e:(fun x=>aP ((t,n,c)::R) T x)=fun x=>(if t=T then (if n=x then c else 0) else 0)+aP R T x:=funext fun x=>by
  rw[sZ]
  congr 1
  show (if (t,n)=(T,x) then c else 0)=_
  by_cases h1:t=T
  ·rw[if_pos h1]
   by_cases h2:n=x
   ·rw[if_pos h2,if_pos (by rw[h1,h2])]
   ·rw[if_neg h2,if_neg (fun z=>h2 (Prod.mk.inj z).2)]
  ·rw[if_neg h1,if_neg (fun z=>h1 (Prod.mk.inj z).1)]
 rw[e,w4]
 congr 1
 by_cases h1:t=T
 ·have e2:(fun x=>if t=T then (if n=x then c else 0) else 0)=fun x=>if n=x then c else 0:=funext fun x=>by rw[if_pos h1]
  rw[e2]
  by_cases h2:n∈S
  ·rw[if_pos ⟨h1,h2⟩,AW nd h2]
  ·rw[if_neg (fun z=>h2 z.2),d3 fun x hx=>if_neg fun z:n=x=>h2 (z▸hx)]
 ·rw[if_neg (fun z=>h1 z.1),d3 fun x hx=>if_neg h1]
theorem AR {ds:List aD}(nd:(ds.map (·.1)).Nodup){f l T:Int}(z:Str):∀{R:List aH},(∀r∈R,r.2.1∈ds.map (·.1)/\f<=r.1/\r.1<l)->goL ds f l R (aX (z,T))=bV ds (fun n=>aP R T n) z
 | [],_=>by
  unfold bV;rw[d3 (f:=fun n=>aP [] T n) fun _ _=>rfl];rfl
 | (t,n,c)::R,h=>by
  have ih:=AR nd (T:=T) z (R:=R) fun r hr=>h r (List.mem_cons_of_mem _ hr);obtain⟨h1,h2,h3⟩:=h _ (.head _);obtain⟨d,hd,e⟩:=List.mem_map.mp h1;have e:d.1=n:=e;subst e;have s:=t9 (mR (z:=z) nd) t T d.1 c R;unfold bV at ih ⊢;rw[F1 nd hd h2 h3,ih,s]
  congr 1
  by_cases q:d.2.1=z/\t=T
  ·rw[if_pos q,if_pos ⟨q.2,(iV nd hd z).mpr q.1⟩]
  ·rw[if_neg q,if_neg (fun y=>q ⟨(iV nd hd z).mp y.2,y.1⟩)]
theorem IV {ds:List aD}(nd:(ds.map (·.1)).Nodup){f l T:Int}(z:Str):∀{R:List aH},(∀r∈R,r.2.1∈ds.map (·.1)/\f<=r.1/\r.1<l)->goC ds f l R (aX (z,T))=cZ ds (fun n=>aP R T n) z
 | [],_=>by
  unfold cZ;rw[d3 (f:=fun n=>aP [] T n) fun _ _=>rfl];rfl
 | (t,n,c)::R,h=>by
  have ih:=IV nd (T:=T) z (R:=R) fun r hr=>h r (List.mem_cons_of_mem _ hr);obtain⟨h1,h2,h3⟩:=h _ (.head _);obtain⟨d,hd,e⟩:=List.mem_map.mp h1;have e:d.1=n:=e;subst e;have s:=t9 (yU (z:=z) nd) t T d.1 c R;unfold cZ at ih ⊢;rw[FA nd hd h2 h3,ih,s]
  congr 1
  by_cases q:d.2.2.1= .str z/\t=T
  ·rw[if_pos q,if_pos ⟨q.2,(tR nd hd z).mpr q.1⟩]
  ·rw[if_neg q,if_neg (fun y=>q ⟨(tR nd hd z).mp y.2,y.1⟩)]
theorem IM {ds:List aD}(nd:(ds.map (·.1)).Nodup){f l T:Int}:∀{R:List aH},(∀r∈R,r.2.1∈ds.map (·.1)/\f<=r.1/\r.1<l)->jT ds f l R (T+1)=jT ds f l R T+((qR ds).map fun n=>aP R T n).sum
 | [],_=>by
  rw[d3 (f:=fun n=>aP [] T n) fun _ _=>rfl];rfl
 | (t,n,c)::R,h=>by
  have ih:=IM nd (T:=T) (R:=R) fun r hr=>h r (List.mem_cons_of_mem _ hr);obtain⟨h1,h2,h3⟩:=h _ (.head _);obtain⟨d,hd,e⟩:=List.mem_map.mp h1;have e:d.1=n:=e;subst e;have s:=t9 (BN nd) t T d.1 c R;rw[CI nd hd h2 h3,CI nd hd h2 h3,ih,s];have m:=IW nd hd
  by_cases q:d.2.2.1= .non
  ·by_cases q2:t=T
   ·rw[if_pos ⟨by lia,q⟩,if_neg (fun y=>by have:=y.1;lia),if_pos ⟨q2,m.mpr q⟩];lia
   ·by_cases q3:t<T
    ·rw[if_pos ⟨by lia,q⟩,if_pos ⟨q3,q⟩,if_neg (fun y=>q2 y.1)];lia
    ·rw[if_neg (fun y=>by have:=y.1;lia),if_neg (fun y=>q3 y.1),if_neg (fun y=>q2 y.1)];lia
  ·rw[if_neg (fun y=>q y.2),if_neg (fun y=>q y.2),if_neg (fun y=>q (m.mp y.2))];lia
def cS (n:Str)(l:List Str):Int:=(l.countP fun x=>decide (x=n):Nat)
theorem NY (n:Str)(a b:List Str):cS n (a++b)=cS n a+cS n b:=by unfold cS;rw[List.countP_append];lia
theorem vU (n x:Str)(l:List Str):cS n (x::l)=(if x=n then 1 else 0)+cS n l:=by
 unfold cS;rw[List.countP_cons]
 by_cases h:x=n
 ·rw[if_pos h,decide_eq_true h,if_pos rfl];lia
 ·rw[if_neg h,decide_eq_false h,if_neg Bool.false_ne_true];lia
theorem F4 (n x:Str):∀k:Nat,cS n (List.replicate k x)=if x=n then (k:Int) else 0
 | 0=>by split<;>rfl
 | k+1=>by
  rw[List.replicate_succ,vU,F4 n x k]
  split<;>lia
def sgn (R:List aH)(T:Int)(ns:List Str):List Str:=(fB R T ns).flatMap fun r=>List.replicate r.2.2.toNat r.2.1
theorem wN (R:List aH)(T:Int)(n:Str)(ns:List Str):sgn R T (n::ns)=if 0<aP R T n then List.replicate (aP R T n).toNat n++sgn R T ns else sgn R T ns:=by
 unfold sgn fB
 by_cases c:0<aP R T n
 ·rw[if_pos c,List.filter_cons_of_pos (p:=fun n=>decide (0<aP R T n)) (decide_eq_true c),List.map_cons,List.flatMap_cons]
 ·rw[if_neg c,List.filter_cons_of_neg (p:=fun n=>decide (0<aP R T n)) (fun y=>c (of_decide_eq_true y))]
theorem AK {R:List aH}{T:Int} (h:∀n,0<=aP R T n):∀ns:List Str,((sgn R T ns).length:Int)=(ns.map fun n=>aP R T n).sum
 | []=>rfl
 | n::ns=>by
  have ih:=AK h ns;have h0:=h n;rw[wN,List.map_cons,List.sum_cons]
  by_cases c:0<aP R T n
  ·rw[if_pos c,List.length_append,List.length_replicate];lia
  ·rw[if_neg c,ih];lia
theorem vR {R:List aH}{T:Int}{x:Str}:∀{ns:List Str},x∈sgn R T ns->x∈ns
 | n::ns,h=>by
  rw[wN]at h
  split at h
  ·rcases List.mem_append.mp h with h|h
   ·rw[(List.mem_replicate.mp h).2];exact .head _
   ·exact List.mem_cons_of_mem _ (vR h)
  ·exact List.mem_cons_of_mem _ (vR h)
theorem UX {x:Str}{l:List Str} (h:x∉l):cS x l=0:=by
 unfold cS;rw[List.countP_eq_zero.mpr fun y hy=>by
  rw[decide_eq_true_eq];exact fun z=>h (z▸hy)]
 rfl
theorem IE {R:List aH}{T:Int} (h:∀n,0<=aP R T n) {x:Str}:∀{ns:List Str},ns.Nodup->x∈ns->cS x (sgn R T ns)=aP R T x
 | n::ns,nd,hx=>by
  have nd':=List.nodup_cons.mp nd;have h0:=h n;rw[wN]
  by_cases e:n=x
  ·subst e;have e0:cS n (sgn R T ns)=0:=UX fun z=>nd'.1 (vR z)
   by_cases c:0<aP R T n
   ·rw[if_pos c,NY,F4,if_pos rfl,e0];lia
   ·rw[if_neg c,e0];lia
  ·have ih:=IE h nd'.2 ((List.mem_cons.mp hx).resolve_left fun z=>e z.symm)
   by_cases c:0<aP R T n
   ·rw[if_pos c,NY,F4,if_neg e,ih];lia
   ·rw[if_neg c,ih]
theorem QG {n:Str}{l:List Str}{i:Nat}{x:Str} (h:l[i]? =some x):cS n l=(if x=n then 1 else 0)+cS n (l.eraseIdx i):=by
 induction l generalizing i with
 | nil=>simp at h
 | cons a l ih =>
  cases i with
  | zero =>
   have h:a=x:=by simpa using h
   subst h;rw[vU];rfl
  | succ i =>
   have h:l[i]? =some x:=by simpa using h
   rw[vU,ih h,List.eraseIdx_cons_succ,vU];lia
structure Foll (rs:List Str)(ds:List aD)(R:List aH)(T:Int)(hs0 hs vis:List (Option Str))(mm:Str->List Str)(tk:Str->Int):Prop where
 cnt:∀z∈rs,∀n∈bJ ds z,cS n (mm z)+tk n=aP R T n
 len:∀z∈rs,((mm z).length:Int)+bV ds tk z=bV ds (fun n=>aP R T n) z
 sub:∀z∈rs,∀n∈mm z,n∈bJ ds z
 rm:∀z,cO (some z) hs=cO (some z) hs0 - bV ds tk z+cZ ds tk z
 no:cO none hs=cO none hs0+((qR ds).map tk).sum
 us:∀z∈rs,mm z=[]∨bV ds tk z=cO (some z) vis
 ln:hs.length=hs0.length
 mem:∀z,some z∈hs->z∈rs
 tk0:∀n,0<=tk n
def wZ (g:Str->List Str)(n:Str)(v:List Str):Str->List Str:=fun x=>if x=n then v else g x
theorem xQ {S:List Str}(nd:S.Nodup)(tk:Str->Int)(n:Str):(S.map (cD tk n (tk n+1))).sum=(S.map tk).sum+(if n∈S then 1 else 0):=by
 by_cases h:n∈S
 ·rw[if_pos h,xB nd h];lia
 ·rw[if_neg h,Int.add_zero]
  congr 1
  refine List.map_congr_left fun x hx=> ?_;unfold cD;rw[if_neg (fun z:x=n=>h (z▸hx))]
theorem Foll.stay {rs:List Str}{ds:List aD}{R:List aH}{T:Int}{hs0 hs vis:List (Option Str)}{mm:Str->List Str}{tk:Str->Int} (h:Foll rs ds R T hs0 hs vis mm tk) {o:Option Str} (ho:∀z,o=some z->mm z=[]):Foll rs ds R T hs0 hs (vis++[o]) mm tk:=by
 refine⟨h.cnt,h.len,h.sub,h.rm,h.no,fun z hz=> ?_,h.ln,h.mem,h.tk0⟩
 by_cases c:o=some z
 ·exact .inl (ho z c)
 ·rcases h.us z hz with q|q
  ·exact .inl q
  ·refine .inr ?_;rw[rQ,fW,if_neg c,q];show _=_+(0+0)
   lia
theorem Foll.go {rs:List Str}{ds:List aD} (nd:(ds.map (·.1)).Nodup) {R:List aH}{T:Int}{hs0 hs vis:List (Option Str)}{mm:Str->List Str}{tk:Str->Int} (h:Foll rs ds R T hs0 hs vis mm tk) {k i:Nat}{z:Str} (hz:z∈rs) (hk:hs[k]? =some (some z)) {d:aD} (hd:d∈ds) (hi:(mm z)[i]? =some d.1) {o:Option Str} (ho:d.2.2.1=oV o) (hor:∀y,o=some y->y∈rs) :
  Foll rs ds R T hs0 (hs.set k o) (vis++[some z]) (wZ mm z ((mm z).eraseIdx i)) (cD tk d.1 (tk d.1+1)):=by
 have hm:d.1∈mm z:=List.mem_of_getElem? hi;have hst:d.2.1=z:=(iV nd hd z).mp (h.sub z hz _ hm);have hil:=(List.getElem?_eq_some_iff.mp hi).1;have eL:∀y,bV ds (cD tk d.1 (tk d.1+1)) y=bV ds tk y+(if d.2.1=y then 1 else 0):=fun y=>by
  unfold bV;rw[xQ (mR nd)]
  congr 1
  by_cases c:d.2.1=y
  ·rw[if_pos c,if_pos ((iV nd hd y).mpr c)]
  ·rw[if_neg c,if_neg (fun q=>c ((iV nd hd y).mp q))]
 have eC:∀y,cZ ds (cD tk d.1 (tk d.1+1)) y=cZ ds tk y+(if d.2.2.1= .str y then 1 else 0):=fun y=>by
  unfold cZ;rw[xQ (yU nd)]
  congr 1
  by_cases c:d.2.2.1= .str y
  ·rw[if_pos c,if_pos ((tR nd hd y).mpr c)]
  ·rw[if_neg c,if_neg (fun q=>c ((tR nd hd y).mp q))]
 have oe:∀y,(o=some y↔d.2.2.1= .str y):=fun y=>by
  rw[ho];cases o with
  | none=>exact⟨(fun e=>nomatch e),(fun e=>nomatch e)⟩
  | some x=>exact⟨fun e=>by cases e;rfl,fun e=>by cases e;rfl⟩
 have on:(o=none↔d.2.2.1= .non):=by
  rw[ho];cases o with
  | none=>exact⟨fun _=>rfl,fun _=>rfl⟩
  | some x=>exact⟨(fun e=>nomatch e),(fun e=>nomatch e)⟩
 refine⟨fun y hy n hn=> ?_,fun y hy=> ?_,fun y hy n hn=> ?_,fun y=> ?_,?_,fun y hy=> ?_,by rw[List.length_set];exact h.ln,fun y hy=> ?_,fun n=> ?_⟩
 ·have h0:=h.cnt y hy n hn;unfold wZ cD
  by_cases c:y=z
  ·subst c;rw[if_pos rfl];rw[QG hi]at h0
   by_cases q:n=d.1
   ·rw[if_pos q.symm]at h0;rw[if_pos q];rw[q]at h0 ⊢
    lia
   ·rw[if_neg (fun e=>q e.symm)]at h0;rw[if_neg q];lia
  ·rw[if_neg c,if_neg (fun q=>c (by
    rw[q]at hn;rw[←hst];exact((iV nd hd y).mp hn).symm))]
   exact h0
 ·rw[eL];have h0:=h.len y hy;unfold wZ
  by_cases c:y=z
  ·subst c;rw[if_pos rfl,if_pos hst,List.length_eraseIdx,if_pos hil]
   lia
  ·rw[if_neg c,if_neg (fun q=>c (by rw[←hst];exact q.symm))]
   lia
 ·unfold wZ at hn
  by_cases c:y=z
  ·subst c;rw[if_pos rfl]at hn;exact h.sub y hy n (List.mem_of_mem_eraseIdx hn)
  ·rw[if_neg c]at hn;exact h.sub y hy n hn
 ·rw[EU (some y) o hk,eL,eC,h.rm y,hst];have e1:(if some z=some y then (1:Int) else 0)=if z=y then 1 else 0:=by
   by_cases c:z=y
   ·rw[if_pos c,if_pos (by rw[c])]
   ·rw[if_neg c,if_neg (fun e=>c (Option.some.inj e))]
  have e2:(if o=some y then (1:Int) else 0)=if d.2.2.1= .str y then 1 else 0:=by
   by_cases c:o=some y
   ·rw[if_pos c,if_pos ((oe y).mp c)]
   ·rw[if_neg c,if_neg (fun e=>c ((oe y).mpr e))]
  rw[e1,e2];lia
 ·rw[EU none o hk,h.no,xQ (BN nd),if_neg (fun e=>nomatch e)];have m:=IW nd hd
  by_cases c:o=none
  ·rw[if_pos c,if_pos (m.mpr (on.mp c))];lia
  ·rw[if_neg c,if_neg (fun e=>c (on.mpr (m.mp e)))];lia
 ·unfold wZ
  by_cases c:y=z
  ·subst c;rcases h.us y hy with q|q
   ·rw[q]at hm;exact nomatch hm
   ·refine .inr ?_;rw[eL,if_pos hst,rQ,fW,if_pos rfl,q];show _=_+(1+0)
    lia
  ·rw[if_neg c];rcases h.us y hy with q|q
   ·exact .inl q
   ·refine .inr ?_;rw[eL,if_neg (fun e=>c (by rw[←hst];exact e.symm)),rQ,fW,if_neg (fun e=>c (Option.some.inj e).symm),q];show _=_+(0+0)
    lia
 ·rcases List.mem_or_eq_of_mem_set hy with hy|hy
  ·exact h.mem y hy
  ·exact hor y hy.symm
 ·have h0:=h.tk0 n;have h1:=h.tk0 d.1;unfold cD
  split<;>lia
theorem Foll.end {rs:List Str}{ds:List aD}{R:List aH}{T:Int}{hs0 hs vis:List (Option Str)}{mm:Str->List Str}{tk:Str->Int} (h:Foll rs ds R T hs0 hs vis mm tk) (hin:∀d∈ds,d.2.1∈rs) (nd:(ds.map (·.1)).Nodup) (hv:∀z,cO (some z) vis=cO (some z) hs0) (hl:∀z∈rs,bV ds (fun n=>aP R T n) z<=cO (some z) hs0) :
  (∀z∈rs,mm z=[])/\(∀z,cO (some z) hs=cO (some z) hs0 - bV ds (fun n=>aP R T n) z+cZ ds (fun n=>aP R T n) z)/\cO none hs=cO none hs0+((qR ds).map fun n=>aP R T n).sum:=by
 have he:∀z∈rs,mm z=[]:=fun z hz=>by
  rcases h.us z hz with q|q
  ·exact q
  ·have h1:=h.len z hz;have h2:=hl z hz;have h3:=hv z;exact List.length_eq_zero_iff.mp (by lia)
 have ht:∀n∈ds.map (·.1),tk n=aP R T n:=fun n hn=>by
  obtain⟨d,hd,rfl⟩:=List.mem_map.mp hn;have h1:=h.cnt _ (hin d hd) d.1 ((iV nd hd _).mpr rfl);rw[he _ (hin d hd)]at h1;have h2:cS d.1 []=0:=rfl
  lia
 refine⟨he,fun z=> ?_,?_⟩
 ·have e1:bV ds tk z=bV ds (fun n=>aP R T n) z:=by
   unfold bV
   congr 1
   exact List.map_congr_left fun n hn=>ht n (gK hn)
  have e2:cZ ds tk z=cZ ds (fun n=>aP R T n) z:=by
   unfold cZ
   congr 1
   exact List.map_congr_left fun n hn=>ht n (lN hn)
  rw[h.rm,e1,e2]
 ·rw[h.no]
  congr 2
  exact List.map_congr_left fun n hn=>ht n (UB hn)
theorem OX {n k:Nat}(h:k<n):ixN n (k:Int)=some k:=by
 unfold ixN;rw[if_pos (by lia),if_pos (by lia),Int.toNat_natCast]
theorem RH {H:Hp}{Q:VK}{p:Addr}{xs:List V}{i:Int}{j:Nat}{y:V} (e:H p=some (.lst xs)) (l:ixN xs.length i=some j) (hz:xs.length<=2^62) (hy:xs[j]? =some y) (h:∀H',SameBut p H H'->H' p=some (.lst (xs.eraseIdx j))->Q y H'):L4 (.ref p) [.int i] H Q:=by
 walk_at"g1";obtain⟨l1,_,l3,l4⟩:=AV l;walk_at"g2";exact⟨p,xs,i,j,y,rfl,rfl,e,by lia,by lia,l1,hy,h _ SameBut.upd aS⟩
def NL (H H':Hp):Prop:=∀b u,H b=some u->(∀xs,u≠ .lst xs)->H' b=some u
theorem VF {kL:Option Nat}{H H':Hp}{v:V}{d:aD} (h:DoorAt P w K mg base kL H v d) (T:NL H H'):DoorAt P w K mg base kL H' v d:=by
 walk_at"g1";obtain⟨p,C,dx,fs,fp,e,hp,dc,l1,l2,l3,l4,l5,mc,hf,lt⟩:=h;walk_at"g2";exact⟨p,C,dx,fs,fp,e,T _ _ hp (fun ps z=>by cases z),dc,l1,l2,l3,l4,l5,mc,fun x hx=>⟨T _ _ (hf x hx).1 (fun ps z=>(hf x hx).2 (by rw[z];trivial)),(hf x hx).2⟩,lt⟩
theorem PZ {C:Addr}{H H':Hp}{h:Addr}{f l:Int}{rz ps:List (Str×Int)}{ds:List aD} (x:aR C (aO P w K mg base (some 4)) H h f l rz ps ds) (s:NL H H'):aR C (aO P w K mg base (some 4)) H' h f l rz ps ds:=by
 walk_at"g1";obtain⟨dx,qs,qp,qd,nk,kv,e1,e2,e3,e4,e5,e6,e7⟩:=x.ex;walk_at"g2";exact⟨dx,qs,qp,qd,nk,kv,s _ _ e1 (fun _ z=>by cases z),s _ _ e2 (fun _ z=>by cases z),s _ _ e3 (fun _ z=>by cases z),e4,e5,s _ _ e6 (fun _ z=>by cases z),Paired.imp' (fun _ d hd=>⟨hd.1,VF hd.2 s⟩) e7⟩
theorem BE {α β:Type}(g:α->β):∀(l:List α) (i:Nat),(l.map g).eraseIdx i=(l.eraseIdx i).map g
 | [],_=>rfl
 | _::_,0=>rfl
 | a::l,i+1=>by rw[List.map_cons,List.eraseIdx_cons_succ,List.eraseIdx_cons_succ,List.map_cons,BE g l i]
theorem VN {S:List Str}{g:Str->Int} (h:∀n∈S,0<=g n) {n:Str} (hn:n∈S):g n<=(S.map g).sum:=by
 induction S with
 | nil=>exact nomatch hn
 | cons a l ih =>
  rw[List.map_cons,List.sum_cons];have h0:=h a (.head _);have h1:=rD (g:=g) (ks:=l) fun x hx=>h x (List.mem_cons_of_mem _ hx);rcases List.mem_cons.mp hn with e|hn
  ·subst e;lia
  ·have:=ih (fun x hx=>h x (List.mem_cons_of_mem _ hx)) hn
   lia
theorem EJ (k:Nat)(x:Str):(List.replicate k [V.str x]).flatten=(List.replicate k x).map V.str:=by
 induction k with
 | zero=>rfl
 | succ k ih=>rw[List.replicate_succ,List.flatten_cons,ih,List.replicate_succ,List.map_cons];rfl
def adU (A:Str->Addr)(z:Str)(q:Addr):Str->Addr:=fun y=>if y=z then q else A y
theorem OB (g:Str->V)(z:Str)(u v:V):kY (kY g z u) z v=kY g z v:=funext fun y=>by
 unfold kY
 split<;>rfl
theorem WX (A:Str->Addr)(z:Str)(q:Addr):kY (fun y=>V.ref (A y)) z (.ref q)=fun y=>V.ref (adU A z q y):=funext fun y=>by
 unfold kY adU
 split<;>rfl
theorem UH {o:Option Str}{a b:List (Option Str)} (h:a.Perm b):cO o a=cO o b:=by
 unfold cO;rw[h.countP_eq]
theorem L6 (hs:List (Option Str)):((List.range hs.length).map fun k=>hs.getD k none)=hs:=by
 refine List.ext_getElem? fun i=> ?_;rw[List.getElem?_map]
 by_cases h:i<hs.length
 ·rw[List.getElem?_range h,Option.map_some,List.getD_eq_getElem?_getD,List.getElem?_eq_getElem h];rfl
 ·rw[List.getElem?_eq_none (by rw[List.length_range];lia),List.getElem?_eq_none (by lia)];rfl
structure FolAt (rz ps:List (Str×Int))(ds:List aD)(f l T:Int)(R:List aH)(hs:List (Option Str)):Prop where
 dh:gJ rz ps ds f l
 nm:∀r∈R,r.2.1∈ds.map (·.1)/\f<=r.1/\r.1<l
 ps0:∀r∈R,0<r.2.2
 rl:R.length<=64
 hl:hs.length<=30
 mem:∀z,some z∈hs->z∈rz.map (·.1)
 lv:∀z∈rz.map (·.1),bV ds (fun n=>aP R T n) z<=cO (some z) hs
theorem xL {R:List aH}(h:∀r∈R,0<r.2.2)(t:Int)(n:Str):0<=aP R t n:=by
 induction R with
 | nil=>exact Int.le_refl _
 | cons a l ih =>
  have h1:=ih fun r hr=>h r (List.mem_cons_of_mem _ hr);have h2:=h a (.head _);rw[sZ]
  split<;>lia
theorem LD (o:Option Str)(hs:List (Option Str)):cO o hs<=hs.length:=by
 unfold cO;have:=List.countP_le_length (p:=fun x=>decide (x=o)) (l:=hs)
 lia
theorem FolAt.few {rz ps:List (Str×Int)}{ds:List aD}{f l T:Int}{R:List aH}{hs:List (Option Str)} (h:FolAt rz ps ds f l T R hs) {z n:Str} (hz:z∈rz.map (·.1)) (hn:n∈bJ ds z):aP R T n<=30:=by
 have h1:=VN (S:=bJ ds z) (g:=fun n=>aP R T n) (fun n _=>xL h.ps0 T n) hn;have h2:=h.lv z hz;have h3:=LD (some z) hs;have h4:=h.hl;unfold bV at h2;have h1:aP R T n<=((bJ ds z).map fun n=>aP R T n).sum:=h1
 lia
inductive aAl (rz:List (Str×Int))(ds:List aD)(T:Int)(R:List aH)(hs:List (Option Str))(H H':Hp)(pH:Addr):Prop
 | mk (hs':List (Option Str)) (_:SameBut pH H H') (_:H' pH=some (.lst (hs'.map oV))) (_:hs'.length=hs.length) (_:∀z,some z∈hs'->z∈rz.map (·.1)) (_:∀z,cO (some z) hs'=cO (some z) hs - bV ds (fun n=>aP R T n) z+cZ ds (fun n=>aP R T n) z) (_:cO none hs'=cO none hs+((qR ds).map fun n=>aP R T n).sum)
inductive zA (K:PySem.W.Frag)(C:Addr)(D:bD)(vs:List V)(H:Hp)(Q:VK)(E:XK):Prop
 | mk (h a pH:Addr) (T c f l:Int) (rz ps:List (Str×Int)) (ds:List aD) (us:List V) (R:List aH) (hs:List (Option Str)) (_:vs=[.ref h,.ref a,.int T,.ref pH,.int c]) (_:aR C D H h f l rz ps ds) (_:FolAt rz ps ds f l T R hs) (_:SqL K H a us) (_:bY H us R) (_:H pH=some (.lst (hs.map oV))) (_:∀H',aAl rz ds T R hs H H' pH->Q (.bl true) H'):zA K C D vs H Q E
theorem aA5 {C:Addr}{D:bD}{H:Hp}{Q:VK}{E:XK}{h a pH:Addr}{T c f l:Int}{rz ps:List (Str×Int)}{ds:List aD}{us:List V}{R:List aH}{hs:List (Option Str)} (hh:aR C D H h f l rz ps ds) (fa:FolAt rz ps ds f l T R hs) (hS:SqL K H a us) (hp:bY H us R) (eH:H pH=some (.lst (hs.map oV))) (k:∀H',aAl rz ds T R hs H H' pH->Q (.bl true) H'):zA K C D [.ref h,.ref a,.int T,.ref pH,.int c] H Q E:=⟨_,_,_,_,_,_,_,_,_,_,_,_,_,rfl,hh,fa,hS,hp,eH,k⟩
def qK (c:Int)(i:Nat):List Key:=[.inl (bG c (i:Int)),.inl (i:Int)]
theorem EB {c:Int}{H:Hp}:∀{l:List Nat}{os:List V},Paired (fun (i:Nat) y=>∃q,y= .ref q/\H q=some (.tup [.int (bG c (i:Int)),.int (i:Int)])) l os->KRows H os (l.map (qK c))
 | _,_,.nil=> .nil
 | _,_,.cons h t=> .cons h (EB t)
def QF (k:List Key):Nat:=match k with
 | [_,.inl i]=>i.toNat
 | _=>0
theorem QA {c:Int}{l:List Nat}{rows:List (List Key)} (h:rows.Perm (l.map (qK c))):∃ks:List Nat,rows=ks.map (qK c)/\ks.Perm l:=by
 refine⟨rows.map QF,?_,?_⟩
 ·rw[List.map_map];refine(List.map_id' rows).symm.trans (List.map_congr_left fun r hr=> ?_);obtain⟨i,_,rfl⟩:=List.mem_map.mp (h.mem_iff.mp hr);show qK c i=qK c ((i:Int).toNat);rw[Int.toNat_natCast]
 ·have:=h.map QF;rw[List.map_map]at this;have e:l.map (QF∘qK c)=l:=by
   refine(List.map_congr_left (g:=fun i=>i) fun i _=> ?_).trans (List.map_id' l);exact Int.toNat_natCast i
  rwa [e]at this
def sgL (R:List aH)(T:Int)(ds:List aD)(z:Str):List Str:=sgn R T (cP (bJ ds z))
theorem xS (m:M K mg):FnOk P w K mg base CX0 8 m.j9 m.gD.d ["_law_house_here","_law_plan","_law_turn","_law_heads","_law_cell"] (zA K m.aL (aO P w K mg base (some 4))):=by
 refine m.gD.F.ok sc__law_followed (fun vs H Q E h=> ?_) (fun cdv A outer s H vs Q E hr h=> ?_)
 ·walk_at"g1";obtain⟨h,a,pH,T,c,f,l,rz,ps,ds,us,R,hs,rfl,hh,fa,hS,hpl,eH,k⟩:=h;walk_at"g2";rfl
 ·walk_at"g1";obtain⟨h,a,pH,T,c,f,l,rz,ps,ds,us,R,hs,rfl,hh,fa,hS,hpl,eH,k⟩:=h;walk_at"g2";have nd:=sc__law_followed.nd;walk_at"hu";have F__law_drawn:= @iO P w K mg base m;have F_signs:= @P6 P w K mg base m;have w_dc_House:=m.aY;have w_mc_House_rooms:= @fF P w K mg base m;have w_mc_House_door:= @d7 P w K mg base m;refine⟨_,(aC (aQ (i:=5) nd rfl (by walk_at"oi") k3)
   (aC (cG PassesOwn.never rfl (bI (fT 1 hr (pv 0))) (aK (i:=6) nd rfl (by walk_at"oi")) (aC (c5 hu1 (pv 5) (pv 6) (dO aB) rfl)
   (aE (cG PassesOwn.never rfl (bI (bK F_signs hr (aA (pv 0) (aA (pv 1) (aA (pv 6) (aA (pv 2) aB)))))) (lM (n:=2) rfl (aW (aK (i:=7) nd rfl (by walk_at"oi")) (aW (aK (i:=8) nd rfl (by walk_at"oi")) c4))) (aE (c5 hu1 (pv 5) (pv 6) (aI zK (bT hu1 (pv 5) (pv 6) (fun _ _=>rfl)) (aI M8 (dO (aA (pv 7) aB)) (pv 8))) rfl))))))
   (aC (aQ (i:=9) nd rfl (by walk_at"oi") (bM uZ rfl m.xU uG (aA (bW (N:=["_law_k","_law_cell"]) (nl:=1) (ci:=[4]) rfl (blk (s.heap.objs.size+1) rfl rfl rfl (by kernel_rfl)) (jI rfl m.hG (aA (bM dC rfl m.hJ fK (aA (pv 3) aB)) aB)) (fun _ _ _ _=>(aK (i:=0) (show (["_law_k","_law_cell"]:List Str).Nodup by decide +kernel) rfl (by walk_at"oi"))) (fun _ _ _ _=>d0) (fun _ _ _ _=>(dM (aA (bK F__law_drawn hr (aA (pv 1) (aA (pv 0) aB))) (aA (pv 0) aB))))) aB)))
   (aC (cG PassesOwn.never rfl (bI (pv 9)) (lM (n:=2) rfl (aW (aK (i:=10) nd rfl (by walk_at"oi")) (aW (aK (i:=11) nd rfl (by walk_at"oi")) c4))) (aC (aQ (i:=6) nd rfl (by walk_at"oi") (dH gT (pv 3) (pv 11) (fun _ _=>rfl)))
   (aE (cF (PW.pt (uV (bC A1 (pv 6) oI (bH _)) (rT (bC (EN hu0) (bT hu1 (pv 5) (pv 6) (fun _ _=>rfl)) (dO aB) (bH _))))) (aC (aQ (i:=7) nd rfl (by walk_at"oi") (v4 PySem.F.plainAttrs_list PySem.F.slot_list_pop PySem.F.type_list_pop QD (bT hu1 (pv 5) (pv 6) (fun _ _=>rfl)) (aA (aI bN (aI d8 (pv 10) aF) (bM dC rfl m.hJ fK (aA (bT hu1 (pv 5) (pv 6) (fun _ _=>rfl)) aB))) aB)))
   (aE (YV (bA (dL 1 hr (pv 0) (aA (pv 7) aB)) rfl) (aAf (pv 3) (pv 11) R5)))) bP))))
   (aE (aT (nA (ZD hu0) (rK (bW (N:=["_law_room","_law_left"]) (nl:=1) (ci:=[5]) rfl (blk (s.heap.objs.size+1) rfl rfl rfl (by kernel_rfl)) (tM (pv 5)) (fun _ _ _ _=>(aK (i:=0) (show (["_law_room","_law_left"]:List Str).Nodup by decide +kernel) rfl (by walk_at"oi"))) (fun _ _ _ _=>(gH (bC (W6 (K:=K) hu0) (bT hu1 (pv 1) (pv 0) (fun _ _=>rfl)) (dO aB) (bH _)))) (fun _ _ _ _=>(pv 0)))) (dO aB) (bH _)))))))),?_⟩
  refine aM (σ:=[some (.ref h),some (.ref a),some (.int T),some (.ref pH),some (.int c),none,none,none,none,none,none,none]) rfl ?_;walk_at"cx";walk_at"g1";obtain⟨dnr,dnd,dhin,dlt,hpr,dfit,dsz,dlr,dlp,dld,df0,df1,df2,df3⟩:=id fa.dh;walk_at"g2";walk_at"g1";obtain⟨dx,qs,qp,qd,nk,kvs,e1,_⟩:=id hh.ex;walk_at"g2";have rl:=fa.rl;have hl:=fa.hl;walk_at"go";rename_i pl H1 n1 S1 eL;refine jF (aU hh S1) fun pR H2 n2 S2 eR=> ?_;have s02:=S1.trans S2;have eL2:=S2 _ _ eL;have hRl:pR≠pl:=fun z=>by rw[z,eL2]at eR;cases eR
  walk_at"go";let Pv1:Nat->St->Hp->Prop:=fun i σ' G=>SameBut pl H2 G/\(∃A:Str->Addr,G pl=some (.dK (i4 ((rz.map (·.1)).take i) fun z=> .ref (A z)))/\(∀z∈(rz.map (·.1)).take i,G (A z)=some (.lst ((sgL R T ds z).map V.str))/\H (A z)=none)/\∀z∈(rz.map (·.1)).take i,∀y∈(rz.map (·.1)).take i,A z=A y->z=y)/\∃x y z,σ'=[some (.ref h),some (.ref a),some (.int T),some (.ref pH),some (.int c),some (.ref pl),x,y,z,none,none,none];refine cU ((rz.map (·.1)).map V.str) Pv1 ⟨SameBut.refl,⟨fun _=>0,by rw[eL2];rfl,(fun _ z=>nomatch z),(fun _ z=>nomatch z)⟩,_,_,_,rfl⟩ (fun i σ' G _ q=>SqL.of (q.1 _ _ eR hRl)) ?_ ?_
  ·rintro i x _ G hx hq_;walk_at"g1";obtain⟨sb,⟨A,ek,hA,hinj⟩,y1,y2,y3,rfl⟩:=hq_;walk_at"g2";rw[List.getElem?_map]at hx;obtain⟨z,hz,rfl⟩:=Option.map_eq_some_iff.mp hx;have hzm:z∈rz.map (·.1):=List.mem_of_getElem? hz;have hzn:=gR dnr hz;have htl:((rz.map (·.1)).take i).length<=5:=by rw[List.length_take,List.length_map];lia
   have sH:Same H G:=SameBut.same n1 s02 sb;walk_at"go";rename_i q0 G1 m1 T1 e0;have ek1:=T1 _ _ ek;refine fA ek1 (by rw[wR,sizeLine_eq];lia) fun G2 B2 e2=> ?_;rw[PX hzn]at e2;have h0l:q0≠pl:=fun w'=>by rw[w',ek]at m1;cases m1
   have e02:=B2 _ _ e0 h0l;have sb2:SameBut pl H2 G2:=(sb.trans T1.but).trans B2;have sH2:Same H G2:=SameBut.same n1 s02 sb2;have hA2:∀y∈(rz.map (·.1)).take i,G2 (A y)=some (.lst ((sgL R T ds y).map V.str)):=fun y hy=>B2 _ _ (T1 _ _ (hA y hy).1) (fun w'=>by have:=(hA y hy).1;rw[w',ek]at this;cases this);have hAq:∀y∈(rz.map (·.1)).take i,A y≠q0:=fun y hy w'=>by have:=(hA y hy).1;rw[w',m1]at this;cases this
   have nq0:H q0=none:=pV sH m1;walk_at"go";refine WT (aU hh sH2) dnr hzm (by lia) dhin dnd (sH2.seq hS) (dI hpl sH2) (by lia) fun pY ys G3 m3 T3 eY hys=> ?_;have e03:=T3 _ _ e02;have e23:=T3 _ _ e2;have hYl:pY≠pl:=fun w'=>by rw[w',e2]at m3;cases m3
   have hdl:(fB R T (cP (bJ ds z))).length=ys.length:=by
    have h1:ys.length=((fB R T (cP (bJ ds z))).map Y0).length:=Paired.length hys;rw[List.length_map]at h1;exact h1.symm
   walk_at"go";let Pv2:Nat->St->Hp->Prop:=fun j σ' G'=>SameBut pl G3 G'/\(∃q,G' pl=some (.dK (i4 ((rz.map (·.1)).take i++[z]) (kY (fun y=> .ref (A y)) z (.ref q))))/\G' q=some (.lst ((((fB R T (cP (bJ ds z))).take j).flatMap fun r=>List.replicate r.2.2.toNat r.2.1).map V.str))/\H q=none/\q≠pl/\∀y∈(rz.map (·.1)).take i,A y≠q)/\∃y w',σ'=[some (.ref h),some (.ref a),some (.int T),some (.ref pH),some (.int c),some (.ref pl),some (.str z),y,w',none,none,none];refine cU ys Pv2 ⟨SameBut.refl,⟨q0,e23,by rw[e03];rfl,nq0,h0l,hAq⟩,_,_,rfl⟩ (fun j σ' G' _ q=>SqL.of (q.1 _ _ eY hYl)) ?_ ?_
   ·rintro j v _ G' hv hq_;walk_at"g1";obtain⟨sb',⟨q,ep,eq,nq,hql,hAq'⟩,x1,x2,rfl⟩:=hq_;walk_at"g2";have hj:=(List.getElem?_eq_some_iff.mp hv).1;obtain⟨⟨t',n',i'⟩,hr⟩:∃r,(fB R T (cP (bJ ds z)))[j]? =some r:=⟨_,List.getElem?_eq_getElem (by lia)⟩
    walk_at"g1";obtain⟨p1,r1,x1',y1',z1'⟩:=hys.get (i:=j) (List.getElem?_eq_getElem hj);walk_at"g2";rw[List.getElem?_map,hr]at y1';cases y1';obtain rfl:v= .ref p1:=by
     rw[List.getElem?_eq_getElem hj,x1']at hv;exact(Option.some.inj hv).symm
    have hrm:=List.mem_of_getElem? hr;unfold fB at hrm;obtain⟨n2',hn2,en2⟩:=List.mem_map.mp hrm;obtain⟨hn3,hn4⟩:=List.mem_filter.mp hn2;have hn4:=of_decide_eq_true hn4;cases en2;have hnf:n'∈bJ ds z:=(dP _).mem_iff.mp hn3;have few:=fa.few hzm hnf;have hp1:G' p1=some (.tup [.str n',.int (aP R T n')]):=sb' _ _ z1' (fun w'=>by rw[w',e23]at z1';cases z1');have hlz:(((fB R T (cP (bJ ds z))).take j).flatMap fun r=>List.replicate r.2.2.toNat r.2.1).length<=1000:=by
     have h1:(((fB R T (cP (bJ ds z))).take j).flatMap fun r=>List.replicate r.2.2.toNat r.2.1).length<=(sgL R T ds z).length:=by
      have:=List.take_append_drop j (fB R T (cP (bJ ds z)));unfold sgL sgn;rw[←this,List.flatMap_append,List.length_append,List.take_append_drop];exact Nat.le_add_right _ _
     have h2:=AK (T:=T) (fun n=>xL fa.ps0 T n) (cP (bJ ds z));have h3:((cP (bJ ds z)).map fun n=>aP R T n).sum=((bJ ds z).map fun n=>aP R T n).sum:=gM (dP _);have h4:=fa.lv z hzm;have h5:=LD (some z) hs;unfold bV at h4;unfold sgL at h1
     lia
    generalize htn:aP R T n'=tn at hp1 few hn4;generalize hfl:(((fB R T (cP (bJ ds z))).take j).flatMap fun r=>List.replicate r.2.2.toNat r.2.1)=fl0 at eq hlz;walk_at"go";refine bL (.inl ep) (kK (List.mem_append_right _ (.head _))) ?_;rw[show kY (fun y=>V.ref (A y)) z (.ref q) z= .ref q from if_pos rfl];walk_at"go";rename_i p2 G5 m5 T5 e5;refine zU e5 (by lia) (by lia) (by rw[sizeLine_eq];show 1 * _<=_;lia) fun p3 G6 m6 T6 e6=> ?_;rw[EJ]at e6;have s56:=T5.trans T6;refine AI (s56 _ _ eq) e6 (by rw[sizeLine_eq,List.length_map,List.length_map,List.length_replicate];lia) fun p4 G7 m7 T7 e7=> ?_;rw[←List.map_append]at e7;have s57:=s56.trans T7;have ep7:=s57 _ _ ep;walk_at"go";refine fA ep7 (by rw[wR,sizeLine_eq,List.length_append];show _+1<_;lia) fun G8 B8 e8=> ?_;rw[PM (List.mem_append_right _ (.head _)),OB]at e8;have h4l:p4≠pl:=fun w'=>by rw[w',s56 _ _ ep]at m7;cases m7
    have sHG':Same H G':=SameBut.same n1 s02 (sb2.trans (T3.but.trans sb'));refine⟨(sb'.trans s57.but).trans B8,⟨p4,e8,?_,pV (sHG'.trans s56) m7,h4l,fun y hy w'=> ?_⟩,_,_,rfl⟩
    ·rw[B8 _ _ e7 h4l,bF hr,List.flatMap_append,hfl];show _=some (HO.lst ((fl0++(List.replicate (aP R T n').toNat n'++[])).map V.str));rw[List.append_nil,htn]
    ·have:=hA2 y hy;have hne:A y≠pl:=fun w2=>by rw[w2,e2]at this;cases this
     have:=s56 _ _ (sb' _ _ (T3 _ _ this) hne);rw[w',m7]at this;cases this
   ·rintro _ G' hq_;walk_at"g1";obtain⟨sb',⟨q,ep,eq,nq,hql,hAq'⟩,x1,x2,rfl⟩:=hq_;walk_at"g2";rw[←hdl,List.take_length]at eq;refine⟨sb2.trans (T3.but.trans sb'),⟨adU A z q,?_,fun y hy=> ?_,fun y hy y' hy' e=> ?_⟩,_,_,_,rfl⟩
    ·rw[ep,WX,bF hz]
    ·rw[bF hz]at hy;unfold adU
     by_cases e:y=z
     ·rw[if_pos e,e];exact⟨eq,nq⟩
     ·rw[if_neg e];have hy':y∈(rz.map (·.1)).take i:=(List.mem_append.mp hy).resolve_right fun w'=>e (List.mem_singleton.mp w');exact⟨sb' _ _ (T3 _ _ (hA2 y hy')) (fun w'=>by have:=hA2 y hy';rw[w',e2]at this;cases this),(hA y hy').2⟩
    ·rw[bF hz]at hy hy';unfold adU at e
     by_cases e1:y=z
     ·by_cases e2':y'=z
      ·rw[e1,e2']
      ·rw[if_pos e1,if_neg e2']at e;exact absurd e.symm (hAq' y' ((List.mem_append.mp hy').resolve_right fun w'=>e2' (List.mem_singleton.mp w')))
     ·by_cases e2':y'=z
      ·rw[if_neg e1,if_pos e2']at e;exact absurd e (hAq' y ((List.mem_append.mp hy).resolve_right fun w'=>e1 (List.mem_singleton.mp w')))
      ·rw[if_neg e1,if_neg e2']at e;exact hinj y ((List.mem_append.mp hy).resolve_right fun w'=>e1 (List.mem_singleton.mp w')) y' ((List.mem_append.mp hy').resolve_right fun w'=>e2' (List.mem_singleton.mp w')) e
  ·rintro _ G hq_;walk_at"g1";obtain⟨sb,⟨A,ek,hA,hinj⟩,y1,y2,y3,rfl⟩:=hq_;walk_at"g2";rw[List.length_map,List.take_length]at ek hA hinj;have sH:Same H G:=SameBut.same n1 s02 sb;have eHG:=sH _ _ eH;have hml:(hs.map oV).length=hs.length:=List.length_map ..;walk_at"go";rw[show (((hs.map oV).length:Nat):Int).toNat=hs.length by lia];refine DZ (fun i y H=>∃q,y= .ref q/\H q=some (.tup [.int (bG c (i:Int)),.int (i:Int)])) (fun _ _ _ _ ⟨q,e,h⟩ s=>⟨q,e,s _ _ h⟩) (by rw[sizeLine_eq];lia) (rest:=[some (.int c)]) (by rfl) ?_ ?_
   ·intro i G1 hi s1 R' hR;walk_at"go";rename_i nn en hn0 hn1 q1 G2 m2 T2 e2;subst en;rw[Int.zero_add]at e2;exact hR _ _ ⟨q1,rfl,e2⟩ T2
   intro os G1 s1 hos;have kr:KRows G1 os ((List.range hs.length).map (qK c)):=EB hos;walk_at"go";rename_i pO G2 m2 T2 eO;refine DP (sh:=[true,true]) (SqL.of eO) (kr.same T2) (by rw[Paired.length kr,List.length_map,List.length_range];lia) (fun r hr=>by
    obtain⟨i,_,rfl⟩:=List.mem_map.mp hr;rfl) (by decide) fun pW ws G3 m3 T3 eW hws=> ?_
   have hperm:=mL ((List.range hs.length).map (qK c));generalize mQ ((List.range hs.length).map (qK c))=rows at hws hperm;obtain⟨ks,hks,hkp⟩:=QA hperm;subst hks;have sG3:Same G G3:=s1.trans (T2.trans T3);have sH3:Same H G3:=sH.trans sG3;have eH3:=sH3 _ _ eH;have ek3:=sG3 _ _ ek;have hA3:∀z∈rz.map (·.1),G3 (A z)=some (.lst ((sgL R T ds z).map V.str)):=fun z hz=>sG3 _ _ (hA z hz).1;have wl:ws.length=ks.length:=by
    have h1:ws.length=(ks.map (qK c)).length:=Paired.length hws;rw[List.length_map]at h1;exact h1
   have kn:ks.Nodup:=hkp.nodup_iff.mpr List.nodup_range;have hAH:∀z∈rz.map (·.1),A z≠pH:=fun z hz w'=>by have:=(hA z hz).2;rw[w',eH]at this;cases this
   have tnn:∀n,0<=aP R T n:=fun n=>xL fa.ps0 T n;have F0:Foll (rz.map (·.1)) ds R T hs hs [] (sgL R T ds) (fun _=>0):=by
    have l0:∀z,bV ds (fun _=>0) z=0:=fun z=>d3 fun _ _=>rfl;have c0:∀z,cZ ds (fun _=>0) z=0:=fun z=>d3 fun _ _=>rfl;refine⟨fun z hz n hn=> ?_,fun z hz=> ?_,fun z hz n hn=> ?_,fun z=> ?_,?_,fun z hz=> .inr ?_,rfl,fa.mem,fun _=>Int.le_refl _⟩
    ·rw[Int.add_zero];exact IE tnn ((dP _).nodup_iff.mpr (mR dnd)) ((dP _).mem_iff.mpr hn)
    ·rw[l0,Int.add_zero];unfold sgL;rw[AK tnn,gM (dP _)];rfl
    ·exact(dP _).mem_iff.mp (vR hn)
    ·rw[l0,c0];lia
    ·rw[d3 fun _ _=>rfl,Int.add_zero]
    ·rw[l0];rfl
   have hWp:pW≠pH:=fun w'=>by rw[w',(s1.trans T2) _ _ eHG]at m3;cases m3
   have hWA:∀z∈rz.map (·.1),pW≠A z:=fun z hz w'=>by rw[w',(s1.trans T2) _ _ (hA z hz).1]at m3;cases m3
   walk_at"go";let Pv3:Nat->St->Hp->Prop:=fun j σ' G'=>(∀b u,G3 b=some u->b≠pH->(∀z∈rz.map (·.1),b≠A z)->G' b=some u)/\(∃(hs':List (Option Str)) (mm:Str->List Str) (tk:Str->Int),G' pH=some (.lst (hs'.map oV))/\(∀z∈rz.map (·.1),G' (A z)=some (.lst ((mm z).map V.str)))/\Foll (rz.map (·.1)) ds R T hs hs' ((ks.take j).map fun k=>hs.getD k none) mm tk/\∀k,k∉ks.take j->hs'[k]? =hs[k]?)/\∃x y u v,σ'=[some (.ref h),some (.ref a),some (.int T),some (.ref pH),some (.int c),some (.ref pl),x,y,y3,some (.ref pW),u,v];refine cU ws Pv3 ⟨fun _ _ e _ _=>e,⟨hs,sgL R T ds,fun _=>0,eH3,hA3,F0,fun _ _=>rfl⟩,_,_,_,_,rfl⟩ (fun j σ' G' _ q=>SqL.of (q.1 _ _ eW hWp hWA)) ?_ ?_
   ·rintro j v _ G' hv hq_;walk_at"g1";obtain⟨sX,⟨hs',mm,tk,eH',hA',F,hun⟩,x1,x2,x3,x4,rfl⟩:=hq_;walk_at"g2";have hj:=(List.getElem?_eq_some_iff.mp hv).1;have hkj:ks[j]? =some ks[j]:=List.getElem?_eq_getElem (by lia);have hkm:ks[j]∈ks:=List.getElem_mem _;have hknew:=gR kn hkj;generalize ks[j]=k' at hkj hkm hknew;have hkl:k'<hs.length:=List.mem_range.mp (hkp.mem_iff.mp hkm);walk_at"g1";obtain⟨p1,r1,x1',y1',z1'⟩:=hws.get (i:=j) (List.getElem?_eq_getElem hj);walk_at"g2";rw[List.getElem?_map,hkj]at y1';cases y1';obtain rfl:v= .ref p1:=by
     rw[List.getElem?_eq_getElem hj,x1']at hv;exact(Option.some.inj hv).symm
    have z1'':G3 p1=some (.tup [.int (bG c (k':Int)),.int (k':Int)]):=z1';have hp1:G' p1=some (.tup [.int (bG c (k':Int)),.int (k':Int)]):=sX _ _ z1'' (fun w'=>by rw[w',eH3]at z1'';cases z1'') (fun z hz w'=>by rw[w',hA3 z hz]at z1'';cases z1'');have hdr0:=FV c (k':Int);have hdr1:=DU c (k':Int);generalize bG c (k':Int)=dr at hp1 hdr0 hdr1;obtain⟨o,ho⟩:∃o,hs[k']? =some o:=⟨_,List.getElem?_eq_getElem hkl⟩
    have ho':hs'[k']? =some o:=by rw[hun k' hknew];exact ho
    have hvi:(hs'.map oV)[k']? =some (oV o):=by rw[List.getElem?_map,ho'];rfl
    have hvis:((ks.take (j+1)).map fun k=>hs.getD k none)=((ks.take j).map fun k=>hs.getD k none)++[o]:=by
     rw[bF hkj,List.map_append,List.map_singleton]
     congr 2
     rw[List.getD_eq_getElem?_getD,ho];rfl
    have ekG:G' pl=some (.dK (i4 (rz.map (·.1)) fun z=> .ref (A z))):=sX _ _ ek3 (fun w'=>by rw[w',eH3]at ek3;cases ek3) (fun z hz w'=>by rw[w',hA3 z hz]at ek3;cases ek3);have stay:(∀z,o=some z->mm z=[])->∃(hs':List (Option Str)) (mm:Str->List Str) (tk:Str->Int),G' pH=some (.lst (hs'.map oV))/\(∀z∈rz.map (·.1),G' (A z)=some (.lst ((mm z).map V.str)))/\Foll (rz.map (·.1)) ds R T hs hs' ((ks.take (j+1)).map fun k=>hs.getD k none) mm tk/\∀k,k∉ks.take (j+1)->hs'[k]? =hs[k]? :=fun hmm=>by
     refine⟨hs',mm,tk,eH',hA',?_,fun k hk=>hun k fun z=>hk (by rw[bF hkj];exact List.mem_append_left _ z)⟩;rw[hvis];exact F.stay hmm
    walk_at"go";refine rX (SqL.of eH') hvi ?_;walk_at"go";cases o with
    | none =>
     walk_at"go";exact⟨sX,stay (fun z e=>nomatch e),_,_,_,_,rfl⟩
    | some z =>
     have hzr:z∈rz.map (·.1):=F.mem z (List.mem_of_getElem? ho');rw[show (!decide (oV (some z)=V.non))=true from rfl,if_pos rfl];show (_:TT) [some (.ref h),some (.ref a),some (.int T),some (.ref pH),some (.int c),some (.ref pl),some (.str z),x2,y3,some (.ref pW),some (.int dr),some (.int (k':Int))] G' _;walk_at"go";refine bL (.inl ekG) (kK hzr) ?_;walk_at"go";rename_i pZ G4 m4 T4 eZ;have hA4:=T4 _ _ (hA' z hzr);have ek4:=T4 _ _ ekG;have sX4:∀b u,G3 b=some u->b≠pH->(∀z∈rz.map (·.1),b≠A z)->G4 b=some u:=fun b u e1 e2 e3=>T4 _ _ (sX b u e1 e2 e3);refine DY (SqL.of hA4) (SqL.of eZ) ?_;walk_at"go";cases hmz:mm z with
     | nil =>
      rw[if_neg (show ¬((!(([]:List Str).map V.str).isEmpty)=true) from fun z=>by cases z)];walk_at"go";walk_at"g1";obtain⟨hs2,mm2,tk2,g1,g2,g3,g4⟩:=stay (fun y e=>by cases e;exact hmz);walk_at"g2";exact⟨sX4,⟨hs2,mm2,tk2,T4 _ _ g1,fun y hy=>T4 _ _ (g2 y hy),g3,g4⟩,_,_,_,_,rfl⟩
     | cons n0 ns0 =>
      rw[hmz]at hA4;rw[show (!((n0::ns0).map V.str).isEmpty)=true from rfl,if_pos rfl];have hml2:((n0::ns0).map V.str).length=ns0.length+1:=by rw[List.length_map];rfl
      have hmlen:ns0.length+1<=1000:=by
       have h1:=F.len z hzr;rw[hmz]at h1;have h2:=fa.lv z hzr;have h3:=LD (some z) hs;have h4:0<=bV ds tk z:=rD fun n _=>F.tk0 n;have h5:((n0::ns0).length:Int)=(ns0.length:Int)+1:=by rw[List.length_cons];lia
       lia
      walk_at"go";refine bL (.inl ek4) (kK hzr) ?_;walk_at"go";refine bL (.inl ek4) (kK hzr) ?_;walk_at"go";rename_i hi0 hi1;rw[hml2]at hi0 hi1 ⊢;generalize hie:dr/7%(((ns0.length+1:Nat)):Int)=ii at hi0 hi1 ⊢;have hil:ii.toNat<ns0.length+1:=by lia
      obtain⟨n',hn'⟩:∃n',(mm z)[ii.toNat]? =some n':=by rw[hmz];exact⟨_,List.getElem?_eq_getElem hil⟩
      have hnm:n'∈mm z:=List.mem_of_getElem? hn';walk_at"g1";obtain⟨⟨n'',st,e,lt⟩,hd,hdn⟩:=List.mem_map.mp (gK (F.sub z hzr n' hnm));walk_at"g2";have hdn:n''=n':=hdn;subst hdn;refine RH (y:= .str n'') hA4 (by
       rw[hml2];have:=OX hil
       rwa [show ((ii.toNat:Nat):Int)=ii by lia]at this) (by rw[hml2];lia) (by rw[←hmz,List.getElem?_map,hn'];rfl) fun G5 B5 e5=> ?_
      rw[←hmz,BE]at e5;have nl5:NL G3 G5:=fun b u e1 e2=>by
       have g1:b≠pH:=fun w'=>by rw[w',eH3]at e1;cases e1;exact e2 _ rfl
       have g2:∀y∈rz.map (·.1),b≠A y:=fun y hy w'=>by rw[w',hA3 y hy]at e1;cases e1;exact e2 _ rfl
       exact B5 _ _ (sX4 b u e1 g1 g2) (g2 z hzr)
      have hh5:=PZ (aU hh sH3) nl5;walk_at"g1";obtain⟨dx5,qs5,qp5,qd5,nk5,kvs5,e15,_⟩:=id hh5.ex;walk_at"g2";have eH5:G5 pH=some (.lst (hs'.map oV)):=B5 _ _ (T4 _ _ eH') (fun w'=>hAH z hzr w'.symm);walk_at"go";refine rH (d:=(n'',st,e,lt)) hh5 dnd hd fun v5 hv5=> ?_;walk_at"g1";obtain⟨q2,C2,dx2,fs2,fp2,rfl,hq2,dcC,l1,l2,l3,l4,l5,mcE,hfp,hlt⟩:=DoorAt.ex hv5;walk_at"g2";walk_at"go";obtain⟨o2,ho2,hor2⟩:∃o2,e=oV o2/\∀y,o2=some y->y∈rz.map (·.1):=by
       rcases (dhin _ hd).2 with q|⟨y,q,qm⟩
       ·exact⟨none,q,fun _ z=>nomatch z⟩
       ·exact⟨some y,q,fun y' z=>by cases z;exact qm⟩
      refine E9 (j:=k') eH5 (OX (by rw[List.length_map,F.ln];exact hkl)) fun G6 B6 e6=> ?_;rw[ho2,←List.map_set]at e6;have fg:=F.go dnd hzr ho' hd hn' ho2 hor2;refine⟨fun b u e1 e2 e3=>B6 _ _ (B5 _ _ (sX4 b u e1 e2 e3) (e3 z hzr)) e2,⟨hs'.set k' o2,wZ mm z ((mm z).eraseIdx ii.toNat),cD tk n'' (tk n''+1),e6,fun y hy=> ?_,by rw[hvis];exact fg,fun k hk=> ?_⟩,_,_,_,_,rfl⟩
      ·unfold wZ
       by_cases c:y=z
       ·rw[if_pos c,c];exact B6 _ _ e5 (hAH z hzr)
       ·rw[if_neg c];exact B6 _ _ (B5 _ _ (T4 _ _ (hA' y hy)) (fun w'=>c (hinj y hy z hzr w'))) (hAH y hy)
      ·rw[bF hkj]at hk;have hkk:k'≠k:=fun w'=>hk (w'▸List.mem_append_right _ (.head _));rw[List.getElem?_set_ne hkk];exact hun k fun w'=>hk (List.mem_append_left _ w')
   ·rintro _ G' hq_;walk_at"g1";obtain⟨sX,⟨hs',mm,tk,eH',hA',F,hun⟩,x1,x2,x3,x4,rfl⟩:=hq_;walk_at"g2";have hvv:∀z,cO (some z) ((ks.take ws.length).map fun k=>hs.getD k none)=cO (some z) hs:=fun z=>by
     rw[wl,List.take_length,UH (hkp.map _),L6]
    obtain⟨he,hc1,hc2⟩:=F.end (fun d hd=>(dhin d hd).1) dnd hvv fa.lv;have ekG:G' pl=some (.dK (i4 (rz.map (·.1)) fun z=> .ref (A z))):=sX _ _ ek3 (fun w'=>by rw[w',eH3]at ek3;cases ek3) (fun z hz w'=>by rw[w',hA3 z hz]at ek3;cases ek3);refine nO ekG (fun _ _ z=>by cases z) ?_;walk_at"go";refine sM ekG fun o H8 B8 e8=> ?_;have hA8:∀z∈rz.map (·.1),H8 (A z)=some (.lst []):=fun z hz=>by
     have h1:=hA' z hz;rw[he z hz]at h1;exact B8 _ _ h1 (fun w'=>by rw[w',ekG]at h1;cases h1)
    refine FM (fun _=>false) (fun _ _ _=>True) (fun _ _ _ _ h _=>h) (by rw[wR,List.length_map,sizeLine_eq];lia) (rest:=[some (.ref pl)]) (by rfl) e8 ?_ (fun _ _ _ hc=>by cases hc) ?_
    ·rintro ⟨kk,v⟩ H9 hm s9 R' hR;obtain⟨z,hz,e⟩:=List.mem_map.mp hm;cases e;show (_:TT) [some (.str z),some (.ref pl)] H9 R';walk_at"go";refine bL (.inr ⟨o,s9 _ _ e8⟩) (kK hz) ?_;walk_at"go";rename_i pE H10 m10 T10 eE;refine DY (SqL.of ((s9.trans T10) _ _ (hA8 z hz))) (SqL.of eE) ?_;walk_at"go";exact hR _ T10
    intro ys H9 s9 hys;rw[List.filter_eq_nil_iff.mpr (fun _ _=>Bool.false_ne_true)]at hys;obtain rfl:ys=[]:=by cases hys;rfl
    walk_at"go";rename_i pF H10 m10 T10 eF;have eo:H10 pl=some (.frz o _):=(s9.trans T10) _ _ e8;refine jC eo fun H11 B11 e11=> ?_;have hFl:pF≠pl:=fun w'=>by rw[w',s9 _ _ e8]at m10;cases m10
    walk_at"go";rename_i pE H12 m12 T12 eE;refine YA (SqL.of (T12 _ _ (B11 _ _ eF hFl))) (SqL.of eE) ?_;have fin:∀b u,G' b=some u->b≠pl->H12 b=some u:=fun b u e1 e2=>T12 _ _ (B11 _ _ (T10 _ _ (s9 _ _ (B8 _ _ e1 e2))) e2);refine k _ (.mk hs' (fun b u e hb=> ?_) (fin _ _ eH' (fun w'=>by rw[w',ekG]at eH';cases eH')) F.ln F.mem hc1 hc2);have hbl:b≠pl:=fun w'=>by rw[w',n1]at e;cases e
    exact fin b u (sX b u (sH3 _ _ e) hb (fun z hz w'=>by have:=(hA z hz).2;rw[←w',e]at this;cases this)) hbl
theorem xO (m:M K mg):Fc P w K mg base "_law_followed" 8 ["_law_house_here","_law_plan","_law_turn","_law_heads","_law_cell"] (zA K m.aL (aO P w K mg base (some 4))):=⟨_,_,m.zO,m.gD.F.kp,m.gD.b,xS m⟩
theorem oV_inj {a b:Option Str}:oV a=oV b↔a=b:=by
 constructor
 ·intro h;cases a with
  | none=>cases b with
   | none=>rfl
   | some y=>cases h
  | some x=>cases b with
   | none=>cases h
   | some y=>cases h;rfl
 ·intro h;rw[h]
theorem XX (a:Option Str)(hs:List (Option Str)):(((hs.map oV).filter fun x=>decide (x=oV a)).length:Int)=cO a hs:=by
 unfold cO;rw[←List.countP_eq_length_filter,List.countP_map]
 congr 2
 funext o
 show decide (oV o=oV a)=decide (o=a)
 by_cases h:o=a
 ·rw[decide_eq_true h,decide_eq_true (by rw[h])]
 ·rw[decide_eq_false h,decide_eq_false (fun z=>h (oV_inj.mp z))]
def hdF (ps:List (Str×Int))(rs:List Str):List (Option Str):=rs.flatMap fun z=>List.replicate (cQ ps z).toNat (some z)
theorem D7 (a o:Option Str):∀k:Nat,cO a (List.replicate k o)=if o=a then (k:Int) else 0
 | 0=>by split<;>rfl
 | k+1=>by
  rw[List.replicate_succ,fW,D7 a o k]
  split<;>lia
theorem JJ (ps:List (Str×Int)):∀rs:List Str,cO none (hdF ps rs)=0
 | []=>rfl
 | z::rs=>by
  have:=JJ ps rs;unfold hdF at this ⊢;rw[List.flatMap_cons,rQ,D7,if_neg (fun e=>nomatch e),this];rfl
theorem N1 {ps:List (Str×Int)}{rs:List Str}{z:Str} (h:some z∈hdF ps rs):z∈rs:=by
 unfold hdF at h;obtain⟨y,hy,h⟩:=List.mem_flatMap.mp h;cases (List.mem_replicate.mp h).2;exact hy
theorem VO {o:Option Str}{hs:List (Option Str)} (h:o∉hs):cO o hs=0:=by
 unfold cO;rw[List.countP_eq_zero.mpr fun y hy=>by
  rw[decide_eq_true_eq];exact fun z=>h (z▸hy)]
 rfl
theorem IK {ps:List (Str×Int)}(h0:∀z,0<=cQ ps z){z:Str}:∀{rs:List Str},rs.Nodup->z∈rs->cO (some z) (hdF ps rs)=cQ ps z
 | y::rs,nd,hz=>by
  have nd':=List.nodup_cons.mp nd;have e:hdF ps (y::rs)=List.replicate (cQ ps y).toNat (some y)++hdF ps rs:=by
   unfold hdF;rw[List.flatMap_cons]
  rw[e,rQ,D7];have hy:=h0 y
  by_cases c:y=z
  ·subst c;rw[if_pos rfl,VO fun h=>nd'.1 (N1 h)]
   lia
  ·rw[if_neg (fun e=>c (Option.some.inj e)),IK h0 nd'.2 ((List.mem_cons.mp hz).resolve_left fun e=>c e.symm)]
   lia
theorem EO {ps:List (Str×Int)}:∀{rs:List Str},(∀z∈rs,cQ ps z<=6)->(hdF ps rs).length<=6 * rs.length
 | [],_=>Nat.le_refl _
 | y::rs,h=>by
  have e:hdF ps (y::rs)=List.replicate (cQ ps y).toNat (some y)++hdF ps rs:=by
   unfold hdF;rw[List.flatMap_cons]
  have:=EO (rs:=rs) fun z hz=>h z (List.mem_cons_of_mem _ hz);have:=h y (.head _);rw[e,List.length_append,List.length_replicate,List.length_cons]
  lia
theorem V1 (ps:List (Str×Int))(rs:List Str)(z:Str):(hdF ps (rs++[z])).map oV=(hdF ps rs).map oV++(List.replicate (cQ ps z).toNat z).map V.str:=by
 unfold hdF;rw[List.flatMap_append,List.map_append,List.flatMap_cons,List.flatMap_nil,List.append_nil,List.map_replicate,List.map_replicate];rfl
theorem R0 {ds:List aD}{f l:Int}{R:List aH} (h:∀r∈R,f<=r.1):jT ds f l R f=0:=by
 unfold jT;rw[List.filter_eq_nil_iff.mpr (fun r hr=>by
  have:=h r (List.mem_filter.mp hr).1;rw[Bool.and_eq_true,decide_eq_true_eq];exact fun y=>by have:=y.1;lia)]
 rfl
structure IH (rz ps:List (Str×Int))(ds:List aD)(f l t:Int)(R:List aH)(hs:List (Option Str)):Prop where
 dh:gJ rz ps ds f l
 rl:R.length<=64
 hl:hs.length<=30
 h0:f<=t
 h1:t<=l
 inn:∀z∈rz.map (·.1),cO (some z) hs=dQ ps (goL ds f l R) (goC ds f l R) z f (t - f).toNat
 out:cO none hs=jT ds f l R t
inductive sT (K:PySem.W.Frag)(C:Addr)(D:bD)(vs:List V)(H:Hp)(Q:VK)(E:XK):Prop
 | mk (h a pH:Addr) (f l t:Int) (rz ps:List (Str×Int)) (ds:List aD) (us:List V) (R:List aH) (hs:List (Option Str)) (_:vs=[.ref h,.ref a,.int t,.ref pH]) (_:aR C D H h f l rz ps ds) (_:SqL K H a us) (_:bY H us R) (_:H pH=some (.lst (hs.map oV))) (_:IH rz ps ds f l t R hs) (_:∀H',Same H H'->Q (.bl true) H'):sT K C D vs H Q E
theorem WS {C:Addr}{D:bD}{H:Hp}{Q:VK}{E:XK}{h a pH:Addr}{f l t:Int}{rz ps:List (Str×Int)}{ds:List aD}{us:List V}{R:List aH}{hs:List (Option Str)} (hh:aR C D H h f l rz ps ds) (hS:SqL K H a us) (hp:bY H us R) (eH:H pH=some (.lst (hs.map oV))) (ra:IH rz ps ds f l t R hs) (k:∀H',Same H H'->Q (.bl true) H'):sT K C D [.ref h,.ref a,.int t,.ref pH] H Q E:=⟨_,_,_,_,_,_,_,_,_,_,_,_,rfl,hh,hS,hp,eH,ra,k⟩
theorem C5 (m:M K mg):FnOk P w K mg base CX0 8 m.o7 m.j7.d ["_law_house_here","_law_plan","_law_turn","_law_heads"] (sT K m.aL (aO P w K mg base (some 4))):=by
 refine m.j7.F.ok sc__law_right (fun vs H Q E h=> ?_) (fun cdv A outer s H vs Q E hr h=> ?_)
 ·walk_at"g1";obtain⟨h,a,pH,f,l,t,rz,ps,ds,us,R',hs,rfl,hh,hS,hpl,eH,ra,k⟩:=h;walk_at"g2";rfl
 ·walk_at"g1";obtain⟨h,a,pH,f,l,t,rz,ps,ds,us,R',hs,rfl,hh,hS,hpl,eH,ra,k⟩:=h;walk_at"g2";have nd:=sc__law_right.nd;walk_at"hu";have F_out_by:= @OW P w K mg base m;have F_there:= @P0 P w K mg base m;have w_dc_House:=m.aY;have w_mc_House_rooms:= @fF P w K mg base m;refine⟨_,(aC (aQ (i:=4) nd rfl (by walk_at"oi") (bK F_there hr (aA (pv 0) (aA (pv 1) aB))))
   (aC (cG PassesOwn.never rfl (bI (fT 1 hr (pv 0))) (aK (i:=5) nd rfl (by walk_at"oi")) (aE (cF (bC aAE (bM dC rfl m.hJ fK (aA (bW (N:=["_law_head","_law_room"]) (nl:=1) (ci:=[5]) rfl (blk (s.heap.objs.size+1) rfl rfl rfl (by kernel_rfl)) (bI (pv 3)) (fun _ _ _ _=>(aK (i:=0) (show (["_law_head","_law_room"]:List Str).Nodup by decide +kernel) rfl (by walk_at"oi"))) (fun _ _ _ _=>(gH (bC gU (pv 0) (pv 1) (bH _)))) (fun _ _ _ _=>(pv 0))) aB)) (bT hu1 (pv 4) (dM (aA (pv 5) (aA (pv 2) aB))) (fun _ _=>rfl)) (bH _)) (aE (aT vJ)) bP)))
   (aE (aT (nA gU (bM dC rfl m.hJ fK (aA (bW (N:=["_law_head"]) (nl:=1) (ci:=[]) rfl (blk (s.heap.objs.size+1) rfl rfl rfl (by kernel_rfl)) (bI (pv 3)) (fun _ _ _ _=>(aK (i:=0) (show (["_law_head"]:List Str).Nodup by decide +kernel) rfl (by walk_at"oi"))) (fun _ _ _ _=>(gH (bC OV (pv 0) oI (bH _)))) (fun _ _ _ _=>(pv 0))) aB)) (bK F_out_by hr (aA (pv 0) (aA (pv 1) (aA (pv 2) aB)))) (bH _)))))),?_⟩
  refine aM (σ:=[some (.ref h),some (.ref a),some (.int t),some (.ref pH),none,none]) rfl ?_;walk_at"cx";walk_at"g1";obtain⟨dnr,dnd,dhin,dlt,hpr,dfit,dsz,dlr,dlp,dld,df0,df1,df2,df3⟩:=id ra.dh;walk_at"g2";walk_at"g1";obtain⟨dh,rl,hl,h0,h1,hin,hout⟩:=ra;walk_at"g2";walk_at"g1";obtain⟨dx,qs,qp,qd,nk,kvs,e1,_⟩:=id hh.ex;walk_at"g2";have hml:(hs.map oV).length=hs.length:=List.length_map ..;walk_at"go";refine⟨_,_,_,_,_,_,_,_,_,rfl,hh,dnr,dnd,dhin,df0,df1,(by lia),(by lia),(by lia),hS,hpl,(by lia),fun pI H5 n5 S5 eI=> ?_⟩;have e15:=S5 _ _ e1;walk_at"go";refine jF (aU hh S5) fun pR H6 n6 S6 eR=> ?_;have s06:=S5.trans S6;have eI6:=S6 _ _ eI;walk_at"go";let Pv1:Nat->St->Hp->Prop:=fun i σ' G=>Same H6 G/\∃x,σ'=[some (.ref h),some (.ref a),some (.int t),some (.ref pH),some (.ref pI),x];refine cU ((rz.map (·.1)).map V.str) Pv1 ⟨Same.refl _,_,rfl⟩ (fun i σ' G _ q=>SqL.of (q.1 _ _ eR)) ?_ ?_
  ·rintro i x _ G hx ⟨sG,y1,rfl⟩;rw[List.getElem?_map]at hx;obtain⟨z,hz,rfl⟩:=Option.map_eq_some_iff.mp hx;have hzm:z∈rz.map (·.1):=List.mem_of_getElem? hz;have s0G:=s06.trans sG;walk_at"go";refine BZ (fun x=>decide (x=oV (some z))) (by rw[hml,sizeLine_eq];lia) (rest:=[some (.str z)]) (by rfl) (SqL.of (s0G _ _ eH)) ?_ ?_
   ·intro x G1 hx s1 R hR;obtain⟨o,_,rfl⟩:=List.mem_map.mp hx;cases o with
    | none =>
     show (_:TT) [some .non,some (.str z)] G1 R;walk_at"go";exact hR _ (Same.refl _)
    | some y =>
     have e:decide (oV (some y)=oV (some z))=decide (y=z):=by
      by_cases c:y=z
      ·rw[c,decide_eq_true rfl,decide_eq_true rfl]
      ·rw[decide_eq_false c,decide_eq_false (fun q=>c (Option.some.inj (oV_inj.mp q)))]
     rw[e]at hR;show (_:TT) [some (.str y),some (.str z)] G1 R;walk_at"go";exact hR _ (Same.refl _)
   intro G1 s1;have hv:=E6 (ps:=ps) (L:=goL ds f l R') (C:=goC ds f l R') (f:=f) (nF dnr f (l+1 - f).toNat) (p:=(z,t)) (pairsN_mem.mpr ⟨hzm,(t - f).toNat,by lia,by lia⟩);have eIG:=(sG.trans s1) _ _ eI6;walk_at"go";rename_i pF G2 m2 T2 e2 qk G4 m4 T4 e4k;refine EH (aX (z,t)) (.inl (T4 _ _ (T2 _ _ eIG))) e4k hv ?_;have hq:=XX (some z) hs;rw[hin z hzm]at hq;rw[show dQ ps (goL ds f l R') (goC ds f l R') ((z,t):Str×Int).1 f (((z,t):Str×Int).2 - f).toNat=dQ ps (goL ds f l R') (goC ds f l R') z f (t - f).toNat from rfl,←hq];walk_at"go";exact⟨sG.trans (s1.trans (T2.trans T4)),_,rfl⟩
  ·rintro _ G ⟨sG,y1,rfl⟩;have s0G:=s06.trans sG;have e1G:=s0G _ _ e1;walk_at"go";refine BZ (fun x=>decide (x=oV none)) (by rw[hml,sizeLine_eq];lia) (rest:=[]) (by rfl) (SqL.of (s0G _ _ eH)) ?_ ?_
   ·intro x G1 hx s1 R hR;show (_:TT) [some x] G1 R;walk_at"go";exact hR _ (Same.refl _)
   intro G1 s1;have hq:=XX none hs;rw[hout]at hq;walk_at"go";rename_i pF G2 m2 T2 e2;have s02:=s0G.trans (s1.trans T2);refine U0 (aU hh s02) dnd dhin (s02.seq hS) (dI hpl s02) (by lia) fun G3 T3=> ?_;rw[←hq];walk_at"go";rw[decide_eq_true rfl];exact k _ (s02.trans T3)
theorem DC (m:M K mg):Fc P w K mg base "_law_right" 8 ["_law_house_here","_law_plan","_law_turn","_law_heads"] (sT K m.aL (aO P w K mg base (some 4))):=⟨_,_,m.GN,m.j7.F.kp,m.j7.b,C5 m⟩
inductive uC (K:PySem.W.Frag)(PL:Addr)(vs:List V)(H:Hp)(Q:VK)(E:XK):Prop
 | mk (a:Addr) (ns:List Int) (_:vs=[.ref a]) (_:SqL K H a (ns.map V.int)) (_:ns.length<=63) (_:H PL=some (.tbl #[])) (_:∀H',Q (.bl true) H'):uC K PL vs H Q E
theorem aAi (m:M K mg){cL PL:Addr}(hcL:m.dW.code= .ref cL)(hCL:PySem.W.CodeHd base cL PL)(hBL:base.BuiltinsAt mg PL):FnOk P w K mg base CX0 20 m.LT m.LV ["_law_script"] (uC K PL):=by
 refine m.aBn.ok sc_law (fun vs H Q E h=> ?_) (fun cdv A outer s H vs Q E hr h=> ?_)
 ·walk_at"g1";obtain⟨a,ns,rfl,hS,hlen,hPL,k⟩:=h;walk_at"g2";rfl
 ·walk_at"g1";obtain⟨a,ns,rfl,hS,hlen,hPL,k⟩:=h;walk_at"g2";have nd:=sc_law.nd;walk_at"hu";have F__law_cell_at:= @jQ P w K mg base m;have F__law_followed:= @xO P w K mg base m;have F__law_house:=C0 (P:=P) (w:=w) (base:=base) m hcL hCL hBL;have F__law_lawful:= @AA P w K mg base m;have F__law_right:= @DC P w K mg base m;have w_dc_House:=m.aY;have w_mc_House_rooms:= @fF P w K mg base m;have w_mc_House_found:= @kR P w K mg base m;refine⟨_,(aC (aQ (i:=1) nd rfl (by walk_at"oi") (bK F__law_cell_at hr (aA (pv 0) (aA aF aB))))
   (aC (aQ (i:=2) nd rfl (by walk_at"oi") (dH gT (dO (aA (aI bN (aI d8 (pv 1) aF) aF) (aA (aI bN (aI d8 (pv 1) aF) (VJ 100000000000 (by decide) ⟨by decide,by decide,by decide⟩)) aB))) (lK OM rfl m.TW N3 (aA (nA gU (aI bN (aI d8 (pv 1) aF) aF) aF (bH _)) aB)) (fun _ _=>rfl)))
   (aC (aQ (i:=3) nd rfl (by walk_at"oi") (bK F__law_house hr (aA (pv 0) (aA (pv 2) (aA (aI bS (pv 2) (aI bN (pv 1) aF)) aB)))))
   (aC (aQ (i:=4) nd rfl (by walk_at"oi") (bK F__law_lawful hr (aA (pv 3) (aA (nW UY (pv 0) (mW aF) (mW aF)) aB))))
   (aC (aQ (i:=5) nd rfl (by walk_at"oi") (dO aB))
   (aC (cG PassesOwn.never rfl (bI (fT 1 hr (pv 3))) (aK (i:=6) nd rfl (by walk_at"oi")) (aE (aQ (i:=5) nd rfl (by walk_at"oi") (aI zK (pv 5) (aI M8 (dO (aA (pv 6) aB)) (dL 3 hr (pv 3) (aA (pv 6) aB)))))))
   (aC (cG PassesOwn.never rfl (uM rfl m.hG (aA (bA (pv 3) rfl) (aA (bA (pv 3) rfl) aB))) (aK (i:=7) nd rfl (by walk_at"oi")) (aC (cF (oN (iL (bK F__law_followed hr (aA (pv 3) (aA (pv 4) (aA (pv 7) (aA (pv 5) (aA (bK F__law_cell_at hr (aA (pv 0) (aA (aI jW (aI bS aF (pv 7)) (bA (pv 3) rfl)) aB))) aB)))))))) (aE (aT vJ)) bP)
   (aE (cF (oN (iL (bK F__law_right hr (aA (pv 3) (aA (pv 4) (aA (aI bS (pv 7) aF) (aA (pv 5) aB))))))) (aE (aT vJ)) bP))))
   (aE (aT vJ))))))))),?_⟩
  refine aM (σ:=[some (.ref a),none,none,none,none,none,none,none]) rfl ?_;walk_at"cx";walk_at"go";rename_i pF H1 n1 S1 eF f hf;generalize hcc:lC ns 1=c at hf ⊢;refine RZ (S1.seq hS) (by lia) (by lia) (by lia) (by lia) (.inl (S1 _ _ hPL)) fun h H2 rz ps ds T2 hh dh=> ?_;have hS2:SqL K H2 a (ns.map V.int):=T2.seq (S1.seq hS);walk_at"g1";obtain⟨dx,qs,qp,qd,nk,kvs,e1,_⟩:=id hh.ex;walk_at"g2";walk_at"go";rename_i pc H3 n3 S3 ec;have f0:=dh.f0;have f2:=dh.f2;have f3:=dh.f3;generalize hl:f+c%9=l at hh dh e1 f2;have f1:=dh.f1;have hS3:=S3.seq hS2;have e13:=S3 _ _ e1;refine PU (aU hh S3) dh (SqL.of ec) fun p H4 hX=> ?_;walk_at"g1";obtain⟨us,R,I,n4,S4,ep,hpl,hL⟩:=hX;walk_at"g2";have rl:=hL.len;have rl':R.length<=64:=by lia
  have s24:=S3.trans S4;have hS4:=S4.seq hS3;have e14:=s24 _ _ e1;have hh4:=aU hh s24;have lr:=dh.lr;have p6:∀z∈rz.map (·.1),cQ ps z<=6:=fun z hz=>by
   obtain⟨e,he,rfl⟩:=List.mem_map.mp hz;have h1:=dh.fit.2 e he;have h2:=(dh.sz e he).2
   lia
  have p0:∀z,0<=cQ ps z:=fun z=>JM dh.fit.1 z;have nm:∀r∈R,r.2.1∈ds.map (·.1)/\f<=r.1/\r.1<l:=fun r hr=>by
   have h1:=hL.tm r hr;exact⟨hL.nm r hr,h1.1,by lia⟩
  clear ec;walk_at"go";rename_i pH0 H5 n5 S5 eH0;refine jF (aU hh4 S5) fun pR H6 n6 S6 eR=> ?_;have eH6:=S6 _ _ eH0;have hRH:pR≠pH0:=fun z=>by rw[z,eH0]at n6;cases n6
  walk_at"go";let Pv1:Nat->St->Hp->Prop:=fun i σ' G=>Same H6 G/\(∃pH,H4 pH=none/\G pH=some (.lst ((hdF ps ((rz.map (·.1)).take i)).map oV))/\∃x,σ'=[some (.ref a),some (.int c),some (.int f),some (.ref h),some (.ref p),some (.ref pH),x,none]);refine cU ((rz.map (·.1)).map V.str) Pv1 ⟨Same.refl _,pH0,n5,by rw[eH6];rfl,_,rfl⟩ (fun i σ' G _ q=>SqL.of (q.1 _ _ eR)) ?_ ?_
  ·rintro i x _ G hx hq_;walk_at"g1";obtain⟨sG,pH,nH,eH,y1,rfl⟩:=hq_;walk_at"g2";rw[List.getElem?_map]at hx;obtain⟨z,hz,rfl⟩:=Option.map_eq_some_iff.mp hx;have hzm:z∈rz.map (·.1):=List.mem_of_getElem? hz;have s4G:=S5.trans (S6.trans sG);have e1G:=s4G _ _ e14;have hp0:=p0 z;have hp6:=p6 z hzm;have hdl:=EO (ps:=ps) (rs:=(rz.map (·.1)).take i) fun z hz=>p6 z (List.mem_of_mem_take hz);rw[List.length_take,List.length_map]at hdl;walk_at"go";rename_i p2 G1 m1 T1 e1';refine A0 (aU hh4 (s4G.trans T1)) dh.nr hzm fun G2 T2=> ?_;walk_at"go";refine zU (T2 _ _ e1') (by lia) (by lia) (by rw[sizeLine_eq];show 1 * _<=_;lia) fun p3 G3 m3 T3 e3=> ?_;rw[EJ]at e3;have sG3:=T1.trans (T2.trans T3);refine AI (sG3 _ _ eH) e3 (by rw[sizeLine_eq,List.length_map,List.length_map,List.length_replicate];lia) fun p4 G4 m4 T4 e4=> ?_;walk_at"go";rw[←V1,←bF hz]at e4;exact⟨sG.trans (sG3.trans T4),p4,pV (s4G.trans sG3) m4,e4,_,rfl⟩
  ·rintro _ G hq_;walk_at"g1";obtain⟨sG,pH,nH,eH,y1,rfl⟩:=hq_;walk_at"g2";rw[List.length_map,List.take_length]at eH;have s4G:=S5.trans (S6.trans sG);have e1G:=s4G _ _ e14;walk_at"go";let Pv2:Nat->St->Hp->Prop:=fun i σ' G'=>Same H4 G'/\(∃hs:List (Option Str),G' pH=some (.lst (hs.map oV))/\hs.length<=30/\(∀z,some z∈hs->z∈rz.map (·.1))/\(∀z∈rz.map (·.1),cO (some z) hs=dQ ps (goL ds f l R) (goC ds f l R) z f i)/\cO none hs=jT ds f l R (f+(i:Int)))/\∃x,σ'=[some (.ref a),some (.int c),some (.int f),some (.ref h),some (.ref p),some (.ref pH),y1,x];refine rG Pv2 ⟨s4G,⟨hdF ps (rz.map (·.1)),eH,?_,fun z hz=>N1 hz,fun z hz=>IK p0 dh.nr hz,?_⟩,_,rfl⟩ ?_ ?_
   ·have:=EO (ps:=ps) p6;rw[List.length_map]at this
    lia
   ·rw[JJ,show f+((0:Nat):Int)=f by lia,R0 fun r hr=>(nm r hr).2.1]
   ·rintro i _ G' hi hq_;walk_at"g1";obtain⟨s',⟨hs,eH',hl',hmem,hin,hout⟩,x1,rfl⟩:=hq_;walk_at"g2";have hT:f+(i:Int)<l:=by lia
    have e1':=s' _ _ e14;have hS':=s'.seq hS4;have fa:FolAt rz ps ds f l (f+(i:Int)) R hs:=⟨dh,nm,hL.ps0,rl',hl',hmem,fun z hz=>by
     rw[hin z hz,←AR dh.nd z nm];exact hL.lv i (by lia) z hz⟩
    walk_at"go";refine aA5 (aU hh4 s') fa (SqL.of (s' _ _ ep)) (dI hpl s') eH' fun G1 hX=> ?_;walk_at"g1";obtain⟨hs',B1,e1H,hl1,hm1,hc1,ho1⟩:=hX;walk_at"g2";have s1:Same H4 G1:=SameBut.same nH s' B1;have e11:=s1 _ _ e14;have hin1:∀z∈rz.map (·.1),cO (some z) hs'=dQ ps (goL ds f l R) (goC ds f l R) z f (i+1):=fun z hz=>by
     rw[hc1,hin z hz,←AR dh.nd z nm,←IV dh.nd z nm];rfl
    have hout1:cO none hs'=jT ds f l R (f+((i+1:Nat):Int)):=by
     rw[ho1,hout,show f+((i+1:Nat):Int)=f+(i:Int)+1 by lia,IM dh.nd nm]
    walk_at"go";refine WS (aU hh4 s1) (SqL.of (s1 _ _ ep)) (dI hpl s1) e1H ⟨dh,rl',by lia,by lia,by lia,fun z hz=> ?_,?_⟩ fun G2 T2=> ?_
    ·rw[hin1 z hz,show (f+(i:Int)+1 - f).toNat=i+1 by lia]
    ·rw[hout1,show f+((i+1:Nat):Int)=f+(i:Int)+1 by lia]
    walk_at"go";exact⟨s1.trans T2,⟨hs',T2 _ _ e1H,by lia,hm1,hin1,hout1⟩,_,rfl⟩
   ·rintro _ G' hq_;walk_at"g1";obtain⟨s',_,x1,rfl⟩:=hq_;walk_at"g2";walk_at"go";exact k _
end
theorem all_mk {l:PySem.W.OpenLaw}{w:World}{K:PySem.W.Frag}{h:Heap}{mg:Str->Option Value}{fa:Addr} (X:K.In h) (G:h.Ns mainGlobals mg) (hfa:mg "law" =some (.ref fa))
  {f0:Addr}
  {f1:Addr}
  {f2:Addr}
  {f3:Addr}
  {f4:Addr}
  {f5:Addr}
  {f6:Addr}
  {f7:Addr}
  {f8:Addr}
  {f9:Addr}
  {f10:Addr}
  {f11:Addr}
  {f12:Addr}
  {f13:Addr}
  {f14:Addr}
  {f15:Addr}
  {f16:Addr}
  {f17:Addr}
  {f18:Addr}
  {f19:Addr}
  {f20:Addr}
  {f21:Addr}
  {f22:Addr}
  {f23:Addr}
  {f24:Addr}
  {f25:Addr}
  {f26:Addr}
  {f27:Addr}
  {f28:Addr}
  {C29:Addr}
  {C30:Addr}
  {C31:Addr}
  {C32:Addr}
  {C33:Addr}
  {C34:Addr}
  {f35:Addr}
  {f36:Addr}
  {f37:Addr}
  {f38:Addr}
  {f39:Addr}
  {f40:Addr}
  {f41:Addr}
  {f42:Addr}
  {f43:Addr}
  {f44:Addr}
  {f45:Addr}
  {f46:Addr}
  {f47:Addr}
  {f48:Addr}
  {f49:Addr}
  {f50:Addr}
  {f51:Addr}
  {f52:Addr}
  {f53:Addr}
  {f54:Addr}
  {f55:Addr}
  {f56:Addr}
  {zaa zab:Option Addr}{zac:Array (Option Value)}{zad zae zaf zag zah zai:Value}
  {zaj zak:Option Addr}{zal:Array (Option Value)}{zam zan zao zap zaq zar:Value}
  {zas zat:Option Addr}{zau:Array (Option Value)}{zav zaw zax zay zaz zba:Value}
  {T84:Addr}
  {zbb:Tok}
  {zbc:Value}{zbd:Option Addr}{zbe:Nat}{zbf:Array (Option Value)}
  {zbg zbh:Option Addr}{zbi:Array (Option Value)}{zbj zbk zbl zbm zbn zbo:Value}
  {T99:Addr}
  {zbp:Tok}
  {zbq:Value}{zbr:Option Addr}{zbs:Nat}{zbt:Array (Option Value)}
  {zbu zbv:Option Addr}{zbw:Array (Option Value)}{zbx zby zbz zca zcb zcc:Value}
  {zcd:Addr}
  {zce:Tok}
  {zcf:Value}{zcg:Option Addr}{zch:Nat}{zci:Array (Option Value)}
  {zcj:Tok}
  (y0:PySem.W.nsIn K mainGlobals "added_up" =some (some (.ref f0)))
  (y1:PySem.W.nsIn K mainGlobals "as_told" =some (some (.ref f1)))
  (y2:PySem.W.nsIn K mainGlobals "rows_that_count" =some (some (.ref f2)))
  (y3:PySem.W.nsIn K mainGlobals "leaving" =some (some (.ref f3)))
  (y4:PySem.W.nsIn K mainGlobals "coming" =some (some (.ref f4)))
  (y5:PySem.W.nsIn K mainGlobals "there" =some (some (.ref f5)))
  (y6:PySem.W.nsIn K mainGlobals "out_by" =some (some (.ref f6)))
  (y7:PySem.W.nsIn K mainGlobals "signs" =some (some (.ref f7)))
  (y8:PySem.W.nsIn K mainGlobals "is_whole" =some (some (.ref f8)))
  (y9:PySem.W.nsIn K mainGlobals "is_name" =some (some (.ref f9)))
  (y10:PySem.W.nsIn K mainGlobals "need_name" =some (some (.ref f10)))
  (y11:PySem.W.nsIn K mainGlobals "need_whole" =some (some (.ref f11)))
  (y12:PySem.W.nsIn K mainGlobals "need_turns" =some (some (.ref f12)))
  (y13:PySem.W.nsIn K mainGlobals "need_each_once" =some (some (.ref f13)))
  (y14:PySem.W.nsIn K mainGlobals "rooms_spoken_of" =some (some (.ref f14)))
  (y15:PySem.W.nsIn K mainGlobals "need_rooms" =some (some (.ref f15)))
  (y16:PySem.W.nsIn K mainGlobals "added_people" =some (some (.ref f16)))
  (y17:PySem.W.nsIn K mainGlobals "need_space" =some (some (.ref f17)))
  (y18:PySem.W.nsIn K mainGlobals "_law_cell_at" =some (some (.ref f18)))
  (y19:PySem.W.nsIn K mainGlobals "_law_drawn" =some (some (.ref f19)))
  (y20:PySem.W.nsIn K mainGlobals "_law_name" =some (some (.ref f20)))
  (y21:PySem.W.nsIn K mainGlobals "_law_door" =some (some (.ref f21)))
  (y22:PySem.W.nsIn K mainGlobals "_law_house" =some (some (.ref f22)))
  (y23:PySem.W.nsIn K mainGlobals "_law_excess" =some (some (.ref f23)))
  (y24:PySem.W.nsIn K mainGlobals "_law_numbers" =some (some (.ref f24)))
  (y25:PySem.W.nsIn K mainGlobals "_law_lawful" =some (some (.ref f25)))
  (y26:PySem.W.nsIn K mainGlobals "_law_followed" =some (some (.ref f26)))
  (y27:PySem.W.nsIn K mainGlobals "_law_right" =some (some (.ref f27)))
  (y28:PySem.W.nsIn K mainGlobals "law" =some (some (.ref f28)))
  (y29:PySem.W.nsIn K mainGlobals "Door" =some (some (.ref C29)))
  (y30:PySem.W.nsIn K mainGlobals "Since" =some (some (.ref C30)))
  (y31:PySem.W.nsIn K mainGlobals "Until" =some (some (.ref C31)))
  (y32:PySem.W.nsIn K mainGlobals "Beat" =some (some (.ref C32)))
  (y33:PySem.W.nsIn K mainGlobals "Told" =some (some (.ref C33)))
  (y34:PySem.W.nsIn K mainGlobals "House" =some (some (.ref C34)))
  (y35:Mk K C29 f35)
  (y36:Mk K C30 f38)
  (y37:Mk K C31 f40)
  (y38:Mk K C32 f42)
  (y39:Mk K C33 f44)
  (y40:Mk K C34 f46)
  (y41:Meth K C29 "lets" f36)
  (y42:Meth K C29 "is_exit" f37)
  (y43:Meth K C30 "lets" f39)
  (y44:Meth K C30 "is_exit" f37)
  (y45:Meth K C31 "lets" f41)
  (y46:Meth K C31 "is_exit" f37)
  (y47:Meth K C32 "lets" f43)
  (y48:Meth K C32 "is_exit" f37)
  (y49:Meth K C33 "lets" f45)
  (y50:Meth K C33 "is_exit" f37)
  (y51:Meth K C34 "rooms" f47)
  (y52:Meth K C34 "doors" f48)
  (y53:Meth K C34 "need_room" f49)
  (y54:Meth K C34 "holds" f50)
  (y55:Meth K C34 "found" f51)
  (y56:Meth K C34 "into" f52)
  (y57:Meth K C34 "from_room" f53)
  (y58:Meth K C34 "door" f54)
  (y59:Meth K C34 "lets" f55)
  (y60:Meth K C34 "pairs" f56)
  (y61:FnL K "added_up" "added_up" sU f0)
  (y62:FnL K "as_told" "as_told" uJ f1)
  (y63:FnL K "rows_that_count" "rows_that_count" hV f2)
  (y64:FnL K "leaving" "leaving" uO f3)
  (y65:FnL K "coming" "coming" wP f4)
  (y66:FnL K "there" "there" AF f5)
  (y67:FnL K "out_by" "out_by" xM f6)
  (y68:FnL K "signs" "signs" zV f7)
  (y69:FnL K "is_whole" "is_whole" sL f8)
  (y70:FnL K "is_name" "is_name" uR f9)
  (y71:FnL K "need_name" "need_name" qP f10)
  (y72:FnL K "need_whole" "need_whole" nX f11)
  (y73:FnL K "need_turns" "need_turns" nR f12)
  (y74:FnL K "need_each_once" "need_each_once" iU f13)
  (y75:FnL K "rooms_spoken_of" "rooms_spoken_of" iC f14)
  (y76:FnL K "need_rooms" "need_rooms" nZ f15)
  (y77:FnL K "added_people" "added_people" kN f16)
  (y78:FnL K "need_space" "need_space" nD f17)
  (y79:FnL K "_law_cell_at" "_law_cell_at" kP f18)
  (y80:FnL K "_law_drawn" "_law_drawn" nN f19)
  (y81:FnL K "_law_name" "_law_name" qQ f20)
  (y82:K.lookup f21=some ⟨zad,zaa,.func (PySem.W.fnOf "_law_door" "_law_door" (dF dU) (cY dU) (aG dU) .none zae zaf zag zab zah zai),zac⟩)
  (y83:PySem.W.codeIn K zah "_law_door" =true)
  (y84:PySem.W.keepIn K (.ref f21)=true)
  (y85:FnL K "_law_house" "_law_house" nS f22)
  (y86:FnL K "_law_excess" "_law_excess" lV f23)
  (y87:FnL K "_law_numbers" "_law_numbers" kU f24)
  (y88:FnL K "_law_lawful" "_law_lawful" lX f25)
  (y89:FnL K "_law_followed" "_law_followed" jN f26)
  (y90:FnL K "_law_right" "_law_right" nM f27)
  (y91:K.lookup f28=some ⟨zam,zaj,.func (PySem.W.fnOf "law" "law" (dF pQ) (cY pQ) (aG pQ) .none zan zao zap zak zaq zar),zal⟩)
  (y92:PySem.W.codeIn K zaq "law" =true)
  (y93:PySem.W.keepIn K (.ref f28)=true)
  (y94:K.lookup f35=some ⟨zav,zas,.func (PySem.W.fnOf "__init__" "Door.__init__" (dF eK) (cY eK) (aG eK) (.ref T84) zaw zax zay zat zaz zba),zau⟩)
  (y95:PySem.W.codeIn K zaz "Door.__init__" =true)
  (y96:PySem.W.keepIn K (.ref f35)=true)
  (y97:K.lookup T84=some ⟨zbc,zbd,.seq #[.none,.int 1 zbb] zbe,zbf⟩)
  (y98:FnL K "lets" "Door.lets" qJ f36)
  (y99:FnL K "is_exit" "Door.is_exit" kS f37)
  (zck:FnL K "__init__" "Since.__init__" iZ f38)
  (zcl:FnL K "lets" "Since.lets" nV f39)
  (zcm:FnL K "__init__" "Until.__init__" i5 f40)
  (zcn:FnL K "lets" "Until.lets" oO f41)
  (zco:K.lookup f42=some ⟨zbj,zbg,.func (PySem.W.fnOf "__init__" "Beat.__init__" (dF eG) (cY eG) (aG eG) (.ref T99) zbk zbl zbm zbh zbn zbo),zbi⟩)
  (zcp:PySem.W.codeIn K zbn "Beat.__init__" =true)
  (zcq:PySem.W.keepIn K (.ref f42)=true)
  (zcr:K.lookup T99=some ⟨zbq,zbr,.seq #[.int 0 zbp] zbs,zbt⟩)
  (zcs:FnL K "lets" "Beat.lets" qM f43)
  (zct:FnL K "__init__" "Told.__init__" jR f44)
  (zcu:FnL K "lets" "Told.lets" qO f45)
  (zcv:K.lookup f46=some ⟨zbx,zbu,.func (PySem.W.fnOf "__init__" "House.__init__" (dF dY) (cY dY) (aG dY) (.ref zcd) zby zbz zca zbv zcb zcc),zbw⟩)
  (zcw:PySem.W.codeIn K zcb "House.__init__" =true)
  (zcx:PySem.W.keepIn K (.ref f46)=true)
  (zcy:K.lookup zcd=some ⟨zcf,zcg,.seq #[.int 0 zce] zch,zci⟩)
  (zcz:FnL K "rooms" "House.rooms" lZ f47)
  (zda:FnL K "doors" "House.doors" lR f48)
  (zdb:FnL K "need_room" "House.need_room" hU f49)
  (zdc:FnL K "holds" "House.holds" lW f50)
  (zdd:FnL K "found" "House.found" lT f51)
  (zde:FnL K "into" "House.into" oG f52)
  (zdf:FnL K "from_room" "House.from_room" iA f53)
  (zdg:FnL K "door" "House.door" oB f54)
  (zdh:FnL K "lets" "House.lets" nL f55)
  (zdi:FnL K "pairs" "House.pairs" lY f56)
  (zdj:DCls K C29)
  (zdk:DCls K C30)
  (zdl:DCls K C31)
  (zdm:DCls K C32)
  (zdn:DCls K C33)
  (zdo:DCls K C34)
  (zdp:PySem.W.specialIn K (.ref C29) "__getattribute__" =some (some (.builtin "type.__getattribute__")))
  (zdq:PySem.W.readsIn K C29 (.type "type")=true)
  (zdr:PySem.W.findCls K (.ref C29) (.type "type") "__init__" =some (.val (.ref f35)))
  (zds:PySem.W.nsIn K mainGlobals "sorted" =some none)
  (zdt:PySem.W.nsIn K mainGlobals "sum" =some none)
  (zdu:PySem.W.nsIn K mainGlobals "any" =some none)
  (zdv:PySem.W.nsIn K mainGlobals "range" =some none)
  (zdw:PySem.W.nsIn K mainGlobals "dict" =some none)
  (zdx:PySem.W.nsIn K mainGlobals "isinstance" =some none)
  (zdy:PySem.W.nsIn K mainGlobals "int" =some none)
  (zdz:PySem.W.nsIn K mainGlobals "str" =some none)
  (zea:PySem.W.nsIn K mainGlobals "all" =some none)
  (zeb:PySem.W.nsIn K mainGlobals "list" =some none)
  (zec:PySem.W.nsIn K mainGlobals "len" =some none)
  (zed:PySem.W.nsIn K mainGlobals "bool" =some none)
  (zee:PySem.W.nsIn K mainGlobals "LONGEST_NAME" =some (some (.int 8 zcj))) :
  ∃(fd:FuncData) (f2:Addr) (fd2:FuncData),mg "_law_door" =some (.ref f2)/\(∃oc od osl,K.lookup f2=some ⟨oc,od,.func fd2,osl⟩)/\(∀(s:Shared) (v:Value),BindsTo s fd ⟨[v],[]⟩ [("_law_script",v)])/\∀(zef:Heap) (cL PL:Addr),fd2.code= .ref cL->PySem.W.CodeHd zef cL PL->zef.BuiltinsAt mg PL->FnOk l.prog w K mg zef CX0 20 fa fd ["_law_script"] (uC K PL):=by
 have e:=hfa.symm.trans (PySem.W.mg_of X G y28);cases e;exact⟨(PySem.W.fnOf "law" "law" (dF pQ) (cY pQ) (aG pQ) .none zan zao zap zak zaq zar),f21,(PySem.W.fnOf "_law_door" "_law_door" (dF dU) (cY dU) (aG dU) .none zae zaf zag zab zah zai),PySem.W.mg_of X G y21,⟨_,_,_,y82⟩,fun s v=> .of_eq rfl,fun zef cL PL h1 h2 h3=>aAi ⟨f0,y61.x1 fun _ _ _ _ _ _ _=>rfl,
  f1,y62.x1 fun _ _ _ _ _ _ _=>rfl,
  f2,y63.x2 fun _ _ _ _ _ _ _ _=>rfl,
  f3,y64.x2 fun _ _ _ _ _ _ _ _=>rfl,
  f4,y65.x2 fun _ _ _ _ _ _ _ _=>rfl,
  f5,y66.x2 fun _ _ _ _ _ _ _ _=>rfl,
  f6,y67.x3 fun _ _ _ _ _ _ _ _ _=>rfl,
  f7,y68.x4 fun _ _ _ _ _ _ _ _ _ _=>rfl,
  f8,y69.x1 fun _ _ _ _ _ _ _=>rfl,
  f9,y70.x1 fun _ _ _ _ _ _ _=>rfl,
  f10,y71.x2 fun _ _ _ _ _ _ _ _=>rfl,
  f11,y72.x3 fun _ _ _ _ _ _ _ _ _=>rfl,
  f12,y73.x2 fun _ _ _ _ _ _ _ _=>rfl,
  f13,y74.x1 fun _ _ _ _ _ _ _=>rfl,
  f14,y75.x2 fun _ _ _ _ _ _ _ _=>rfl,
  f15,y76.x2 fun _ _ _ _ _ _ _ _=>rfl,
  f16,y77.x2 fun _ _ _ _ _ _ _ _=>rfl,
  f17,y78.x2 fun _ _ _ _ _ _ _ _=>rfl,
  f18,y79.x2 fun _ _ _ _ _ _ _ _=>rfl,
  f19,y80.x2 fun _ _ _ _ _ _ _ _=>rfl,
  f20,y81.x2 fun _ _ _ _ _ _ _ _=>rfl,
  f21,_,nB y82 y83 y84,(.all (by rintro us h;obtain _|⟨_,_|⟨_,_|⟨_,_|⟨_,_|⟨_,_|⟨_,us⟩⟩⟩⟩⟩⟩:=us<;>first|(cases h;done)|rfl)),
  f22,y85.x3 fun _ _ _ _ _ _ _ _ _=>rfl,
  f23,y86.x3 fun _ _ _ _ _ _ _ _ _=>rfl,
  f24,y87.x4 fun _ _ _ _ _ _ _ _ _ _=>rfl,
  f25,y88.x2 fun _ _ _ _ _ _ _ _=>rfl,
  f26,y89.x5 fun _ _ _ _ _ _ _ _ _ _ _=>rfl,
  f27,y90.x4 fun _ _ _ _ _ _ _ _ _ _=>rfl,
  fa,_,nB y91 y92 y93,(.all (by rintro us h;obtain _|⟨_,_|⟨_,us⟩⟩:=us<;>first|(cases h;done)|rfl)),
  f35,_,nB y94 y95 y96,(kX (ds:=[]) 5 y97 (by rintro us h;obtain _|⟨_,_|⟨_,_|⟨_,_|⟨_,_|⟨_,_|⟨_,us⟩⟩⟩⟩⟩⟩:=us<;>first|(cases h;done)|exact⟨_,rfl,rfl⟩)),
  f36,y98.x2 fun _ _ _ _ _ _ _ _=>rfl,
  f37,y99.x1 fun _ _ _ _ _ _ _=>rfl,
  f38,zck.x6 fun _ _ _ _ _ _ _ _ _ _ _ _=>rfl,
  f39,zcl.x2 fun _ _ _ _ _ _ _ _=>rfl,
  f40,zcm.x6 fun _ _ _ _ _ _ _ _ _ _ _ _=>rfl,
  f41,zcn.x2 fun _ _ _ _ _ _ _ _=>rfl,
  f42,_,nB zco zcp zcq,(kX (ds:=[]) 7 zcr (by rintro us h;obtain _|⟨_,_|⟨_,_|⟨_,_|⟨_,_|⟨_,_|⟨_,_|⟨_,_|⟨_,us⟩⟩⟩⟩⟩⟩⟩⟩:=us<;>first|(cases h;done)|exact⟨_,rfl,rfl⟩)),
  f43,zcs.x2 fun _ _ _ _ _ _ _ _=>rfl,
  f44,zct.x5 fun _ _ _ _ _ _ _ _ _ _ _=>rfl,
  f45,zcu.x2 fun _ _ _ _ _ _ _ _=>rfl,
  f46,_,nB zcv zcw zcx,(kX (ds:=[]) 6 zcy (by rintro us h;obtain _|⟨_,_|⟨_,_|⟨_,_|⟨_,_|⟨_,_|⟨_,_|⟨_,us⟩⟩⟩⟩⟩⟩⟩:=us<;>first|(cases h;done)|exact⟨_,rfl,rfl⟩)),
  f47,zcz.x1 fun _ _ _ _ _ _ _=>rfl,
  f48,zda.x1 fun _ _ _ _ _ _ _=>rfl,
  f49,zdb.x2 fun _ _ _ _ _ _ _ _=>rfl,
  f50,zdc.x2 fun _ _ _ _ _ _ _ _=>rfl,
  f51,zdd.x2 fun _ _ _ _ _ _ _ _=>rfl,
  f52,zde.x2 fun _ _ _ _ _ _ _ _=>rfl,
  f53,zdf.x2 fun _ _ _ _ _ _ _ _=>rfl,
  f54,zdg.x2 fun _ _ _ _ _ _ _ _=>rfl,
  f55,zdh.x3 fun _ _ _ _ _ _ _ _ _=>rfl,
  f56,zdi.x1 fun _ _ _ _ _ _ _=>rfl,
  PySem.W.mg_of X G y0,
  PySem.W.mg_of X G y1,
  PySem.W.mg_of X G y2,
  PySem.W.mg_of X G y3,
  PySem.W.mg_of X G y4,
  PySem.W.mg_of X G y5,
  PySem.W.mg_of X G y6,
  PySem.W.mg_of X G y7,
  PySem.W.mg_of X G y8,
  PySem.W.mg_of X G y9,
  PySem.W.mg_of X G y10,
  PySem.W.mg_of X G y11,
  PySem.W.mg_of X G y12,
  PySem.W.mg_of X G y13,
  PySem.W.mg_of X G y14,
  PySem.W.mg_of X G y15,
  PySem.W.mg_of X G y16,
  PySem.W.mg_of X G y17,
  PySem.W.mg_of X G y18,
  PySem.W.mg_of X G y19,
  PySem.W.mg_of X G y20,
  PySem.W.mg_of X G y21,
  PySem.W.mg_of X G y22,
  PySem.W.mg_of X G y23,
  PySem.W.mg_of X G y24,
  PySem.W.mg_of X G y25,
  PySem.W.mg_of X G y26,
  PySem.W.mg_of X G y27,
  PySem.W.mg_of X G y28,
  ⟨[.int 1 zbb],.cons ⟨_,rfl⟩ (.nil),kX 4 y97 (by rintro us h;obtain _|⟨_,_|⟨_,_|⟨_,_|⟨_,_|⟨_,us⟩⟩⟩⟩⟩:=us<;>first|(cases h;done)|exact⟨_,rfl,rfl⟩)⟩,
  ⟨[.none,.int 1 zbb],.cons rfl (.cons ⟨_,rfl⟩ (.nil)),kX 3 y97 (by rintro us h;obtain _|⟨_,_|⟨_,_|⟨_,_|⟨_,us⟩⟩⟩⟩:=us<;>first|(cases h;done)|exact⟨_,rfl,rfl⟩)⟩,
  ⟨[.int 0 zbp],.cons ⟨_,rfl⟩ (.nil),kX 6 zcr (by rintro us h;obtain _|⟨_,_|⟨_,_|⟨_,_|⟨_,_|⟨_,_|⟨_,_|⟨_,us⟩⟩⟩⟩⟩⟩⟩:=us<;>first|(cases h;done)|exact⟨_,rfl,rfl⟩)⟩,
  ⟨[.int 0 zce],.cons ⟨_,rfl⟩ (.nil),kX 5 zcy (by rintro us h;obtain _|⟨_,_|⟨_,_|⟨_,_|⟨_,_|⟨_,_|⟨_,us⟩⟩⟩⟩⟩⟩:=us<;>first|(cases h;done)|exact⟨_,rfl,rfl⟩)⟩,
  C29,PySem.W.mg_of X G y29,
  C30,PySem.W.mg_of X G y30,
  C31,PySem.W.mg_of X G y31,
  C32,PySem.W.mg_of X G y32,
  C33,PySem.W.mg_of X G y33,
  C34,PySem.W.mg_of X G y34,
  zdj,
  y35,
  y41,
  y42,
  zdk,
  y36,
  y43,
  y44,
  zdl,
  y37,
  y45,
  y46,
  zdm,
  y38,
  y47,
  y48,
  zdn,
  y39,
  y49,
  y50,
  zdo,
  y40,
  y51,
  y52,
  y53,
  y54,
  y55,
  y56,
  y57,
  y58,
  y59,
  y60,
  ⟨zdp,zdq,zdr⟩,
  PySem.W.mg_none_of X G zds,
  PySem.W.mg_none_of X G zdt,
  PySem.W.mg_none_of X G zdu,
  PySem.W.mg_none_of X G zdv,
  PySem.W.mg_none_of X G zdw,
  PySem.W.mg_none_of X G zdx,
  PySem.W.mg_none_of X G zdy,
  PySem.W.mg_none_of X G zdz,
  PySem.W.mg_none_of X G zea,
  PySem.W.mg_none_of X G zeb,
  PySem.W.mg_none_of X G zec,
  PySem.W.mg_none_of X G zed,
  ⟨zcj,PySem.W.mg_of X G zee⟩⟩ h1 h2 h3⟩
theorem walk {l:PySem.W.OpenLaw}{q:Program}{loose:List Str}{XP:(Str->Option Value)->Heap->Prop}{YP:World->Heap->Prop}{d d2:DefRec}{K:Params->PySem.W.Frag} (hn:l.most=some 63) (hdf:d.params.defaults=[]) (hrec:d2∈PyProof.Rows.recsOf q) (hd2:d2.name= "_law_door") (hnt:∀w:World,PySem.W.noTabs (K w.params)=true)
  (hY:∀(w:World) (h:Heap),YP w h->(K w.params).In h)
  (F:∀(w:World) (mg:Str->Option Value) (fa:Addr) (h:Heap),(K w.params).In h->h.Ns mainGlobals mg->mg d.name=some (.ref fa) →
   ∃(fd:FuncData) (f2:Addr) (fd2:FuncData),mg "_law_door" =some (.ref f2)/\(∃oc od osl,(K w.params).lookup f2=some ⟨oc,od,.func fd2,osl⟩)/\(∀(s:Shared) (u:Value),BindsTo s fd ⟨[u],[]⟩ [("_law_script",u)])/\∀(zef:Heap) (cL PL:Addr),fd2.code= .ref cL->PySem.W.CodeHd zef cL PL->zef.BuiltinsAt mg PL->FnOk l.prog w (K w.params) mg zef CX0 20 fa fd ["_law_script"] (uC (K w.params) PL)) :
  PySem.W.WalkO q loose XP YP l.row.toRowW d [] (fun f vs=>PySem.call f vs) :=
 L2.walk_ofT2 (d2:=d2) (n:=63) (k:=20) (x:= "_law_script") (CX:=fun _=>CX0) (sp:=fun w PL=>uC (K w.params) PL) hn (by decide) hdf ⟨rfl,by decide,by decide⟩ hrec hnt hY (fun w mg fa h a b c=>by rw[hd2];exact F w mg fa h a b c) (fun _ _ _ a ns hl hS hP=>⟨a,ns,rfl,hS,hl,hP,fun _=>rfl⟩) fun _ _ _ _ _ z=>z
end Prf
open PySem PySem.W PyProof.Rows
set_option maxRecDepth 100000 in
set_option maxHeartbeats 0 in
theorem PySem.Challenge.cw_firstout_k55_whole_signs_followed_holds : PySem.Challenge.rw_firstout_k55_whole_signs_followed.Holds := by
 w_on;o_law;k_head;(case hw=>w_witness2)
 k_fill
 refine Prf.walk (l:=PySem.Challenge.rw_firstout_k55_whole_signs_followed) rfl rfl (List.mem_of_find?_eq_some (p:=fun e=>e.name==("_law_door" :Str)) rfl) rfl (fun w=>by kernel_rfl) (fun w h Y=>PySem.W.km_in_of Y) ?F
 case F =>
  intro w mg fa h KX G hmg;refine' Prf.all_mk KX G hmg ?_ ?_ ?_ ?_ ?_ ?_ ?_ ?_ ?_ ?_ ?_ ?_ ?_ ?_ ?_ ?_ ?_ ?_ ?_ ?_ ?_ ?_ ?_ ?_ ?_ ?_ ?_ ?_ ?_ ?_ ?_ ?_ ?_ ?_ ?_ ?_ ?_ ?_ ?_ ?_ ?_ ?_ ?_ ?_ ?_ ?_ ?_ ?_ ?_ ?_ ?_ ?_ ?_ ?_ ?_ ?_ ?_ ?_ ?_ ?_ ?_ ?_ ?_ ?_ ?_ ?_ ?_ ?_ ?_ ?_ ?_ ?_ ?_ ?_ ?_ ?_ ?_ ?_ ?_ ?_ ?_ ?_ ?_ ?_ ?_ ?_ ?_ ?_ ?_ ?_ ?_ ?_ ?_ ?_ ?_ ?_ ?_ ?_ ?_ ?_ ?_ ?_ ?_ ?_ ?_ ?_ ?_ ?_ ?_ ?_ ?_ ?_ ?_ ?_ ?_ ?_ ?_ ?_ ?_ ?_ ?_ ?_ ?_ ?_ ?_ ?_ ?_ ?_ ?_ ?_ ?_ ?_ ?_ ?_ ?_ ?_ ?_ ?_ ?_ ?_ ?_ ?_ ?_ ?_ ?_ ?_ ?_
  any_goals first|k_is|(apply L2.FnL.mk<;>k_is)|exact L2.FnL.mk (by k_is) (by k_is) (by k_is)|(apply L2.Meth.mk<;>k_is)|(apply L2.Mk.mk<;>k_is)|(refine' Prf.DCls.mk (L2.ICls.mk (L2.Cls.mk ?_ ?_ ?_ ?_) ?_ ?_ ?_ ?_) ?_<;>first|k_is|kernel_rfl)|fail
