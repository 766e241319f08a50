import PyProof.Rows.All
import Wide.All
import OpenK.AllK
import Wide.FinOn
import Lean
import PyProof.EqAt
import PyProof.EqKinds
import PyProof.TupleCall
import KE.KSortTup
import PyProof.Rows.DictUnroll
import PyProof.DictItems
import KE.LcSums
import PyProof.IsiH_list
import KE.KDictOf
import PyProof.DictWalks
import PyProof.ListRange
import PyProof.EnumStmt
import PyProof.EnumMake
import KE.KDictSum
import PyProof.StrOps2
import PyProof.Rows.CallKwBuiltin
import KE.KRevSl
import KE.KItemsList
import PySem.Challenge.RW_firstout_k62_what_happened
namespace PySem.W.Fast
def tw5975139706430013152:=()
def tw4217965647496228322:=()
def tw10002564916375458468:=()
def tw7853676677832038116:=()
def tw10293043060223073989:=()
def tw10077894848258985575:=()
def tw209384068978175751:=()
def tw17053006232659618633:=()
def tw14758926683760062377:=()
def tw7839316930046785513:=()
def tw6812650834995955882:=()
def tw13465753667142490634:=()
def tw7425318867393453899:=()
def tw643271887863746765:=()
def tw12834135230910666256:=()
def tw3574721541905773267:=()
def tw4405547831560771475:=()
def tw10885004283121464756:=()
def tw10973342155408992314:=()
def tw7832337159576895646:=()
def tw16765593756448138943:=()
def tw1639772671976746720:=()
def tw16496250218817848422:=()
def tw6142130154701777637:=()
def tw7493561476783784329:=()
def tw2284651198393106020:=()
def tw3131943021190319597:=()
def tw5290694475772856211:=()
def tw12128925647047096403:=()
def tw11005811799318629703:=()
def tw14747721013499577550:=()
def tw1309361909395006540:=()
def tw1058587329559505039:=()
def tw643774537509483396:=()
def tw1860012733233833451:=()
def tw16662267798348770419:=()
def tw3971490110803211743:=()
def tw16085917403638026899:=()
def tw15611252642691374911:=()
def tw17816831320396100118:=()
def tw10411107126483577336:=()
def tw13679827717689010824:=()
def tw5477518760904815885:=()
def tw9694542550048685356:=()
def tw10050875681390372702:=()
def tw7979127296119308009:=()
def tw5540743272203885734:=()
def tw13440912428445797527:=()
def tw8665418101783510650:=()
def tw8767835213757109749:=()
def tw12472625926911812999:=()
def tw7053039215753773076:=()
def tw11561434623502180560:=()
def tw9353697789394080022:=()
def tw9235993891221896229:=()
def tw7622224634409836387:=()
def tw4513949055484152361:=()
def tw5072932146859797887:=()
def tw13464287974391765438:=()
def tw7133126882615585845:=()
def tw2811062807890375268:=()
def tw13623006225386833966:=()
def tw1615291492922034324:=()
def tw14611657498066739404:=()
def tw15845933164130882397:=()
def tw125501960992386192:=()
def tw5151440903717572844:=()
def tw12255053253189226524:=()
def tw14799770542708731464:=()
def tw552871825050583661:=()
def tw13823710429382818176:=()
def tw8489416905613516913:=()
def tw14564953162014632268:=()
def tw14622705378428948953:=()
def tw2275473789844883541:=()
def tw4032005807077641369:=()
def tw1398135062085274152:=()
def tw18071991069912510211:=()
def tw2882560764087300760:=()
def tw14603448988225958816:=()
def tw3703170496262047106:=()
def tw484851354315560912:=()
def tw14869337717792845137:=()
def tw6644699487963345175:=()
def tw9604332979779626298:=()
def tw8089961391743287629:=()
def tw6908723435237502232:=()
def tw5122467595618797472:=()
def tw15620778588855968227:=()
def tw5134516912258192880:=()
def tw5476694913856694271:=()
def tw11088625236416234873:=()
def tw18115718291105737573:=()
def tw14501583623575860016:=()
def tw8904961796355086159:=()
def tw3252708713503504237:=()
def tw8391081360268166062:=()
def tw15334740103336237690:=()
def tw1914196040902364839:=()
def tw7565431184860478307:=()
def tw12090537548574625288:=()
def tw3350133022745675652:=()
def tw11269960992434145802:=()
def tw9913127354130103159:=()
def tw5911059092482397116:=()
def tw209516865320672474:=()
def tw3363107352583360172:=()
def tw3829621086357657368:=()
def tw7244168056501608308:=()
def tw16471703118646421510:=()
def tw979203714188729548:=()
def tw4783419967586176124:=()
def tw14070954226595139150:=()
def tw12199454454498105936:=()
def tw15211727315291034401:=()
def tw4825934137482271192:=()
def tw415430802181825470:=()
def tw3599865852665017675:=()
def tw9056655123240836127:=()
def tw14538006413432032174:=()
def tw11460526631246225036:=()
def tw8681910179084497368:=()
def tw4299946683521920441:=()
def tw10338376254455884038:=()
def tw13395404984573625315:=()
def tw5528654923352160957:=()
def tw2677772683639321756:=()
def tw12654077451629026081:=()
def tw12740194531823536943:=()
def tw7829884923116046612:=()
def tw8732874003030876539:=()
def tw13251261876557520962:=()
def tw10587632172207645796:=()
def tw8061930265236271647:=()
def tw2438359211227108332:=()
def tw11936209925714617625:=()
def tw9933220424949953895:=()
def tw17210975919227806395:=()
def tw7255824131423084914:=()
def tw6172591533452019547:=()
def tw17046442291253706803:=()
def tw11005167568460443982:=()
def tw2166021923573799079:=()
def tw3076284791530835086:=()
def tw17788693975404322141:=()
def tw1989403206605097068:=()
def tw12356512671182082108:=()
def tw10919789656637367815:=()
def tw9797523425957513535:=()
def tw1313066677471963475:=()
def tw17324522583326947764:=()
def tw15195902022398405139:=()
def tw15279075969850732964:=()
def tw6956603899405156165:=()
def tw1400772290247822059:=()
def tw13403729748717512373:=()
def tw10221837122224962990:=()
def tw3269657964095721258:=()
def tw13074571253424010022:=()
def tw16549375846495996983:=()
def tw89103611932675531:=()
def tw9982637979212617477:=()
def tw595203937146957868:=()
def tw9698896604134309889:=()
def tw118880473584596920:=()
def tw7296062496358217866:=()
def tw1966079482757320639:=()
def tw13237465106738436438:=()
def tw6818741856862562505:=()
def tw1821353232068527723:=()
def tw15524154595081194395:=()
def tw10085216920142638237:=()
def tw8661699662788409117:=()
def tw13684036742719703370:=()
def tw18052402155050668682:=()
def tw14937763408613103945:=()
def tw3488782947105197364:=()
def tw13594145541960725648:=()
def tw17078287218240365598:=()
def tw3867282033762360623:=()
end PySem.W.Fast
set_option compiler.extract_closed false
local macro_rules| `(tactic| walk_at"oi")=> `(tactic| first|exact Or.inl rfl|exact Or.inr rfl)
set_option Elab.async false
set_option linter.all false
set_option maxRecDepth 100000
namespace L2
open PySem PySem.Spec PyProof.Rows
abbrev Key:=Sum Int Str
def xA:Key->Value->Bool
 | .inl k,v=>Value.isInt k v
 | .inr x,v=>Value.isStrOf x v
def aCY (w:World):Key->Int
 | .inl k=>hashInt k
 | .inr x=>hashStr w x
theorem c7:∀{k:Key}{v:Value},xA k v=true->(∃i t,k=Sum.inl i/\v=Value.int i t)∨(∃x t,k=Sum.inr x/\v=Value.str x t)
 | .inl i,v,h=>by
  obtain⟨t,e⟩:=Value.isInt_shape (k:=i) (v:=v) h;exact .inl ⟨i,t,rfl,e⟩
 | .inr x,v,h=>by
  obtain⟨t,e⟩:=Value.isStrOf_shape (x:=x) (v:=v) h;exact .inr ⟨x,t,rfl,e⟩
theorem O3 (i:Int)(t:Tok):xA (.inl i) (.int i t)=true:=by simp[xA,Value.isInt]
theorem P9 (x:Str)(t:Tok):xA (.inr x) (.str x t)=true:=by simp[xA,Value.isStrOf]
theorem aBh (a b:Int):decide ((Sum.inl a:Key)=Sum.inl b)=(a==b):=by
 by_cases e:a=b
 ·subst e;simp
 ·have h:¬(Sum.inl a:Key)=Sum.inl b:=fun q=>e (Sum.inl.inj q);rw[decide_eq_false h];exact(beq_eq_false_iff_ne.mpr e).symm
theorem Z8 (a b:Str):decide ((Sum.inr a:Key)=Sum.inr b)=decide (a=b):=by
 by_cases e:a=b
 ·subst e;simp
 ·have h:¬(Sum.inr a:Key)=Sum.inr b:=fun q=>e (Sum.inr.inj q);rw[decide_eq_false h,decide_eq_false e]
theorem aA0 (a:Int)(b:Str):decide ((Sum.inl a:Key)=Sum.inr b)=false:=decide_eq_false (fun q=>nomatch q)
theorem aBE (a:Str)(b:Int):decide ((Sum.inr a:Key)=Sum.inl b)=false:=decide_eq_false (fun q=>nomatch q)
def bZ (prog:Program)(w:World):PySem.KeyKind prog w Key where
 is:=xA
 hash:=aCY w
 inj:=fun v a b ha hb=>by
  rcases c7 ha with⟨i,t,rfl,rfl⟩|⟨x,t,rfl,rfl⟩
  ·rcases c7 hb with⟨j,u,rfl,e⟩|⟨y,u,rfl,e⟩
   ·injection e with e1 _;rw[e1]
   ·exact nomatch e
  ·rcases c7 hb with⟨j,u,rfl,e⟩|⟨y,u,rfl,e⟩
   ·exact nomatch e
   ·injection e with e1 _;rw[e1]
 byValue:=fun k v h=>by
  rcases c7 h with⟨i,t,rfl,rfl⟩|⟨x,t,rfl,rfl⟩<;>rfl
 pyHash:=fun hv h=>by
  rcases c7 hv with⟨i,t,rfl,rfl⟩|⟨x,t,rfl,rfl⟩
  ·exact wpAny_pyHash_int h
  ·exact wpAny_pyHash_str h
 eqBool:=fun hu hv h=>by
  rcases c7 hu with⟨i,t,rfl,rfl⟩|⟨x,t,rfl,rfl⟩
  ·rcases c7 hv with⟨j,u,rfl,rfl⟩|⟨y,u,rfl,rfl⟩
   ·rw[aBh]at h;exact wpAny_eqBool_int h
   ·rw[aA0]at h;exact SeqAt.EqAt.int_str i t y u _ _ _ _ h
  ·rcases c7 hv with⟨j,u,rfl,rfl⟩|⟨y,u,rfl,rfl⟩
   ·rw[aBE]at h;exact SeqAt.EqAt.str_int x t j u _ _ _ _ h
   ·rw[Z8]at h;exact wpAny_eqBool_str h
 «strs»:=fun k x t v h=>by
  rcases c7 h with⟨i,u,rfl,e⟩|⟨y,u,rfl,e⟩
  ·exact nomatch e
  ·injection e with e1 _;subst e1;cases v<;>rfl
theorem KG (prog:Program)(w:World)(i:Int)(t:Tok):(bZ prog w).is (.inl i) (.int i t)=true:=O3 i t
theorem KR (prog:Program)(w:World)(x:Str)(t:Tok):(bZ prog w).is (.inr x) (.str x t)=true:=P9 x t
end L2
namespace L2
open PySem PySem.Spec PyProof.Rows
inductive V where
 | non|bl (b:Bool)|int (i:Int)|str (x:Str)|byt (b:Array UInt8)|flt (b:UInt64)|ref (a:Addr)|ty (n:String)
 deriving DecidableEq
def RelV:V->Value->Prop
 | .non,u=>u=Value.none
 | .bl b,u=>u=Value.bool b
 | .int i,u=>∃t,u=Value.int i t
 | .str x,u=>∃t,u=Value.str x t
 | .byt b,u=>∃t,u=Value.bytes b t
 | .flt b,u=>∃t,u=Value.float b t
 | .ref a,u=>u=Value.ref a
 | .ty n,u=>u=Value.type n
abbrev Vals:List V->List Value->Prop:=Paired RelV
theorem Vals.length {xs:List V}{us:List Value} (r:Vals xs us):xs.length=us.length:=Paired.length r
theorem Vals.get:∀{xs:List V}{us:List Value}{i:Nat}{x:V},Vals xs us->xs[i]? =some x->∃u,us[i]? =some u/\RelV x u
 | _,_,_,_,.nil,e=>by simp at e
 | _,_,0,_,.cons r _,e=>by simp at e;subst e;exact⟨_,rfl,r⟩
 | _,_,i+1,x,.cons _ t,e=>by
  obtain⟨u,h1,h2⟩:=Vals.get (i:=i) (x:=x) t (by simpa using e);exact⟨u,by simpa using h1,h2⟩
theorem Vals.set {x:V}{u:Value} (r:RelV x u):∀{xs:List V}{us:List Value} (i:Nat),Vals xs us->Vals (xs.set i x) (us.set i u)
 | _,_,_,.nil=> .nil
 | _,_,0,.cons _ t=> .cons r t
 | _,_,i+1,.cons q t=> .cons q (Vals.set r i t)
theorem Vals.append:∀{xs ys:List V}{us ws:List Value},Vals xs us->Vals ys ws->Vals (xs++ys) (us++ws)
 | _,_,_,_,.nil,s=>s
 | _,_,_,_,.cons r t,s=> .cons r (Vals.append t s)
theorem Vals.take:∀{xs:List V}{us:List Value} (n:Nat),Vals xs us->Vals (xs.take n) (us.take n)
 | _,_,0,_=> .nil
 | _,_,_+1,.nil=> .nil
 | _,_,n+1,.cons r t=> .cons r (Vals.take n t)
theorem Vals.drop:∀{xs:List V}{us:List Value} (n:Nat),Vals xs us->Vals (xs.drop n) (us.drop n)
 | _,_,0,r=>r
 | _,_,_+1,.nil=> .nil
 | _,_,n+1,.cons _ t=>Vals.drop n t
def RelO:Option V->Option Value->Prop
 | some v,some u=>RelV v u
 | none,none=>True
 | _,_=>False
def KV {κ:Type}:List (κ×V)->List (κ×Value)->Prop:=Paired fun (p:κ×V) (q:κ×Value)=>p.1=q.1/\RelV p.2 q.2
def kV:Key->V
 | .inl i=> .int i
 | .inr x=> .str x
inductive HO where
  | lst (xs:List V)
  | tup (xs:List V)
  | dK (kvs:List (Key×V))|dT (kvs:List (List Key×V))
  | set (S:Int->Bool) (n:Nat)
  | ins (C dx:Addr) (fs:List (Str×V))
  | own (x:Addr)
  | xd (fs:List (Str×V))
  | met (f x:Addr)
  | rng (lo hi:Int)
  | frz (o:Obj) (u:HO)
  | tbl (ps:Array Value)
  | ext (φ:Heap->Prop)
abbrev Hp:=Addr->Option HO
def upd (H:Hp)(a:Addr)(o:HO):Hp:=fun b=>if b=a then some o else H b
theorem aZ {H:Hp}{a:Addr}{o:HO}:upd H a o a=some o:=by unfold upd;rw[if_pos rfl]
theorem aK {H:Hp}{a b:Addr}{o:HO} (h:b≠a):upd H a o b=H b:=by unfold upd;rw[if_neg h]
theorem L3 {H:Hp}{a:Addr}{o u:HO}:upd (upd H a o) a u=upd H a u:=by
 funext b;unfold upd;split<;>rfl
theorem aCt {H:Hp}{a b:Addr}{o u:HO} (h:H a=some o) (h':H b=some u) (d:o≠u):a≠b:=by
 intro e;subst e;rw[h]at h';exact d (Option.some.inj h')
theorem bH {H:Hp}{a b:Addr}{o:HO} (h:H a=some o) (h':H b=none):a≠b:=by
 intro e;subst e;rw[h]at h';cases h'
section
variable (P:Program)(w:World)
def ObjOk (H:Hp)(h:Heap)(a:Addr):HO->Prop
 | .lst xs=>xs.length<=sizeLine/\∃(its:List Value) (n:Nat),Vals xs its/\h.get? a=some { cls:= .type "list",data:= .seq its.toArray n }
 | .tup xs=>xs.length<=sizeLine/\∃its:List Value,Vals xs its/\IsTup h a its.toArray
 | .dK kvs=>kvs.length<=sizeLine/\(a==sysModules)=false/\∃vs,KV kvs vs/\h.DictOf (bZ P w) a vs
 | .dT kvs=>kvs.length<=sizeLine/\(a==sysModules)=false/\∃xs:List (List Key×Addr×Value),
   Paired (fun (p:List Key×V) (q:List Key×Addr×Value)=>p.1=q.1/\H q.2.1=some (.tup (p.1.map kV))/\RelV p.2 q.2.2) kvs xs ∧
   ∃o es ep,h.get? a=some o/\o.ExactDict/\o.data= .dict es ep/\es.toList=xs.map (entryOfKey (tupleKind (bZ P w)))/\(xs.map (·.1)).Nodup
 | .set S n=>h.SetOf (intKind P w) a S n
 | .ins C dx fs=>H dx=some (.own a)/\fs.length<=1000/\dx≠a/\h.get? a=some (PySem.W.instObj C dx) ∧
   ∃mA,h.Ns1 dx mA/\(∀f,RelO (fs.lookup f) (mA f))/\PySem.Within mA (fs.map (·.1))
 | .own _=>∃o,h.get? a=some o
 | .xd fs=>∃mA,h.Ns1 a mA/\∀f,RelO (fs.lookup f) (mA f)
 | .rng lo hi=>∃t u v,h.get? a=some { cls:= .type "range",data:= .fields #[.int lo t,.int hi u,.int 1 v] }
 | .frz o u=>h.get? a=some o/\ObjOk H h a u
 | .tbl ps=>h.get? a=some { cls:= .none,data:= .fields ps }
 | .met f x=>h.get? a=some (PySem.W.methodObj (.ref f) (.ref x))
 | .ext φ=>φ h/\(∃o,h.get? a=some o)/\∀h1 h2:Heap,φ h1->(∀o,h1.get? a=some o->h2.get? a=some o)->φ h2
def HOk (H:Hp)(h:Heap):Prop:=∀a o,H a=some o->ObjOk P w H h a o
end
section
variable {P:Program}{w:World}{H H':Hp}{h h':Heap}{a:Addr}{o:HO}
theorem ObjOk.lt (x:ObjOk P w H h a o):a<h.objs.size:=by
 cases o with
 | lst xs=>obtain⟨_,_,_,_,e⟩:=x;exact Heap.lt_size e
 | tup xs=>obtain⟨_,_,_,p⟩:=x;exact p.lt
 | dK kvs=>obtain⟨_,_,_,_,o,_,_,e,_⟩:=x;exact Heap.lt_size e
 | dT kvs=>obtain⟨_,_,_,_,o,_,_,e,_⟩:=x;exact Heap.lt_size e
 | set S n=>obtain⟨o,_,_,_,e,_⟩:=x;exact Heap.lt_size e
 | ins C dx fs=>obtain⟨_,_,_,e,_⟩:=x;exact Heap.lt_size e
 | own y=>obtain⟨_,e⟩:=x;exact Heap.lt_size e
 | xd fs=>obtain⟨_,⟨_,_,_,e,_⟩,_⟩:=x;exact Heap.lt_size e
 | rng lo hi=>obtain⟨_,_,_,e⟩:=x;exact Heap.lt_size e
 | frz ob u=>obtain⟨e,_⟩:=x;exact Heap.lt_size e
 | tbl ps=>exact Heap.lt_size (show h.get? a=some _ from x)
 | met f y=>exact Heap.lt_size (show h.get? a=some _ from x)
 | ext φ=>obtain⟨_,⟨_,e⟩,_⟩:=x;exact Heap.lt_size e
theorem Paired.mapP {α β:Type}{F G:α->β->Prop}:∀{l₁:List α}{l₂:List β},Paired F l₁ l₂->(∀a b,F a b->G a b)->Paired G l₁ l₂
 | _,_,.nil,_=> .nil
 | _,_,.cons r t,f=> .cons (f _ _ r) (Paired.mapP t f)
theorem Paired.imp' {α β:Type}{F G:α->β->Prop} (f:∀a b,F a b->G a b) {l₁:List α}{l₂:List β} (r:Paired F l₁ l₂):Paired G l₁ l₂:=Paired.mapP r f
theorem ObjOk.stay (x:ObjOk P w H h a o)(k:∀b u,(b=a∨H b=some (.own a))->h.get? b=some u->h'.get? b=some u)
  (ho:∀b,H b=some (.own a)->H' b=some (.own a))(ht:∀b xs,H b=some (.tup xs)->H' b=some (.tup xs)):ObjOk P w H' h' a o:=by
 induction o with
 | lst xs=>obtain⟨z,its,n,r,e⟩:=x;exact⟨z,its,n,r,k _ _ (.inl rfl) e⟩
 | tup xs=>obtain⟨z,its,r,ob,e,c⟩:=x;exact⟨z,its,r,ob,k _ _ (.inl rfl) e,c⟩
 | dK kvs=>obtain⟨z,y,vs,r,ob,es,ep,e,c⟩:=x;exact⟨z,y,vs,r,ob,es,ep,k _ _ (.inl rfl) e,c⟩
 | dT kvs =>
  obtain⟨z,y,xs,r,ob,es,ep,e,c⟩:=x;exact⟨z,y,xs,Paired.mapP r fun p q z=>⟨z.1,ht _ _ z.2.1,z.2.2⟩,ob,es,ep,k _ _ (.inl rfl) e,c⟩
 | set S n=>obtain⟨ob,es,ep,t,e,c⟩:=x;exact⟨ob,es,ep,t,k _ _ (.inl rfl) e,c⟩
 | ins C dx fs =>
  obtain⟨d,z,ne,e,mA,⟨od,es,ep,e2,c⟩,r⟩:=x;exact⟨ho _ d,z,ne,k _ _ (.inl rfl) e,mA,⟨od,es,ep,k _ _ (.inr d) e2,c⟩,r⟩
 | own y=>obtain⟨ob,e⟩:=x;exact⟨ob,k _ _ (.inl rfl) e⟩
 | xd fs=>obtain⟨mA,⟨od,es,ep,e,c⟩,r⟩:=x;exact⟨mA,⟨od,es,ep,k _ _ (.inl rfl) e,c⟩,r⟩
 | rng lo hi=>obtain⟨t,u,v,e⟩:=x;exact⟨t,u,v,k _ _ (.inl rfl) e⟩
 | frz ob u ih=>obtain⟨e,q⟩:=x;exact⟨k _ _ (.inl rfl) e,ih q⟩
 | tbl ps =>
  have e:h.get? a=some { cls:= .none,data:= .fields ps }:=x;show h'.get? a=some { cls:= .none,data:= .fields ps };exact k a _ (.inl rfl) e
 | met f y =>
  have e:h.get? a=some (PySem.W.methodObj (.ref f) (.ref y)):=x;show h'.get? a=some (PySem.W.methodObj (.ref f) (.ref y));exact k a _ (.inl rfl) e
 | ext φ=>obtain⟨p,⟨o,e⟩,st⟩:=x;exact⟨st _ _ p fun o q=>k _ _ (.inl rfl) q,⟨o,k _ _ (.inl rfl) e⟩,st⟩
theorem HOk.lt (x:HOk P w H h)(e:H a=some o):a<h.objs.size:=(x a o e).lt
theorem HOk.fresh (x:HOk P w H h)(e:h.objs.size<=a):H a=none:=by
 cases q:H a with
 | none=>rfl
 | some u=>exact absurd (Nat.lt_of_lt_of_le (x.lt q) e) (Nat.lt_irrefl _)
theorem HOk.kept (x:HOk P w H h)(k:∀b u,h.get? b=some u->h'.get? b=some u):HOk P w H h':=fun a o e =>
 (x a o e).stay (fun b u _ q=>k b u q) (fun _ q=>q) fun _ _ q=>q
theorem HOk.laid (x:HOk P w H h)(k:∀b u,h.get? b=some u->h'.get? b=some u)(hp:h.objs.size<=a)(new:ObjOk P w (upd H a o) h' a o):HOk P w (upd H a o) h':=fun b u e=>by
 have hn:=x.fresh hp
 by_cases hb:b=a
 ·subst hb;rw[aZ]at e;cases e;exact new
 ·rw[aK hb]at e;exact(x b u e).stay (fun c v _ q=>k c v q) (fun c q=>by rw[aK (bH q hn)];exact q) fun c xs q=>by rw[aK (bH q hn)];exact q
end
def Rd (H:Hp)(a:Addr)(u:HO):Prop:=H a=some u∨∃o,H a=some (.frz o u)
theorem Rd.ok {P:Program}{w:World}{H:Hp}{h:Heap}{a:Addr}{u:HO} (r:Rd H a u) (x:HOk P w H h):ObjOk P w H h a u:=by
 rcases r with r|⟨o,r⟩
 ·exact x a u r
 ·obtain⟨_,q⟩:=x a _ r;exact q
def Mut:Option HO->Prop
 | some (.lst _)=>True
 | some (.dK _)=>True
 | some (.dT _)=>True
 | some (.set _ _)=>True
 | some (.ins _ _ _)=>True
 | some (.ext _)=>True
 | _=>False
section
variable {P:Program}{w:World}{H:Hp}{h h':Heap}{x e:Addr}{o':HO}
theorem HOk.write (ok:HOk P w H h)(mu:Mut (H x))(he:e=x∨H e=some (.own x))(k:∀b u,b≠e->h.get? b=some u->h'.get? b=some u)(heo:∃u,h'.get? e=some u)
  (new:ObjOk P w (upd H x o') h' x o'):HOk P w (upd H x o') h':=fun b u q=>by
 have nown:∀c y,H c=some (.own y)->c≠x:=fun c y r z=>by subst z;rw[r]at mu;exact mu
 have ntup:∀c xs,H c=some (.tup xs)->c≠x:=fun c xs r z=>by subst z;rw[r]at mu;exact mu
 by_cases hb:b=x
 ·subst hb;rw[aZ]at q;cases q;exact new
 ·rw[aK hb]at q
  by_cases hbe:b=e
  ·have q':H b=some (.own x):=by
    rcases he with z|z
    ·exact absurd (hbe.trans z) hb
    ·rw[hbe];exact z
   rw[q]at q';cases q';obtain⟨v,hv⟩:=heo;exact⟨v,by rw[hbe];exact hv⟩
  ·refine(ok b u q).stay (fun c v hc r=>k c v ?_ r) (fun c r=>by rw[aK (nown c b r)];exact r) fun c xs r=>by rw[aK (ntup c xs r)];exact r
   rcases hc with rfl|hc
   ·exact hbe
   ·rintro rfl;rcases he with z|z
    ·exact nown c b hc z
    ·rw[hc]at z;cases z;exact hb rfl
end
structure Un (fs ex:List Addr)(H H':Hp)(h h':Heap):Prop where
 keep:∀b o,h.get? b=some o->H b=none->b∉fs->b∉ex->h'.get? b=some o
 slot:∀b o,h.get? b=some o->H b=none->b∈fs->b∉ex->∃sl,h'.get? b=some { o with slots:=sl }
 free:∀b o,h.get? b=some o->H b=none->b∉ex->H' b=none
 there:∀b o,h.get? b=some o->b∉ex->∃o',h'.get? b=some o'
 tups:∀b xs,H b=some (.tup xs)->H' b=some (.tup xs)
 frzs:∀b o u,H b=some (.frz o u)->H' b=some (.frz o u)
 tbls:∀b ps,H b=some (.tbl ps)->∃more,H' b=some (.tbl (ps++more))
section
variable {fs fs' ex ex':List Addr}{H H1 H2:Hp}{h h1 h2 h':Heap}{a x e:Addr}{o:HO}
theorem Un.any (u:Un fs ex H H1 h h1){b:Addr}{ob:Obj} (q:h.get? b=some ob) (n:H b=none) (hx:b∉ex):∃sl,h1.get? b=some { ob with slots:=sl }:=by
 by_cases hb:b∈fs
 ·exact u.slot b ob q n hb hx
 ·exact⟨ob.slots,u.keep b ob q n hb hx⟩
theorem Un.kept (k:∀b u,h.get? b=some u->h'.get? b=some u):Un fs ex H H h h' :=
 ⟨fun b ob q _ _ _=>k b ob q,fun b ob q _ _ _=>⟨ob.slots,k b ob q⟩,fun _ _ _ n _=>n,fun b ob q _=>⟨ob,k b ob q⟩,fun _ _ q=>q,fun _ _ _ q=>q,fun _ ps q=>⟨#[],by rw[q];simp⟩⟩
theorem Un.refl:Un fs ex H H h h:=Un.kept fun _ _ q=>q
theorem Un.laid (k:∀b u,h.get? b=some u->h'.get? b=some u)(hp:h.objs.size<=a)(hn:H a=none):Un fs ex H (upd H a o) h h' where
 keep:=fun b u q _ _ _=>k b u q
 slot:=fun b u q _ _ _=>⟨u.slots,k b u q⟩
 free:=fun b u q n _=>by rw[aK (Nat.ne_of_lt (Nat.lt_of_lt_of_le (Heap.lt_size q) hp))];exact n
 there:=fun b u q _=>⟨u,k b u q⟩
 tups:=fun b xs q=>by rw[aK (bH q hn)];exact q
 frzs:=fun b u xs q=>by rw[aK (bH q hn)];exact q
 tbls:=fun b ps q=>⟨#[],by rw[aK (bH q hn),q];simp⟩
theorem Un.write (mu:Mut (H x))(he:e=x∨H e=some (.own x))(k:∀b u,b≠e->h.get? b=some u->h'.get? b=some u)(heo:∃u,h'.get? e=some u):Un fs ex H (upd H x o) h h':=by
 have hx:∀b,H b=none->b≠x:=fun b n z=>by subst z;rw[n]at mu;exact mu
 have hb:∀b,H b=none->b≠e:=fun b n z=>by
  subst z;rcases he with r|r
  ·exact hx b n r
  ·rw[n]at r;cases r
 have hm:∀b u,H b=some u->¬Mut (some u)->b≠x:=fun b u q nm z=>by subst z;rw[q]at mu;exact nm mu
 refine⟨fun b u q n _ _=>k b u (hb b n) q,fun b u q n _ _=>⟨u.slots,k b u (hb b n) q⟩,fun b u q n _=>by rw[aK (hx b n)];exact n,fun b u q _=> ?_,
  fun b xs q=>by rw[aK (hm b _ q fun z=>z)];exact q,fun b u xs q=>by rw[aK (hm b _ q fun z=>z)];exact q,fun b ps q=>⟨#[],by rw[aK (hm b _ q fun z=>z),q];simp⟩⟩
 by_cases hbe:b=e
 ·subst hbe;exact heo
 ·exact⟨u,k b u hbe q⟩
end
def trk (h:Heap)(H:Hp):List Addr:=(List.range h.objs.size).filter fun a=>(H a).isSome
def qC (h:Heap)(H:Hp):Heap:=PySem.W.hideAll h (trk h H)
theorem PR (h:Heap)(H:Hp):(qC h H).objs.size=h.objs.size:=PySem.W.hideAll_size _ _
theorem RW {h:Heap}{H:Hp}{b:Addr}{o:Obj} (e:h.get? b=some o) (n:H b=none):(qC h H).get? b=some o :=
 PySem.W.hideAll_get _ e fun hm=>by
  have q:(H b).isSome=true:=(List.mem_filter.mp hm).2;rw[n]at q;simp at q
theorem YE {h:Heap}{H:Hp}{b:Addr}{o:Obj} (e:(qC h H).get? b=some o):h.get? b=some o/\H b=none:=by
 have e':h.get? b=some o:=PySem.W.of_hideAll (trk h H) e;refine⟨e',?_⟩;cases q:H b with
 | none=>rfl
 | some x =>
  have hm:b∈trk h H:=List.mem_filter.mpr ⟨List.mem_range.mpr (Heap.lt_size e'),by simp[q]⟩;have z:(qC h H).get? b=none:=PySem.W.hideAll_none (trk h H) hm;rw[z]at e;cases e
end L2
namespace L2
open PySem PySem.Spec PyProof.Rows
structure Mod (K:PySem.W.Frag)(mg:Str->Option Value)(base:Heap):Prop where
 kin:K.In base
 glob:base.Ns mainGlobals mg
 blt:∃mb,base.Ns builtinsNs mb/\∀x:Str,x≠ "__name__" ->mb x=bootBuiltins x
 nolimit:base.NoLimit
structure Cx where
 prog:Program
 w:World
 K:PySem.W.Frag
 mg:Str->Option Value
 base:Heap
 A:Around
 N:List Str
 s₀:Shared
 H₀:Hp
 env:Env
 outer:List Env
 stack:List Env
 ex:List Addr
 fn:Str->Bool
 calm:Bool
 pn:List (Addr×Obj)
 xe:Value->Shared->Prop
def frs (l:List Env):List Addr:=l.filterMap (·.frame)
abbrev Cx.fs (X:Cx):List Addr:=frs X.outer
def Vis (sc:Scope)(x:Str):Prop:=sc.names.lookup x=some .local∨sc.names.lookup x=some .cell∨sc.names.lookup x=some .free
def Loc (sc:Scope)(x:Str):Prop:=sc.names.lookup x=some .local∨sc.names.lookup x=some .cell
def aCU (env:Env)(h:Heap)(m:Str->Option Value)(x:Str)(u:Value):Prop :=
 (env.kindOf x=some .local/\m x=some u)∨((env.kindOf x=some .cell∨env.kindOf x=some .free)/\∃c,env.cells.lookup x=some c/\h.IsCell c (some u))
structure Cx.Ok (X:Cx):Prop where
 mod:Mod X.K X.mg X.base
 kind:X.env.scope.kind= .function
 glob:X.env.globals=mainGlobals
 blt:X.env.builtins=builtinsNs
 above:X.s₀.heap.objs.size<=X.env.locals
 inj:∀x y c,X.env.cells.lookup x=some c->X.env.cells.lookup y=some c->x=y
 has:∀x,(X.env.kindOf x=some .cell∨X.env.kindOf x=some .free)->∃c,X.env.cells.lookup x=some c
 cab:∀x c,X.fn x=true->X.env.cells.lookup x=some c->X.s₀.heap.objs.size<=c
 hd:X.calm=true->X.A.handled=none
 frames:X.A.frames=some X.stack
 stk:X.stack=X.outer∨(X.stack=X.env::X.outer/\X.env.frame=some X.env.locals)
 exf:∀b∈X.ex,b≠X.env.locals/\∀x c,X.env.cells.lookup x=some c->c≠b
 bs:∀b o,X.base.get? b=some o->X.s₀.heap.get? b=some o/\X.H₀ b=none
 bsz:X.base.objs.size<=X.s₀.heap.objs.size
 noex:∀b o,X.base.get? b=some o->b∉X.ex
 exfs:∀b∈X.ex,b∉X.fs
 funs:X.s₀.heap.FunFrames X.base X.outer
 frf:∀b∈X.fs,X.H₀ b=none
structure Inv (X:Cx)(pins:List (Addr×Obj))(σ:List (Option V))(H:Hp)(s:Shared):Prop where
 ok:X.Ok
 os:s.os=X.s₀.os
 bare:AllBare s.gens
 base:Un X.fs X.ex X.H₀ H X.s₀.heap s.heap
 loc:∃m,s.heap.Ns X.env.locals m/\∀(i:Nat) (x:Str) (v:V),X.N[i]? =some x->σ[i]? =some (some v)->Vis X.env.scope x->∃u,RelV v u/\aCU X.env s.heap m x u
 cell:∀x c,X.env.cells.lookup x=some c->∃v,s.heap.IsCell c v
 free:H X.env.locals=none
 freeC:∀x c,X.env.cells.lookup x=some c->H c=none
 pin:∀p∈X.pn++pins,s.heap.get? p.1=some p.2/\H p.1=none/\p.1≠X.env.locals/\p.1∉X.fs/\∀v,p.2.data≠ .cell v
 hok:HOk X.prog X.w H s.heap
 len:σ.length=X.N.length
section
variable {X:Cx}{pins:List (Addr×Obj)}{σ:List (Option V)}{H H':Hp}{s:Shared}{h':Heap}
theorem Cx.Ok.nofr (ok:X.Ok){b:Addr}{o:Obj} (e:X.base.get? b=some o):b∉X.fs:=fun hb=>by
 have:=(ok.funs.mem hb).1;rw[e]at this;cases this
theorem Inv.bs (I:Inv X pins σ H s):∀b o,X.base.get? b=some o->s.heap.get? b=some o/\H b=none:=fun b o e =>
 ⟨I.base.keep b o (I.ok.bs b o e).1 (I.ok.bs b o e).2 (I.ok.nofr e) (I.ok.noex b o e),I.base.free b o (I.ok.bs b o e).1 (I.ok.bs b o e).2 (I.ok.noex b o e)⟩
theorem Inv.bk (I:Inv X pins σ H s):∀b o,X.base.get? b=some o->s.heap.get? b=some o:=fun b o e=>(I.bs b o e).1
theorem Inv.mod (I:Inv X pins σ H s):Mod X.K X.mg X.base:=I.ok.mod
theorem Inv.kIn (I:Inv X pins σ H s):X.K.In s.heap:=I.ok.mod.kin.keeps I.bk
theorem Inv.lt (I:Inv X pins σ H s):X.env.locals<s.heap.objs.size:=let ⟨_,hn,_⟩:=I.loc;hn.lt
theorem Inv.sz (I:Inv X pins σ H s):X.s₀.heap.objs.size<=s.heap.objs.size:=Nat.le_trans I.ok.above (Nat.le_of_lt I.lt)
theorem Inv.nofs (I:Inv X pins σ H s){a:Addr}(h:s.heap.objs.size<=a):a∉X.fs:=fun hb=>by
 obtain⟨_,o,ho,_⟩:=I.ok.funs.mem hb;exact absurd (Nat.lt_of_lt_of_le (Heap.lt_size ho) (Nat.le_trans I.sz h)) (Nat.lt_irrefl _)
theorem Inv.cne (I:Inv X pins σ H s):∀x c,X.env.cells.lookup x=some c->c≠X.env.locals:=fun x c e z=>by
 obtain⟨v,o,ho,hd⟩:=I.cell x c e;obtain⟨m,⟨o',es,ep,ho',hd',_⟩,_⟩:=I.loc;rw[z,ho']at ho;cases ho;rw[hd']at hd;cases hd
theorem Inv.funs (I:Inv X pins σ H s):s.heap.FunFrames X.base X.outer:=by
 have all:∀(l:List Env),(∀b∈frs l,b∈X.fs)->X.s₀.heap.FunFrames X.base l->s.heap.FunFrames X.base l:=by
  intro l
  induction l with
  | nil=>intro _ _;trivial
  | cons env r ih =>
   intro hs hl;obtain⟨hk,⟨L,o,hf,hn,ho,hd⟩,hr⟩:=hl;have hL:L∈X.fs:=hs L (by unfold frs;rw[List.filterMap_cons,hf];exact List.mem_cons_self);obtain⟨sl,e⟩:=I.base.slot L o ho (I.ok.frf L hL) hL fun z=>I.ok.exfs L z hL;exact⟨hk,⟨L,_,hf,hn,e,hd⟩,ih (fun b hb=>hs b (by unfold frs;rw[List.filterMap_cons,hf];exact List.mem_cons_of_mem _ hb)) hr⟩
 exact all X.outer (fun _ hb=>hb) I.ok.funs
theorem Inv.stack (I:Inv X pins σ H s):s.heap.FunFrames X.base X.stack:=by
 rcases I.ok.stk with e|⟨e,hf⟩
 ·rw[e];exact I.funs
 ·rw[e];obtain⟨m,hn,_⟩:=I.loc;refine .cons (by rw[I.ok.kind];decide) hf hn ?_ I.funs;exact Heap.get?_none_of_le (Nat.le_trans I.ok.bsz I.ok.above)
theorem Inv.stkSub (I:Inv X pins σ H s):∀b∈frs X.stack,b∈X.env.locals::X.fs:=fun b hb=>by
 rcases I.ok.stk with e|⟨e,hf⟩
 ·rw[e]at hb;exact List.mem_cons_of_mem _ hb
 ·rw[e]at hb;unfold frs at hb;rw[List.filterMap_cons,hf]at hb;exact hb
theorem Inv.stkFree (I:Inv X pins σ H s):∀b∈frs X.stack,H b=none:=fun b hb=>by
 rcases List.mem_cons.mp (I.stkSub b hb) with e|hb
 ·rw[e];exact I.free
 ·obtain⟨_,o,ho,_⟩:=I.ok.funs.mem hb;exact I.base.free b o ho (I.ok.frf b hb) fun z=>I.ok.exfs b z hb
theorem Inv.step {g':Array GenState}{t':Nat}{d':Drawn}{ch:List Addr} (I:Inv X pins σ H s)
  (hch:∀b∈ch,(b∈X.ex∨X.s₀.heap.objs.size<=b)/\b≠X.env.locals/\(∀x c,X.env.cells.lookup x=some c->c≠b)/\∀p∈X.pn++pins,p.1≠b)
  (keep:∀b o,b≠X.env.locals->b∉X.fs->b∉ch->s.heap.get? b=some o->H b=none->h'.get? b=some o)
  (slot:∀b o,b≠X.env.locals->b∈X.fs->b∉ch->s.heap.get? b=some o->H b=none->∃sl,h'.get? b=some { o with slots:=sl })(free:∀b o,b∉ch->s.heap.get? b=some o->H b=none->H' b=none)
  (there:∀b o,b∉ch->s.heap.get? b=some o->∃o',h'.get? b=some o')
  (tups:∀b xs,H b=some (.tup xs)->H' b=some (.tup xs))(frzs:∀b o u,H b=some (.frz o u)->H' b=some (.frz o u))(tbls:∀b ps,H b=some (.tbl ps)->∃more,H' b=some (.tbl (ps++more)))
  (ns:∀m,s.heap.Ns X.env.locals m->h'.Ns X.env.locals m)(hok:HOk X.prog X.w H' h')(hg:AllBare g') :
  Inv X pins σ H' { s with heap:=h',gens:=g',drawn:=d',toks:=t' }:=by
 have neL:∀b o,X.s₀.heap.get? b=some o->b≠X.env.locals:=fun b o e=>Nat.ne_of_lt (Nat.lt_of_lt_of_le (Heap.lt_size e) I.ok.above);have neC:∀b o,X.s₀.heap.get? b=some o->b∉X.ex->b∉ch:=fun b o e hx hb=>by
  rcases (hch b hb).1 with z|z
  ·exact hx z
  ·exact absurd (Nat.lt_of_lt_of_le (Heap.lt_size e) z) (Nat.lt_irrefl _)
 have cellK:∀x c,X.env.cells.lookup x=some c->∀v,s.heap.IsCell c v->h'.IsCell c v:=fun x c e v ⟨o,ho,hd⟩=>by
  have nch:c∉ch:=fun z=>(hch c z).2.2.1 x c e rfl
  by_cases hc:c∈X.fs
  ·obtain⟨sl,q⟩:=slot c o (I.cne x c e) hc nch ho (I.freeC x c e);exact⟨_,q,hd⟩
  ·exact⟨o,keep c o (I.cne x c e) hc nch ho (I.freeC x c e),hd⟩
 refine⟨I.ok,I.os,hg,⟨fun b o e n hb hx=> ?_,fun b o e n hb hx=> ?_,fun b o e n hx=> ?_,fun b o e hx=> ?_,fun b xs e=>tups b xs (I.base.tups b xs e),fun b o xs e=>frzs b o xs (I.base.frzs b o xs e),fun b ps e=> ?_⟩,?_,fun x c e=> ?_,?_,fun x c e=> ?_,fun p hp=> ?_,hok,I.len⟩
 ·exact keep b o (neL b o e) hb (neC b o e hx) (I.base.keep b o e n hb hx) (I.base.free b o e n hx)
 ·obtain⟨sl,e1⟩:=I.base.slot b o e n hb hx;obtain⟨sl',e2⟩:=slot b _ (neL b o e) hb (neC b o e hx) e1 (I.base.free b o e n hx);exact⟨sl',e2⟩
 ·obtain⟨o',e1⟩:=I.base.there b o e hx;exact free b o' (neC b o e hx) e1 (I.base.free b o e n hx)
 ·obtain⟨o',e1⟩:=I.base.there b o e hx;exact there b o' (neC b o e hx) e1
 ·obtain⟨m1,e1⟩:=I.base.tbls b ps e;obtain⟨m2,e2⟩:=tbls b _ e1;exact⟨m1++m2,by rw[e2,Array.append_assoc]⟩
 ·obtain⟨m,hn,hl⟩:=I.loc;refine⟨m,ns m hn,fun i x v e1 e2 e3=> ?_⟩;obtain⟨u,r,l⟩:=hl i x v e1 e2 e3;refine⟨u,r,?_⟩;rcases l with l|⟨k,c,e,z⟩
  ·exact .inl l
  ·exact .inr ⟨k,c,e,cellK x c e _ z⟩
 ·obtain⟨v,z⟩:=I.cell x c e;exact⟨v,cellK x c e v z⟩
 ·obtain⟨m,⟨o,_,_,ho,_⟩,_⟩:=I.loc;exact free _ o (fun z=>(hch _ z).2.1 rfl) ho I.free
 ·obtain⟨v,o,ho,hd⟩:=I.cell x c e;exact free c o (fun z=>(hch c z).2.2.1 x c e rfl) ho (I.freeC x c e)
 ·obtain⟨e,n,ne,nf,d⟩:=I.pin p hp;have nch:p.1∉ch:=fun z=>(hch p.1 z).2.2.2 p hp rfl;exact⟨keep p.1 p.2 ne nf nch e n,free p.1 p.2 nch e n,ne,nf,d⟩
theorem Inv.un {t':Nat}(I:Inv X pins σ H s)(u:Un X.fs [] H H' s.heap h')(hok:HOk X.prog X.w H' h'):Inv X pins σ H' { s with heap:=h',toks:=t' }:=by
 obtain⟨m,⟨o,es,ep,ho,r⟩,_⟩:=id I.loc;obtain⟨sl,hL⟩:=u.any ho I.free (by simp);exact I.step (g':=s.gens) (d':=s.drawn) (ch:=[]) (fun _ z=>nomatch z) (fun b o _ hb _ e n=>u.keep b o e n hb (by simp)) (fun b o _ hb _ e n=>u.slot b o e n hb (by simp)) (fun b o _ e n=>u.free b o e n (by simp)) (fun b o _ e=>u.there b o e (by simp)) u.tups u.frzs u.tbls (fun m' hm=>by
  obtain⟨o',es',ep',ho',r'⟩:=hm;rw[ho]at ho';cases ho';exact⟨_,es',ep',hL,r'⟩) hok I.bare
theorem Inv.call {g':Array GenState}{t':Nat}{d':Drawn}{ch:List Addr} (I:Inv X pins σ H s) (u:Un (frs X.stack) ch H H' s.heap h') (hok:HOk X.prog X.w H' h') (hg:AllBare g')
  (hch:∀b∈ch,(b∈X.ex∨X.s₀.heap.objs.size<=b)/\b≠X.env.locals/\(∀x c,X.env.cells.lookup x=some c->c≠b)/\∀p∈X.pn++pins,p.1≠b) :
  Inv X pins σ H' { s with heap:=h',gens:=g',drawn:=d',toks:=t' }:=by
 obtain⟨m,⟨o,es,ep,ho,r⟩,_⟩:=id I.loc;obtain⟨sl,hL⟩:=u.any ho I.free fun z=>(hch _ z).2.1 rfl;exact I.step (ch:=ch) hch (fun b o hL hb hc e n=>u.keep b o e n (fun z=>(List.mem_cons.mp (I.stkSub b z)).elim hL hb) hc) (fun b o _ _ hc e n=>u.any e n hc) (fun b o hc e n=>u.free b o e n hc) (fun b o hc e=>u.there b o e hc) u.tups u.frzs u.tbls (fun m' hm=>by
  obtain⟨o',es',ep',ho',r'⟩:=hm;rw[ho]at ho';cases ho';exact⟨_,es',ep',hL,r'⟩) hok hg
theorem Inv.turned {t':Nat}{it:Addr} (I:Inv X pins σ H s) (k:∀b o,b≠it->s.heap.get? b=some o->h'.get? b=some o) (hn:H it=none) (hL:it≠X.env.locals)
  (h1:it∈X.ex∨X.s₀.heap.objs.size<=it)(h2:∀x c,X.env.cells.lookup x=some c->c≠it)(h3:∀p∈X.pn++pins,p.1≠it):Inv X pins σ H { s with heap:=h',toks:=t' }:=by
 have nit:∀b u,H b=some u->b≠it:=fun b u e z=>by rw[z,hn]at e;cases e
 refine I.step (g':=s.gens) (d':=s.drawn) (ch:=[it]) (fun b hb=> ?_) (fun b o _ _ hc e _=>k b o (fun z=>hc (by simp[z])) e) (fun b o _ _ hc e _=>⟨o.slots,k b o (fun z=>hc (by simp[z])) e⟩) (fun _ _ _ _ n=>n)
  (fun b o hc e=>⟨o,k b o (fun z=>hc (by simp[z])) e⟩) (fun _ _ e=>e) (fun _ _ _ e=>e) (fun b ps e=>⟨#[],by rw[e];simp⟩) (fun m hm=> ?_) (fun b u e=> ?_) I.bare
 ·have e:b=it:=by simpa using hb
  subst e;exact⟨h1,hL,h2,h3⟩
 ·obtain⟨o,es,ep,ho,r⟩:=hm;exact⟨o,es,ep,k _ o (Ne.symm hL) ho,r⟩
 ·refine(I.hok b u e).stay (fun c v hc q=>k c v ?_ q) (fun _ q=>q) fun _ _ q=>q;rcases hc with z|z
  ·rw[z];exact nit b u e
  ·exact nit c _ z
theorem Inv.tok (I:Inv X pins σ H s)(t:Nat):Inv X pins σ H { s with toks:=t }:=I.un (h':=s.heap) (t':=t) Un.refl I.hok
theorem Inv.kept {t':Nat}(I:Inv X pins σ H s)(k:∀b u,s.heap.get? b=some u->h'.get? b=some u):Inv X pins σ H { s with heap:=h',toks:=t' }:=I.un (Un.kept k) (I.hok.kept k)
theorem Inv.laid {a:Addr}{o:HO}{t':Nat} (I:Inv X pins σ H s) (k:∀b u,s.heap.get? b=some u->h'.get? b=some u) (hp:s.heap.objs.size<=a) (new:ObjOk X.prog X.w (upd H a o) h' a o) :
  Inv X pins σ (upd H a o) { s with heap:=h',toks:=t' }:=I.un (Un.laid k hp (I.hok.fresh hp)) (I.hok.laid k hp new)
theorem Inv.write {x e:Addr}{o:HO}{t':Nat} (I:Inv X pins σ H s) (mu:Mut (H x)) (he:e=x∨H e=some (.own x)) (k:∀b u,b≠e->s.heap.get? b=some u->h'.get? b=some u) (heo:∃u,h'.get? e=some u)
  (new:ObjOk X.prog X.w (upd H x o) h' x o):Inv X pins σ (upd H x o) { s with heap:=h',toks:=t' }:=I.un (Un.write mu he k heo) (I.hok.write mu he k heo new)
theorem Inv.weak {σ':List (Option V)}(I:Inv X pins σ H s)(hl:σ'.length=σ.length)(w:∀(i:Nat) v,σ'[i]? =some (some v)->σ[i]? =some (some v)):Inv X pins σ' H s :=
 ⟨I.ok,I.os,I.bare,I.base,let ⟨m,hn,hl'⟩:=I.loc;⟨m,hn,fun i x v e1 e2 e3=>hl' i x v e1 (w i v e2) e3⟩,I.cell,I.free,I.freeC,I.pin,I.hok,hl.trans I.len⟩
theorem Inv.pins_of {pins':List (Addr×Obj)}(I:Inv X pins σ H s)(h:∀p∈pins',s.heap.get? p.1=some p.2/\H p.1=none/\p.1≠X.env.locals/\p.1∉X.fs/\∀v,p.2.data≠ .cell v):Inv X pins' σ H s :=
 ⟨I.ok,I.os,I.bare,I.base,I.loc,I.cell,I.free,I.freeC,fun p hp=>(List.mem_append.mp hp).elim (fun z=>I.pin p (List.mem_append_left _ z)) (h p),I.hok,I.len⟩
theorem IR {N:List Str}(hN:N.Nodup){i j:Nat}{x:Str} (a:N[i]? =some x) (b:N[j]? =some x):i=j:=by
 obtain⟨h1,e1⟩:=List.getElem?_eq_some_iff.mp a;obtain⟨h2,e2⟩:=List.getElem?_eq_some_iff.mp b;exact(List.getElem_inj hN).mp (e1.trans e2.symm)
theorem Q0 {M:Model}{A:Around}{E:Value->Shared->Prop}{i:Nat}{x:Str}{v:V}{u:Value}{Q:Unit->Shared->Prop} (I:Inv X pins σ H s) (hN:X.N.Nodup) (hi:X.N[i]? =some x) (hx:Loc X.env.scope x) (r:RelV v u)
  (h:∀s',Inv X pins (σ.set i (some v)) H s'->(∃a,Heap.SameBut a s.heap s'.heap/\(a=X.env.locals∨X.env.cells.lookup x=some a))->Q () s')(hf:X.fn x=true∨X.env.scope.names.lookup x=some .local:=by first|exact .inl rfl|exact .inr rfl|assumption):wpAny M A (storeName X.env x u) Q E s:=by
 obtain⟨m,hn,hl⟩:=id I.loc;have hcls:(X.env.scope.kind== .class||(X.env.scope.kind== .module&&X.env.locals !=X.env.globals))=false:=by rw[I.ok.kind];rfl
 have hiσ:i<σ.length:=by rw[I.len];exact(List.getElem?_eq_some_iff.mp hi).1
 have cne:=I.cne;have tracked:∀{a:Addr}{h':Heap},(∃o,s.heap.get? a=some o/\H a=none)->Heap.SameBut a s.heap h'->HOk X.prog X.w H h':=fun {a h'} ha hs b ob e=>by
  obtain⟨_,_,hfree⟩:=ha;refine(I.hok b ob e).stay (fun c w' hc q=>(hs.2 c ?_).trans q) (fun _ q=>q) fun _ _ q=>q;rintro rfl;rcases hc with rfl|hc
  ·rw[hfree]at e;cases e
  ·rw[hfree]at hc;cases hc
 rcases hx with hk|hk
 ·refine wpAny_storeName_local hk hn (fun h' hn' hs=> ?_) hcls;obtain⟨oL,_,_,hoL,_⟩:=id hn;refine h _ ⟨I.ok,I.os,I.bare,⟨fun b o e n hb hx=> ?_,fun b o e n hb hx=> ?_,I.base.free,fun b o e hx=> ?_,I.base.tups,I.base.frzs,I.base.tbls⟩,⟨_,hn',fun j y v' e1 e2 e3=> ?_⟩,fun y c e=> ?_,I.free,I.freeC,fun p hp=> ?_,tracked ⟨oL,hoL,I.free⟩ hs,by simpa using I.len⟩ ⟨_,hs,.inl rfl⟩
  ·exact(hs.2 b (Nat.ne_of_lt (Nat.lt_of_lt_of_le (Heap.lt_size e) I.ok.above))).trans (I.base.keep b o e n hb hx)
  ·obtain⟨sl,e1⟩:=I.base.slot b o e n hb hx;exact⟨sl,(hs.2 b (Nat.ne_of_lt (Nat.lt_of_lt_of_le (Heap.lt_size e) I.ok.above))).trans e1⟩
  ·obtain⟨o',e1⟩:=I.base.there b o e hx;exact⟨o',(hs.2 b (Nat.ne_of_lt (Nat.lt_of_lt_of_le (Heap.lt_size e) I.ok.above))).trans e1⟩
  ·by_cases hj:j=i
   ·subst hj;rw[hi]at e1;cases e1;rw[List.getElem?_set_self hiσ]at e2;cases e2;exact⟨u,r,.inl ⟨hk,by simp⟩⟩
   ·rw[List.getElem?_set_ne (Ne.symm hj)]at e2;obtain⟨u',r',q⟩:=hl j y v' e1 e2 e3;refine⟨u',r',?_⟩;rcases q with⟨k,e⟩|⟨k,c,e,z⟩
    ·refine .inl ⟨k,?_⟩;have:y≠x:=fun e=>hj (IR hN e1 (e▸hi));simp[this,e]
    ·exact .inr ⟨k,c,e,z.sameBut hs (cne y c e)⟩
  ·obtain⟨w',z⟩:=I.cell y c e;exact⟨w',z.sameBut hs (cne y c e)⟩
  ·obtain⟨e,n,ne,nf,d⟩:=I.pin p hp;exact⟨(hs.2 p.1 ne).trans e,n,ne,nf,d⟩
 ·have hfn:X.fn x=true:=by
   rcases hf with z|z
   ·exact z
   ·rw[z]at hk;cases hk
  obtain⟨c,hc⟩:=I.ok.has x (.inl hk);obtain⟨w',z⟩:=I.cell x c hc;refine wpAny_storeName_cell I.ok.kind hk hc z (fun h' hc' hs=> ?_);obtain⟨oc,hoc,hocd⟩:=id z;refine h { s with heap:=h' } ⟨I.ok,I.os,I.bare,⟨fun b o e n hb hx=> ?_,fun b o e n hb hx=> ?_,I.base.free,fun b o e hx=> ?_,I.base.tups,I.base.frzs,I.base.tbls⟩,⟨m,hn.sameBut hs (Ne.symm (cne x c hc)),fun j y v' e1 e2 e3=> ?_⟩,fun y c' e=> ?_,I.free,I.freeC,fun p hp=> ?_,tracked ⟨oc,hoc,I.freeC x c hc⟩ hs,by simpa using I.len⟩ ⟨c,hs,.inr hc⟩
  ·exact(hs.2 b (Nat.ne_of_lt (Nat.lt_of_lt_of_le (Heap.lt_size e) (I.ok.cab x c hfn hc)))).trans (I.base.keep b o e n hb hx)
  ·obtain⟨sl,e1⟩:=I.base.slot b o e n hb hx;exact⟨sl,(hs.2 b (Nat.ne_of_lt (Nat.lt_of_lt_of_le (Heap.lt_size e) (I.ok.cab x c hfn hc)))).trans e1⟩
  ·obtain⟨o',e1⟩:=I.base.there b o e hx;exact⟨o',(hs.2 b (Nat.ne_of_lt (Nat.lt_of_lt_of_le (Heap.lt_size e) (I.ok.cab x c hfn hc)))).trans e1⟩
  ·by_cases hj:j=i
   ·subst hj;rw[hi]at e1;cases e1;rw[List.getElem?_set_self hiσ]at e2;cases e2;exact⟨u,r,.inr ⟨.inl hk,c,hc,hc'⟩⟩
   ·rw[List.getElem?_set_ne (Ne.symm hj)]at e2;obtain⟨u',r',q⟩:=hl j y v' e1 e2 e3;refine⟨u',r',?_⟩;rcases q with q|⟨k,c',e,z'⟩
    ·exact .inl q
    ·refine .inr ⟨k,c',e,z'.sameBut hs ?_⟩;rintro rfl;exact hj (IR hN e1 (I.ok.inj _ _ _ e hc▸hi))
  ·by_cases hcc:c'=c
   ·subst hcc;exact⟨_,hc'⟩
   ·obtain⟨w2,z2⟩:=I.cell y c' e;exact⟨w2,z2.sameBut hs hcc⟩
  ·obtain⟨e,n,ne,nf,d⟩:=I.pin p hp;refine⟨(hs.2 p.1 ?_).trans e,n,ne,nf,d⟩;intro q;rw[q,hoc]at e;have q':oc=p.2:=Option.some.inj e;exact d w' (by rw[←q'];exact hocd)
theorem GS {M:Model}{A:Around}{E:Value->Shared->Prop}{i:Nat}{x:Str}{v:V}{u:Value}{Q:Unit->Shared->Prop} (I:Inv X pins σ H s) (hN:X.N.Nodup) (hi:X.N[i]? =some x) (hx:Loc X.env.scope x) (r:RelV v u)
  (h:∀s',Inv X pins (σ.set i (some v)) H s'->Q () s')(hf:X.fn x=true∨X.env.scope.names.lookup x=some .local:=by first|exact .inl rfl|exact .inr rfl|assumption):wpAny M A (storeName X.env x u) Q E s :=
 Q0 I hN hi hx r (fun s' I' _=>h s' I') hf
theorem Inv.call' {s':Shared}{ch:List Addr} (I:Inv X pins σ H s) (ho:s'.os=s.os) (u:Un (frs X.stack) ch H H' s.heap s'.heap) (hok:HOk X.prog X.w H' s'.heap) (hg:AllBare s'.gens)
  (hch:∀b∈ch,(b∈X.ex∨X.s₀.heap.objs.size<=b)/\b≠X.env.locals/\(∀x c,X.env.cells.lookup x=some c->c≠b)/\∀p∈X.pn++pins,p.1≠b):Inv X pins σ H' s':=by
 obtain⟨h',g',d',t',o'⟩:=s';have e:o'=s.os:=ho;subst e;exact I.call (g':=g') (t':=t') (d':=d') u hok hg hch
end
abbrev XK:=Value->Option Addr->Hp->Prop
abbrev St:=List (Option V)
abbrev VK:=V->Hp->Prop
abbrev TE:=St->Hp->VK->Prop
abbrev TT:=St->Hp->(Bool->Hp->Prop)->Prop
abbrev TA:=St->Hp->(List V->Hp->Prop)->Prop
structure d4 where
 nx:St->Hp->Prop
 rt:VK
 bk:St->Hp->Prop:=fun _ _=>False
 ct:St->Hp->Prop:=fun _ _=>False
abbrev TS:=d4->St->Hp->Prop
def EP (X:Cx)(pins:List (Addr×Obj))(σ:St)(Q:VK)(u:Value)(s':Shared):Prop:=∃v H',Inv X pins σ H' s'/\RelV v u/\Q v H'
def TP (X:Cx)(pins:List (Addr×Obj))(σ:St)(Q:Bool->Hp->Prop)(b:Bool)(s':Shared):Prop:=∃H',Inv X pins σ H' s'/\Q b H'
def AP (X:Cx)(pins:List (Addr×Obj))(σ:St)(Q:List V->Hp->Prop)(us:List Value)(s':Shared):Prop:=∃vs H',Inv X pins σ H' s'/\Vals vs us/\Q vs H'
def SP (X:Cx)(pins:List (Addr×Obj))(D:d4)(f:Flow)(s':Shared):Prop :=
 match f with
 | .next=>∃σ' H',Inv X pins σ' H' s'/\D.nx σ' H'
 | .brk=>∃σ' H',Inv X pins σ' H' s'/\D.bk σ' H'
 | .cont=>∃σ' H',Inv X pins σ' H' s'/\D.ct σ' H'
 | .ret u=>∃v σ' H',Inv X pins σ' H' s'/\RelV v u/\D.rt v H'
def PE (X:Cx)(e:Expr)(t:TE):Prop :=
 ∀(pins:List (Addr×Obj)) (s:Shared) (σ:St) (H:Hp) (Q:VK),Inv X pins σ H s->t σ H Q->wpAny (model X.prog X.w) X.A (eval e X.env) (EP X pins σ Q) X.xe s
def PT (X:Cx)(e:Expr)(t:TT):Prop :=
 ∀(pins:List (Addr×Obj)) (s:Shared) (σ:St) (H:Hp) (Q:Bool->Hp->Prop),Inv X pins σ H s->t σ H Q->wpAny (model X.prog X.w) X.A (isTrue e X.env (eval e X.env)) (TP X pins σ Q) X.xe s
def PW (X:Cx)(e:Expr)(t:TT):Prop :=
 ∀(whole:Sem Value) (pins:List (Addr×Obj)) (s:Shared) (σ:St) (H:Hp) (Q:Bool->Hp->Prop),Inv X pins σ H s->t σ H Q->wpAny (model X.prog X.w) X.A (isTrue e X.env whole) (TP X pins σ Q) X.xe s
theorem PW.pt {X:Cx}{e:Expr}{t:TT} (h:PW X e t):PT X e t:=h _
def PA (X:Cx)(es:List Expr)(t:TA):Prop :=
 ∀(pos:Pos) (pins:List (Addr×Obj)) (s:Shared) (σ:St) (H:Hp) (Q:List V->Hp->Prop),Inv X pins σ H s->t σ H Q->wpAny (model X.prog X.w) X.A (spliced (backTo pos (starEach es X.env))) (AP X pins σ Q) X.xe s
def PS (X:Cx)(st:Stmt)(t:TS):Prop :=
 ∀(pins:List (Addr×Obj)) (s:Shared) (σ:St) (H:Hp) (D:d4),Inv X pins σ H s->t D σ H->wpAny (model X.prog X.w) X.A (exec st X.env) (SP X pins D) X.xe s
def PSs (X:Cx)(st:List Stmt)(t:TS):Prop :=
 ∀(pins:List (Addr×Obj)) (s:Shared) (σ:St) (H:Hp) (D:d4),Inv X pins σ H s->t D σ H->wpAny (model X.prog X.w) X.A (execs st X.env) (SP X pins D) X.xe s
theorem thn {α:Type}{t:Sem α}{Q Q':α->Shared->Prop}{M:Model}{A:Around}{E:Value->Shared->Prop}{s:Shared} (h:wpAny M A t Q E s) (hQ:∀a s,Q a s->Q' a s):wpAny M A t Q' E s:=wpAny_mono h hQ fun _ _ x=>x
end L2
namespace L2
open PySem PySem.Spec PyProof.Rows
section
variable {X:Cx}
def jC (i:Nat):TE:=fun σ H Q=>∃v,σ[i]? =some (some v)/\Q v H
def tC (v:V):TE:=fun _ H Q=>Q v H
theorem QZ {i:Nat}{x:Str}{pos:Pos} (hN:X.N[i]? =some x) (hv:Vis X.env.scope x) (hd:(x==("__debug__" :Str))=false:=by decide) (hcd:(x==("__classdict__" :Str))=false:=by decide):PE X (.Name x pos) (jC i):=by
 intro pins s σ H Q I h;obtain⟨v,e,h⟩:=h;obtain⟨m,hn,hl⟩:=I.loc;obtain⟨u,r,l⟩:=hl i x v hN e hv;have fin:EP X pins σ Q u s:=⟨v,H,I,r,h⟩
 rcases l with⟨hk,hm⟩|⟨hk,c,hc,hcell⟩
 ·exact wpAny_Name (wpAny_loadName_local I.ok.kind hk hn hm fin) hd
 ·rcases hk with hk|hk
  ·exact wpAny_Name (wpAny_loadName_cell I.ok.kind hk hc hcell fin) hd
  ·exact wpAny_Name (wpAny_loadName_free I.ok.kind hk hc hcell fin hcd) hd
theorem aE {i j pos}:PE X (.Constant (.int i) j pos) (tC (.int i)):=fun _ _ _ H _ I h=>wpAny_Constant_int ⟨.int i,H,I.tok _,⟨_,rfl⟩,h⟩
theorem nT {b j pos}:PE X (.Constant (.bool b) j pos) (tC (.bl b)):=fun _ _ _ H _ I h=>Constant_bool ⟨.bl b,H,I,rfl,h⟩
theorem oH {j pos}:PE X (.Constant .none j pos) (tC .non):=fun _ _ _ H _ I h=>Constant_none ⟨.non,H,I,rfl,h⟩
theorem cC {x j pos}:PE X (.Constant (.str x) j pos) (tC (.str x)):=fun _ _ _ H _ I h=>Calls.Constant_str ⟨.str x,H,I.tok _,⟨_,rfl⟩,h⟩
def Gl (X:Cx)(x:Str):Prop:=X.env.kindOf x=some .globalImplicit
theorem sY {E:Value->Shared->Prop}{pins:List (Addr×Obj)}{s:Shared}{σ:St}{H:Hp}{x:Str}{u:Value}{pos:Pos}{Q:Value->Shared->Prop} (I:Inv X pins σ H s) (hg:Gl X x) (hm:X.mg x=some u) (h:Q u s)
  (hd:(x==("__debug__" :Str))=false:=by decide):wpAny (model X.prog X.w) X.A (eval (.Name x pos) X.env) Q E s :=
 Calls.Name_function_global I.ok.kind hg (Calls.loadGlobal_global (by rw[I.ok.glob];exact I.mod.glob.keeps I.bk) hm h) hd
theorem v5 {E:Value->Shared->Prop}{pins:List (Addr×Obj)}{s:Shared}{σ:St}{H:Hp}{x:Str}{u:Value}{pos:Pos}{Q:Value->Shared->Prop} (I:Inv X pins σ H s) (hg:Gl X x) (hm:X.mg x=none) (hv:bootBuiltins x=some u) (h:Q u s)
  (hn:x≠ "__name__" :=by decide)(hd:(x==("__debug__" :Str))=false:=by decide):wpAny (model X.prog X.w) X.A (eval (.Name x pos) X.env) Q E s:=by
 obtain⟨mb,h1,h2⟩:=I.mod.blt;exact Calls.Name_function_global I.ok.kind hg (Calls.loadGlobal_builtin (by rw[I.ok.glob];exact I.mod.glob.keeps I.bk) hm (by rw[I.ok.blt];exact h1.keeps I.bk) ((h2 x hn).trans hv) h) hd
theorem XI {x:Str}{v:V}{u:Value}{pos:Pos} (hg:Gl X x) (hm:X.mg x=some u) (r:RelV v u) (hd:(x==("__debug__" :Str))=false:=by decide):PE X (.Name x pos) (tC v) :=
 fun _ _ _ H _ I h=>sY I hg hm ⟨v,H,I,r,h⟩ hd
theorem YW {x:Str}{v:V}{u:Value}{pos:Pos} (hg:Gl X x) (hm:X.mg x=none) (hv:bootBuiltins x=some u) (r:RelV v u) (hn:x≠ "__name__" :=by decide) (hd:(x==("__debug__" :Str))=false:=by decide):PE X (.Name x pos) (tC v) :=
 fun _ _ _ H _ I h=>v5 I hg hm hv ⟨v,H,I,r,h⟩ hn hd
variable {a b:Expr}{ta tb:TE}{pos:Pos}
def PC (X:Cx)(op:CmpOp)(a b:Expr)(t:TE):Prop :=
 ∀(pins:List (Addr×Obj)) (s:Shared) (σ:St) (H:Hp) (Q:VK),Inv X pins σ H s->t σ H Q →
  wpAny (model X.prog X.w) X.A (eval a X.env) (fun v s₁=>wpAny (model X.prog X.w) X.A (eval b X.env) (fun u s₂=>wpAny (model X.prog X.w) X.A (compareOp op v u) (EP X pins σ Q) X.xe s₂) X.xe s₁) X.xe s
def tB (t:TE):TT:=fun σ H Q=>t σ H fun x H1=>∃c,x= .bl c/\Q c H1
theorem GN {op:CmpOp}{t:TE} (h:PC X op a b t) (h1:behindInMarks op b=false:=by first|exact nobehind _ (by decide) (by decide)|rfl):PT X (.Compare a [op] [b] pos) (tB t):=by
 intro pins s σ H Q I hw;refine wpAny_isTrue_Compare1 (thn (h pins s σ H _ I hw) fun v s1 h1=>thn h1 fun u s2 h2=>thn h2 fun c s3 ⟨x,H1,I1,r1,q1⟩=> ?_) h1;obtain⟨d,rfl,q⟩:=q1;cases r1;exact wpAny_truthy_bool ⟨H1,I1,q⟩
theorem kJ {e:Expr}{t:TE} (h:PE X e t) (he:∀whole,isTrue e X.env whole=(do let v ←whole;standAt e.pos;holding [v] (truthy v)):=by intro _;rfl):PT X e (tB t):=by
 intro pins s σ H Q I hw;refine isTrue_plain (thn (h pins s σ H _ I hw) fun v s1 ⟨x,H1,I1,r1,q1⟩=> ?_) (he _);obtain⟨d,rfl,q⟩:=q1;cases r1;exact wpAny_truthy_bool ⟨H1,I1,q⟩
variable {tA tB':TT}{rest:List Expr}
def aBL (t u:TT):TT:=fun σ H Q=>t σ H fun c H1=>if c=true then u σ H1 Q else Q false H1
def tOr (t u:TT):TT:=fun σ H Q=>t σ H fun c H1=>if c=true then Q true H1 else u σ H1 Q
def aAy (t:TT):TT:=fun σ H Q=>t σ H fun c H1=>Q (!c) H1
theorem xD (ha:PT X a tA):PW X (.BoolOp .And [a] pos) tA:=by
 intro wh pins s σ H Q I h;refine isTrue_and (thn (ha pins s σ H Q I h) fun c s1 e=> ?_);cases c with
 | true=>exact isTrue_and_nil e
 | false=>exact e
theorem qG (ha:PT X a tA):PW X (.BoolOp .Or [a] pos) tA:=by
 intro wh pins s σ H Q I h;refine isTrue_or (thn (ha pins s σ H Q I h) fun c s1 e=> ?_);cases c with
 | false=>exact isTrue_or_nil e
 | true=>exact e
theorem A6 (ha:PT X a tA)(hb:PW X (.BoolOp .And (b::rest) pos) tB'):PW X (.BoolOp .And (a::b::rest) pos) (aBL tA tB'):=by
 intro wh pins s σ H Q I h;refine isTrue_and (thn (ha pins s σ H _ I h) fun c s1 ⟨H1,I1,q1⟩=> ?_);cases c with
 | true=>exact hb wh pins s1 σ H1 Q I1 q1
 | false=>exact⟨H1,I1,q1⟩
theorem rU (ha:PT X a tA)(hb:PW X (.BoolOp .Or (b::rest) pos) tB'):PW X (.BoolOp .Or (a::b::rest) pos) (tOr tA tB'):=by
 intro wh pins s σ H Q I h;refine isTrue_or (thn (ha pins s σ H _ I h) fun c s1 ⟨H1,I1,q1⟩=> ?_);cases c with
 | true=>exact⟨H1,I1,q1⟩
 | false=>exact hb wh pins s1 σ H1 Q I1 q1
theorem tH (ha:PT X a tA):PT X (.UnaryOp .Not a pos) (aAy tA):=by
 intro pins s σ H Q I h;exact isTrue_not (ha pins s σ H (fun c H1=>Q (!c) H1) I h)
def VC (ta tb:TE):TE:=fun σ H Q=>ta σ H fun x H1=>∃c,x= .bl c/\if c=true then tb σ H1 Q else Q (.bl false) H1
def aCz (ta:TE):TE:=fun σ H Q=>ta σ H fun x H1=>∃c,x= .bl c/\Q (.bl (!c)) H1
theorem AJ {op}{t:TE} (h:PE X a t):PE X (.BoolOp op [a] pos) t:=fun pins s σ H Q I hw=>BoolOp_one (h pins s σ H Q I hw)
theorem z5 (ha:PE X a ta)(hb:PE X (.BoolOp .And (b::rest) pos) tb):PE X (.BoolOp .And (a::b::rest) pos) (VC ta tb):=by
 intro pins s σ H Q I h;refine BoolOp_and (thn (ha pins s σ H _ I h) fun v s1 ⟨x,H1,I1,r1,q1⟩=> ?_);obtain⟨c,rfl,q1⟩:=q1;cases r1;refine wpAny_truthy_bool ?_;cases c with
 | true=>exact hb pins s1 σ H1 Q I1 q1
 | false=>exact⟨.bl false,H1,I1,rfl,q1⟩
theorem aBv (ha:PE X a ta):PE X (.UnaryOp .Not a pos) (aCz ta):=by
 intro pins s σ H Q I h;refine UnaryOp_ (thn (ha pins s σ H _ I h) fun v s1 ⟨x,H1,I1,r1,q1⟩=> ?_);obtain⟨c,rfl,q1⟩:=q1;cases r1;exact not_of (wpAny_truthy_bool ⟨.bl (!c),H1,I1,rfl,q1⟩)
def tIf (t:TT)(ta tb:TE):TE:=fun σ H Q=>t σ H fun c H1=>if c=true then ta σ H1 Q else tb σ H1 Q
theorem uP {c:Expr}(hc:PT X c tA)(ha:PE X a ta)(hb:PE X b tb):PE X (.IfExp c a b pos) (tIf tA ta tb):=by
 intro pins s σ H Q I h;refine wpAny_IfExp (thn (hc pins s σ H _ I h) fun d s1 ⟨H1,I1,q1⟩=> ?_);cases d with
 | true=>exact ha pins s1 σ H1 Q I1 q1
 | false=>exact hb pins s1 σ H1 Q I1 q1
end
end L2
namespace L2
open PySem PySem.Spec PyProof.Rows
def SqL (K:PySem.W.Frag)(H:Hp)(a:Addr)(xs:List V):Prop :=
 Rd H a (.lst xs) ∨
  ∃(o:Obj) (its:Array Value) (n:Nat),K.lookup a=some o/\o.cls= .type "list" /\o.dict=none/\o.data= .seq its n/\its.size<=sizeLine/\Vals xs its.toList
def SqT (K:PySem.W.Frag)(H:Hp)(a:Addr)(xs:List V):Prop :=
 Rd H a (.tup xs) ∨
  ∃(o:Obj) (its:Array Value) (n:Nat),K.lookup a=some o/\o.cls= .type "tuple" /\o.data= .seq its n/\its.size<=sizeLine/\Vals xs its.toList
def aCX:Value->Option V
 | .none=>some .non
 | .bool b=>some (.bl b)
 | .int i _=>some (.int i)
 | .str x _=>some (.str x)
 | .bytes b _=>some (.byt b)
 | .float b _=>some (.flt b)
 | .ref a=>some (.ref a)
 | .type n=>some (.ty n)
 | _=>none
theorem RelV.abs {x:V}{u:Value} (r:RelV x u):aCX u=some x:=by
 cases x with
 | non=>cases r;rfl
 | bl _=>cases r;rfl
 | int _=>obtain⟨t,rfl⟩:=r;rfl
 | str _=>obtain⟨t,rfl⟩:=r;rfl
 | byt _=>obtain⟨t,rfl⟩:=r;rfl
 | flt _=>obtain⟨t,rfl⟩:=r;rfl
 | ref _=>cases r;rfl
 | ty _=>cases r;rfl
theorem RelV.inj {x y:V}{u:Value} (r:RelV x u) (q:RelV y u):x=y:=Option.some.inj (r.abs.symm.trans q.abs)
theorem Vals.inj:∀{xs ys:List V}{us:List Value},Vals xs us->Vals ys us->xs=ys
 | _,_,_,.nil,.nil=>rfl
 | _,_,_,.cons r t,.cons r' t'=>by rw[r.inj r',Vals.inj t t']
section
variable {X:Cx}{pins:List (Addr×Obj)}{σ:St}{H:Hp}{s:Shared}{a:Addr}{xs ys:List V}
theorem SqL.of {K:PySem.W.Frag}(h:H a=some (.lst xs)):SqL K H a xs:= .inl (.inl h)
theorem SqT.of {K:PySem.W.Frag}(h:H a=some (.tup xs)):SqT K H a xs:= .inl (.inl h)
theorem Inv.list (I:Inv X pins σ H s)(h:SqL X.K H a xs):∃its:List Value,Vals xs its/\PlainL s.heap a its.toArray/\xs.length<=sizeLine:=by
 rcases h with h|⟨o,its,n,hk,hc,hd,hs,hz,r⟩
 ·obtain⟨z,its,n,r,e⟩:=h.ok I.hok;exact⟨its,r,⟨_,n,e,rfl,rfl,rfl⟩,z⟩
 ·refine⟨its.toList,r,⟨o,n,I.kIn a o hk,hc,hd,by simpa using hs⟩,?_⟩;have e:=r.length;simp only[Array.length_toList]at e
  lia
theorem Inv.tuple (I:Inv X pins σ H s)(h:SqT X.K H a xs):∃its:List Value,Vals xs its/\IsTup s.heap a its.toArray/\xs.length<=sizeLine:=by
 rcases h with h|⟨o,its,n,hk,hc,hs,hz,r⟩
 ·obtain⟨z,its,r,p⟩:=h.ok I.hok;exact⟨its,r,p,z⟩
 ·refine⟨its.toList,r,⟨o,I.kIn a o hk,hc,n,by simpa using hs⟩,?_⟩;have e:=r.length;simp only[Array.length_toList]at e
  lia
theorem Inv.list_inj (I:Inv X pins σ H s)(h:SqL X.K H a xs)(h':SqL X.K H a ys):xs=ys:=by
 obtain⟨its,r,⟨o,n,e,_,_,d⟩,_⟩:=I.list h;obtain⟨its',r',⟨o',n',e',_,_,d'⟩,_⟩:=I.list h';rw[e]at e';cases e';rw[d]at d';injection d' with d1 _;have:its=its':=by simpa using congrArg Array.toList d1
 subst this;exact r.inj r'
end
abbrev Cx.wish (X:Cx)(E:Value->Shared->Prop):Cx:={ X with xe:=E }
abbrev Cx.nox (X:Cx):Cx:=X.wish fun _ _=>False
theorem Cx.Ok.wish {X:Cx}(ok:X.Ok)(E:Value->Shared->Prop):(X.wish E).Ok :=
 ⟨ok.mod,ok.kind,ok.glob,ok.blt,ok.above,ok.inj,ok.has,ok.cab,ok.hd,ok.frames,ok.stk,ok.exf,ok.bs,ok.bsz,ok.noex,ok.exfs,ok.funs,ok.frf⟩
theorem Cx.Ok.unwish {X:Cx}{E:Value->Shared->Prop} (ok:(X.wish E).Ok):X.Ok :=
 ⟨ok.mod,ok.kind,ok.glob,ok.blt,ok.above,ok.inj,ok.has,ok.cab,ok.hd,ok.frames,ok.stk,ok.exf,ok.bs,ok.bsz,ok.noex,ok.exfs,ok.funs,ok.frf⟩
section
variable {X:Cx}{pins:List (Addr×Obj)}{σ:St}{H:Hp}{s:Shared}{E:Value->Shared->Prop}
theorem Inv.wish (I:Inv X pins σ H s)(E:Value->Shared->Prop):Inv (X.wish E) pins σ H s:=⟨I.ok.wish E,I.os,I.bare,I.base,I.loc,I.cell,I.free,I.freeC,I.pin,I.hok,I.len⟩
theorem Inv.unwish (I:Inv (X.wish E) pins σ H s):Inv X pins σ H s:=⟨I.ok.unwish,I.os,I.bare,I.base,I.loc,I.cell,I.free,I.freeC,I.pin,I.hok,I.len⟩
theorem SP.unwish {D:d4}{f:Flow}{s':Shared} (h:SP (X.wish E) pins D f s'):SP X pins D f s':=by
 cases f with
 | next=>obtain⟨σ',H',I,q⟩:=h;exact⟨σ',H',I.unwish,q⟩
 | brk=>obtain⟨σ',H',I,q⟩:=h;exact⟨σ',H',I.unwish,q⟩
 | cont=>obtain⟨σ',H',I,q⟩:=h;exact⟨σ',H',I.unwish,q⟩
 | ret u=>obtain⟨v,σ',H',I,r,q⟩:=h;exact⟨v,σ',H',I.unwish,r,q⟩
theorem PE.nox {e:Expr}{t:TE} (h:PE X.nox e t):PE X e t:=fun pins s σ H Q I hw =>
 wpAny_mono (h pins s σ H Q (I.wish _) hw) (fun _ _ ⟨v,H',I',r,q⟩=>⟨v,H',I'.unwish,r,q⟩) fun _ _ z=>False.elim z
theorem PSs.nox {st:List Stmt}{t:TS} (h:PSs X.nox st t):PSs X st t:=fun pins s σ H D I hw =>
 wpAny_mono (h pins s σ H D (I.wish _) hw) (fun _ _ q=>q.unwish) fun _ _ z=>False.elim z
end
section
variable {X:Cx}{st:Stmt}{rest:List Stmt}{t u:TS}{e:Expr}{te:TE}{pos:Pos}
def VU:TS:=fun D σ H=>D.nx σ H
def GX (t u:TS):TS:=fun D σ H=>t { D with nx:=u D } σ H
theorem bB:PSs X [] VU:=fun _ _ σ H _ I h=>wpAny_execs_nil ⟨σ,H,I,h⟩
theorem aD (h1:PS X st t)(h2:PSs X rest u):PSs X (st::rest) (GX t u):=by
 intro pins s σ H D I h;refine wpAny_execs_cons (thn (h1 pins s σ H { D with nx:=u D } I h) fun f s1 q=> ?_);cases f with
 | next =>
  obtain⟨σ',H',I',q⟩:=q;exact h2 pins s1 σ' H' D I' q
 | ret v=>exact q
 | brk=>exact q
 | cont=>exact q
theorem aF (h1:PS X st t):PSs X [st] t:=by
 intro pins s σ H D I h;refine wpAny_execs_cons (thn (h1 pins s σ H D I h) fun f s1 q=> ?_);cases f with
 | next=>exact wpAny_execs_nil q
 | ret v=>exact q
 | brk=>exact q
 | cont=>exact q
theorem Inv.quiet {pins:List (Addr×Obj)}{σ:St}{H:Hp}{s:Shared} (I:Inv X pins σ H s):interactive X.env=false:=by simp[interactive,I.ok.kind]
def V7 (te:TE):TS:=fun D σ H=>te σ H fun _ H1=>D.nx σ H1
theorem bR (he:PE X e te)(hs:swapsWith e none pos.line X.env=pure false:=by rfl):PS X (.Expr e pos) (V7 te):=by
 intro pins s σ H D I h;exact wpAny_Expr_any (thn (he pins s σ H _ I h) fun v s1 ⟨x,H1,I1,r1,q1⟩=>⟨σ,H1,I1,q1⟩) I.quiet hs
def aBg (te:TE):TS:=fun D σ H=>te σ H D.rt
theorem aU (he:PE X e te):PS X (.Return (some e) pos) (aBg te):=by
 intro pins s σ H D I h;exact wpAny_Return_some (thn (he pins s σ H _ I h) fun v s1 ⟨x,H1,I1,r1,q1⟩=>⟨x,σ,H1,I1,r1,q1⟩)
def NV (c:TT)(t u:TS):TS:=fun D σ H=>c σ H fun b H1=>if b=true then t D σ H1 else u D σ H1
theorem bO {c:Expr}{a b:List Stmt}{tc:TT} (hc:PT X c tc) (ha:PSs X a t) (hb:PSs X b u):PS X (.If c a b pos) (NV tc t u):=by
 intro pins s σ H D I h;refine wpAny_If (thn (hc pins s σ H _ I h) fun d s1 ⟨H1,I1,q1⟩=> ?_);cases d with
 | true=>exact ha pins s1 σ H1 D I1 q1
 | false=>exact hb pins s1 σ H1 D I1 q1
def Z3:TS:=fun _ _ _=>False
theorem eJ:PS X st Z3:=fun _ _ _ _ _ _ h=>h.elim
end
abbrev TG:=V->St->Hp->(St->Hp->Prop)->Prop
abbrev TGs:=List V->St->Hp->(St->Hp->Prop)->Prop
def PG (X:Cx)(target:Expr)(t:TG):Prop :=
 ∀(pins:List (Addr×Obj)) (s:Shared) (σ:St) (H:Hp) (v:V) (u:Value) (Q:St->Hp->Prop),Inv X pins σ H s->RelV v u->t v σ H Q →
  wpAny (model X.prog X.w) X.A (assign target X.env u) (fun _ s'=>∃σ' H',Inv X pins σ' H' s'/\Q σ' H') X.xe s
def PGs (X:Cx)(ts:List Expr)(t:TGs):Prop :=
 ∀(pins:List (Addr×Obj)) (s:Shared) (σ:St) (H:Hp) (vs:List V) (us:List Value) (Q:St->Hp->Prop),Inv X pins σ H s->Vals vs us->t vs σ H Q →
  wpAny (model X.prog X.w) X.A (assignInOrder ((assignEach ts X.env).map (·.2)) us) (fun _ s'=>∃σ' H',Inv X pins σ' H' s'/\Q σ' H') X.xe s
abbrev NL:=V->V->V->Hp->(Hp->Prop)->Prop
def aAl (X:Cx)(t:NL):Prop :=
 ∀(pins:List (Addr×Obj)) (s:Shared) (σ:St) (H:Hp) (o i v:V) (ov iv u:Value) (Q:Hp->Prop),Inv X pins σ H s->RelV o ov->RelV i iv->RelV v u->t o i v H Q →
  wpAny (model X.prog X.w) X.A (setItem ov iv u) (fun _ s'=>∃H',Inv X pins σ H' s'/\Q H') X.xe s
section
variable {X:Cx}{pos:Pos}
def cJ (i:Nat):TG:=fun v σ H Q=>Q (σ.set i (some v)) H
theorem aG {i:Nat}{x:Str} (hN:X.N.Nodup) (hi:X.N[i]? =some x) (hx:Loc X.env.scope x) (hf:X.fn x=true∨X.env.scope.names.lookup x=some .local:=by first|exact .inl rfl|exact .inr rfl|assumption):PG X (.Name x pos) (cJ i):=by
 intro pins s σ H v u Q I r h;exact wpAny_assign_Name (GS I hN hi hx r (fun s' I'=>⟨_,H,I',h⟩) hf)
def M9:TGs:=fun vs σ H Q=>vs=[]/\Q σ H
def xC (t:TG)(u:TGs):TGs:=fun vs σ H Q=>∃v r,vs=v::r/\t v σ H fun σ' H'=>u r σ' H' Q
theorem dG:PGs X [] M9:=by
 intro pins s σ H vs us Q I r h;obtain⟨e,h⟩:=h;subst e;cases r;exact assignInOrder_nil ⟨σ,H,I,h⟩
theorem aY {e:Expr}{es:List Expr}{t:TG}{u:TGs} (h1:PG X e t) (h2:PGs X es u)
  (hs:(assignEach (e::es) X.env).map (·.2)=assign e X.env::(assignEach es X.env).map (·.2):=by rfl):PGs X (e::es) (xC t u):=by
 intro pins s σ H vs us Q I r h;obtain⟨v,vr,e1,h⟩:=h;subst e1;cases r with
 | cons r rr =>
  rw[hs];refine assignInOrder_cons (thn (h1 pins s σ H _ _ _ I r h) fun _ s1 ⟨σ1,H1,I1,q1⟩=> ?_);exact h2 pins s1 σ1 H1 _ _ Q I1 rr q1
def GM (K:PySem.W.Frag)(n:Nat)(t:TGs):TG:=fun v σ H Q=>∃a xs,v= .ref a/\SqT K H a xs/\xs.length=n/\t xs σ H Q
theorem l7 {es:List Expr}{k:Nat}{t:TGs}{n:Nat} (hc:X.calm=true) (h:PGs X es t)
  (hn:(assignEach es X.env).length=n:=by rfl)(hst:(assignEach es X.env).findIdx? (·.1)=none:=by rfl):PG X (.Tuple es k pos) (GM X.K n t):=by
 intro pins s σ H v u Q I r hw;obtain⟨a,xs,e1,hq,hl,hw⟩:=hw;subst e1;cases r;obtain⟨its,rv,ht,hz⟩:=I.tuple hq;refine assign_Tuple_tuple (I.ok.hd hc) ht (by simp[hn,←hl,rv.length]) hst fun h' hx=> ?_;have I1:Inv X pins σ H { s with heap:=h' }:=I.kept (t':=s.toks) fun b o e=>hx b o (Nat.ne_of_lt (Heap.lt_size e)) e;exact h pins _ σ H xs _ Q I1 (by simpa using rv) hw
def aAh (to ti:TE)(t:NL):TG:=fun v σ H Q=>to σ H fun o H1=>ti σ H1 fun i H2=>t o i v H2 fun H3=>Q σ H3
theorem QT {o i:Expr}{to ti:TE}{t:NL} (ho:PE X o to) (hi:PE X i ti) (hs:aAl X t)
  (ha:∀v,assign (.Subscript o i pos) X.env v=(do
   let ov ←holding [v] (eval o X.env);let iv ←holding [v,ov] (eval i X.env)
   standAt pos
   holding [v,ov,iv] (setItem ov iv v)
   release [v,ov,iv] []):=by intro _;rfl):PG X (.Subscript o i pos) (aAh to ti t):=by
 intro pins s σ H v u Q I r h;rw[ha];refine wpAny_bind (wpAny_holding (thn (ho pins s σ H _ I h) fun ov s1 ⟨x,H1,I1,r1,q1⟩=> ?_));refine wpAny_bind (wpAny_holding (thn (hi pins s1 σ H1 _ I1 q1) fun iv s2 ⟨y,H2,I2,r2,q2⟩=> ?_));refine wpAny_bind (wpAny_standAt (wpAny_bind (wpAny_holding (thn (hs pins s2 σ H2 x y v ov iv u _ I2 r1 r2 r q2) fun _ s3 ⟨H3,I3,q3⟩=> ?_))));exact wpAny_release ⟨σ,H3,I3,q3⟩
def G8 (te:TE)(g:TG):TS:=fun D σ H=>te σ H fun x H1=>g x σ H1 D.nx
theorem IQ {tg e:Expr}{te:TE}{g:TG} (he:PE X e te) (hg:PG X tg g) (hs:swapsWithSole [tg] e pos.line X.env=pure false:=by rfl) (hw:swappedStores [tg] e X.env=pure none:=by rfl)
  (h1:(assignEach [tg] X.env).map (·.2)=[assign tg X.env]:=by rfl):PS X (.Assign [tg] e pos) (G8 te g):=by
 intro pins s σ H D I h;refine wpAny_Assign_stores (thn (he pins s σ H _ I h) fun v s1 ⟨x,H1,I1,r1,q1⟩=> ?_) hs hw;rw[h1];exact thn (hg pins s1 σ H1 x v _ I1 r1 q1) fun _ s2 q=>q
theorem aV {i:Nat}{x:Str}{e:Expr}{te:TE}{pos':Pos} (hN:X.N.Nodup) (hi:X.N[i]? =some x) (hx:Loc X.env.scope x) (he:PE X e te) (hs:swapsWith e (some (.Name x pos')) pos.line X.env=pure false:=by rfl) (hf:X.fn x=true∨X.env.scope.names.lookup x=some .local:=by first|exact .inl rfl|exact .inr rfl|assumption) :
  PS X (.Assign [.Name x pos'] e pos) (G8 te (cJ i)):=by
 intro pins s σ H D I h;refine wpAny_Assign_Name (thn (he pins s σ H _ I h) fun v s1 ⟨y,H1,I1,r1,q1⟩=> ?_) hs;exact GS I1 hN hi hx r1 (fun s2 I2=>⟨_,H1,I2,q1⟩) hf
end
section
variable {X:Cx}{pos:Pos}
end
structure It where
 go:Nat->Hp->Prop
 yld:Nat->Hp->V->Hp->Prop
 stop:Nat->Hp->Prop
def j8 (X:Cx)(pins:List (Addr×Obj))(H:Hp)(b:Addr):Prop :=
 H b=none/\b≠X.env.locals/\b∉X.fs/\(b∈X.ex∨X.s₀.heap.objs.size<=b)/\(∀x c,X.env.cells.lookup x=some c->c≠b)/\∀p∈X.pn++pins,p.1≠b
theorem Inv.fpOk {X:Cx}{pins:List (Addr×Obj)}{σ:St}{H H':Hp}{s:Shared}{b:Addr} (I:Inv X pins σ H s) (hb:s.heap.objs.size<=b) (hn:H' b=none):j8 X pins H' b:=by
 refine⟨hn,Nat.ne_of_gt (Nat.lt_of_lt_of_le I.lt hb),I.nofs hb,.inr (Nat.le_trans I.sz hb),fun x c e z=> ?_,fun p hp z=> ?_⟩
 ·obtain⟨v,q⟩:=I.cell x c e;exact absurd (Nat.lt_of_lt_of_le q.lt (by rw[z];exact hb)) (Nat.lt_irrefl _)
 ·exact absurd (Nat.lt_of_lt_of_le (Heap.lt_size (I.pin p hp).1) (by rw[z];exact hb)) (Nat.lt_irrefl _)
structure v8 (P:Program)(w:World)(K:PySem.W.Frag)(tg:Expr)(J:It)(fp:List Addr)(it:Addr)(tn:Nat->Heap->Prop):Prop where
 mem:it∈fp
 obj:∀i h,tn i h->∀b∈fp,∃o,h.get? b=some o/\∀v,o.data≠ .cell v
 keep:∀i h h',tn i h->(∀b∈fp,∀o,h.get? b=some o->h'.get? b=some o)->tn i h'
 item:∀(X:Cx),X.prog=P->X.w=w->X.K=K->X.calm=true->∀(i:Nat) (pins:List (Addr×Obj)) (s:Shared) (σ:St) (H:Hp) (E:Value->Shared->Prop),Inv X pins σ H s->(∀b∈fp,j8 X pins H b)->tn i s.heap->J.go i H →
  wpAny (model P w) X.A (pyNext (.ref it)) (fun r s1=>∃u,r=some u ∧
   wpAny (model P w) X.A (letOwnedTupleGo tg (.ref it) u) (fun _ s2=>∃x H',Inv X pins σ H' s2/\RelV x u/\J.yld i H x H'/\tn (i+1) s2.heap/\∀b∈fp,H' b=none) E s1) E s
 done:∀(X:Cx),X.prog=P->X.w=w->X.K=K->X.calm=true->∀(i:Nat) (pins:List (Addr×Obj)) (s:Shared) (σ:St) (H:Hp) (E:Value->Shared->Prop),Inv X pins σ H s->(∀b∈fp,j8 X pins H b)->tn i s.heap->J.stop i H →
  wpAny (model P w) X.A (pyNext (.ref it)) (fun r s1=>r=none/\Inv X pins σ H s1) E s
 self:∀(A:Around) (i:Nat) (s:Shared) (Q:Value->Shared->Prop) (E:Value->Shared->Prop),tn i s.heap->Q (.ref it) s->wpAny (model P w) A (pyIter (.ref it)) Q E s
abbrev TI:=St->Hp->(It->Hp->Prop)->Prop
def PIE (X:Cx)(pins:List (Addr×Obj))(σ:St)(tg:Expr)(R:It->Hp->Prop)(itv:Value)(s2:Shared):Prop :=
 ∃(it:Addr) (fp:List Addr) (tn:Nat->Heap->Prop) (J:It) (H':Hp),itv= .ref it/\Inv X pins σ H' s2/\v8 X.prog X.w X.K tg J fp it tn/\tn 0 s2.heap/\(∀b∈fp,j8 X pins H' b)/\R J H'
def PI (X:Cx)(tg iter:Expr)(wi:TI):Prop :=
 ∀(pins:List (Addr×Obj)) (s:Shared) (σ:St) (H:Hp) (R:It->Hp->Prop),Inv X pins σ H s->wi σ H R →
  wpAny (model X.prog X.w) X.A (eval iter X.env) (fun v s1=>wpAny (model X.prog X.w) X.A (pyIter v) (PIE X pins σ tg R) X.xe s1) X.xe s
theorem NU {M:Model}{A:Around}{E:Value->Shared->Prop}{s:Shared}{tg:Expr}{it:Addr}{u:Value}{o:Obj}{n:String}{vs:Array Value}{Q:Unit->Shared->Prop} (ho:s.heap.get? it=some o) (hc:o.cls= .type n) (hd:o.data= .fields vs)
  (hn:["enumerate","zip","dict_itemiterator","dict_reverseitemiterator","odict_iterator","itertools.zip_longest","itertools.pairwise"].contains n=false)(hQ:Q () s):wpAny M A (letOwnedTupleGo tg (.ref it) u) Q E s:=by
 unfold letOwnedTupleGo;cases tg<;>first
  | exact wpAny_pure hQ
  | (cases u<;>first
    | exact wpAny_pure hQ
    | (refine wpAny_bind (wpAny_load ho ?_);rw[hc,hd];show wpAny M A (if (["enumerate","zip","dict_itemiterator","dict_reverseitemiterator","odict_iterator","itertools.zip_longest","itertools.pairwise"].contains n&&vs[0]? ==some (rawInt _))=true then _ else _) Q E s;rw[if_neg (by intro h;rw[hn,Bool.false_and]at h;cases h)];exact wpAny_pure hQ))
def Itl (K:PySem.W.Frag)(a:Addr):It :=
 ⟨fun i H=>∃xs x,SqL K H a xs/\xs[i]? =some x,fun i H x H'=>H'=H/\∀xs,SqL K H a xs->xs[i]? =some x,fun i H=>∃xs,SqL K H a xs/\xs.length<=i⟩
def Itr (lo:Int)(n:Nat):It:=⟨fun i _=>i<n,fun i H x H'=>H'=H/\x= .int (lo+i),fun i _=>n<=i⟩
theorem QB {P:Program}{w:World}{K:PySem.W.Frag}{tg:Expr} (a it:Addr):v8 P w K tg (Itl K a) [it] it (fun i h=>h.IsListIter it a i) where
 mem:=by simp
 obj:=fun i h st b hb=>by
  have e:b=it:=by simpa using hb
  subst e;obtain⟨o,e,c,d⟩:=st;exact⟨o,e,fun v z=>by rw[d]at z;cases z⟩
 keep:=fun i h h' st k=>st.at fun o e=>k it (by simp) o e
 item:=by
  intro X hP hw hK hc i pins s σ H E I hf st hg;subst hP hw hK;obtain⟨xs,x,hq,hx⟩:=hg;obtain⟨its,rv,p,hz⟩:=I.list hq;obtain⟨u,hu,ru⟩:=rv.get hx;obtain⟨f0,f1,f2,f3,f4,f5⟩:=hf it (by simp);refine wpAny_pyNext_list_item st p.isList (x:=u) (by simpa using hu) fun h' st' sb=> ?_;have I1:Inv X pins σ H { s with heap:=h' }:=I.turned (t':=s.toks) (fun b o hb e=>(sb.2 b hb).trans e) f0 f1 f3 f4 f5;obtain⟨o,e,c,d⟩:=id st';exact⟨u,rfl,NU (s:={ s with heap:=h' }) e c d (by decide) ⟨x,H,I1,ru,⟨rfl,fun ys hy=>by rw[I.list_inj hy hq];exact hx⟩,st',fun b hb=>(hf b hb).1⟩⟩
 done:=by
  intro X hP hw hK hc i pins s σ H E I hf st hg;subst hP hw hK;obtain⟨xs,hq,hx⟩:=hg;obtain⟨its,rv,p,hz⟩:=I.list hq;obtain⟨f0,f1,f2,f3,f4,f5⟩:=hf it (by simp);have hl:=rv.length;exact wpAny_pyNext_list_end (I.ok.hd hc) st p.isList (by simp;lia) fun h' eb=>⟨rfl,I.turned (t':=s.toks) (fun b o hb e=>eb b o hb e) f0 f1 f3 f4 f5⟩
 self:=fun _ _ _ _ _ st h=>wpAny_pyIter_listiter st h
theorem NI {P:Program}{w:World}{K:PySem.W.Frag}{tg:Expr} (it:Addr) (lo:Int) (n:Nat):v8 P w K tg (Itr lo n) [it] it (fun i h=>IsRangeIter h it (lo+(i:Nat) * 1) ((n:Int) - (i:Nat)) 1) where
 mem:=by simp
 obj:=fun i h st b hb=>by
  have e:b=it:=by simpa using hb
  subst e;exact⟨_,st,fun v z=>by
   have z':Data.fields _=Data.cell v:=z;cases z'⟩
 keep:=fun i h h' st k=>k it (by simp) _ st
 item:=by
  intro X hP hw hK hc i pins s σ H E I hf st hg;subst hP hw hK;obtain⟨f0,f1,f2,f3,f4,f5⟩:=hf it (by simp);have W:=Walks.range (prog:=X.prog) (w:=X.w) (I.ok.hd hc) it lo 1 n;refine W.item i s _ _ hg st fun v h' tk hv st' kk=> ?_;obtain⟨t,rfl⟩:=hv;have I1:Inv X pins σ H { s with heap:=h',toks:=tk }:=I.turned (fun b o hb e=>kk b o (by simpa using hb) e) f0 f1 f3 f4 f5;refine⟨_,rfl,NU (s:={ s with heap:=h',toks:=tk }) (n:= "range_iterator") st' rfl rfl (by decide) ⟨.int (lo+i),H,I1,⟨t,?_⟩,⟨rfl,rfl⟩,st',fun b hb=>(hf b hb).1⟩⟩;rw[Int.mul_one]
 done:=by
  intro X hP hw hK hc i pins s σ H E I hf st hg;subst hP hw hK;obtain⟨f0,f1,f2,f3,f4,f5⟩:=hf it (by simp);exact wpAny_pyNext_range_end (I.ok.hd hc) st (by have:n<=i:=hg;lia) fun h' eb=>⟨rfl,I.turned (t':=s.toks) (fun b o hb e=>eb b o hb e) f0 f1 f3 f4 f5⟩
 self:=fun _ _ _ _ _ st h=>wpAny_pyIter_rangeiter st h
end L2
namespace L2
open PySem PySem.Spec PyProof.Rows
section
variable {X:Cx}{tg:Expr}
def VL (K:PySem.W.Frag)(tl:TE):TI:=fun σ H R=>tl σ H fun x H1=>∃a,x= .ref a/\(∃xs,SqL K H1 a xs)/\R (Itl K a) H1
theorem bJ {l:Expr}{tl:TE} (hl:PE X l tl):PI X tg l (VL X.K tl):=by
 intro pins s σ H R I h;refine thn (hl pins s σ H _ I h) fun v s1 ⟨x,H1,I1,r1,q1⟩=> ?_;obtain⟨a,e,⟨xs,hq⟩,q⟩:=q1;subst e;cases r1;obtain⟨its,rv,p,hz⟩:=I1.list hq;refine wpAny_pyIter_list p.isList ?_;refine⟨s1.heap.objs.size,[s1.heap.objs.size],_,_,H1,rfl,I1.kept (t':=s1.toks) fun b o e=>Heap.get?_push_of_some _ e,QB a _,⟨_,Heap.get?_push_size _ rfl,rfl,rfl⟩,fun b hb=> ?_,q⟩;have e:b=s1.heap.objs.size:=by simpa using hb
 subst e;exact I1.fpOk (Nat.le_refl _) (I1.hok.fresh (Nat.le_refl _))
theorem HH {pins:List (Addr×Obj)}{σ:St}{H:Hp}{s:Shared}{R:It->Hp->Prop}{E:Value->Shared->Prop}{lo hi:Int}{t u v:Tok}{tk:Nat} (I:Inv X pins σ H s) (h1: -(2^62)<=lo) (h2:lo<2^62) (h3: -(2^62)<=hi) (h4:hi<2^62)
  (q:R (Itr lo (hi - lo).toNat) H):wpAny (model X.prog X.w) X.A (pyIter (.ref s.heap.objs.size)) (PIE X pins σ tg R) E { s with heap:=s.heap.push { cls:= .type "range",data:= .fields #[.int lo t,.int hi u,.int 1 v] },toks:=tk }:=by
 refine wpAny_pyIter_range (IsRange.new ..) (small_one h1 h2 h3 h4) ?_;have I1:Inv X pins σ H { s with heap:=s.heap.push { cls:= .type "range",data:= .fields #[.int lo t,.int hi u,.int 1 v] },toks:=tk }:=I.kept fun b o e=>Heap.get?_push_of_some _ e;refine⟨(s.heap.push { cls:= .type "range",data:= .fields #[.int lo t,.int hi u,.int 1 v] }).objs.size,[(s.heap.push { cls:= .type "range",data:= .fields #[.int lo t,.int hi u,.int 1 v] }).objs.size],_,_,H,rfl,
  I1.kept (t':=tk) fun b o e=>Heap.get?_push_of_some _ e,NI _ lo (hi - lo).toNat,?_,fun b hb=> ?_,q⟩
 ·have e1:lo+((0:Nat):Int) * 1=lo:=by simp
  have e2:(((hi - lo).toNat:Nat):Int) - ((0:Nat):Int)=Builtin.Range.rangeSize lo hi 1:=by rw[rangeSize_one];split<;>lia
  show IsRangeIter _ _ (lo+((0:Nat):Int) * 1) ((((hi - lo).toNat:Nat):Int) - ((0:Nat):Int)) 1;rw[e1,e2];exact Heap.get?_push_size _ rfl
 ·have e:b=(s.heap.push { cls:= .type "range",data:= .fields #[.int lo t,.int hi u,.int 1 v] }).objs.size:=by simpa using hb
  subst e;exact I1.fpOk (Nat.le_refl _) (I1.hok.fresh (Nat.le_refl _))
def VE (ta:TA):TI:=fun σ H R=>ta σ H fun vs H1=>∃j:Int,vs=[.int j]/\ -(2^62)<=j/\j<2^62/\R (Itr 0 j.toNat) H1
def VW (ta:TA):TI:=fun σ H R=>ta σ H fun vs H1=>∃i j:Int,vs=[.int i,.int j]/\(-(2^62)<=i/\i<2^62/\ -(2^62)<=j/\j<2^62)/\R (Itr i (j - i).toNat) H1
theorem gH {a:Expr}{ta:TA}{p pos:Pos} (hg:Gl X "range") (hm:X.mg "range" =none) (ha:PA X [a] ta) (hs:starEach [a] X.env=[(false,eval a X.env)]:=by rfl):PI X tg (.Call (.Name "range" p) [a] [] pos) (VE ta):=by
 intro pins s σ H R I h;refine Call_ (v5 I hg hm boot_range (PyProof.Rows.callWith_type1 (thn (ha pos pins s σ H _ I h) fun us s1 ⟨vs,H1,I1,r1,q1⟩=> ?_) hs rfl));obtain⟨j,e,q1,q2,q⟩:=q1;subst e;cases r1 with
 | cons r rr =>
  cases rr;obtain⟨t,rfl⟩:=r;exact call_range_1 (HH I1 (by lia) (by lia) q1 q2 (by simpa using q))
theorem wL {a b:Expr}{ta:TA}{p pos:Pos} (hg:Gl X "range") (hm:X.mg "range" =none) (ha:PA X [a,b] ta) (hs:starEach [a,b] X.env=[(false,eval a X.env),(false,eval b X.env)]:=by rfl) (hs2:starEach [b] X.env=[(false,eval b X.env)]:=by rfl) :
  PI X tg (.Call (.Name "range" p) [a,b] [] pos) (VW ta):=by
 intro pins s σ H R I h;refine Call_ (v5 I hg hm boot_range (PyProof.Rows.callWith_type1 (thn (ha pos pins s σ H _ I h) fun us s1 ⟨vs,H1,I1,r1,q1⟩=> ?_) (by rw[hs,hs2]) (by rw[hs2];rfl)));obtain⟨i,j,e,⟨q1,q2,q3,q4⟩,q⟩:=q1;subst e;cases r1 with
 | cons r rr =>
  cases rr with
  | cons r' rr =>
   cases rr;obtain⟨t,rfl⟩:=r;obtain⟨t',rfl⟩:=r';exact call_range_2 (HH I1 q1 q2 q3 q4 q)
def aAW (wi:TI)(g:TG)(tb:TS):TS:=fun D σ H=>wi σ H fun J H1=>∃W:Nat->Nat->St->Hp->Prop,(∃m,W 0 m σ H1)/\∀i m σ H,W i m σ H →
 (J.stop i H/\D.nx σ H)∨(J.go i H/\∃N:St->Hp->Prop,(∀σ' H',N σ' H'->∃m',m'<m/\W (i+1) m' σ' H')/\∀x H',J.yld i H x H'->g x σ H' fun σ2 H2=>tb { D with nx:=N,ct:=N,bk:=D.nx } σ2 H2)
def i4 (fp:List Addr)(h:Heap):List (Addr×Obj):=fp.filterMap fun b=>(h.get? b).map fun o=>(b,o)
theorem gI {fp:List Addr}{h:Heap}{b:Addr}{o:Obj} (hb:b∈fp) (e:h.get? b=some o):(b,o)∈i4 fp h:=List.mem_filterMap.mpr ⟨b,hb,by rw[e];rfl⟩
theorem wB {fp:List Addr}{h:Heap}{p:Addr×Obj} (hp:p∈i4 fp h):p.1∈fp/\h.get? p.1=some p.2:=by
 obtain⟨b,hb,e⟩:=List.mem_filterMap.mp hp;cases q:h.get? b with
 | none=>rw[q]at e;cases e
 | some o =>
  rw[q]at e;have e':(b,o)=p:=Option.some.inj e;subst e';exact⟨hb,q⟩
theorem Inv.pinned {pins:List (Addr×Obj)}{σ:St}{H:Hp}{s:Shared}{fp:List Addr} (I:Inv X pins σ H s) (hf:∀b∈fp,j8 X pins H b) (ho:∀b∈fp,∃o,s.heap.get? b=some o/\∀v,o.data≠ .cell v):Inv X (pins++i4 fp s.heap) σ H s :=
 I.pins_of fun p hp=>(List.mem_append.mp hp).elim (fun z=>I.pin p (List.mem_append_right _ z)) fun z=>by
  obtain⟨hb,e⟩:=wB z;obtain⟨f0,f1,f2,_⟩:=hf p.1 hb;obtain⟨o,e',d⟩:=ho p.1 hb;rw[e]at e';cases e';exact⟨e,f0,f1,f2,d⟩
theorem Inv.unpinned {pins pl:List (Addr×Obj)}{σ:St}{H:Hp}{s:Shared} (I:Inv X (pins++pl) σ H s):Inv X pins σ H s:=I.pins_of fun p hp=>I.pin p (List.mem_append_right _ (List.mem_append_left _ hp))
theorem c4 {iter:Expr}{body:List Stmt}{wi:TI}{g:TG}{tb:TS}{pos:Pos} (hp:PassesOwn (model X.prog X.w) X.A X.env X.xe) (hc:X.calm=true) (hi:PI X tg iter wi) (hg:PG X tg g) (hb:PSs X body tb)
  (hs:∀x,foldedSetIterable iter X.env x=pure x:=by intro _;rfl):PS X (.For tg iter body [] pos) (aAW wi g tb):=by
 intro pins s σ H D I h;refine wpAny_For (thn (hi pins s σ H _ I h) fun v s1 h1=>thn h1 fun itv s2 h2=> ?_) hs;obtain⟨it,fp,tn,J,H2,e,I2,T,st2,f2,W,⟨m0,w0⟩,turn⟩:=h2;subst e;have stat:∀{H':Hp},(∀b∈fp,H' b=none)->∀b∈fp,j8 X pins H' b:=fun hn b hb=>⟨hn b hb,(f2 b hb).2⟩
 refine codeAny_forLoop_any (fun n s'=>∃i σ' H',Inv X pins σ' H' s'/\tn i s'.heap/\(∀b∈fp,H' b=none)/\W i n σ' H') ?_ m0 ⟨0,σ,H2,I2,st2,fun b hb=>(f2 b hb).1,w0⟩;rintro n s3 ⟨i,σ3,H3,I3,st3,fr3,w3⟩;rcases turn i n σ3 H3 w3 with⟨stop,qn⟩|⟨go,N,hN,step⟩
 ·refine wpAny_passesOwn hp (thn (T.done X rfl rfl rfl hc i pins s3 σ3 H3 X.xe I3 (stat fr3) st3 stop) fun r s4 ⟨hr,I4⟩=> ?_);subst hr;exact wpAny_execs_nil ⟨σ3,H3,I4,qn⟩
 ·refine wpAny_passesOwn hp (thn (T.item X rfl rfl rfl hc i pins s3 σ3 H3 X.xe I3 (stat fr3) st3 go) fun r s4 ⟨u,hr,h4⟩=> ?_);subst hr;refine wpAny_passesOwn hp (thn h4 fun _ s5 ⟨x,H5,I5,r5,y5,st5,fr5⟩=> ?_);have I5':=I5.pinned (stat fr5) (T.obj _ _ st5);refine wpAny_passesOwn hp (thn (hg _ s5 σ3 H5 x u _ I5' r5 (step x H5 y5)) fun _ s6 ⟨σ6,H6,I6,q6⟩=> ?_);refine wpAny_passesOwn hp (thn (hb _ s6 σ6 H6 _ I6 q6) fun f s7 q7=> ?_);have again:∀{σ7:St}{H7:Hp},Inv X (pins++i4 fp s5.heap) σ7 H7 s7->N σ7 H7->∃m,m<n/\∃i σ' H',Inv X pins σ' H' s7/\tn i s7.heap/\(∀b∈fp,H' b=none)/\W i m σ' H':=fun {σ7 H7} I7 n7=>by
   obtain⟨m',hm,w7⟩:=hN σ7 H7 n7;refine⟨m',hm,i+1,σ7,H7,I7.unpinned,T.keep _ _ _ st5 fun b hb o e=>(I7.pin (b,o) (List.mem_append_right _ (List.mem_append_right _ (gI hb e)))).1,fun b hb=> ?_,w7⟩;obtain⟨o,e,d⟩:=T.obj _ _ st5 b hb;exact(I7.pin (b,o) (List.mem_append_right _ (List.mem_append_right _ (gI hb e)))).2.1
  cases f with
  | next=>obtain⟨σ7,H7,I7,n7⟩:=q7;exact again I7 n7
  | cont=>obtain⟨σ7,H7,I7,n7⟩:=q7;exact again I7 n7
  | brk=>obtain⟨σ7,H7,I7,q7⟩:=q7;exact⟨σ7,H7,I7.unpinned,q7⟩
  | ret v=>obtain⟨x7,σ7,H7,I7,r7,q7⟩:=q7;exact⟨x7,σ7,H7,I7.unpinned,r7,q7⟩
end
theorem TM {K:PySem.W.Frag}{a:Addr}{xs:List V}{g:TG}{tb:TS}{D:d4}{σ:St}{H:Hp} (Pv:Nat->St->Hp->Prop) (h0:Pv 0 σ H) (hl:∀i σ H,i<=xs.length->Pv i σ H->SqL K H a xs)
  (hs:∀i x σ H,xs[i]? =some x->Pv i σ H->g x σ H fun σ2 H2=>tb { D with nx:=Pv (i+1),ct:=Pv (i+1),bk:=D.nx } σ2 H2)(hd:∀σ H,Pv xs.length σ H->D.nx σ H) :
  ∃W:Nat->Nat->St->Hp->Prop,(∃m,W 0 m σ H)/\∀i m σ H,W i m σ H →
   ((Itl K a).stop i H/\D.nx σ H)∨((Itl K a).go i H/\∃N:St->Hp->Prop,(∀σ' H',N σ' H'->∃m',m'<m/\W (i+1) m' σ' H')/\∀x H',(Itl K a).yld i H x H'->g x σ H' fun σ2 H2=>tb { D with nx:=N,ct:=N,bk:=D.nx } σ2 H2):=by
 refine⟨fun i m σ H=>m=xs.length - i/\i<=xs.length/\Pv i σ H,⟨xs.length,by simp,Nat.zero_le _,h0⟩,?_⟩;rintro i m σ H ⟨rfl,hi,p⟩;have q:=hl i σ H hi p
 by_cases hlt:i<xs.length
 ·refine .inr ⟨⟨xs,xs[i],q,by simp[hlt]⟩,Pv (i+1),fun σ' H' p'=>⟨xs.length - (i+1),by lia,rfl,hlt,p'⟩,fun x H' y=> ?_⟩;obtain⟨e,y⟩:=y;subst e;exact hs i x σ _ (y xs q) p
 ·have e:i=xs.length:=by lia
  subst e;exact .inl ⟨⟨xs,q,Nat.le_refl _⟩,hd σ H p⟩
theorem QD {lo:Int}{n:Nat}{g:TG}{tb:TS}{D:d4}{σ:St}{H:Hp} (Pv:Nat->St->Hp->Prop) (h0:Pv 0 σ H)
  (hs:∀i σ H,i<n->Pv i σ H->g (.int (lo+i)) σ H fun σ2 H2=>tb { D with nx:=Pv (i+1),ct:=Pv (i+1),bk:=D.nx } σ2 H2)(hd:∀σ H,Pv n σ H->D.nx σ H) :
  ∃W:Nat->Nat->St->Hp->Prop,(∃m,W 0 m σ H)/\∀i m σ H,W i m σ H →
   ((Itr lo n).stop i H/\D.nx σ H)∨((Itr lo n).go i H/\∃N:St->Hp->Prop,(∀σ' H',N σ' H'->∃m',m'<m/\W (i+1) m' σ' H')/\∀x H',(Itr lo n).yld i H x H'->g x σ H' fun σ2 H2=>tb { D with nx:=N,ct:=N,bk:=D.nx } σ2 H2):=by
 refine⟨fun i m σ H=>m=n - i/\i<=n/\Pv i σ H,⟨n,by simp,Nat.zero_le _,h0⟩,?_⟩;rintro i m σ H ⟨rfl,hi,p⟩
 by_cases hlt:i<n
 ·refine .inr ⟨hlt,Pv (i+1),fun σ' H' p'=>⟨n - (i+1),by lia,rfl,hlt,p'⟩,fun x H' y=> ?_⟩;obtain⟨e,y⟩:=y;subst e y;exact hs i σ _ hlt p
 ·have e:i=n:=by lia
  subst e;exact .inl ⟨Nat.le_refl _,hd σ H p⟩
end L2
namespace L2
open PySem PySem.Spec PyProof.Rows
abbrev R2:=V->V->Hp->VK->Prop
def OpR (X:Cx)(f:Value->Value->Sem Value)(r:R2):Prop :=
 ∀(pins:List (Addr×Obj)) (s:Shared) (σ:St) (H:Hp) (x y:V) (v u:Value) (Q:VK),Inv X pins σ H s->RelV x v->RelV y u->r x y H Q →
  wpAny (model X.prog X.w) X.A (f v u) (EP X pins σ Q) X.xe s
def dC (X:Cx)(f:Value)(r:List V->Hp->VK->Prop):Prop :=
 ∀(pins:List (Addr×Obj)) (s:Shared) (σ:St) (H:Hp) (xs:List V) (us:List Value) (Q:VK),Inv X pins σ H s->Vals xs us->r xs H Q →
  wpAny (model X.prog X.w) X.A (call f us) (EP X pins σ Q) X.xe s
def tOp (r:R2)(ta tb:TE):TE:=fun σ H Q=>ta σ H fun x H1=>tb σ H1 fun y H2=>r x y H2 Q
def rI (C:Int->Int->Prop)(g:Int->Int->V):R2:=fun x y H Q=>∃i j,x= .int i/\y= .int j/\C i j/\Q (g i j) H
def rI0 (g:Int->Int->V):R2:=fun x y H Q=>∃i j,x= .int i/\y= .int j/\Q (g i j) H
section
variable {X:Cx}{a b c:Expr}{ta tb tc:TE}{pos:Pos}
theorem TR (ha:PE X a ta)(hb:PE X b tb){pins:List (Addr×Obj)}{s:Shared}{σ:St}{H:Hp}{R:V->V->Hp->Prop} (I:Inv X pins σ H s)
  (h:ta σ H fun x H1=>tb σ H1 fun y H2=>R x y H2){Q:Value->Shared->Prop}{f:Value->Value->Sem Value}
  (hf:∀v u s2 x y H2,Inv X pins σ H2 s2->RelV x v->RelV y u->R x y H2->wpAny (model X.prog X.w) X.A (f v u) Q X.xe s2) :
  wpAny (model X.prog X.w) X.A (eval a X.env) (fun v s₁=>wpAny (model X.prog X.w) X.A (eval b X.env) (fun u s₂=>wpAny (model X.prog X.w) X.A (f v u) Q X.xe s₂) X.xe s₁) X.xe s:=by
 refine thn (ha pins s σ H _ I h) fun v s1 ⟨x,H1,I1,r1,q1⟩=> ?_;refine thn (hb pins s1 σ H1 _ I1 q1) fun u s2 ⟨y,H2,I2,r2,q2⟩=> ?_;exact hf v u s2 x y H2 I2 r1 r2 q2
theorem aN {op:Operator}{r:R2} (ho:OpR X (binaryOp op) r) (ha:PE X a ta) (hb:PE X b tb):PE X (.BinOp a op b pos) (tOp r ta tb):=by
 intro pins s σ H Q I h;exact wpAny_BinOp (TR ha hb I h fun v u s2 x y H2 I2 rx ry q=>ho pins s2 σ H2 x y v u Q I2 rx ry q)
theorem opI {f:Value->Value->Sem Value}{C:Int->Int->Prop}{g:Int->Int->Int}
  (rule:∀(i j:Int) (t u:Tok) (s:Shared) (Q:Value->Shared->Prop) (E:Value->Shared->Prop),C i j->Q (.int (g i j) s.toks) { s with toks:=s.toks+1 }->wpAny (model X.prog X.w) X.A (f (.int i t) (.int j u)) Q E s) :
  OpR X f (rI C fun i j=> .int (g i j)):=by
 intro pins s σ H x y v u Q I rx ry h;obtain⟨i,j,rfl,rfl,hc,q⟩:=h;obtain⟨t,rfl⟩:=rx;obtain⟨t',rfl⟩:=ry;exact rule i j t t' s _ _ hc ⟨.int (g i j),H,I.tok _,⟨_,rfl⟩,q⟩
theorem aAs {f:Value->Value->Sem Value}{g:Int->Int->Int}
  (rule:∀(i j:Int) (t u:Tok) (s:Shared) (Q:Value->Shared->Prop) (E:Value->Shared->Prop),Q (.int (g i j) s.toks) { s with toks:=s.toks+1 }->wpAny (model X.prog X.w) X.A (f (.int i t) (.int j u)) Q E s) :
  OpR X f (rI0 fun i j=> .int (g i j)):=by
 intro pins s σ H x y v u Q I rx ry h;obtain⟨i,j,rfl,rfl,q⟩:=h;obtain⟨t,rfl⟩:=rx;obtain⟨t',rfl⟩:=ry;exact rule i j t t' s _ _ ⟨.int (g i j),H,I.tok _,⟨_,rfl⟩,q⟩
theorem N7 {f:Value->Value->Sem Value}{g:Int->Int->Bool}
  (rule:∀(i j:Int) (t u:Tok) (s:Shared) (Q:Value->Shared->Prop) (E:Value->Shared->Prop),Q (.bool (g i j)) s->wpAny (model X.prog X.w) X.A (f (.int i t) (.int j u)) Q E s) :
  OpR X f (rI0 fun i j=> .bl (g i j)):=by
 intro pins s σ H x y v u Q I rx ry h;obtain⟨i,j,rfl,rfl,q⟩:=h;obtain⟨t,rfl⟩:=rx;obtain⟨t',rfl⟩:=ry;exact rule i j t t' s _ _ ⟨.bl (g i j),H,I,rfl,q⟩
def aAD (i j:Int):Prop:=0<j/\j<1073741824
def aA9 (i j:Int):Prop:=0<=j/\j<=1000000/\i.natAbs<2^64
def CMul (i j:Int):Prop:=(-(2^64)<i/\i<2^64)∨(-(2^64)<j/\j<2^64)
theorem CMul.ok {i j:Int}(h:CMul i j):IntMulOk i j:=by
 rcases h with⟨h1,h2⟩|⟨h1,h2⟩
 ·exact .of_left (intBits_le_64 h1 h2)
 ·exact .of_right (intBits_le_64 h1 h2)
theorem cA:OpR X (binaryOp .Add) (rI0 fun i j=> .int (i+j)):=aAs fun _ _ _ _ _ _ _ q=>add_int q
theorem qF:OpR X (binaryOp .Sub) (rI0 fun i j=> .int (i - j)):=aAs fun _ _ _ _ _ _ _ q=>sub_int q
theorem tS:OpR X (binaryOp .Mult) (rI CMul fun i j=> .int (i * j)):=opI fun _ _ _ _ _ _ _ hc q=>mul_int q hc.ok
theorem j4:OpR X (binaryOp .FloorDiv) (rI aAD fun i j=> .int (i/j)):=opI fun i j _ _ _ _ _ hc q=>by
 have h1:(0:Int)<j:=hc.1;have h2:j<1073741824:=hc.2;exact floordiv_int (by lia) (by rw[Int.fdiv_eq_ediv_of_nonneg i (by lia)];exact q) (.inl (PyProof.noPylong_small (by lia)))
theorem bV:OpR X (binaryOp .Mod) (rI (fun _ j=>0<j) fun i j=> .int (i%j)):=opI fun i j _ _ _ _ _ hc q=>by
 have h1:(0:Int)<j:=hc;exact mod_int' (by lia) (by rw[Int.fmod_eq_emod_of_nonneg i (by lia)];exact q)
theorem aBF:OpR X (binaryOp .Pow) (rI aA9 fun i j=> .int (i^j.toNat)):=opI fun _ _ _ _ _ _ _ hc q=>pow_int_small hc.1 hc.2.1 hc.2.2 q
end
def aBu:V->V->Bool
 | .non,.non=>true| .non,.int _=>true| .int _,.non=>true| .non,.bl _=>true| .bl _,.non=>true| .non,.str _=>true| .str _,.non=>true
 | .int _,.int _=>true| .bl _,.bl _=>true| .str _,.str _=>true| .byt _,.byt _=>true
 | .int _,.str _=>true| .str _,.int _=>true| .bl _,.str _=>true| .str _,.bl _=>true
 | _,_=>false
def rEq:R2:=fun x y H Q=>aBu x y=true/\Q (.bl (decide (x=y))) H
def rNe:R2:=fun x y H Q=>aBu x y=true/\Q (.bl (!decide (x=y))) H
theorem MM {i j:Int}:decide (V.int i=V.int j)=(i==j):=by
 rw[Bool.eq_iff_iff];simp
theorem Q6 {i j:Bool}:decide (V.bl i=V.bl j)=(i==j):=by
 rw[Bool.eq_iff_iff];simp
theorem L9 {i j:Str}:decide (V.str i=V.str j)=(i==j):=by
 rw[Bool.eq_iff_iff];simp
theorem LX {i j:Array UInt8}:decide (V.byt i=V.byt j)=(i.toList==j.toList):=by
 rw[Bool.eq_iff_iff];cases i;cases j;simp
section
variable {X:Cx}{a b c:Expr}{ta tb tc:TE}{pos:Pos}
theorem bU {pins:List (Addr×Obj)}{σ:St}{H:Hp}{s:Shared}{Q:VK}{k k':Bool} (I:Inv X pins σ H s) (q:Q (.bl k) H) (e:k=k'):EP X pins σ Q (.bool k') s:=by
 subst e;exact⟨.bl k,H,I,rfl,q⟩
theorem gZ:OpR X (compareOp .Eq) rEq:=by
 intro pins s σ H x y v u Q I rx ry h;obtain⟨hs,q⟩:=h;cases x with
 | non =>
  cases rx;cases y with
  | non=>cases ry;exact PySem.EqNone.eq_none_none (bU I q (by simp))
  | bl j=>cases ry;exact PySem.EqNone.eq_none_bool (bU I q (by simp))
  | int j=>obtain⟨t',rfl⟩:=ry;exact PySem.EqNone.eq_none_int (bU I q (by simp))
  | str j=>obtain⟨t',rfl⟩:=ry;exact PySem.EqNone.eq_none_str (bU I q (by simp))
  | _=>exact absurd (show false=true from hs) Bool.false_ne_true
 | bl i =>
  cases rx;cases y with
  | non=>cases ry;exact PySem.EqNone.eq_bool_none (bU I q (by simp))
  | bl j=>cases ry;exact eq_bool (bU I q Q6)
  | str j=>obtain⟨t',rfl⟩:=ry;exact PySem.EqMixed.eq_bool_str (bU I q (by simp))
  | _=>exact absurd (show false=true from hs) Bool.false_ne_true
 | int i =>
  obtain⟨t,rfl⟩:=rx;cases y with
  | non=>cases ry;exact PySem.EqNone.eq_int_none (bU I q (by simp))
  | int j=>obtain⟨t',rfl⟩:=ry;exact eq_int (bU I q MM)
  | str j=>obtain⟨t',rfl⟩:=ry;exact PySem.EqMixed.eq_int_str (bU I q (by simp))
  | _=>exact absurd (show false=true from hs) Bool.false_ne_true
 | str i =>
  obtain⟨t,rfl⟩:=rx;cases y with
  | non=>cases ry;exact PySem.EqNone.eq_str_none (bU I q (by simp))
  | bl j=>cases ry;exact PySem.EqMixed.eq_str_bool (bU I q (by simp))
  | int j=>obtain⟨t',rfl⟩:=ry;exact PySem.EqMixed.eq_str_int (bU I q (by simp))
  | str j=>obtain⟨t',rfl⟩:=ry;exact eq_str (bU I q L9)
  | _=>exact absurd (show false=true from hs) Bool.false_ne_true
 | byt i =>
  obtain⟨t,rfl⟩:=rx;cases y with
  | byt j=>obtain⟨t',rfl⟩:=ry;exact PySem.W.eq_bytes (bU I q LX)
  | _=>exact absurd (show false=true from hs) Bool.false_ne_true
 | _=>cases y<;>exact absurd (show false=true from hs) Bool.false_ne_true
theorem z4:OpR X (compareOp .NotEq) rNe:=by
 intro pins s σ H x y v u Q I rx ry h;obtain⟨hs,q⟩:=h;cases x with
 | non =>
  cases rx;cases y with
  | non=>cases ry;exact PySem.EqNone.ne_none_none (bU I q (by simp))
  | bl j=>cases ry;exact PySem.EqNone.ne_none_bool (bU I q (by simp))
  | int j=>obtain⟨t',rfl⟩:=ry;exact PySem.EqNone.ne_none_int (bU I q (by simp))
  | str j=>obtain⟨t',rfl⟩:=ry;exact PySem.EqNone.ne_none_str (bU I q (by simp))
  | _=>exact absurd (show false=true from hs) Bool.false_ne_true
 | bl i =>
  cases rx;cases y with
  | non=>cases ry;exact PySem.EqNone.ne_bool_none (bU I q (by simp))
  | bl j=>cases ry;exact ne_bool (bU I q (congrArg not Q6))
  | str j=>obtain⟨t',rfl⟩:=ry;exact PySem.EqMixed.ne_bool_str (bU I q (by simp))
  | _=>exact absurd (show false=true from hs) Bool.false_ne_true
 | int i =>
  obtain⟨t,rfl⟩:=rx;cases y with
  | non=>cases ry;exact PySem.EqNone.ne_int_none (bU I q (by simp))
  | int j=>obtain⟨t',rfl⟩:=ry;exact ne_int (bU I q (congrArg not MM))
  | str j=>obtain⟨t',rfl⟩:=ry;exact PySem.EqMixed.ne_int_str (bU I q (by simp))
  | _=>exact absurd (show false=true from hs) Bool.false_ne_true
 | str i =>
  obtain⟨t,rfl⟩:=rx;cases y with
  | non=>cases ry;exact PySem.EqNone.ne_str_none (bU I q (by simp))
  | bl j=>cases ry;exact PySem.EqMixed.ne_str_bool (bU I q (by simp))
  | int j=>obtain⟨t',rfl⟩:=ry;exact PySem.EqMixed.ne_str_int (bU I q (by simp))
  | str j=>obtain⟨t',rfl⟩:=ry;exact ne_str (bU I q (congrArg not L9))
  | _=>exact absurd (show false=true from hs) Bool.false_ne_true
 | byt i =>
  obtain⟨t,rfl⟩:=rx;cases y with
  | byt j=>obtain⟨t',rfl⟩:=ry;exact PySem.W.ne_bytes (bU I q (congrArg not LX))
  | _=>exact absurd (show false=true from hs) Bool.false_ne_true
 | _=>cases y<;>exact absurd (show false=true from hs) Bool.false_ne_true
theorem lW:OpR X (compareOp .Lt) (rI0 fun i j=> .bl (decide (i<j))):=N7 fun _ _ _ _ _ _ _ q=>lt_int q
theorem NS:OpR X (compareOp .LtE) (rI0 fun i j=> .bl (decide (i<=j))):=N7 fun _ _ _ _ _ _ _ q=>le_int q
theorem rW:OpR X (compareOp .Gt) (rI0 fun i j=> .bl (decide (j<i))):=N7 fun _ _ _ _ _ _ _ q=>gt_int q
theorem MV:OpR X (compareOp .GtE) (rI0 fun i j=> .bl (decide (j<=i))):=N7 fun _ _ _ _ _ _ _ q=>ge_int q
theorem aBI:OpR X (compareOp .Is) (fun x y H Q=>y= .non/\Q (.bl (decide (x= .non))) H):=by
 intro pins s σ H x y v u Q I rx ry h;obtain⟨rfl,q⟩:=h;cases ry;refine is_none_gen (bU I q ?_);cases x<;>first
  | (cases rx;rfl)
  | (obtain⟨t,rfl⟩:=rx;rfl)
theorem YA:OpR X (compareOp .IsNot) (fun x y H Q=>y= .non/\Q (.bl (!decide (x= .non))) H):=by
 intro pins s σ H x y v u Q I rx ry h;obtain⟨rfl,q⟩:=h;cases ry;refine isnot_none_gen (bU I q ?_);cases x<;>first
  | (cases rx;rfl)
  | (obtain⟨t,rfl⟩:=rx;rfl)
theorem aX (b:Expr){op:CmpOp}(h:op≠ .In:=by decide)(h2:op≠ .NotIn:=by decide):behindInMarks op b=false:=by
 have e1:(op==CmpOp.In)=false:=by cases op<;>first|rfl|exact absurd rfl h
 have e2:(op==CmpOp.NotIn)=false:=by cases op<;>first|rfl|exact absurd rfl h2
 cases b<;>simp[behindInMarks,e1,e2]
theorem jZ {op:CmpOp}{r:R2} (ho:OpR X (compareOp op) r) (ha:PE X a ta) (hb:PE X b tb) (hm:behindInMarks op b=false):PE X (.Compare a [op] [b] pos) (tOp r ta tb):=by
 intro pins s σ H Q I h;exact wpAny_Compare1 (TR ha hb I h fun v u s2 x y H2 I2 rx ry q=>ho pins s2 σ H2 x y v u Q I2 rx ry q) hm
def ND (t:TE):TT:=fun σ H Q=>t σ H fun x H'=>∃k,x= .bl k/\Q k H'
theorem aT {op:CmpOp}{r:R2} (ho:OpR X (compareOp op) r) (ha:PE X a ta) (hb:PE X b tb) (hm:behindInMarks op b=false):PT X (.Compare a [op] [b] pos) (ND (tOp r ta tb)):=by
 intro pins s σ H Q I h;refine wpAny_isTrue_Compare1 (thn (ha pins s σ H _ I h) fun v s1 ⟨x,H1,I1,r1,q1⟩=>thn (hb pins s1 σ H1 _ I1 q1) fun u s2 ⟨y,H2,I2,r2,q2⟩ =>
  thn (ho pins s2 σ H2 x y v u _ I2 r1 r2 q2) fun c s3 ⟨z,H3,I3,r3,k,e,q3⟩=> ?_) hm
 subst e;cases r3;exact wpAny_truthy_bool ⟨H3,I3,q3⟩
def OU (r r':R2)(ta tb tc:TE):TE:=fun σ H Q=>ta σ H fun x H1=>tb σ H1 fun y H2=>r x y H2 fun z H3=>∃k,z= .bl k ∧
 (if k=true then tc σ H3 fun w' H4=>r' y w' H4 Q else Q (.bl false) H3)
theorem G3 {op op':CmpOp}{r r':R2} (ho:OpR X (compareOp op) r) (ho':OpR X (compareOp op') r') (ha:PE X a ta) (hb:PE X b tb) (hc:PE X c tc)
  (hm:lastMarks [op,op'] [b,c]=false:=by with_unfolding_all rfl):PE X (.Compare a [op,op'] [b,c] pos) (OU r r' ta tb tc):=by
 intro pins s σ H Q I h;refine Compare_chain (thn (ha pins s σ H _ I h) fun v s1 ⟨x,H1,I1,r1,q1⟩=>chain_link (thn (hb pins s1 σ H1 _ I1 q1) fun u s2 ⟨y,H2,I2,r2,q2⟩ =>
  thn (ho pins s2 σ H2 x y v u _ I2 r1 r2 q2) fun d s3 ⟨z,H3,I3,r3,k,e,q3⟩=> ?_)) hm
 subst e;cases r3;refine wpAny_truthy_bool ?_;cases k with
 | false=>exact ite_ff ⟨.bl false,H3,I3,rfl,q3⟩
 | true=>exact ite_tt (chain_last (thn (hc pins s3 σ H3 _ I3 q3) fun w' s4 ⟨z',H4,I4,r4,q4⟩=>ho' pins s4 σ H4 y z' u w' Q I4 r2 r4 q4))
theorem T7 {op op':CmpOp}{r r':R2} (ho:OpR X (compareOp op) r) (ho':OpR X (compareOp op') r') (ha:PE X a ta) (hb:PE X b tb) (hc:PE X c tc)
  (hm:lastMarks [op,op'] [b,c]=false:=by with_unfolding_all rfl):PT X (.Compare a [op,op'] [b,c] pos) (ND (OU r r' ta tb tc)):=by
 intro pins s σ H Q I h;refine isTrue_chain (thn (ha pins s σ H _ I h) fun v s1 ⟨x,H1,I1,r1,q1⟩=>test_link (thn (hb pins s1 σ H1 _ I1 q1) fun u s2 ⟨y,H2,I2,r2,q2⟩ =>
  thn (ho pins s2 σ H2 x y v u _ I2 r1 r2 q2) fun d s3 ⟨z,H3,I3,r3,k,e,q3⟩=> ?_)) hm
 subst e;cases r3;refine wpAny_truthy_bool ?_;cases k with
 | false =>
  obtain⟨k',e',q'⟩:=q3;cases e';exact ite_ff ⟨H3,I3,q'⟩
 | true =>
  refine ite_tt (test_last (thn (hc pins s3 σ H3 _ I3 q3) fun w' s4 ⟨z',H4,I4,r4,q4⟩=>thn (ho' pins s4 σ H4 y z' u w' _ I4 r2 r4 q4) fun d' s5 ⟨z2,H5,I5,r5,k2,e2,q5⟩=> ?_));subst e2;cases r5;exact wpAny_truthy_bool ⟨H5,I5,q5⟩
theorem tF:(sizeLine:Nat)<2^63:=by rw[sizeLine_eq];decide
theorem NR:OpR X (binaryOp .Add) (fun x y H Q=>∃i j,x= .str i/\y= .str j/\i.length+j.length<=sizeLine/\Q (.str (i++j)) H):=by
 intro pins s σ H x y v u Q I rx ry h;obtain⟨i,j,rfl,rfl,hz,q⟩:=h;obtain⟨t,rfl⟩:=rx;obtain⟨t',rfl⟩:=ry;exact add_str (fun t' tk=>⟨.str (i++j),H,I.tok _,⟨_,rfl⟩,q⟩) hz
theorem lU {x:V}{us:List Value} (r:Vals [x] us):∃u,us=[u]/\RelV x u:=by
 cases r with
 | cons r1 r2=>cases r2;exact⟨_,rfl,r1⟩
theorem MS {x y:V}{us:List Value} (r:Vals [x,y] us):∃u w',us=[u,w']/\RelV x u/\RelV y w':=by
 cases r with
 | cons r1 r2 =>
  cases r2 with
  | cons r3 r4=>cases r4;exact⟨_,_,rfl,r1,r3⟩
theorem RA (hc:X.calm=true):dC X (.builtin "max") (fun xs H Q=>∃i j,xs=[.int i,.int j]/\Q (.int (if j>i then j else i)) H):=by
 intro pins s σ H xs us Q I r h;obtain⟨i,j,rfl,q⟩:=h;obtain⟨u,w',rfl,⟨t,rfl⟩,⟨t',rfl⟩⟩:=MS r;refine max_two_ints (I.ok.hd hc) fun h' tk k=>⟨_,H,I.kept k,?_,q⟩
 by_cases hj:j>i
 ·rw[if_pos hj,if_pos hj];exact⟨_,rfl⟩
 ·rw[if_neg hj,if_neg hj];exact⟨_,rfl⟩
theorem PU (hc:X.calm=true):dC X (.builtin "min") (fun xs H Q=>∃i j,xs=[.int i,.int j]/\Q (.int (if j<i then j else i)) H):=by
 intro pins s σ H xs us Q I r h;obtain⟨i,j,rfl,q⟩:=h;obtain⟨u,w',rfl,⟨t,rfl⟩,⟨t',rfl⟩⟩:=MS r;refine min_two_ints (I.ok.hd hc) fun h' tk k=>⟨_,H,I.kept k,?_,q⟩
 by_cases hj:j<i
 ·rw[if_pos hj,if_pos hj];exact⟨_,rfl⟩
 ·rw[if_neg hj,if_neg hj];exact⟨_,rfl⟩
end
end L2
namespace L2
open PySem PySem.Spec PyProof.Rows
structure ObjM (h:Heap)(x dx C:Addr)(mA:Str->Option Value):Prop where
 obj:h.get? x=some (PySem.W.instObj C dx)
 ns:h.Ns1 dx mA
 ne:dx≠x
theorem PQ {h:Heap}{dx:Addr}{mA:Str->Option Value} (n:h.Ns1 dx mA):∃od,h.get? dx=some od/\∀name,PySem.W.lookIn name od=some (mA name):=by
 obtain⟨o,es,ep,ho,hd,hk,_,hm⟩:=n;refine⟨o,ho,fun name=> ?_⟩;have e:=hm name;unfold nsFind findBy at e;rw[←Array.find?_toList]at e;unfold PySem.W.lookIn;rw[hd]
 dsimp only
 split
 ·rename_i y q;rw[q]at e;exact congrArg some e
 ·rename_i q;rw[q]at e;have a:es.toList.any (·.refKey)=false:=by
   rw[List.any_eq_false];intro y hy;obtain⟨z,t,hkey⟩:=hk y (Array.mem_toList_iff.mp hy);simp[DictEntry.refKey,hkey]
  have a':¬es.toList.any (·.refKey)=true:=by rw[a];exact Bool.false_ne_true
  rw[if_neg a'];exact congrArg some e
theorem ObjM.look {h:Heap}{x dx C:Addr}{mA:Str->Option Value} (I:ObjM h x dx C mA):∃od,PySem.W.InstAt h x (PySem.W.instObj C dx) C (some od)/\∀name,PySem.W.lookIn name od=some (mA name) :=
 let ⟨od,ho,hl⟩:=PQ I.ns
 ⟨od,⟨I.obj,rfl,rfl,ho⟩,hl⟩
section
variable {prog:Program}{w:World}{A:Around}{E:Value->Shared->Prop}{s:Shared}{K:PySem.W.Frag}{x dx C f:Addr}{mA:Str->Option Value}{name:Str}{v:Value}
theorem WK {expr:Bool}{Q:Value->Shared->Prop} (X:K.In s.heap) (I:ObjM s.heap x dx C mA) (hg:PySem.W.plainGet K C name=true) (hh:PySem.W.hasDictIn K C=true)
  (ha:PySem.W.findIn K (.ref C) name=some none)(hv:mA name=some v)(hv':PySem.W.handedIn v=true)(h:Q v { s with toks:=s.toks+1 }) :
  wpAny (model prog w) A (getAttr (.ref x) name expr) Q E s:=by
 obtain⟨od,J,hl⟩:=I.look;exact PySem.W.get_value X J (PySem.W.plainGet_of hg).1 (PySem.W.findObj_own hh ha rfl (by rw[hl,hv])) hv' h
theorem UY {pl:Sem Bool}{Q:Value×List Value->Shared->Prop} (X:K.In s.heap) (I:ObjM s.heap x dx C mA) (hg:PySem.W.plainGet K C name=true)
  (hf:PySem.W.findIn K (.ref C) name=some (some (.ref f)))(ht:PySem.W.isFn K (.ref f)=true)(hv:mA name=none)(h:Q (.ref f,[.ref x]) s) :
  wpAny (model prog w) A (getMethod (.ref x) name pl) Q E s:=by
 obtain⟨od,J,hl⟩:=I.look;exact PySem.W.method_fn X J (PySem.W.plainGet_of hg).1 (PySem.W.plainGet_of hg).2 hf (beq_iff_eq.mp ht) (by show (PySem.W.lookIn name od).map (·.isSome)=some false;rw[hl,hv];rfl) h
theorem YQ {ns:List Str}{Q:Unit->Shared->Prop} (X:K.In s.heap) (I:ObjM s.heap x dx C mA)
  (hs:PySem.W.findIn K (.ref C) "__setattr__" =some (some (.builtin "object.__setattr__")))(hp:PySem.W.plainOver K C=true)(ht:PySem.W.takerIn K C name=some none)(hh:PySem.W.hasDictIn K C=true)
  (hw:PySem.Within mA ns)(hsz:ns.length<=sizeLine)
  (h:∀h',ObjM h' x dx C (fun y=>if y=name then some v else mA y)->Heap.SameBut dx s.heap h'->Q () { s with heap:=h',toks:=s.toks+2 }) :
  wpAny (model prog w) A (setAttr (.ref x) name v) Q E s:=by
 obtain⟨od,J,hl⟩:=I.look;refine PySem.W.set_plain X J hs (PySem.W.osa_open (s:={ s with toks:=s.toks+1 }) (r:=none) X J hp ht fun b=> ?_);obtain⟨cd,hc,hd'⟩:=PySem.W.any_some hh;have hx:s.heap.get? x=some ⟨.ref C,some dx,.plain,#[]⟩:=I.obj;refine wpAny_bind (wpAny_pure (wpAny_bind (wpAny_bind (wpAny_loadPart hx (wpAny_bind (PySem.W.Looks.here (s:={ s with toks:=s.toks+1 }) (PySem.W.looks_clsIn X hc) ?_))))));rw[hd'];refine wpAny_pure (a:=some dx) (wpAny_bind (wpAny_pure (wpAny_bind ?_)));refine wpAny_nsSet1 (s:={ s with toks:=s.toks+1 }) I.ns fun h' hn2 hs2=> ?_;obtain⟨oD,esD,epD,hoD,hdD,hcD⟩:=hn2.count (PySem.Within.cons name v hw);refine wpAny_bind (wpAny_lookBehind hoD (by rw[hdD];exact pastItsLine_dict (Nat.le_trans hcD (by rw[List.length_cons];lia))) ?_);exact wpAny_pure (h _ ⟨(hs2.2 _ (Ne.symm I.ne)).trans I.obj,hn2,I.ne⟩ hs2)
theorem UA {R:Result->Shared->Prop}{vs:List Value}{kw:List (Str×Value)} (X:K.In s.heap) (hm:PySem.W.makesIn K C=true)
  (hi:PySem.W.findIn K (.ref C) "__init__" =some (some (.ref f)))(hf:PySem.W.typeIn K (.ref f)=some (.type "function"))
  (h:codeAny (model prog w) (A.under (.builtin "type.__call__" ⟨.ref C::vs,kw⟩)) (.call (.ref f) ⟨.ref (s.heap.objs.size+1)::vs,kw⟩) (PySem.W.InitBack (s.heap.objs.size+1) R)
   { s with heap:=(s.heap.push PySem.W.emptyDict).push (PySem.W.instObj C s.heap.objs.size) }) :
  codeAny (model prog w) A (.call (.ref C) ⟨vs,kw⟩) R s:=by
 obtain⟨hh,g,d,t,os⟩:=s;exact PySem.W.make_core (PySem.W.makes_of X hm) (PySem.W.looks_findIn X hi) (fun self=>PySem.W.bind_fn X self hf) (.inl rfl) h
end
def cM (f:Str)(v:V):List (Str×V)->List (Str×V)
 | []=>[(f,v)]
 | (g,x)::r=>if g=f then (g,v)::r else (g,x)::cM f v r
theorem nX (f g:Str)(v:V):∀fs:List (Str×V),(cM f v fs).lookup g=if g=f then some v else fs.lookup g
 | []=>by
  show List.lookup g [(f,v)]=_
  by_cases h:g=f
  ·have hb:(g==f)=true:=beq_iff_eq.mpr h;simp only[List.lookup,hb,if_pos h]
  ·have hb:(g==f)=false:=beq_eq_false_iff_ne.mpr h;simp only[List.lookup,hb,if_neg h]
 | (k,x)::r=>by
  have ih:=nX f g v r;rw[show cM f v ((k,x)::r)=(if k=f then (k,v)::r else (k,x)::cM f v r) from rfl]
  by_cases hk:k=f
  ·rw[if_pos hk]
   by_cases h:g=k
   ·have hb:(g==k)=true:=beq_iff_eq.mpr h;simp only[List.lookup,hb,if_pos (h.trans hk)]
   ·have hb:(g==k)=false:=beq_eq_false_iff_ne.mpr h;simp only[List.lookup,hb,if_neg (fun e:g=f=>h (e.trans hk.symm))]
  ·rw[if_neg hk]
   by_cases h:g=k
   ·have hb:(g==k)=true:=beq_iff_eq.mpr h;simp only[List.lookup,hb,if_neg (fun e:g=f=>hk (h.symm.trans e))]
   ·have hb:(g==k)=false:=beq_eq_false_iff_ne.mpr h;simp only[List.lookup,hb];exact ih
theorem wG (f:Str)(v:V):∀fs:List (Str×V),f∈(cM f v fs).map (·.1)/\∀g,g∈fs.map (·.1)->g∈(cM f v fs).map (·.1)
 | []=>⟨by simp[cM],fun g h=>by simp at h⟩
 | (k,x)::r=>by
  obtain⟨i1,i2⟩:=wG f v r;rw[show cM f v ((k,x)::r)=(if k=f then (k,v)::r else (k,x)::cM f v r) from rfl]
  by_cases hk:k=f
  ·rw[if_pos hk];subst hk;exact⟨by simp,fun g h=>by simpa using h⟩
  ·rw[if_neg hk];refine⟨?_,fun g h=> ?_⟩
   ·rw[List.map_cons];exact List.mem_cons_of_mem _ i1
   ·rw[List.map_cons]at h ⊢;rcases List.mem_cons.mp h with e|e
    ·exact List.mem_cons.mpr (.inl e)
    ·exact List.mem_cons_of_mem _ (i2 g e)
theorem yE (f:Str)(v:V):∀fs:List (Str×V),(cM f v fs).length<=fs.length+1
 | []=>by simp[cM]
 | (k,x)::r=>by
  have ih:=yE f v r;rw[show cM f v ((k,x)::r)=(if k=f then (k,v)::r else (k,x)::cM f v r) from rfl]
  by_cases hk:k=f
  ·rw[if_pos hk,List.length_cons,List.length_cons];lia
  ·rw[if_neg hk,List.length_cons,List.length_cons];lia
theorem RelO.some_of {v:V}{o:Option Value} (r:RelO (some v) o):∃u,o=some u/\RelV v u:=by
 cases o with
 | none=>exact(show False from r).elim
 | some u=>exact⟨u,rfl,r⟩
theorem RelO.none_of {o:Option Value}(r:RelO none o):o=none:=by
 cases o with
 | none=>rfl
 | some u=>exact(show False from r).elim
theorem wA {v:V}{u:Value} (r:RelV v u):PySem.W.handedIn u=true:=by
 cases v with
 | non=>cases (show u=Value.none from r);rfl
 | bl b=>cases (show u=Value.bool b from r);rfl
 | int i=>obtain⟨t,e⟩:=(show ∃t,u=Value.int i t from r);cases e;rfl
 | str x=>obtain⟨t,e⟩:=(show ∃t,u=Value.str x t from r);cases e;rfl
 | byt b=>obtain⟨t,e⟩:=(show ∃t,u=Value.bytes b t from r);cases e;rfl
 | flt b=>obtain⟨t,e⟩:=(show ∃t,u=Value.float b t from r);cases e;rfl
 | ref a=>cases (show u=Value.ref a from r);rfl
 | ty n=>cases (show u=Value.type n from r);rfl
section
variable {P:Program}{w:World}{H H':Hp}{h h':Heap}{a C dx:Addr}{fs fs':List (Str×V)}
theorem xJ (hok:HOk P w H h)(e:H a=some (.ins C dx fs)):∃mA,ObjM h a dx C mA/\(∀f,RelO (fs.lookup f) (mA f))/\PySem.Within mA (fs.map (·.1))/\fs.length<=1000/\H dx=some (.own a):=by
 obtain⟨d,z,ne,ob,mA,n,r,q⟩:=(show ObjOk P w H h a (.ins C dx fs) from hok a _ e)
 exact⟨mA,⟨ob,n,ne⟩,r,q,z,d⟩
end
structure Cls (K:PySem.W.Frag)(C:Addr):Prop where
 pg:PySem.W.plainGet K C Str.empty=true
 hd:PySem.W.hasDictIn K C=true
 po:PySem.W.plainOver K C=true
 sa:PySem.W.findIn K (.ref C) "__setattr__" =some (some (.builtin "object.__setattr__"))
theorem Cls.get {K:PySem.W.Frag}{C:Addr} (c:Cls K C) (f:Str):PySem.W.plainGet K C f=true:=c.pg
def NoAttr (K:PySem.W.Frag)(C:Addr)(f:Str):Prop:=PySem.W.findIn K (.ref C) f=some none
theorem NoAttr.taker {K:PySem.W.Frag}{C:Addr}{f:Str} (n:NoAttr K C f):PySem.W.takerIn K C f=some none:=by
 unfold PySem.W.takerIn;rw[show PySem.W.findIn K (.ref C) f=some none from n];rfl
structure dJ (K:PySem.W.Frag)(C:Addr)(m:Str)(f:Addr):Prop where
 at_:PySem.W.findIn K (.ref C) m=some (some (.ref f))
 fn:PySem.W.isFn K (.ref f)=true
 kp:PySem.W.keepIn K (.ref f)=true
section
variable {X:Cx}{pins:List (Addr×Obj)}{σ:St}{H:Hp}{s:Shared}{a C dx:Addr}{fs:List (Str×V)}{f:Str}{v:V}{A:Around}{E:Value->Shared->Prop}
theorem OE {b:Bool}{Q:Value->Shared->Prop} (I:Inv X pins σ H s) (e:H a=some (.ins C dx fs)) (c:Cls X.K C) (n:NoAttr X.K C f) (l:fs.lookup f=some v)
  (h:∀u s',Inv X pins σ H s'->RelV v u->Q u s'):wpAny (model X.prog X.w) A (getAttr (.ref a) f b) Q E s:=by
 obtain⟨mA,O,r,_,_,_⟩:=xJ I.hok e;obtain⟨u,hu,ru⟩:=RelO.some_of (v:=v) (o:=mA f) (by rw[←l];exact r f);exact WK I.kIn O (c.get f) c.hd n hu (wA ru) (h u _ (I.tok _) ru)
theorem AM {m:Str}{g:Addr}{pl:Sem Bool}{Q:Value×List Value->Shared->Prop} (I:Inv X pins σ H s) (e:H a=some (.ins C dx fs)) (c:Cls X.K C) (k:dJ X.K C m g) (l:fs.lookup m=none)
  (h:Q (.ref g,[.ref a]) s):wpAny (model X.prog X.w) A (getMethod (.ref a) m pl) Q E s:=by
 obtain⟨mA,O,r,_,_,_⟩:=xJ I.hok e;have hn:mA m=none:=RelO.none_of (by rw[←l];exact r m);exact UY I.kIn O (c.get m) k.at_ k.fn hn h
theorem NG {y:V}{u:Value}{Q:Unit->Shared->Prop} (I:Inv X pins σ H s) (e:H a=some (.ins C dx fs)) (c:Cls X.K C) (n:NoAttr X.K C f) (hl:fs.length<1000) (ry:RelV y u)
  (h:∀s',Inv X pins σ (upd H a (.ins C dx (cM f y fs))) s'->Q () s'):wpAny (model X.prog X.w) A (setAttr (.ref a) f u) Q E s:=by
 obtain⟨mA,O,r,wi,_,ho⟩:=xJ I.hok e;have hz:(fs.map (·.1)).length<=sizeLine:=by rw[List.length_map,sizeLine_eq];lia
 refine YQ I.kIn O c.sa c.po n.taker c.hd wi hz fun h' O' sb=>h _ ?_;have hd:∃o,h'.get? dx=some o:=let ⟨o,_,_,e',_⟩:=O'.ns;⟨o,e'⟩;refine I.write (x:=a) (e:=dx) (by rw[e];exact True.intro) (.inr ho) (fun b q hb z=>(sb.2 b hb).trans z) hd ?_;refine⟨by rw[aK O.ne];exact ho,?_,O.ne,O'.obj,_,O'.ns,fun g=> ?_,fun g hg=> ?_⟩
 ·have:=yE f y fs;lia
 ·show RelO ((cM f y fs).lookup g) (if g=f then some u else mA g);rw[nX]
  by_cases q:g=f
  ·rw[if_pos q,if_pos q];exact ry
  ·rw[if_neg q,if_neg q];exact r g
 ·by_cases q:g=f
  ·rw[q];exact(wG f y fs).1
  ·refine(wG f y fs).2 g (wi g fun z=>hg ?_);show (if g=f then some u else mA g)=none;rw[if_neg q];exact z
theorem Inv.made (I:Inv X pins σ H s):Inv X pins σ (upd (upd H s.heap.objs.size (.own (s.heap.objs.size+1))) (s.heap.objs.size+1) (.ins C s.heap.objs.size []))
  { s with heap:=(s.heap.push PySem.W.emptyDict).push (PySem.W.instObj C s.heap.objs.size) }:=by
 have e1:(s.heap.push PySem.W.emptyDict).get? s.heap.objs.size=some PySem.W.emptyDict:=Heap.get?_push_size s.heap rfl;have e2:((s.heap.push PySem.W.emptyDict).push (PySem.W.instObj C s.heap.objs.size)).get? (s.heap.objs.size+1)=some (PySem.W.instObj C s.heap.objs.size):=by
  have:=Heap.get?_push_size (s.heap.push PySem.W.emptyDict) (o:=PySem.W.instObj C s.heap.objs.size) rfl
  rwa [Heap.size_push]at this
 have e3:(s.heap.push PySem.W.emptyDict).Ns s.heap.objs.size (fun _=>none):=⟨PySem.W.emptyDict,#[],_,e1,rfl,(fun e he=>absurd he (by simp)),fun _=>rfl⟩
 have I1:=I.laid (a:=s.heap.objs.size) (o:= .own (s.heap.objs.size+1)) (h':=s.heap.push PySem.W.emptyDict) (t':=s.toks) (fun b u q=>Heap.get?_push_of_some _ q) (Nat.le_refl _) ⟨_,e1⟩;refine I1.laid (a:=s.heap.objs.size+1) (o:= .ins C s.heap.objs.size []) (t':=s.toks) (fun b u q=>Heap.get?_push_of_some _ q) (Nat.le_of_eq (Heap.size_push _ _)) ?_;have ne:s.heap.objs.size≠s.heap.objs.size+1:=Nat.ne_of_lt (Nat.lt_succ_self _);refine⟨by rw[aK ne,aZ],Nat.zero_le _,ne,e2,fun _=>none,(Heap.Ns1.of_empty e3).at fun o q=>Heap.get?_push_of_some _ q,fun _=>True.intro,fun y hy=>absurd rfl hy⟩
theorem XX {prog:Program}{w:World}{env:Env}{e:Expr}{f:Str}{pos:Pos}{s:Shared}{Q:Value->Shared->Prop} (hb:attributeBase e f env (eval e env)=eval e env)
  (h:wpAny (model prog w) A (eval e env) (fun o s₁=>wpAny (model prog w) A (getAttr o f true) Q E s₁) E s):wpAny (model prog w) A (eval (.Attribute e f pos) env) Q E s :=
 Attribute_any_ h (by rw[arm_eval_Attribute,hb])
end
def RP (K:PySem.W.Frag)(ta:TE)(f:Str):TE:=fun σ H Q=>ta σ H fun x H1=>∃a C dx fs v,x= .ref a/\H1 a=some (.ins C dx fs)/\Cls K C/\NoAttr K C f/\fs.lookup f=some v/\Q v H1
def Z0 (K:PySem.W.Frag)(ta tv:TE)(f:Str):TS:=fun D σ H=>tv σ H fun y H1=>ta σ H1 fun x H2=>∃a C dx fs,x= .ref a/\H2 a=some (.ins C dx fs)/\Cls K C/\NoAttr K C f/\fs.length<1000 ∧
 D.nx σ (upd H2 a (.ins C dx (cM f y fs)))
def Z7 (X:Cx)(op:Operator)(rd:V->V->Hp->VK->Prop):Prop :=
 ∀(pins:List (Addr×Obj)) (s:Shared) (σ:St) (H:Hp) (x y:V) (u v:Value) (Q:VK),Inv X pins σ H s->RelV x u->RelV y v->rd x y H Q->wpAny (model X.prog X.w) X.A (inplaceOp op u v) (EP X pins σ Q) X.xe s
section
variable {X:Cx}{o e value:Expr}{f:Str}{pos pos' tpos:Pos}{ta tv:TE}
theorem aW (he:PE X e ta)(hb:attributeBase e f X.env (eval e X.env)=eval e X.env):PE X (.Attribute e f pos) (RP X.K ta f):=by
 intro pins s σ H Q I h;refine XX hb (thn (he pins s σ H _ I h) fun u s1 ⟨x,H1,I1,rx,a,C,dx,fs,v,ex,ea,c,n,l,q⟩=> ?_);subst ex;obtain rfl:u=Value.ref a:=rx;exact OE I1 ea c n l fun u' s2 I2 ru=>⟨v,H1,I2,ru,q⟩
theorem fD (ha:PE X o ta)(hv:PE X value tv)(hs:swapsWith value (some (.Attribute o f pos')) pos.line X.env=pure false):PS X (.Assign [.Attribute o f pos'] value pos) (Z0 X.K ta tv f):=by
 intro pins s σ H D I h;refine plainObj_wpAny_Assign_Attribute (thn (hv pins s σ H _ I h) fun u s1 ⟨y,H1,I1,ry,q⟩=>thn (ha pins s1 σ H1 _ I1 q) fun ov s2 ⟨x,H2,I2,rx,a,C,dx,fs,ex,ea,c,n,l,q2⟩=> ?_) hs;subst ex;obtain rfl:ov=Value.ref a:=rx;exact NG I2 ea c n l ry fun s3 I3=>⟨σ,_,I3,q2⟩
def ZZ:V->V->Hp->VK->Prop:=fun x y H Q=>∃i j,x= .int i/\y= .int j/\Q (.int (i+j)) H
theorem aBC:Z7 X .Add ZZ:=by
 rintro pins s σ H x y u v Q I rx ry ⟨i,j,rfl,rfl,q⟩;obtain⟨t,rfl⟩:=(show ∃t,u=Value.int i t from rx)
 obtain⟨t',rfl⟩:=(show ∃t',v=Value.int j t' from ry)
 exact PyProof.Rows.iadd_int ⟨.int (i+j),H,I.tok _,⟨_,rfl⟩,q⟩
end
section
variable {X:Cx}{pins:List (Addr×Obj)}{σ:St}{H:Hp}{s:Shared}{A:Around}{E:Value->Shared->Prop}{Q:Value->Shared->Prop}{c:Value}{b:Bool}
inductive lA (K:PySem.W.Frag)(H:Hp):V->Value->Prop where
 | non:lA K H .non (.type "NoneType")
 | bl (x:Bool):lA K H (.bl x) (.type "bool")
 | int (i:Int):lA K H (.int i) (.type "int")
 | str (x:Str):lA K H (.str x) (.type "str")
 | flt (x:UInt64):lA K H (.flt x) (.type "float")
 | lst {a:Addr}{xs:List V} (e:H a=some (.lst xs)):lA K H (.ref a) (.type "list")
 | frz {a:Addr}{o:Obj}{xs:List V} (e:H a=some (.frz o (.lst xs))):lA K H (.ref a) (.type "list")
 | tup {a:Addr}{xs:List V} (e:H a=some (.tup xs)):lA K H (.ref a) (.type "tuple")
 | dK {a:Addr}{kvs:List (Key×V)} (e:H a=some (.dK kvs)):lA K H (.ref a) (.type "dict")
 | dT {a:Addr}{kvs:List (List Key×V)} (e:H a=some (.dT kvs)):lA K H (.ref a) (.type "dict")
 | ins {a C dx:Addr}{fs:List (Str×V)} (e:H a=some (.ins C dx fs)) (cl:Cls K C) (ha:PySem.W.findIn K (.ref C) "__class__" =some (some (.builtin "object.__class__")))
   (hn:PySem.W.specialIn K (.builtin "object.__class__") "__get__" =some (some (.builtin "getset_descriptor.__get__")))(htk:PySem.W.takesIn K (.builtin "object.__class__")=some true)
   (hm:PySem.W.mroIn K C (.type "object")=some true):lA K H (.ref a) (.ref C)
theorem O9 {x:V}{u t:Value} (I:Inv X pins σ H s) (rx:RelV x u) (ty:lA X.K H x t) (e:PySem.W.kitOne X.K t c=some b) (h:∀tk,Q (.bool b) { s with toks:=tk }) :
  wpAny (model X.prog X.w) A (call (.builtin "isinstance") [u,c]) Q E s:=by
 cases ty with
 | non=>cases (show u=Value.none from rx);exact PySem.W.kia_one PySem.W.kitx_none I.kIn True.intro e (fun z=>nomatch z) h
 | bl y=>cases (show u=Value.bool y from rx);exact PySem.W.kia_one PySem.W.kitx_bool I.kIn True.intro e (fun z=>nomatch z) h
 | int i=>obtain⟨t,q⟩:=(show ∃t,u=Value.int i t from rx);cases q;exact PySem.W.kia_one PySem.W.kitx_int I.kIn True.intro e (fun z=>nomatch z) h
 | str y=>obtain⟨t,q⟩:=(show ∃t,u=Value.str y t from rx);cases q;exact PySem.W.kia_one PySem.W.kitx_str I.kIn True.intro e (fun z=>nomatch z) h
 | flt y=>obtain⟨t,q⟩:=(show ∃t,u=Value.float y t from rx);cases q;exact PySem.W.kia_one PySem.W.kitx_float I.kIn True.intro e (fun z=>nomatch z) h
 | @lst a xs ea =>
  cases (show u=Value.ref a from rx);obtain⟨_,_,n,_,h1⟩:=(show ObjOk X.prog X.w H s.heap a (.lst xs) from I.hok a _ ea)
  exact PySem.W.kia_one PySem.W.kitx_list I.kIn ⟨_,h1,rfl⟩ e (fun z=>nomatch z) h
 | @frz a ob xs ea =>
  cases (show u=Value.ref a from rx);obtain⟨_,_,_,n,_,h1⟩:=(show ObjOk X.prog X.w H s.heap a (.frz ob (.lst xs)) from I.hok a _ ea)
  exact PySem.W.kia_one PySem.W.kitx_list I.kIn ⟨_,h1,rfl⟩ e (fun z=>nomatch z) h
 | @tup a xs ea =>
  cases (show u=Value.ref a from rx);obtain⟨_,_,_,p⟩:=(show ObjOk X.prog X.w H s.heap a (.tup xs) from I.hok a _ ea)
  obtain⟨o,h1,h2,_⟩:=p;exact PySem.W.kia_one PySem.W.kitx_tuple I.kIn ⟨o,h1,h2⟩ e (fun z=>nomatch z) h
 | @dK a kvs ea =>
  cases (show u=Value.ref a from rx);obtain⟨_,_,vs,_,p⟩:=(show ObjOk X.prog X.w H s.heap a (.dK kvs) from I.hok a _ ea)
  obtain⟨o,es,ep,h1,h2,_⟩:=p;exact PySem.W.kia_one PySem.W.kitx_dict I.kIn ⟨o,h1,h2.1⟩ e (fun z=>nomatch z) h
 | @dT a kvs ea =>
  cases (show u=Value.ref a from rx);obtain⟨_,_,xs,_,o,es,ep,h1,h2,_⟩:=(show ObjOk X.prog X.w H s.heap a (.dT kvs) from I.hok a _ ea)
  exact PySem.W.kia_one PySem.W.kitx_dict I.kIn ⟨o,h1,h2.1⟩ e (fun z=>nomatch z) h
 | @ins a C dx fs ea cl ha hn htk hm =>
  cases (show u=Value.ref a from rx);obtain⟨mA,O,_⟩:=xJ I.hok ea;obtain⟨od,J,_⟩:=O.look;exact PySem.W.kia_one (PySem.W.kitx_own (cl.get _) cl.hd ha hn htk hm) I.kIn J e (fun z=>nomatch z) h
end
end L2
namespace L2
open PySem PySem.Spec PyProof.Rows
structure Room (k:Nat)(A:Around):Prop where
 hd:A.handled=none
 dp:A.depth+3 * k+5<recursionLimit
 un:A.units+16 * k+200<cLine
theorem Room.mono {j k:Nat}{A:Around} (r:Room k A) (h:j<=k):Room j A:=⟨r.hd,by have:=r.dp;lia,by have:=r.un;lia⟩
theorem Room.deeper {k:Nat}{A:Around} (r:Room (k+1) A) (env:Env):Room k (A.deeper env) :=
 ⟨r.hd,by have:=r.dp;show A.depth+1+3 * k+5<_;lia,by have:=r.un;show A.units+3+16 * k+200<_;lia⟩
theorem NN {A:Around}{C:Addr}{us:List Value}{kw:List (Str×Value)}:(A.under (.builtin "type.__call__" ⟨.ref C::us,kw⟩)).depth=A.depth+1:=by
 first|rfl|simp[Around.under,Code.weight,Code.isCreation,Code.isGuard,Code.isCaller,Code.frames,Code.isFrame,guardIds]
theorem N3 {A:Around}{C:Addr}{us:List Value}{kw:List (Str×Value)}:(A.under (.builtin "type.__call__" ⟨.ref C::us,kw⟩)).units=A.units+1:=by
 first|rfl|simp[Around.under,Code.cUnits,Code.frames,Code.isFrame]
theorem Room.make {k:Nat}{A:Around} (r:Room (k+1) A) (C:Addr) (us:List Value) (kw:List (Str×Value)):Room k (A.under (.builtin "type.__call__" ⟨.ref C::us,kw⟩)) :=
 ⟨r.hd,by have:=r.dp;rw[NN];lia,by have:=r.un;rw[N3];lia⟩
theorem Room.depth {k:Nat}{A:Around} (r:Room k A):A.depth<recursionLimit:=by have:=r.dp;lia
theorem Room.units0 {k:Nat}{A:Around} (r:Room k A):A.units<cLine:=by have:=r.un;lia
def SU:TA:=fun _ H Q=>Q [] H
def VQ (ta:TE)(tr:TA):TA:=fun σ H Q=>ta σ H fun x H1=>tr σ H1 fun xs H2=>Q (x::xs) H2
section
variable {X:Cx}{e:Expr}{es:List Expr}{te:TE}{t:TA}{pos:Pos}
theorem aB:PA X [] SU:=fun _ _ _ _ H Q I h=>Calls.spliced_nil ⟨[],H,I,.nil,h⟩
theorem aA (ha:PE X e te)(hr:PA X es t)(hs:starEach (e::es) X.env=(false,eval e X.env)::starEach es X.env:=by rfl):PA X (e::es) (VQ te t):=by
 intro pos pins s σ H Q I h;rw[hs];show wpAny _ _ (spliced ((false,eval e X.env)::backTo pos (starEach es X.env))) _ _ s;refine Calls.spliced_cons (thn (ha pins s σ H _ I h) fun u s1 ⟨x,H1,I1,r1,q1⟩=> ?_);exact thn (hr pos pins s1 σ H1 _ I1 q1) fun us s2 ⟨xs,H2,I2,r2,q2⟩=>⟨x::xs,H2,I2,.cons r1 r2,q2⟩
def aAd (t:TA):TE:=fun σ H Q=>t σ H fun xs H1=>xs.length<=sizeLine/\∀p,H1 p=none->Q (.ref p) (upd H1 p (.tup xs))
def Z5 (t:TA):TE:=fun σ H Q=>t σ H fun xs H1=>xs.length<=sizeLine/\∀p,H1 p=none->Q (.ref p) (upd H1 p (.lst xs))
theorem cB {x1}(h:PA X es t):PE X (.Tuple es x1 pos) (aAd t):=by
 intro pins s σ H Q I hq;refine wpAny_Tuple_spliced (thn (h pos pins s σ H _ I hq) fun us s1 ⟨xs,H1,I1,r,z,q⟩=>⟨by rw[←r.length];exact z,?_⟩);have hf:H1 s1.heap.objs.size=none:=I1.hok.fresh (Nat.le_refl _);refine⟨.ref s1.heap.objs.size,upd H1 s1.heap.objs.size (.tup xs),I1.laid (t':=s1.toks) (fun b u e=>Heap.get?_push_of_some _ e) (Nat.le_refl _) ?_,rfl,q _ hf⟩;exact⟨z,us,r,⟨_,Heap.get?_push_size _ rfl,rfl,_,rfl⟩⟩
theorem fU (h:PA X es t):PE X (.List es pos) (Z5 t):=by
 intro pins s σ H Q I hq;refine wpAny_List_spliced (thn (h pos pins s σ H _ I hq) fun us s1 ⟨xs,H1,I1,r,z,q⟩=>⟨by rw[←r.length];exact z,?_⟩);have hf:H1 s1.heap.objs.size=none:=I1.hok.fresh (Nat.le_refl _);refine⟨.ref s1.heap.objs.size,upd H1 s1.heap.objs.size (.lst xs),I1.laid (t':=s1.toks) (fun b u e=>Heap.get?_push_of_some _ e) (Nat.le_refl _) ?_,rfl,q _ hf⟩;exact⟨z,us,0,r,Heap.get?_push_size _ rfl⟩
end
abbrev Sp:=List V->Hp->VK->XK->Prop
abbrev CXT:=List Env->Hp->Shared->XK->Value->Shared->Prop
structure Env0 (P:Program)(w:World)(K:PySem.W.Frag)(mg:Str->Option Value)(base:Heap)(A:Around)(outer:List Env)(s:Shared)(H:Hp):Prop where
 frames:A.frames=some outer
 mod:Mod K mg base
 bs:∀b o,base.get? b=some o->s.heap.get? b=some o/\H b=none
 bsz:base.objs.size<=s.heap.objs.size
 funs:s.heap.FunFrames base outer
 frf:∀b∈frs outer,H b=none
 hok:HOk P w H s.heap
 bare:AllBare s.gens
def CE (outer:List Env)(P:Program)(w:World)(H:Hp)(s:Shared)(Q:VK)(u:Value)(s':Shared):Prop :=
 ∃v H',s'.os=s.os/\AllBare s'.gens/\Un (frs outer) [] H H' s.heap s'.heap/\HOk P w H' s'.heap/\RelV v u/\Q v H'
def CR (CX:CXT)(outer:List Env)(P:Program)(w:World)(H:Hp)(s:Shared)(Q:VK)(E:XK)(r:Result)(s':Shared):Prop :=
 match r with
 | .ok (.ret u)=>CE outer P w H s Q u s'
 | .ok _=>False
 | .error e=>CX outer H s E e s'
structure FnOk (P:Program)(w:World)(K:PySem.W.Frag)(mg:Str->Option Value)(base:Heap)(CX:CXT)(k:Nat)(f:Addr)(fd:FuncData)(ps:List Str)(sp:Sp):Prop where
 len:∀vs H Q E,sp vs H Q E->vs.length=ps.length
 run:∀(A:Around) (outer:List Env) (s:Shared) (H:Hp) (args:Args) (us:List Value) (vs:List V) (Q:VK) (E:XK),Room k A->Env0 P w K mg base A outer s H->BindsTo s fd args (ps.zip us)->Vals vs us->sp vs H Q E →
  codeAny (model P w) A (.call (.ref f) args) (CR CX outer P w H s Q E) s
theorem FnOk.mono {P:Program}{w:World}{K:PySem.W.Frag}{mg:Str->Option Value}{base:Heap}{CX:CXT}{j k:Nat}{f:Addr}{fd:FuncData}{ps:List Str}{sp:Sp} (F:FnOk P w K mg base CX j f fd ps sp) (h:j<=k) :
  FnOk P w K mg base CX k f fd ps sp:=⟨F.len,fun A outer s H args us vs Q E hr=>F.run A outer s H args us vs Q E (hr.mono h)⟩
theorem Env0.make {P:Program}{w:World}{K:PySem.W.Frag}{mg:Str->Option Value}{base:Heap}{A:Around}{outer:List Env}{s:Shared}{H:Hp} (e:Env0 P w K mg base A outer s H) (C:Addr) (us:List Value) (kw:List (Str×Value)) :
  Env0 P w K mg base (A.under (.builtin "type.__call__" ⟨.ref C::us,kw⟩)) outer s H:=⟨by first|exact e.frames|(simpa [Around.under,Code.envs,Code.isFrame,pushEnvs] using e.frames),e.mod,e.bs,e.bsz,e.funs,e.frf,e.hok,e.bare⟩
section
variable {X:Cx}{pins:List (Addr×Obj)}{σ:St}{H:Hp}{s s':Shared}
theorem Inv.env0 (I:Inv X pins σ H s):Env0 X.prog X.w X.K X.mg X.base X.A X.stack s H :=
 ⟨I.ok.frames,I.ok.mod,I.bs,Nat.le_trans I.ok.bsz I.sz,I.stack,I.stkFree,I.hok,I.bare⟩
theorem Inv.after {Q:VK}{u:Value} (I:Inv X pins σ H s) (h:CE X.stack X.prog X.w H s Q u s'):EP X pins σ Q u s':=by
 obtain⟨v,H',os,bare,un,hok,r,q⟩:=h;obtain⟨hh,g,d,t,os'⟩:=s';obtain rfl:os'=s.os:=os;exact⟨v,H',I.call (h':=hh) (g':=g) (d':=d) (t':=t) (ch:=[]) un hok bare (fun b z=>absurd z (by simp)),r,q⟩
end
def t8 (sp:Sp)(dvs:List V)(E:XK)(t:TA):TE:=fun σ H Q=>t σ H fun vs H1=>sp (vs++dvs) H1 Q E
def M0 (C:Addr)(sp:Sp)(dvs:List V)(E:XK)(t:TA):TE:=fun σ H Q=>t σ H fun vs H1=>∀x dx,H1 x=none->H1 dx=none->dx≠x →
 sp (.ref x::(vs++dvs)) (upd (upd H1 dx (.own x)) x (.ins C dx [])) (fun v H2=>v= .non/\Q (.ref x) H2) E
def Binds (K:PySem.W.Frag)(fd:FuncData)(ps:List Str)(ds:List Value):Prop :=
 ∀(s:Shared) (us:List Value),K.In s.heap->(us++ds).length=ps.length->BindsTo s fd ⟨us,[]⟩ (ps.zip (us++ds))
theorem Binds.all {K:PySem.W.Frag}{fd:FuncData}{ps:List Str} (h:∀us:List Value,us.length=ps.length->bindArgs fd ⟨us,[]⟩=pure (ps.zip us)):Binds K fd ps []:=fun s us _ hl=>by
 rw[List.append_nil]at hl ⊢;exact .of_eq (h us hl)
def vV (CX:CXT)(X:Cx)(E:XK):Prop:=∀(pins:List (Addr×Obj)) (σ:St) (H:Hp) (s:Shared) (e:Value) (s':Shared),Inv X pins σ H s->CX X.stack H s E e s'->X.xe e s'
section
variable {X:Cx}{CX:CXT}{k:Nat}{f C:Addr}{fd:FuncData}{ps:List Str}{sp:Sp}{dvs:List V}{ds:List Value}{E:XK}{x m:Str}{p pos apos:Pos}{e o:Expr}{es:List Expr}{ta:TE}{t:TA}
theorem tM {pins:List (Addr×Obj)}{σ:St}{H:Hp}{s:Shared}{Q:VK}{us:List Value}{vs:List V} (F:FnOk X.prog X.w X.K X.mg X.base CX k f fd ps sp) (hr:Room k X.A) (hb:Binds X.K fd ps ds) (hd:Vals dvs ds) (hx:vV CX X E)
  (I:Inv X pins σ H s)(r:Vals vs us)(h:sp (vs++dvs) H Q E):wpAny (model X.prog X.w) X.A (call (.ref f) us) (EP X pins σ Q) X.xe s:=by
 have r2:Vals (vs++dvs) (us++ds):=r.append hd;have hl:(us++ds).length=ps.length:=by rw[←r2.length];exact F.len _ _ _ _ h
 refine wpAny_call (codeAny_mono (F.run X.A X.stack s H ⟨us,[]⟩ (us++ds) (vs++dvs) Q E hr I.env0 (hb s us I.kIn hl) r2 h) fun r s' hq=> ?_);cases r with
 | error e=>exact hx pins σ H s e s' I hq
 | ok fl =>
  cases fl with
  | ret u=>exact I.after hq
  | next=>exact False.elim hq
  | brk=>exact False.elim hq
  | cont=>exact False.elim hq
theorem XA (F:FnOk X.prog X.w X.K X.mg X.base CX k f fd ps sp)(hr:Room k X.A)(hg:Gl X x)(hm:X.mg x=some (.ref f))(hk:PySem.W.keepIn X.K (.ref f)=true)(hb:Binds X.K fd ps ds)(hd:Vals dvs ds)(hx:vV CX X E)
  (ha:PA X (e::es) t)(hdb:(x==("__debug__" :Str))=false:=by decide)(he:starEach (e::es) X.env=(false,eval e X.env)::starEach es X.env:=by rfl)(hpl:(backTo pos (starEach es X.env)).any (·.1)=false:=by rfl) :
  PE X (.Call (.Name x p) (e::es) [] pos) (t8 sp dvs E t):=by
 intro pins s σ H Q I h;refine wpAny_Call_Name_kw (sY I hg hm ?_ hdb);refine PySem.W.callWith_K (h₀:=X.base) I.ok.mod.kin hk (thn (ha pos pins s σ H _ I h) fun us s1 ⟨vs,H1,I1,r,q⟩=>⟨I1.kIn,?_⟩) he hpl;exact tM F hr hb hd hx I1 r q
structure Mk (K:PySem.W.Frag)(C f:Addr):Prop where
 makes:PySem.W.makesIn K C=true
 init:PySem.W.findIn K (.ref C) "__init__" =some (some (.ref f))
 fn:PySem.W.isFn K (.ref f)=true
 kp:PySem.W.keepIn K (.ref C)=true
theorem UV {pins:List (Addr×Obj)}{σ:St}{H:Hp}{s:Shared}{Q:VK}{us:List Value}{vs:List V} (M:Mk X.K C f) (F:FnOk X.prog X.w X.K X.mg X.base CX k f fd ps sp) (hr:Room (k+1) X.A) (hb:Binds X.K fd ps ds) (hd:Vals dvs ds)
  (hx:vV CX X E)(I:Inv X pins σ H s)(r:Vals vs us)
  (h:∀x dx,H x=none->H dx=none->dx≠x->sp (.ref x::(vs++dvs)) (upd (upd H dx (.own x)) x (.ins C dx [])) (fun v H2=>v= .non/\Q (.ref x) H2) E) :
  wpAny (model X.prog X.w) X.A (call (.ref C) us) (EP X pins σ Q) X.xe s:=by
 have hq:=h (s.heap.objs.size+1) s.heap.objs.size (I.hok.fresh (Nat.le_succ _)) (I.hok.fresh (Nat.le_refl _)) (Nat.ne_of_lt (Nat.lt_succ_self _));have I2:=Inv.made (C:=C) I;have r2:Vals (V.ref (s.heap.objs.size+1)::(vs++dvs)) (Value.ref (s.heap.objs.size+1)::(us++ds)):= .cons rfl (r.append hd);have hl:(Value.ref (s.heap.objs.size+1)::us++ds).length=ps.length:=by
  have e:=r2.length;rw[F.len _ _ _ _ hq]at e;exact e.symm
 refine wpAny_call (UA (f:=f) I.kIn M.makes M.init (beq_iff_eq.mp M.fn) (codeAny_mono (F.run _ X.stack _ _ ⟨Value.ref (s.heap.objs.size+1)::us,[]⟩ (Value.ref (s.heap.objs.size+1)::(us++ds)) _ _ E (hr.make C us [])
  (I2.env0.make C us []) (hb _ (Value.ref (s.heap.objs.size+1)::us) I2.kIn hl) r2 hq) fun r s' hq'=> ?_))
 cases r with
 | error e=>exact hx pins σ _ _ e s' I2 hq'
 | ok fl =>
  cases fl with
  | ret u =>
   obtain⟨v,H',I3,rv,ev,q3⟩:=I2.after hq';subst ev;exact⟨rv,⟨V.ref (s.heap.objs.size+1),H',I3,rfl,q3⟩⟩
  | next=>exact False.elim hq'
  | brk=>exact False.elim hq'
  | cont=>exact False.elim hq'
theorem WW (M:Mk X.K C f)(F:FnOk X.prog X.w X.K X.mg X.base CX k f fd ps sp)(hr:Room (k+1) X.A)(hg:Gl X x)(hm:X.mg x=some (.ref C))(hb:Binds X.K fd ps ds)(hd:Vals dvs ds)(hx:vV CX X E)
  (ha:PA X (e::es) t)(hdb:(x==("__debug__" :Str))=false:=by decide)(he:starEach (e::es) X.env=(false,eval e X.env)::starEach es X.env:=by rfl)(hpl:(backTo pos (starEach es X.env)).any (·.1)=false:=by rfl) :
  PE X (.Call (.Name x p) (e::es) [] pos) (M0 C sp dvs E t):=by
 intro pins s σ H Q I h;refine wpAny_Call_Name_kw (sY I hg hm ?_ hdb);refine PySem.W.callWith_K (h₀:=X.base) I.ok.mod.kin M.kp (thn (ha pos pins s σ H _ I h) fun us s1 ⟨vs,H1,I1,r,q⟩=>⟨I1.kIn,?_⟩) he hpl;exact UV M F hr hb hd hx I1 r q
end
section
variable {X:Cx}{CX:CXT}{k:Nat}{f C:Addr}{fd:FuncData}{ps ks:List Str}{sp:Sp}{E:XK}{x m:Str}{p pos apos kpos:Pos}{e o:Expr}{es:List Expr}{kws:List Keyword}{te ta:TE}{t tk:TA}{nm:Option Str}
variable {g:List Value->List Value->List Value}{gV:List V->List V->List V}
end
structure aS (N P:List Str)(sc:Scope):Prop where
 kind:sc.kind= .function
 co:sc.isCoroutine=false
 gen:sc.isGenerator=false
 nd:N.Nodup
 pre:N.take P.length=P
 par:∀x∈P,sc.names.lookup x=some .local∨sc.names.lookup x=some .cell
 nofree:∀y∈sc.names,y.2≠ .free
theorem EF {kindOf:Str->Option NameKind}{x:Str}:∀{binds:List (Str×Value)}{m:Str->Option Value},(∀v,(x,v)∉binds)->bindL kindOf binds m x=m x
 | [],_,_=>rfl
 | (n,v)::r,m,h=>by
  unfold bindL;rw[EF fun w hw=>h w (List.mem_cons_of_mem _ hw)]
  split
  ·have:x≠n:=by rintro rfl;exact h v List.mem_cons_self
   simp[this]
  ·rfl
theorem EA {kindOf:Str->Option NameKind}{x:Str}:∀{binds:List (Str×Value)}{m:Str->Option Value},(∀v,(x,v)∉binds)->bindC kindOf binds m x=m x
 | [],_,_=>rfl
 | (n,v)::r,m,h=>by
  unfold bindC;rw[EA fun w hw=>h w (List.mem_cons_of_mem _ hw)]
  split
  ·rfl
  ·have:x≠n:=by rintro rfl;exact h v List.mem_cons_self
   simp[this]
theorem D9 {kindOf:Str->Option NameKind}{x:Str}{v:Value}:∀{P:List Str}{vs:List Value}{i:Nat}{m:Str->Option Value},P.Nodup->P[i]? =some x->vs[i]? =some v->kindOf x=some .local →
  bindL kindOf (P.zip vs) m x=some v
 | [],_,_,_,_,h,_,_=>by simp at h
 | _::_,[],_,_,_,_,h,_=>by simp at h
 | p::P,w::vs,0,m,nd,h1,h2,hk=>by
  simp at h1 h2;subst h1;subst h2;show bindL kindOf ((p,w)::P.zip vs) m p=_;unfold bindL;rw[EF fun v hv=>(List.nodup_cons.mp nd).1 (List.of_mem_zip hv).1,if_pos hk];simp
 | p::P,w::vs,i+1,m,nd,h1,h2,hk=>by
  show bindL kindOf ((p,w)::P.zip vs) m x=_;unfold bindL;exact D9 (i:=i) (List.nodup_cons.mp nd).2 (by simpa using h1) (by simpa using h2) hk
theorem EU {kindOf:Str->Option NameKind}{x:Str}{v:Value}:∀{P:List Str}{vs:List Value}{i:Nat}{m:Str->Option Value},P.Nodup->P[i]? =some x->vs[i]? =some v->kindOf x≠some .local →
  bindC kindOf (P.zip vs) m x=some v
 | [],_,_,_,_,h,_,_=>by simp at h
 | _::_,[],_,_,_,_,h,_=>by simp at h
 | p::P,w::vs,0,m,nd,h1,h2,hk=>by
  simp at h1 h2;subst h1;subst h2;show bindC kindOf ((p,w)::P.zip vs) m p=_;unfold bindC;rw[EA fun v hv=>(List.nodup_cons.mp nd).1 (List.of_mem_zip hv).1,if_neg hk];simp
 | p::P,w::vs,i+1,m,nd,h1,h2,hk=>by
  show bindC kindOf ((p,w)::P.zip vs) m x=_;unfold bindC;exact EU (i:=i) (List.nodup_cons.mp nd).2 (by simpa using h1) (by simpa using h2) hk
def iQ (N:List Str)(vs:List V):St:=vs.map some++List.replicate (N.length - vs.length) none
def uE (CX:CXT)(P:Program)(w:World)(K:PySem.W.Frag)(mg:Str->Option Value)(base:Heap)(N:List Str)(qual:Str)(scope:Scope)(f:Addr)(cd:Value)(A:Around)(outer:List Env)(s:Shared)(H:Hp)(E:XK):Cx where
 prog:=P
 w:=w
 K:=K
 mg:=mg
 base:=base
 A:=A.deeper (envOfC qual scope s.heap.objs.size f cd)
 N:=N
 s₀:=s
 H₀:=H
 env:=envOfC qual scope s.heap.objs.size f cd
 outer:=outer
 stack:=envOfC qual scope s.heap.objs.size f cd::outer
 ex:=[]
 calm:=true
 fn:=fun _=>true
 pn:=[]
 xe:=fun e s'=>wpAny (model P w) (A.deeper (envOfC qual scope s.heap.objs.size f cd)) (leaving (envOfC qual scope s.heap.objs.size f cd) e) (fun _ s''=>CX outer H s E e s'') (fun e' s''=>CX outer H s E e' s'') s'
theorem qI {sc:Scope}{n:Nat}{x:Str} (h:sc.names.lookup x=some .cell):∃c,(cellsFrom n sc.names []).lookup x=some c:=by
 have q:=PySem.W.cellsFrom_some sc.names n [] (.inl h);exact Option.isSome_iff_exists.mp q
theorem EO {CX:CXT}{P:Program}{w:World}{K:PySem.W.Frag}{mg:Str->Option Value}{base:Heap}{N ps:List Str}{qual:Str}{scope:Scope}{f:Addr}{cd:Value}{A:Around}{outer:List Env}{s s1:Shared}{H:Hp}{E:XK}{us:List Value}{vs:List V}
  (S:aS N ps scope)(hd:A.handled=none)(e0:Env0 P w K mg base A outer s H)(hl:vs.length=ps.length)(r:Vals vs us)
  (x:InCallC s s.heap.objs.size (bindL (envOfC qual scope s.heap.objs.size f cd).kindOf (ps.zip us) fun _=>none) (cellsFrom (s.heap.objs.size+1) scope.names []) (bindC (envOfC qual scope s.heap.objs.size f cd).kindOf (ps.zip us) fun _=>none) s1) :
  Inv (uE CX P w K mg base N qual scope f cd A outer s H E) [] (iQ N vs) H s1:=by
 have hpl:ps.length<=N.length:=by have:=congrArg List.length S.pre;rw[List.length_take]at this;lia
 obtain⟨h1,tk,rfl,hk⟩:=x.done;have noA:∀b:Addr,b∉(uE CX P w K mg base N qual scope f cd A outer s H E).ex:=fun b z=>absurd (show b∈([]:List Addr) from z) (by simp);refine⟨⟨e0.mod,S.kind,rfl,rfl,Nat.le_refl _,fun y z c h1 h2=> ?_,fun y hy=> ?_,fun y c _ h=> ?_,fun _=>hd,Around.frames_deeper e0.frames,.inr ⟨rfl,rfl⟩,fun b z=>absurd z (noA b),e0.bs,e0.bsz,fun b _ _=>noA b,fun b z=>absurd z (noA b),e0.funs,e0.frf⟩,
  rfl,e0.bare,Un.kept hk,⟨_,x.toInCall.ns,fun i y v h1 h2 h3=> ?_⟩,fun y c h=>⟨_,x.cell y c h⟩,e0.hok.fresh (Nat.le_refl _),fun y c h=> ?_,fun p hp=>absurd (show p∈([]:List (Addr×Obj)) from hp) (by simp),e0.hok.kept hk,?_⟩
 ·exact name_of_addr x.apart (PySem.mem_of_lookup h1) (PySem.mem_of_lookup h2)
 ·have hy:scope.names.lookup y=some .cell∨scope.names.lookup y=some .free:=hy;rcases hy with hy|hy
  ·exact qI hy
  ·exact absurd rfl (S.nofree _ (PySem.mem_of_lookup hy))
 ·exact Nat.le_of_lt (x.above y c (PySem.mem_of_lookup h))
 ·have hi:i<vs.length:=by
   unfold iQ at h2
   by_cases hi:i<vs.length
   ·exact hi
   ·rw[List.getElem?_append_right (by simpa using hi)]at h2;rw[List.getElem?_replicate]at h2
    split at h2<;>cases h2
  have ha:vs[i]? =some v:=by
   unfold iQ at h2;rw[List.getElem?_append_left (by simpa using hi),List.getElem?_map]at h2;cases e:vs[i]? with
   | none=>rw[e]at h2;cases h2
   | some a=>rw[e]at h2;cases h2;rfl
  obtain⟨u,hu,rv⟩:=r.get ha;have hp:ps[i]? =some y:=by
   rw[←S.pre,List.getElem?_take_of_lt (by lia)];exact h1
  have ndP:ps.Nodup:=by rw[←S.pre];exact S.nd.sublist (List.take_sublist _ _)
  refine⟨u,rv,?_⟩;rcases S.par y (List.mem_of_getElem? hp) with k|k
  ·exact .inl ⟨k,D9 ndP hp hu k⟩
  ·obtain⟨c,e⟩:=qI (n:=s.heap.objs.size+1) k;refine .inr ⟨.inl k,c,e,?_⟩;have q:=x.cell y c e;rw[EU ndP hp hu (by show scope.names.lookup y≠_;rw[k];decide)]at q;exact q
 ·exact e0.hok.fresh (Nat.le_of_lt (x.above y c (PySem.mem_of_lookup h)))
 ·unfold iQ;show _=N.length;rw[List.length_append,List.length_map,List.length_replicate]
  lia
theorem aCy {CX:CXT}{P:Program}{w:World}{K:PySem.W.Frag}{mg:Str->Option Value}{base:Heap}{k:Nat}{f:Addr}{name qual:Str}{params:Arguments}{body:List Stmt}{scope:Scope}{dV kV doc pm cdv ct oc:Value}{an od:Option Addr}
  {osl:Array (Option Value)}{N ps:List Str}{sp:Sp} (lk:K.lookup f=some ⟨oc,od,.func (PySem.W.fnOf name qual params body scope dV kV doc pm an cdv ct),osl⟩) (hcd:PySem.W.codeIn K cdv qual=true) (S:aS N ps scope)
  (len:∀vs H Q E,sp vs H Q E->vs.length=ps.length)
  (hbody:∀(A:Around) (outer:List Env) (s:Shared) (H:Hp) (vs:List V) (Q:VK) (E:XK),Room k (A.deeper (envOfC qual scope s.heap.objs.size f cdv))->sp vs H Q E →
   ∃t,PSs (uE CX P w K mg base N qual scope f cdv A outer s H E) body t/\t { nx:=fun _ H'=>Q .non H',rt:=Q } (iQ N vs) H) :
  FnOk P w K mg base CX (k+1) f (PySem.W.fnOf name qual params body scope dV kV doc pm an cdv ct) ps sp:=by
 refine⟨len,fun A outer s H args us vs Q E hr e0 hb r hsp=> ?_⟩;have hl:=len _ _ _ _ hsp;have KX:K.In s.heap:=e0.mod.kin.keeps fun b o e=>(e0.bs b o e).1;have lim:s.heap.NoLimit:=e0.mod.nolimit.keeps fun b o e=>(e0.bs b o e).1;have hkind:∀y∈ps.zip us,scope.names.lookup y.1=some .local∨(scope.names.lookup y.1=some .cell/\((cellsFrom (s.heap.objs.size+1) scope.names []).lookup y.1).isSome=true):=fun⟨n,v⟩ hy=>by
  rcases S.par n (List.of_mem_zip hy).1 with q|q
  ·exact .inl q
  ·exact .inr ⟨q,PySem.W.cellsFrom_some _ _ _ (.inl q)⟩
 refine codeAny_call_function hr.depth (KX _ _ lk) rfl S.co S.gen rfl (PySem.W.codeRec_of KX hcd) (hb _ _ _ _ ?_);refine wpAny_newFunctionEnv_cells S.kind hkind fun env he s1 x=> ?_;subst he;refine⟨lim.keeps x.toInCall.keep,codeAny_func ?_⟩;obtain⟨t,ht,hq⟩:=hbody A outer s H vs Q E (hr.deeper _) hsp;have I:Inv (uE CX P w K mg base N qual scope f cdv A outer s H E) [] (iQ N vs) H s1:=EO S hr.hd e0 hl r x;refine wpAny_mono (ht [] s1 (iQ N vs) H _ I hq) (fun fl s' hs=> ?_) fun e s' hs=>hs;have fin:∀{σ':St}{H':Hp}{v:V}{u:Value},Inv (uE CX P w K mg base N qual scope f cdv A outer s H E) [] σ' H' s'->RelV v u->Q v H'->CE outer P w H s Q u s' :=
  fun {σ' H' v u} J rv q=>⟨v,H',J.os,J.bare,J.base,J.hok,rv,q⟩
 cases fl with
 | ret u =>
  obtain⟨v,σ',H',J,rv,q⟩:=hs;exact fin J rv q
 | next =>
  obtain⟨σ',H',J,q⟩:=hs;exact fin (v:=V.non) (u:=Value.none) J rfl q
 | brk =>
  obtain⟨_,_,_,q⟩:=hs;exact False.elim q
 | cont =>
  obtain⟨_,_,_,q⟩:=hs;exact False.elim q
end L2
namespace L2
open PySem PySem.Spec PyProof.Rows
section
variable {X:Cx}{x:Str}{p pos:Pos}{e:Expr}{es:List Expr}{t:TA}{id T:String}{r:List V->Hp->VK->Prop}
def tCB (r:List V->Hp->VK->Prop)(t:TA):TE:=fun σ H Q=>t σ H fun vs H1=>r vs H1 Q
theorem bT (hc:dC X (.builtin id) r)(hg:Gl X x)(hm:X.mg x=none)(hv:bootBuiltins x=some (.builtin id))(ha:PA X (e::es) t)(hn:x≠ "__name__" :=by decide)(hdb:(x==("__debug__" :Str))=false:=by decide)
  (he:starEach (e::es) X.env=(false,eval e X.env)::starEach es X.env:=by rfl)(hpl:(backTo pos (starEach es X.env)).any (·.1)=false:=by rfl):PE X (.Call (.Name x p) (e::es) [] pos) (tCB r t):=by
 intro pins s σ H Q I h;refine wpAny_Call_Name_kw (v5 I hg hm hv ?_ hn hdb);exact PyProof.Rows.callWith_builtin1 (thn (ha pos pins s σ H _ I h) fun us s1 ⟨vs,H1,I1,r1,q1⟩=>hc pins s1 σ H1 vs us Q I1 r1 q1) he hpl
theorem jR (hc:dC X (.type T) r)(hg:Gl X x)(hm:X.mg x=none)(hv:bootBuiltins x=some (.type T))(ha:PA X (e::es) t)(hn:x≠ "__name__" :=by decide)(hdb:(x==("__debug__" :Str))=false:=by decide)
  (he:starEach (e::es) X.env=(false,eval e X.env)::starEach es X.env:=by rfl)(hpl:(backTo pos (starEach es X.env)).any (·.1)=false:=by rfl):PE X (.Call (.Name x p) (e::es) [] pos) (tCB r t):=by
 intro pins s σ H Q I h;refine wpAny_Call_Name_kw (v5 I hg hm hv ?_ hn hdb);exact PyProof.Rows.callWith_type1 (thn (ha pos pins s σ H _ I h) fun us s1 ⟨vs,H1,I1,r1,q1⟩=>hc pins s1 σ H1 vs us Q I1 r1 q1) he hpl
end
end L2
namespace HT
open PySem PyProof.Rows
section
open PySem.SeqAt
open PySem.AutoSeq1 (wpAny_loadPart')
open PySem.MeetsSeq PySem.MeetsSeq2 PySem.MeetsSeq3
end
section
variable {prog:Program}{w:World}{A:Around}{E:Value->Shared->Prop}{s:Shared}
def sIx (n d:Nat):Option Int->Nat
 | none=>d
 | some v=>if v<0 then (v+(n:Int)).toNat else min v.toNat n
theorem sIx_none (n d:Nat):sIx n d none=d:=rfl
theorem sIx_nat (n d k:Nat):sIx n d (some (k:Int))=min k n:=by
 show (if (k:Int)<0 then ((k:Int)+(n:Int)).toNat else min (k:Int).toNat n)=min k n;rw[if_neg (by lia),Int.toNat_natCast]
end
end HT
namespace L2
open PySem PySem.Spec PyProof.Rows
abbrev TO:=St->Hp->(Option Int->Hp->Prop)->Prop
def PO (X:Cx)(e:Option Expr)(t:TO):Prop :=
 ∀(pins:List (Addr×Obj)) (s:Shared) (σ:St) (H:Hp) (Q:Option Int->Hp->Prop),Inv X pins σ H s->t σ H Q →
  wpAny (model X.prog X.w) X.A (evalPart e X.env) (fun u s'=>∃o H',Inv X pins σ H' s'/\IsPart u o/\Q o H') X.xe s
def MI:TO:=fun _ H Q=>Q none H
def V3 (t:TE):TO:=fun σ H Q=>t σ H fun x H1=>∃i,x= .int i/\Q (some i) H1
section
variable {X:Cx}{e:Expr}{te:TE}{lo hi:Option Expr}{tl th:TO}{pos p2:Pos}
theorem mQ:PO X none MI:=by
 intro pins s σ H Q I h;rw[evalPart_none];exact wpAny_pure ⟨none,H,I,.none,h⟩
theorem iE (h:PE X e te):PO X (some e) (V3 te):=by
 intro pins s σ H Q I hw;rw[evalPart_some];refine thn (h pins s σ H _ I hw) fun u s1 ⟨x,H1,I1,r1,q1⟩=> ?_;obtain⟨i,rfl,q⟩:=q1;obtain⟨t,rfl⟩:=r1;exact⟨some i,H1,I1,.int i t,q⟩
def SlR (X:Cx)(r:V->Option Int->Option Int->Hp->VK->Prop):Prop :=
 ∀(pins:List (Addr×Obj)) (s:Shared) (σ:St) (H:Hp) (x:V) (v vl vu:Value) (lo hi:Option Int) (sl:Addr) (Q:VK),Inv X pins σ H s->RelV x v->s.heap.IsSliceOf sl vl vu .none->IsPart vl lo->IsPart vu hi->r x lo hi H Q →
  ∃T id,typeLookup (.type T) "__getitem__" =pure (some (.builtin id))/\s.TypeIs v T/\wpAny (model X.prog X.w) X.A (getItem v (.ref sl)) (EP X pins σ Q) X.xe s
def tSl (r:V->Option Int->Option Int->Hp->VK->Prop)(te:TE)(tl th:TO):TE:=fun σ H Q=>te σ H fun x H1=>tl σ H1 fun l H2=>th σ H2 fun u H3=>r x l u H3 Q
theorem iP {r:V->Option Int->Option Int->Hp->VK->Prop}(hr:SlR X r)(he:PE X e te)(hl:PO X lo tl)(hu:PO X hi th):PE X (.Subscript e (.Slice lo hi none p2) pos) (tSl r te tl th):=by
 intro pins s σ H Q I h;refine Subscript_ (thn (he pins s σ H _ I h) fun v s1 ⟨x,H1,I1,r1,q1⟩=> ?_);refine wpAny_Slice (thn (hl pins s1 σ H1 _ I1 q1) fun vl s2 ⟨l,H2,I2,pl,q2⟩=>thn (hu pins s2 σ H2 _ I2 q2) fun vu s3 ⟨u,H3,I3,pu,q3⟩=> ?_);rw[evalPart_none];refine wpAny_pure ?_;have I4:Inv X pins σ H3 { s3 with heap:=s3.heap.push { cls:= .type "slice",data:= .fields #[vl,vu,.none] } }:=I3.kept (t':=s3.toks) fun b ob q=>Heap.get?_push_of_some _ q;obtain⟨T,id,hT,ht,hg⟩:=hr pins { s3 with heap:=s3.heap.push { cls:= .type "slice",data:= .fields #[vl,vu,.none] } } σ H3 x v vl vu l u s3.heap.objs.size Q I4 r1 (Heap.IsSliceOf.new ..) pl pu q3;show wpAny (model X.prog X.w) X.A (subscriptTail e (.Slice lo hi none p2) v (.ref s3.heap.objs.size)) (EP X pins σ Q) X.xe { s3 with heap:=s3.heap.push { cls:= .type "slice",data:= .fields #[vl,vu,.none] } };exact tail_any (ops:=[.ref s3.heap.objs.size,v]) ht hT hg (by with_unfolding_all rfl)
def mO (xs:List V)(lo hi:Option Int):List V:=(xs.drop (HT.sIx xs.length 0 lo)).take (HT.sIx xs.length xs.length hi - HT.sIx xs.length 0 lo)
theorem KL (xs:List V)(lo hi:Option Int):(mO xs lo hi).length<=xs.length:=by
 unfold mO;rw[List.length_take,List.length_drop]
 lia
end
end L2
namespace L2
open PySem PySem.Spec PyProof.Rows
def ixN (n:Nat)(i:Int):Option Nat:=if 0<=i then (if i<n then some i.toNat else none) else if -(n:Int)<=i then some (i+n).toNat else none
def atI {α:Type}(xs:List α)(i:Int):Option α:=(ixN xs.length i).bind fun j=>xs[j]?
theorem LF {n:Nat}{i:Int}{j:Nat} (h:ixN n i=some j):seqIndex? i n=some j/\j<n/\ -(n:Int)<=i/\i<n:=by
 unfold ixN at h
 by_cases h0:0<=i
 ·rw[if_pos h0]at h
  by_cases h1:i<n
  ·rw[if_pos h1]at h;have e:i.toNat=j:=Option.some.inj h;exact⟨by rw[seqIndex_of h0 h1,e],by lia,by lia,h1⟩
  ·rw[if_neg h1]at h;cases h
 ·rw[if_neg h0]at h
  by_cases h1: -(n:Int)<=i
  ·rw[if_pos h1]at h;have e:(i+n).toNat=j:=Option.some.inj h;exact⟨by rw[seqIndex_neg (by lia) h1,e],by lia,h1,by lia⟩
  ·rw[if_neg h1]at h;cases h
theorem CC {α:Type}{xs:List α}{i:Int}{v:α} (h:atI xs i=some v):∃j,seqIndex? i xs.length=some j/\xs[j]? =some v/\j<xs.length/\ -(xs.length:Int)<=i/\i<xs.length:=by
 unfold atI at h;cases e:ixN xs.length i with
 | none=>rw[e]at h;cases h
 | some j =>
  rw[e]at h;obtain⟨h1,h2,h3,h4⟩:=LF e;exact⟨j,h1,h,h2,h3,h4⟩
theorem d7 {α:Type}{xs:List α}{j:Nat}{v:α} (h:xs[j]? =some v):atI xs (j:Int)=some v:=by
 have hj:j<xs.length:=(List.getElem?_eq_some_iff.mp h).1;have e:ixN xs.length (j:Int)=some j:=by
  unfold ixN;rw[if_pos (by lia),if_pos (by lia)];simp
 unfold atI;rw[e];exact h
def WG (b:Expr):Prop:=∀o i,subscripted b false o i=operate [o,i] (getItem o i)
def IxR (X:Cx)(r:R2):Prop :=
 ∀(value slice:Expr) (pins:List (Addr×Obj)) (s:Shared) (σ:St) (H:Hp) (x y:V) (v u:Value) (Q:VK),Inv X pins σ H s->RelV x v->RelV y u->r x y H Q →
  subscripted slice false v u=operate [v,u] (getItem v u)->wpAny (model X.prog X.w) X.A (subscriptTail value slice v u) (EP X pins σ Q) X.xe s
def MtR (X:Cx)(id:String)(r:V->List V->Hp->VK->Prop):Prop :=
 ∀(pins:List (Addr×Obj)) (s:Shared) (σ:St) (H:Hp) (x:V) (xs:List V) (v:Value) (us:List Value) (Q:VK),Inv X pins σ H s->RelV x v->Vals xs us->r x xs H Q →
  wpAny (model X.prog X.w) X.A (call (.builtin id) (v::us)) (EP X pins σ Q) X.xe s
section
variable {X:Cx}{a b:Expr}{ta tb:TE}{pos:Pos}
theorem bC {r:R2}(hr:IxR X r)(ha:PE X a ta)(hb:PE X b tb)(hs:WG b):PE X (.Subscript a b pos) (tOp r ta tb):=by
 intro pins s σ H Q I h;exact Subscript_ (TR ha hb I h fun v u s2 x y H2 I2 rx ry q=>hr a b pins s2 σ H2 x y v u Q I2 rx ry q (hs _ _))
def N8 (K:PySem.W.Frag):R2:=fun x y H Q=>∃p xs i v,x= .ref p/\y= .int i/\SqL K H p xs/\atI xs i=some v/\Q v H
def UX (K:PySem.W.Frag):R2:=fun x y H Q=>∃p xs i v,x= .ref p/\y= .int i/\SqT K H p xs/\atI xs i=some v/\Q v H
def aC3:R2:=fun x y H Q=>∃z i c,x= .str z/\y= .int i/\z.length<=sizeLine/\atI z.cps.toList i=some c/\Q (.str ⟨#[c]⟩) H
theorem fH:IxR X (N8 X.K):=by
 intro value slice pins s σ H x y v u Q I rx ry h hs;obtain⟨p,xs,i,z,rfl,rfl,hq,he,q⟩:=h;cases rx;obtain⟨t,rfl⟩:=ry;obtain⟨its,r,pl,hz⟩:=I.list hq;obtain⟨j,h1,h2,h3,h4,h5⟩:=CC he;obtain⟨w,ew,rw'⟩:=r.get h2;have hl:=r.length;have hn:=tF;have fin:EP X pins σ Q w s:=⟨z,H,I,rw',q⟩
 by_cases h0:0<=i
 ·have hj:i.toNat=j:=by
   rw[seqIndex_of h0 h5]at h1;exact Option.some.inj h1
  exact item_listR pl.isList h0 (by lia) (by rw[hj];simpa using ew) fin hs
 ·have hj:(i+(its.toArray.size:Int)).toNat=j:=by
   rw[seqIndex_neg (by lia) h4]at h1;rw[List.size_toArray,←hl];exact Option.some.inj h1
  exact subscriptTail_builtinR (x:=w) pl.isList.typeIs slot_list_getitem.lookup
   (wpAny_getItem_list_neg (Q:=fun r s'=>r=w/\EP X pins σ Q r s') pl.isList (by lia) (by rw[List.size_toArray]<;>lia) (by lia) (by rw[hj];simpa using ew) ⟨rfl,fin⟩) hs
theorem b9:IxR X (UX X.K):=by
 intro value slice pins s σ H x y v u Q I rx ry h hs;obtain⟨p,xs,i,z,rfl,rfl,hq,he,q⟩:=h;cases rx;obtain⟨t,rfl⟩:=ry;obtain⟨its,r,pl,hz⟩:=I.tuple hq;obtain⟨j,h1,h2,h3,h4,h5⟩:=CC he;obtain⟨w,ew,rw'⟩:=r.get h2;have hl:=r.length;have hn:=tF;have fin:EP X pins σ Q w s:=⟨z,H,I,rw',q⟩
 exact subscriptTail_builtinR (x:=w) pl.typeIs slot_tuple_getitem.lookup
  (getItem_tuple (j:=j) (Q:=fun r s'=>r=w/\EP X pins σ Q r s') pl (by lia) (by lia) (by rw[List.size_toArray,←hl];exact h1) (by simpa using ew) ⟨rfl,fin⟩) hs
theorem OW:IxR X aC3:=by
 intro value slice pins s σ H x y v u Q I rx ry h hs;obtain⟨z,i,c,rfl,rfl,hz,he,q⟩:=h;obtain⟨t,rfl⟩:=rx;obtain⟨t',rfl⟩:=ry;obtain⟨j,h1,h2,h3,h4,h5⟩:=CC he;have hl:z.cps.toList.length=z.length:=by simp[Str.length]
 rw[hl]at h1 h4 h5;have hn:=tF;exact tail_any (typeIs_str s z t) slot_str_getitem.lookup (getItem_str (c:=c) (by
  have e1:decide (i< -(2^63:Int))=false:=decide_eq_false (by lia);have e2:decide (i≥2^63)=false:=decide_eq_false (by lia);rw[e1,e2,Bool.or_false]) (by rw[h1];simpa using h2) ⟨.str ⟨#[c]⟩,H,I.tok _,⟨_,rfl⟩,q⟩) hs
theorem MZ (its:List Value)(n j:Nat)(u:Value):Obj.mapSeq (·.setIfInBounds j u) { cls:= .type "list",data:= .seq its.toArray n }={ cls:= .type "list",data:= .seq (its.set j u).toArray n }:=by
 simp[Obj.mapSeq]
theorem Inv.lst {pins:List (Addr×Obj)}{σ:St}{H:Hp}{s:Shared}{p:Addr}{xs:List V} (I:Inv X pins σ H s) (h:H p=some (.lst xs)) :
  ∃(its:List Value) (n:Nat),Vals xs its/\s.heap.get? p=some { cls:= .type "list",data:= .seq its.toArray n }/\xs.length<=sizeLine:=by
 obtain⟨z,its,n,r,e⟩:=I.hok p _ h;exact⟨its,n,r,e,z⟩
theorem Inv.lstUpd {pins:List (Addr×Obj)}{σ:St}{H:Hp}{s:Shared}{p:Addr}{xs ys:List V}{its its':List Value}{n n':Nat}{f:Obj->Obj} (I:Inv X pins σ H s) (h:H p=some (.lst xs))
  (ho:s.heap.get? p=some { cls:= .type "list",data:= .seq its.toArray n })(hf:f { cls:= .type "list",data:= .seq its.toArray n }={ cls:= .type "list",data:= .seq its'.toArray n' })(r:Vals ys its')(hz:ys.length<=sizeLine)(t:Nat) :
  Inv X pins σ (upd H p (.lst ys)) { s with heap:=s.heap.update p f,toks:=t }:=by
 have e:(s.heap.update p f).get? p=some { cls:= .type "list",data:= .seq its'.toArray n' }:=by
  rw[Heap.get?_update_self f ho (by rw[hf]<;>rfl),hf]
 refine I.write (x:=p) (e:=p) (by rw[h];trivial) (.inl rfl) (fun b u hb q=>(Heap.get?_update_other _ _ (Ne.symm hb)).trans q) ⟨_,e⟩ ?_;exact⟨hz,its',n',r,e⟩
def VO:V->V->V->Hp->(Hp->Prop)->Prop:=fun o i v H Q=>∃p xs k j,o= .ref p/\i= .int k/\H p=some (.lst xs)/\ixN xs.length k=some j/\Q (upd H p (.lst (xs.set j v)))
theorem HU:aAl X VO:=by
 intro pins s σ H o i v ov iv u Q I ro ri rv h;obtain⟨p,xs,k,j,rfl,rfl,hp,hj,q⟩:=h;cases ro;obtain⟨t,rfl⟩:=ri;obtain⟨its,n,r,ho,hz⟩:=I.lst hp;obtain⟨h1,h2,h3,h4⟩:=LF hj;have hl:=r.length;have hn:=tF;have I':Inv X pins σ (upd H p (.lst (xs.set j v))) { s with heap:=s.heap.update p (Obj.mapSeq (·.setIfInBounds j u)) } :=
  I.lstUpd hp ho (MZ its n j u) (r.set rv j) (by rw[List.length_set];exact hz) s.toks
 by_cases h0:0<=k
 ·have hk:k.toNat=j:=by
   rw[seqIndex_of h0 h4]at h1;exact Option.some.inj h1
  exact PySem.W.ki_setAt ho h0 (by lia) (by rw[List.size_toArray,←hl];exact h4) (by rw[hk];exact⟨_,I',q⟩)
 ·have hk:(k+(its.toArray.size:Int)).toNat=j:=by
   rw[seqIndex_neg (by lia) h3]at h1;rw[List.size_toArray,←hl];exact Option.some.inj h1
  exact PySem.W.ki_setBack ho (by lia) (by rw[List.size_toArray,←hl];exact h3) (by lia) (by rw[hk];exact⟨_,I',q⟩)
theorem IH (lo hi:Option Int)(n:Nat):(sliceBounds lo hi none n).1=((HT.sIx n 0 lo:Nat):Int)/\(sliceBounds lo hi none n).2.1=((HT.sIx n n hi:Nat):Int)/\(sliceBounds lo hi none n).2.2=1:=by
 refine⟨?_,?_,rfl⟩
 ·cases lo with
  | none=>simp[sliceBounds,HT.sIx]
  | some i =>
   simp only[sliceBounds,HT.sIx,Option.getD_none,show (1:Int)>0 by decide,if_true]
   by_cases h:i<0
   ·simp only[h,if_true]<;>lia
   ·simp only[h,if_false]<;>lia
 ·cases hi with
  | none=>simp[sliceBounds,HT.sIx]
  | some i =>
   simp only[sliceBounds,HT.sIx,Option.getD_none,show (1:Int)>0 by decide,if_true]
   by_cases h:i<0
   ·simp only[h,if_true]<;>lia
   ·simp only[h,if_false]<;>lia
theorem EY (its:List Value)(lo hi:Option Int):slicePick its.toArray lo hi none=((its.drop (HT.sIx its.length 0 lo)).take (HT.sIx its.length its.length hi - HT.sIx its.length 0 lo)).toArray:=by
 obtain⟨h1,h2,h3⟩:=IH lo hi its.toArray.size;unfold slicePick;rw[h1,h2,h3];simp only[sliceRange_one,pick_run,List.size_toArray]<;>rfl
def SW (K:PySem.W.Frag):V->Option Int->Option Int->Hp->VK->Prop:=fun x lo hi H Q=>∃a xs,x= .ref a/\SqL K H a xs/\∀p,H p=none->Q (.ref p) (upd H p (.lst (mO xs lo hi)))
theorem xI:SlR X (SW X.K):=by
 intro pins s σ H x v vl vu lo hi sl Q I rx hs pl pu h;obtain⟨a,xs,rfl,hx,q⟩:=h;cases rx;obtain⟨its,r,ht,hz⟩:=I.list hx;have hlen:=r.length;refine⟨"list",_,slot_list_getitem.lookup,ht.isList.typeIs,?_⟩;refine wpAny_getItem_list_slice ht.isList hs pl pu .none (by simp) ?_ (by rw[List.size_toArray]<;>lia);rw[EY,←hlen];refine⟨.ref s.heap.objs.size,_,I.laid (t':=s.toks) (o:= .lst (mO xs lo hi)) (fun b ob q=>Heap.get?_push_of_some _ q) (Nat.le_refl _) ?_,rfl,q _ (I.hok.fresh (Nat.le_refl _))⟩;exact⟨Nat.le_trans (KL xs lo hi) hz,_,0,(r.drop (HT.sIx xs.length 0 lo)).take (HT.sIx xs.length xs.length hi - HT.sIx xs.length 0 lo),Heap.get?_push_size _ rfl⟩
def jX:V->Bool
 | .non=>true
 | .bl _=>true
 | .int _=>true
 | .str _=>true
 | _=>false
def eqV:V->V->Bool
 | .non,.non=>true
 | .bl a,.bl b=>a==b
 | .bl a,.int b=>(if a then 1 else 0)==b
 | .int a,.bl b=>a==(if b then 1 else 0)
 | .int a,.int b=>a==b
 | .str a,.str b=>a==b
 | _,_=>false
theorem JA {A:Around}{s:Shared}{y x:V}{u v:Value} (ry:RelV y u) (rx:RelV x v) (fy:jX y=true) (fx:jX x=true):SeqAt.EqAt A s u v (eqV y x):=by
 cases y with
 | non =>
  cases ry;cases x with
  | non=>cases rx;exact SeqAt.EqAt.same _
  | bl b=>cases rx;exact SeqAt.EqAt.none_bool b
  | int b=>obtain⟨t,rfl⟩:=rx;exact SeqAt.EqAt.none_int b t
  | str b=>obtain⟨t,rfl⟩:=rx;exact SeqAt.EqAt.none_str b t
  | _=>exact absurd (show false=true from fx) Bool.false_ne_true
 | bl a =>
  cases ry;cases x with
  | non=>cases rx;exact SeqAt.EqAt.bool_none a
  | bl b=>cases rx;exact SeqAt.EqAt.bool_bool a b
  | int b=>obtain⟨t,rfl⟩:=rx;exact SeqAt.EqAt.bool_int a b t
  | str b=>obtain⟨t,rfl⟩:=rx;exact SeqAt.EqAt.bool_str a b t
  | _=>exact absurd (show false=true from fx) Bool.false_ne_true
 | int a =>
  obtain⟨t',rfl⟩:=ry;cases x with
  | non=>cases rx;exact SeqAt.EqAt.int_none a t'
  | bl b=>cases rx;exact SeqAt.EqAt.int_bool a t' b
  | int b=>obtain⟨t,rfl⟩:=rx;exact SeqAt.EqAt.int_int a t' b t
  | str b=>obtain⟨t,rfl⟩:=rx;exact SeqAt.EqAt.int_str a t' b t
  | _=>exact absurd (show false=true from fx) Bool.false_ne_true
 | str a =>
  obtain⟨t',rfl⟩:=ry;cases x with
  | non=>cases rx;exact SeqAt.EqAt.str_none a t'
  | bl b=>cases rx;exact SeqAt.EqAt.str_bool a t' b
  | int b=>obtain⟨t,rfl⟩:=rx;exact SeqAt.EqAt.str_int a t' b t
  | str b=>obtain⟨t,rfl⟩:=rx;exact SeqAt.EqAt.str_str a t' b t
  | _=>exact absurd (show false=true from fx) Bool.false_ne_true
 | _=>exact absurd (show false=true from fy) Bool.false_ne_true
def eqU (x:V)(u:Value):Bool:=match u with
 | .none=>eqV .non x
 | .bool b=>eqV (.bl b) x
 | .int i _=>eqV (.int i) x
 | .str z _=>eqV (.str z) x
 | _=>false
theorem O7 {x y:V}{u:Value} (r:RelV y u) (f:jX y=true):eqU x u=eqV y x:=by
 cases y with
 | non=>cases r;rfl
 | bl b=>cases r;rfl
 | int i=>obtain⟨t,rfl⟩:=r;rfl
 | str z=>obtain⟨t,rfl⟩:=r;rfl
 | _=>exact absurd (show false=true from f) Bool.false_ne_true
theorem tQ {x:V}:∀{xs:List V}{us:List Value},Vals xs us->xs.all jX=true->us.any (eqU x)=xs.any fun y=>eqV y x
 | _,_,.nil,_=>rfl
 | y::xs,u::us,.cons r t,f=>by
  rw[List.all_cons,Bool.and_eq_true]at f;rw[List.any_cons,List.any_cons,O7 r f.1,tQ t f.2]
theorem qM {A:Around}{s:Shared}{x:V}{v:Value} (rx:RelV x v) (fx:jX x=true):∀{xs:List V}{us:List Value},Vals xs us->xs.all jX=true->∀u∈us,SeqAt.EqAt A s u v (eqU x u)
 | _,_,.nil,_=>fun u hu=>by cases hu
 | y::xs,u::us,.cons r t,f=>fun u' hu=>by
  rw[List.all_cons,Bool.and_eq_true]at f;rcases List.mem_cons.mp hu with rfl|hu
  ·rw[O7 r f.1];exact JA r rx f.1 fx
  ·exact qM rx fx t f.2 u' hu
def inV (x:V)(xs:List V):Bool:=xs.any fun y=>eqV y x
def rIn (K:PySem.W.Frag)(neg:Bool):R2:=fun x y H Q=>∃p xs,y= .ref p/\(SqL K H p xs∨SqT K H p xs)/\jX x=true/\xs.all jX=true/\Q (.bl (if neg then !inV x xs else inV x xs)) H
theorem D5:OpR X (compareOp .In) (rIn X.K false):=by
 intro pins s σ H x y v u Q I rx ry h;obtain⟨p,xs,rfl,hq,fx,fs,q⟩:=h;cases ry;rcases hq with hq|hq
 ·obtain⟨its,r,pl,hz⟩:=I.list hq;refine SeqAt.in_listAt (eqU x) pl.isList (fun w hw=>qM rx fx r fs w (by simpa using hw)) ⟨.bl _,H,I,rfl,?_⟩;rw[show its.toArray.any (eqU x)=its.any (eqU x) by simp,tQ r fs];exact q
 ·obtain⟨its,r,pl,hz⟩:=I.tuple hq;refine SeqAt.in_tupleAt (eqU x) pl (fun w hw=>qM rx fx r fs w (by simpa using hw)) ⟨.bl _,H,I,rfl,?_⟩;rw[show its.toArray.any (eqU x)=its.any (eqU x) by simp,tQ r fs];exact q
theorem qP:OpR X (compareOp .NotIn) (rIn X.K true):=by
 intro pins s σ H x y v u Q I rx ry h;obtain⟨p,xs,rfl,hq,fx,fs,q⟩:=h;cases ry;rcases hq with hq|hq
 ·obtain⟨its,r,pl,hz⟩:=I.list hq;refine SeqAt.notIn_listAt (eqU x) pl.isList (fun w hw=>qM rx fx r fs w (by simpa using hw)) ⟨.bl _,H,I,rfl,?_⟩;rw[show its.toArray.any (eqU x)=its.any (eqU x) by simp,tQ r fs];exact q
 ·obtain⟨its,r,pl,hz⟩:=I.tuple hq;refine SeqAt.notIn_tupleAt (eqU x) pl (fun w hw=>qM rx fx r fs w (by simpa using hw)) ⟨.bl _,H,I,rfl,?_⟩;rw[show its.toArray.any (eqU x)=its.any (eqU x) by simp,tQ r fs];exact q
theorem JH:dC X (.builtin "len") (fun xs H Q=>∃p ys,xs=[.ref p]/\(SqL X.K H p ys∨SqT X.K H p ys)/\Q (.int ys.length) H):=by
 intro pins s σ H xs us Q I r h;obtain⟨p,ys,rfl,hq,q⟩:=h;obtain⟨u,rfl,rx⟩:=lU r;cases rx;have hn:=tF;rcases hq with hq|hq
 ·obtain⟨its,r',pl,hz⟩:=I.list hq;have hlen:=r'.length;exact Calls.call_len_list pl.isList (by simp only[List.size_toArray]<;>lia) ⟨.int ys.length,H,I.tok _,⟨s.toks+1,by rw[List.size_toArray,hlen]⟩,q⟩
 ·obtain⟨its,r',pl,hz⟩:=I.tuple hq;have hlen:=r'.length;exact len_tuple pl (by simp only[List.size_toArray]<;>lia) ⟨.int ys.length,H,I.tok _,⟨s.toks+1,by rw[List.size_toArray,hlen]⟩,q⟩
theorem GH:dC X (.builtin "len") (fun xs H Q=>∃z,xs=[.str z]/\z.length<=sizeLine/\Q (.int z.length) H):=by
 intro pins s σ H xs us Q I r h;obtain⟨z,rfl,hz,q⟩:=h;obtain⟨u,rfl,t,rfl⟩:=lU r;have hn:=tF;exact len_str (by lia) ⟨.int z.length,H,I.tok _,⟨_,rfl⟩,q⟩
theorem HS:dC X (.type "list") (fun xs H Q=>∃p ys,xs=[.ref p]/\(SqL X.K H p ys∨SqT X.K H p ys)/\∀l,H l=none->Q (.ref l) (upd H l (.lst ys))):=by
 intro pins s σ H xs us Q I r h;obtain⟨p,ys,rfl,hq,q⟩:=h;obtain⟨u,rfl,rx⟩:=lU r;cases rx;have fin:∀(its:List Value),Vals ys its->ys.length<=sizeLine->∀(h':Heap) (c':Nat),(∀b o',s.heap.get? b=some o'->h'.get? b=some o') →
   h'.get? s.heap.objs.size=some { cls:= .type "list",dict:=none,data:= .seq its.toArray c',slots:= #[] }->EP X pins σ Q (.ref s.heap.objs.size) { s with heap:=h' }:=fun its r' hz h' c' kp e =>
  ⟨.ref s.heap.objs.size,_,I.laid (t':=s.toks) kp (Nat.le_refl _) (show ObjOk X.prog X.w _ h' _ (.lst ys) from⟨hz,its,c',r',e⟩),rfl,q _ (I.hok.fresh (Nat.le_refl _))⟩
 rcases hq with hq|hq
 ·obtain⟨its,r',pl,hz⟩:=I.list hq;have hlen:=r'.length;obtain⟨o,ho,hc,n,hd⟩:=pl.isList;exact call_list_seq p (.inl rfl) ho hc hd (fun h' c' kp e=>fin its r' hz h' c' kp e) (by simp only[List.size_toArray]<;>lia)
 ·obtain⟨its,r',pl,hz⟩:=I.tuple hq;have hlen:=r'.length;obtain⟨o,ho,hc,n,hd⟩:=pl;exact call_list_seq p (.inr rfl) ho hc hd (fun h' c' kp e=>fin its r' hz h' c' kp e) (by simp only[List.size_toArray]<;>lia)
def tyV (K:PySem.W.Frag)(T:String)(x:V)(H:Hp):Prop:=match x with
 | .str _=>T= "str"
 | .int _=>T= "int"
 | .ref p=>(T= "list" /\∃xs,SqL K H p xs)∨(T= "tuple" /\∃o,K.lookup p=some o/\o.cls= .type "tuple" /\o.dict=none) ∨
   (T= "dict" /\((∃kvs,H p=some (.dK kvs))∨∃kvs,H p=some (.dT kvs)))∨(T= "set" /\∃S n,H p=some (.set S n))
 | _=>False
theorem aAB {pins:List (Addr×Obj)}{σ:St}{H:Hp}{s:Shared}{T:String}{x:V}{v:Value} (I:Inv X pins σ H s) (r:RelV x v) (ty:tyV X.K T x H) :
  s.TypeIs v T/\∀a,v= .ref a->∃ob,s.heap.get? a=some ob/\ob.dict=none:=by
 cases x with
 | str z =>
  obtain⟨t,rfl⟩:=r;cases (show T= "str" from ty);exact⟨typeIs_str s z t,fun _ e=>nomatch e⟩
 | int i =>
  obtain⟨t,rfl⟩:=r;cases (show T= "int" from ty);exact⟨typeIs_int s i t,fun _ e=>nomatch e⟩
 | ref p =>
  cases r;rcases ty with⟨rfl,xs,hq⟩|⟨rfl,o,hk,hc,hd⟩|⟨rfl,hk⟩|⟨rfl,S,n,hk⟩
  ·obtain⟨its,_,pl,_⟩:=I.list hq;refine⟨pl.isList.typeIs,fun a e=> ?_⟩;cases e;obtain⟨o,n,e,c,hd,_⟩:=pl;exact⟨o,e,hd⟩
  ·refine⟨⟨o,I.kIn p o hk,hc⟩,fun a e=> ?_⟩;cases e;exact⟨o,I.kIn _ o hk,hd⟩
  ·have z:∃o,s.heap.get? p=some o/\o.ExactDict:=by
    rcases hk with⟨kvs,hk⟩|⟨kvs,hk⟩
    ·obtain⟨_,_,_,_,o,_,_,e,ex,_⟩:=I.hok p _ hk;exact⟨o,e,ex⟩
    ·obtain⟨_,_,_,_,o,_,_,e,ex,_⟩:=I.hok p _ hk;exact⟨o,e,ex⟩
   obtain⟨o,e,ex⟩:=z;refine⟨⟨o,e,ex.1⟩,fun a e2=> ?_⟩;cases e2;exact⟨o,e,ex.2.1⟩
  ·obtain⟨o,_,_,_,e,ex,_⟩:=I.hok p _ hk;refine⟨⟨o,e,ex.1⟩,fun a e2=> ?_⟩;cases e2;exact⟨o,e,ex.2.1⟩
 | _=>exact False.elim ty
def tBM (K:PySem.W.Frag)(T:String)(r:V->List V->Hp->VK->Prop)(to:TE)(t:TA):TE:=fun σ H Q=>to σ H fun x H1=>tyV K T x H1/\t σ H1 fun xs H2=>r x xs H2 Q
variable {o e:Expr}{es:List Expr}{to:TE}{t:TA}{name:Str}{apos cpos:Pos}{T id:String}{r:V->List V->Hp->VK->Prop}
theorem uH (pa:PlainAttrs T)(slot:Slot T name id)(hty:typeOf (.builtin id)=pure (.type "method_descriptor"))(hm:MtR X id r)(ho:PE X o to)(ha:PA X (e::es) t)
  (hbase:attributeBase o name X.env (eval o X.env)=eval o X.env:=by rfl)
  (hfew:((backTo cpos (starEach (e::es) X.env)).all (fun x=> !x.1)&&(backToKw cpos (keywordEach [] X.env)).all (fun x=>x.1.isSome)
   && decide ((e::es).length+([]:List Keyword).length+(if ([]:List Keyword).isEmpty then 0 else 1)<30))=true:=by rfl)
  (hline:(apos.endLine==cpos.line)=true:=by rfl)(hs:starEach (e::es) X.env=(false,eval e X.env)::starEach es X.env:=by rfl)(hplain:(backTo cpos (starEach es X.env)).any (·.1)=false:=by rfl) :
  PE X (.Call (.Attribute o name apos) (e::es) [] cpos) (tBM X.K T r to t):=by
 intro pins s σ H Q I h;refine wpAny_Call_method_late hbase hfew hline rfl (thn (ho pins s σ H _ I h) fun v s1 ⟨x,H1,I1,r1,ty,q1⟩=> ?_);obtain⟨h1,h2⟩:=aAB I1 r1 ty;refine⟨T,id,pa,slot,hty,h1,h2,?_⟩;have hA:=ha cpos pins s1 σ H1 _ I1 q1;rw[hs]at hA ⊢;refine Calls.callWith_builtin (by show (false||(backTo cpos (starEach es X.env)).any (·.1))=false;rw[hplain]<;>rfl) (Calls.evalArgs_plain ?_);exact thn hA fun us s2 ⟨vs,H2,I2,r2,q2⟩=>hm pins s2 σ H2 x vs v us Q I2 r1 r2 q2
end
end L2
namespace L2
open PySem PySem.Spec PyProof.Rows
def MtM (X:Cx)(id:String)(r:V->List V->Hp->VK->Prop):Prop :=
 ∀(pins:List (Addr×Obj)) (s:Shared) (σ:St) (H:Hp) (x:V) (xs:List V) (v:Value) (us:List Value) (Q:VK),Inv X pins σ H s->RelV x v->Vals xs us->r x xs H Q →
  wpAny (model X.prog X.w) X.A (call (.builtin id) (v::us)) (EP X pins σ Q) X.xe s
theorem Vals.one:∀{x:V}{us:List Value},Vals [x] us->∃u,us=[u]/\RelV x u
 | _,_,.cons r .nil=>⟨_,rfl,r⟩
section
variable {X:Cx}{pins:List (Addr×Obj)}{σ:St}{H:Hp}{s:Shared}{l b:Addr}{xs ys zs:List V}
theorem Inv.lset {its its':List Value}{n:Nat}{f:Array Value->Array Value}{t':Nat} (I:Inv X pins σ H s) (hH:H l=some (.lst xs))
  (e:s.heap.get? l=some { cls:= .type "list",data:= .seq its.toArray n })(hf:f its.toArray=its'.toArray)(hv:Vals ys its')(hz:ys.length<=sizeLine) :
  Inv X pins σ (upd H l (.lst ys)) { s with heap:=s.heap.update l (Obj.mapSeq f),toks:=t' }:=by
 have q:=PySem.IsL.update e f;rw[hf]at q;refine I.write (x:=l) (e:=l) (by rw[hH];exact trivial) (.inl rfl) (fun b' u hb hu=>(Heap.get?_update_other s.heap (Obj.mapSeq f) (Ne.symm hb)).trans hu) ⟨_,q⟩ ?_;exact⟨hz,its',_,hv,q⟩
theorem Inv.lnew {its:List Value}{t':Nat} (I:Inv X pins σ H s) (hv:Vals ys its) (hz:ys.length<=sizeLine) :
  Inv X pins σ (upd H s.heap.objs.size (.lst ys)) { s with heap:=s.heap.push { cls:= .type "list",data:= .seq its.toArray },toks:=t' } :=
 I.laid (fun _ _ q=>Heap.get?_push_of_some _ q) (Nat.le_refl _) ⟨hz,its,0,hv,Heap.get?_push_size _ rfl⟩
theorem Inv.fresh (I:Inv X pins σ H s):H s.heap.objs.size=none:=I.hok.fresh (Nat.le_refl _)
theorem Inv.lstM (I:Inv X pins σ H s)(hH:H l=some (.lst xs)):xs.length<=sizeLine/\∃(its:List Value) (n:Nat),Vals xs its/\xs.length=its.length/\s.heap.get? l=some { cls:= .type "list",data:= .seq its.toArray n }:=by
 obtain⟨z,its,n,r,e⟩:=I.hok l _ hH;exact⟨z,its,n,r,r.length,e⟩
theorem R7 {n:Nat}(h:n<=sizeLine):Builtin.List.listTooLong n=false:=by
 unfold Builtin.List.listTooLong;exact decide_eq_false (by lia)
end
section
variable {X:Cx}
def LU:V->List V->Hp->VK->Prop:=fun x vs H Q=>∃l xs y,x= .ref l/\vs=[y]/\H l=some (.lst xs)/\xs.length<sizeLine/\Q .non (upd H l (.lst (xs++[y])))
theorem jS:MtM X "list.append" LU:=by
 intro pins s σ H x vs v us Q I rx rv h;obtain⟨l,xs,y,rfl,rfl,hH,hz,q⟩:=h;cases rx;obtain⟨u,rfl,ru⟩:=rv.one;obtain⟨z,its,n,r,hl,e⟩:=I.lstM hH;refine call_meets F.slot_list_append ⟨_,e,rfl⟩ F.entry_list_append (F.args_list_append_2 _ _) (PySem.list_append l its.toArray n u (by rw[List.size_toArray];lia)) ⟨e,?_⟩;refine⟨.non,_,I.lset (its':=its++[u]) hH e (by simp) (r.append (.cons ru .nil)) ?_,rfl,q⟩;rw[List.length_append,List.length_singleton]
 lia
def LY:V->List V->Hp->VK->Prop:=fun x vs H Q=>∃l b xs zs,x= .ref l/\vs=[.ref b]/\H l=some (.lst xs)/\H b=some (.lst zs)/\xs.length+zs.length<=sizeLine/\Q .non (upd H l (.lst (xs++zs)))
theorem Q1:MtM X "list.extend" LY:=by
 intro pins s σ H x vs v us Q I rx rv h;obtain⟨l,b,xs,zs,rfl,rfl,hH,hB,hz,q⟩:=h;cases rx;obtain⟨u,rfl,ru⟩:=rv.one;cases ru;obtain⟨z,its,n,r,hl,e⟩:=I.lstM hH;obtain⟨z2,its2,n2,r2,hl2,e2⟩:=I.lstM hB;have hsz:its.toArray.size+its2.toArray.size<=sizeLine:=by rw[List.size_toArray,List.size_toArray];lia
 have hlong:¬(!its.toArray.isEmpty&&Builtin.List.listTooLong (its.toArray.size+its2.toArray.size))=true:=by
  rw[R7 hsz,Bool.and_false];exact Bool.false_ne_true
 refine call_meets F.slot_list_extend ⟨_,e,rfl⟩ F.entry_list_extend (F.args_list_extend_2 _ _)
  (AutoSeq1.list_extend_list_list_0 l its.toArray n b its2.toArray n2 hlong (by rw[List.size_toArray];lia) (by lia)) ⟨e,e2,?_⟩
 refine⟨.non,_,I.lset (its':=its++its2) hH e (by simp) (r.append r2) ?_,rfl,q⟩;rw[List.length_append]
 lia
def aAg:R2:=fun x y H Q=>∃l b xs zs,x= .ref l/\y= .ref b/\H l=some (.lst xs)/\H b=some (.lst zs)/\xs.length+zs.length<=sizeLine/\∀p,H p=none->Q (.ref p) (upd H p (.lst (xs++zs)))
theorem nZ:OpR X (binaryOp .Add) aAg:=by
 intro pins s σ H x y v u Q I rx ry h;obtain⟨l,b,xs,zs,rfl,rfl,hH,hB,hz,q⟩:=h;cases rx;cases ry;obtain⟨z,its,n,r,hl,e⟩:=I.lstM hH;obtain⟨z2,its2,n2,r2,hl2,e2⟩:=I.lstM hB;refine PySem.P.add_list e e2 ?_ (by rw[List.size_toArray,List.size_toArray];lia);have ea:its.toArray++its2.toArray=(its++its2).toArray:=by simp
 rw[ea];exact⟨.ref _,_,I.lnew (t':=s.toks) (r.append r2) (by rw[List.length_append];lia),rfl,q _ I.fresh⟩
end
section
variable {prog:Program}{w:World}{A:Around}{E:Value->Shared->Prop}{s:Shared}
set_option maxRecDepth 100000 in
end
section
variable {X:Cx}
end
end L2
namespace Att
open PySem PySem.W PySem.Calls PyProof.Rows
theorem A8 {P:Params}{h:Heap}:∀(ns:List Int) (vs:List Value),WellAll P h vs (ns.map WData.int)->IntsAre vs ns:=by
 intro ns
 induction ns with
 | nil =>
  intro vs w;rw[List.map_nil]at w;cases w;exact .nil
 | cons n ns ih =>
  intro vs w;rw[List.map_cons]at w;cases w with
  | cons a b =>
   cases a;exact .cons _ _ (ih _ b)
theorem QY {l:OpenLaw}{n:Nat} (hn:l.most=some n) {P:Params}{h:Heap}{args:List WData}{vals:List Value}
  (hpre:l.row.toRowW.claim.pre args=true)(hwl:WellAll P h vals args) :
  ∃a vs ns,vals=[Value.ref a]/\args=[WData.list (ns.map WData.int)]/\h.get? a=some { cls:= .type "list",data:= .seq vs.toArray }/\IntsAre vs ns/\ns.length<=n:=by
 have hsh:WShape.hasAll [] args [.list .int]=true:=(pre_splitW hpre).1;have hc:l.pre.holds [] { args:=args }=true:=(pre_splitW hpre).2;obtain⟨d,r,rfl,h1,h2⟩:=hasAllW_cons hsh;obtain rfl:=hasAllW_nil h2;obtain⟨xs,rfl,h3⟩:=hasW_list h1;obtain⟨ns,rfl⟩:=items_int h3;have hlen:ns.length<=n:=by
  unfold OpenLaw.pre at hc;have h4:(WTm.not (.lt (.lit (.int (n:Int))) (.len (.arg 0)))).holds [] { args:=[.list (ns.map .int)] }=true:=by
   have h4:=(holds_andW hc).1;rw[hn]at h4;exact h4
  have h5:=condW_of h4 (w_not (w_lt w_lit (w_len_list (w_arg rfl))));rw[List.length_map]at h5;refine Nat.le_of_not_lt fun q=> ?_;have q':(n:Int)<((ns.length:Nat):Int):=by lia
  first
   | (rw[decide_eq_true q']at h5;exact absurd h5 (by decide))
   | (simp at h5;lia)
 cases hwl with
 | cons w1 w2 =>
  cases w2;cases w1 with
  | list ho hall=>exact⟨_,_,ns,rfl,rfl,ho,A8 ns _ hall,hlen⟩
theorem QS (l:OpenLaw)(args:List WData):l.row.toRowW.claim.post args (.bool true) args=true :=
 postW_of (r:=l.row.toRowW) (X:=(true==true))
  (show WShape.has [] (.bool true) .bool=true by first|rfl|decide|simp[WShape.has,WShape.arms,WShape.armsAll])
  (show (WTm.eq .res (.lit (.bool true))).value [] { args:=args,res:=some (.bool true),after:=args }=some (.bool (true==true)) from w_eq_bool (w_res rfl) w_lit) rfl
theorem attach_call {l:OpenLaw}{n:Nat}{q:Program}{loose:List Str}{XP:(Str->Option Value)->Heap->Prop}{YP:World->Heap->Prop}{d:DefRec}
  (hn:l.most=some n)(hdf:d.params.defaults=[])
  (call:∀(w:World) (s₀ s₁:Shared) (mg mb:Str->Option Value) (fa:Addr) (o:Obj) (pm cd doc:Value) (a:Addr) (vs:List Value) (ns:List Int),
   Ground q loose [] XP w s₀ mg mb s₁.heap->YP w s₁.heap →
   s₁.heap.get? fa=some o->o.data= .func (docDef d.name d.params d.body d.scope pm cd doc)->s₁.heap.CodeRec cd d.name->mg d.name=some (.ref fa) →
   s₁.heap.get? a=some { cls:= .type "list",data:= .seq vs.toArray }->IntsAre vs ns->ns.length<=n->s₁.gens= #[] →
   codeAny (model l.prog w) callerA (.call (.ref fa) ⟨[.ref a],[]⟩) (fun r s'=>r= .ok (.ret (.bool true))/\OldK s₁.heap s'.heap/\s'.os=s₁.os/\AllBare s'.gens) s₁) :
  WalkO q loose XP YP l.row.toRowW d [] (fun f vs=>PySem.call f vs):=by
 intro w s₀ s₁ mg mb G Y fa o pm cd doc dV kV ho hd hcd hD hmg hg args vals as hpre hlay hrd hwl hlo;obtain rfl:dV= .none:=Dflts.none hD hdf;obtain rfl:kV= .none:=Dflts.noKw hD;obtain⟨a,vs,ns,rfl,rfl,hobj,hints,hlen⟩:=QY hn hpre hwl;refine enter_call (codeAny_mono (call w s₀ s₁ mg mb fa o pm cd doc a vs ns G Y ho (fd_plain hd) hcd hmg hobj hints hlen hg) fun r s' hq=> ?_);obtain⟨rfl,h2,h3,h4⟩:=hq;exact⟨.inl ⟨.bool true,.bool true,[],rfl,fun _=>rfl,.bool true,QS l _,fun _=>⟨List.Pairwise.nil,fun _ hm=>(nomatch hm)⟩⟩,h2,h3,h4⟩
section
variable {prog:Program}{w:World}{A:Around}{E:Value->Shared->Prop}{s:Shared}{K:Frag}
end
end Att
namespace L2
open PySem PySem.Spec PyProof.Rows
theorem EN:∀{vs:List Value}{ns:List Int},IntsAre vs ns->Vals (ns.map V.int) vs
 | _,_,.nil=> .nil
 | _,_,.cons n t h=> .cons ⟨t,rfl⟩ (EN h)
end L2
namespace L2
open PySem PySem.Spec PyProof.Rows
end L2
namespace L2
open PySem PySem.Spec PyProof.Rows
def bS (s:Stmt)(j:Nat):Stmt:=match s with
 | .ClassDef _ _ _ body _ _ _ _ _ _ _=>body.getD j (.Pass ⟨0,0,0,0⟩)
 | _=> .Pass ⟨0,0,0,0⟩
def aJ (s:Stmt):Arguments:=match s with
 | .FunctionDef _ a _ _ _ _ _ _ _ _=>a
 | _=>{ posonlyargs:=[],args:=[],vararg:=none,kwonlyargs:=[],kw_defaults:=[],kwarg:=none,defaults:=[] }
def aH (s:Stmt):List Stmt:=match s with
 | .FunctionDef _ _ b _ _ _ _ _ _ _=>b
 | _=>[]
def aC (s:Stmt):Scope:=match s with
 | .FunctionDef _ _ _ _ _ _ sc _ _ _=>sc
 | _=>{ kind:= .function,names:=[],isGenerator:=false,isCoroutine:=false }
abbrev CX0:CXT:=fun _ _ _ _ _ _=>False
abbrev E0:XK:=fun _ _ _=>False
theorem uX {X:Cx}:vV CX0 X E0:=fun _ _ _ _ _ _ _ h=>h.elim
section
variable {P:Program}{w:World}{K:PySem.W.Frag}{mg:Str->Option Value}{base:Heap}
end
theorem O1 {n:Nat}(h:n<=1000):n<sizeLine:=Nat.lt_of_le_of_lt h (by decide)
section
variable {X:Cx}
theorem pv (i:Nat){x:Str}{pos:Pos} (hN:X.N[i]? =some x:=by rfl) (hv:Vis X.env.scope x:=by first|exact Or.inl rfl|exact Or.inr (Or.inl rfl)|exact Or.inr (Or.inr rfl)) (hd:(x==("__debug__" :Str))=false:=by decide)
  (hcd:(x==("__classdict__" :Str))=false:=by decide):PE X (.Name x pos) (jC i):=QZ hN hv hd hcd
end
theorem CK {c A B:Prop}[Decidable c](h1:c->A)(h2:¬c->B):if c then A else B:=by
 by_cases h:c
 ·rw[if_pos h];exact h1 h
 ·rw[if_neg h];exact h2 h
def Same (H H':Hp):Prop:=∀b o,H b=some o->H' b=some o
theorem Same.refl (H:Hp):Same H H:=fun _ _ h=>h
theorem Same.trans {H H1 H2:Hp}(a:Same H H1)(b:Same H1 H2):Same H H2:=fun c o h=>b c o (a c o h)
theorem Same.free {H H':Hp}(e:Same H H'){l:Addr}(h:H' l=Option.none):H l=Option.none:=by
 cases q:H l with
 | none=>rfl
 | some o =>
  rw[e l o q]at h;cases h
theorem Same.seq {K:PySem.W.Frag}{H H':Hp}{a:Addr}{xs:List V} (e:Same H H') (h:SqL K H a xs):SqL K H' a xs:=by
 rcases h with (h|⟨o,h⟩)|h
 ·exact .inl (.inl (e _ _ h))
 ·exact .inl (.inr ⟨o,e _ _ h⟩)
 ·exact .inr h
end L2
namespace L2
open PySem PySem.Spec PyProof.Rows
section
variable {X:Cx}{pins:List (Addr×Obj)}{σ:St}{H:Hp}{s:Shared}{D:Addr}{ys:List V}
theorem HOk.adds {P:Program}{w:World}{h:Heap}{o:HO} (x:HOk P w H h) (hn:H D=none) (new:ObjOk P w (upd H D o) h D o):HOk P w (upd H D o) h:=fun b u e=>by
 by_cases hb:b=D
 ·subst hb;rw[aZ]at e;cases e;exact new
 ·rw[aK hb]at e;exact(x b u e).stay (fun c v _ q=>q) (fun c q=>by rw[aK (bH q hn)];exact q) fun c xs q=>by rw[aK (bH q hn)];exact q
theorem HOk.drops {P:Program}{w:World}{h:Heap} (x:HOk P w (upd H D (.lst ys)) h) (hn:H D=none):HOk P w H h:=fun b u e=>by
 have hb:b≠D:=bH e hn;refine(x b u (by rw[aK hb];exact e)).stay (fun c v _ q=>q) (fun c q=> ?_) fun c xs q=> ?_
 ·by_cases hc:c=D
  ·subst hc;rw[aZ]at q;cases q
  ·rw[aK hc]at q;exact q
 ·by_cases hc:c=D
  ·subst hc;rw[aZ]at q;cases q
  ·rw[aK hc]at q;exact q
theorem Inv.track {its:List Value}{n:Nat} (I:Inv X pins σ H s) (hn:H D=none) (e:s.heap.get? D=some { cls:= .type "list",data:= .seq its.toArray n }) (r:Vals ys its) (hz:ys.length<=sizeLine)
  (h0:X.s₀.heap.objs.size<=D)(h1:D≠X.env.locals)(h2:∀x c,X.env.cells.lookup x=some c->c≠D)(h3:∀p∈X.pn++pins,p.1≠D):Inv X pins σ (upd H D (.lst ys)) s where
 ok:=I.ok
 os:=I.os
 bare:=I.bare
 base:=by
  have lt:∀b o,X.s₀.heap.get? b=some o->b≠D:=fun b o q=>Nat.ne_of_lt (Nat.lt_of_lt_of_le (Heap.lt_size q) h0);refine⟨I.base.keep,I.base.slot,fun b o q n' hx=> ?_,I.base.there,fun b xs q=> ?_,fun b o u q=> ?_,fun b ps q=> ?_⟩
  ·rw[aK (lt b o q)];exact I.base.free b o q n' hx
  ·have z:=I.base.tups b xs q;rw[aK (bH z hn)];exact z
  ·have z:=I.base.frzs b o u q;rw[aK (bH z hn)];exact z
  ·obtain⟨more,z⟩:=I.base.tbls b ps q;exact⟨more,by rw[aK (bH z hn)];exact z⟩
 loc:=I.loc
 cell:=I.cell
 free:=by rw[aK (Ne.symm h1)];exact I.free
 freeC:=fun x c q=>by rw[aK (h2 x c q)];exact I.freeC x c q
 pin:=fun p hp=>by
  obtain⟨a,b,c⟩:=I.pin p hp;exact⟨a,by rw[aK (h3 p hp)];exact b,c⟩
 hok:=I.hok.adds hn ⟨hz,its,n,r,e⟩
 len:=I.len
theorem Inv.untrack (I:Inv X pins σ (upd H D (.lst ys)) s)(hn:H D=none):Inv X pins σ H s where
 ok:=I.ok
 os:=I.os
 bare:=I.bare
 base:=by
  have low:∀b u,upd H D (.lst ys) b=some u->(∀xs,u≠ .lst xs)->H b=some u:=fun b u q nl=>by
   by_cases hb:b=D
   ·subst hb;rw[aZ]at q;cases q;exact absurd rfl (nl ys)
   ·rw[aK hb]at q;exact q
  refine⟨I.base.keep,I.base.slot,fun b o q n' hx=> ?_,I.base.there,fun b xs q=> ?_,fun b o u q=> ?_,fun b ps q=> ?_⟩
  ·have z:=I.base.free b o q n' hx
   by_cases hb:b=D
   ·subst hb;exact hn
   ·rw[aK hb]at z;exact z
  ·exact low _ _ (I.base.tups b xs q) (fun _ z=>by cases z)
  ·exact low _ _ (I.base.frzs b o u q) (fun _ z=>by cases z)
  ·obtain⟨more,z⟩:=I.base.tbls b ps q;exact⟨more,low _ _ z (fun _ z=>by cases z)⟩
 loc:=I.loc
 cell:=I.cell
 free:=by
  have z:=I.free
  by_cases hb:X.env.locals=D
  ·rw[hb];exact hn
  ·rw[aK hb]at z;exact z
 freeC:=fun x c q=>by
  have z:=I.freeC x c q
  by_cases hb:c=D
  ·rw[hb];exact hn
  ·rw[aK hb]at z;exact z
 pin:=fun p hp=>by
  obtain⟨a,b,c⟩:=I.pin p hp;refine⟨a,?_,c⟩
  by_cases hb:p.1=D
  ·rw[hb];exact hn
  ·rw[aK hb]at b;exact b
 hok:=I.hok.drops hn
 len:=I.len
end
def bQ (X:Cx)(scope:Scope)(cl:List (Str×Addr))(N:List Str)(C:Addr)(s0:Shared)(H0:Hp)(fp:List Addr):Cx where
 prog:=X.prog
 w:=X.w
 K:=X.K
 mg:=X.mg
 base:=X.base
 A:=X.A
 N:=N
 s₀:=s0
 H₀:=H0
 env:=compEnvC scope cl C X.env
 outer:=X.stack
 stack:=X.stack
 ex:=fp
 fn:=fun _=>false
 calm:=X.calm
 pn:=[]
 xe:=fun _ _=>False
structure Blk (X:Cx)(scope:Scope)(cl:List (Str×Addr))(N:List Str)(nl:Nat)(ci:List Nat):Prop where
 kind:scope.kind= .function
 names:∀y∈scope.names,y.2= .local->scope.names.lookup y.1=some .local
 nocell:∀y∈scope.names,y.2≠ .cell
 clos:closureFor scope X.env=pure cl
 sub:∀n c,cl.lookup n=some c->X.env.cells.lookup n=some c
 has:∀n,((relabel scope X.env).names.lookup n=some .cell∨(relabel scope X.env).names.lookup n=some .free)->∃c,cl.lookup n=some c
 len:N.length=nl+ci.length
 cap:∀(j i:Nat),ci[j]? =some i->∃n,N[nl+j]? =some n/\X.N[i]? =some n/\(X.env.scope.names.lookup n=some .cell∨X.env.scope.names.lookup n=some .free) ∧
  ((relabel scope X.env).names.lookup n=some .cell∨(relabel scope X.env).names.lookup n=some .free)/\cl.lookup n=X.env.cells.lookup n
def bP (nl:Nat)(ci:List Nat)(σ:St):St:=List.replicate nl none++ci.map fun i=>(σ[i]?).join
theorem EE {nl:Nat}{ci:List Nat}{σ:St}{k:Nat}{v:V} (h:(bP nl ci σ)[k]? =some (some v)):∃j i,k=nl+j/\ci[j]? =some i/\σ[i]? =some (some v):=by
 unfold bP at h
 by_cases hk:k<nl
 ·rw[List.getElem?_append_left (by simpa using hk),List.getElem?_replicate]at h
  split at h<;>cases h
 ·rw[List.getElem?_append_right (by simpa using hk),List.length_replicate,List.getElem?_map]at h;cases e:ci[k - nl]? with
  | none=>rw[e]at h;cases h
  | some i =>
   rw[e]at h;have h':(σ[i]?).join=some v:=by simpa using h
   refine⟨k - nl,i,by lia,e,?_⟩;cases q:σ[i]? with
   | none=>rw[q]at h';cases h'
   | some o=>rw[q]at h';simp at h';rw[h']
theorem vX {nl:Nat}{ci:List Nat}{σ:St}:(bP nl ci σ).length=nl+ci.length:=by unfold bP;simp
section
variable {X:Cx}{scope:Scope}{cl:List (Str×Addr)}{N:List Str}{nl:Nat}{ci:List Nat}{pins:List (Addr×Obj)}{σ:St}{H2:Hp}{s2:Shared}{fp:List Addr}
theorem KU (B:Blk X scope cl N nl ci)(I:Inv X pins σ H2 s2)(f2:∀b∈fp,j8 X pins H2 b)(fo:∀b∈fp,∃o,s2.heap.get? b=some o){C:Addr}{h4:Heap}{t4:Nat}{m4:Str->Option Value} (hC:s2.heap.objs.size<=C) (hns:h4.Ns C m4)
  (hk:∀b o,s2.heap.get? b=some o->h4.get? b=some o):Inv (bQ X scope cl N C s2 H2 fp) [] (bP nl ci σ) H2 { s2 with heap:=h4,toks:=t4 }:=by
 have lt2:∀b∈fp,b<s2.heap.objs.size:=fun b hb=>by obtain⟨o,e⟩:=fo b hb;exact Heap.lt_size e
 have ok:(bQ X scope cl N C s2 H2 fp).Ok:=by
  refine⟨I.ok.mod,B.kind,I.ok.glob,I.ok.blt,hC,fun x y c h1 h2=>I.ok.inj x y c (B.sub x c h1) (B.sub y c h2),fun x hx=>B.has x hx,fun x c hf _=>(by cases hf),I.ok.hd,I.ok.frames,.inl rfl,fun b hb=>⟨?_,?_⟩,I.bs,?_,fun b o e hb=> ?_,fun b hb z=> ?_,I.stack,I.stkFree⟩
  ·exact Nat.ne_of_lt (Nat.lt_of_lt_of_le (lt2 b hb) hC)
  ·exact fun x c h=>(f2 b hb).2.2.2.2.1 x c (B.sub x c h)
  ·exact Nat.le_trans I.ok.bsz I.sz
  ·rcases (f2 b hb).2.2.2.1 with z|z
   ·exact I.ok.noex b o e z
   ·exact absurd (Nat.lt_of_lt_of_le (Heap.lt_size e) (Nat.le_trans I.ok.bsz z)) (Nat.lt_irrefl _)
  ·rcases List.mem_cons.mp (I.stkSub b z) with q|q
   ·exact(f2 b hb).2.1 q
   ·exact(f2 b hb).2.2.1 q
 refine⟨ok,rfl,I.bare,Un.kept hk,⟨m4,hns,fun k x v e1 e2 e3=> ?_⟩,fun x c e=> ?_,I.hok.fresh hC,fun x c e=>I.freeC x c (B.sub x c e),fun p hp=>(by cases hp),I.hok.kept hk,?_⟩
 ·obtain⟨j,i,rfl,hj,hσ⟩:=EE e2;obtain⟨n,hn1,hn2,hk1,hk2,hl⟩:=B.cap j i hj;have en:x=n:=by
   have e1':N[nl+j]? =some x:=e1;rw[hn1]at e1';exact(Option.some.inj e1').symm
  subst en;obtain⟨m,hm,hloc⟩:=I.loc;have vis:Vis X.env.scope x:= .inr hk1;obtain⟨u,ru,lk⟩:=hloc i x v hn2 hσ vis;refine⟨u,ru,.inr ⟨hk2,?_⟩⟩;rcases lk with⟨kl,_⟩|⟨_,c,ec,hc⟩
  ·have kl':X.env.scope.names.lookup x=some .local:=kl;rcases hk1 with z|z<;>· rw[z]at kl';cases kl'
  ·refine⟨c,hl.trans ec,?_⟩;obtain⟨o,ho,hd⟩:=hc;exact⟨o,hk _ _ ho,hd⟩
 ·obtain⟨v,o,ho,hd⟩:=I.cell x c (B.sub x c e);exact⟨v,o,hk _ _ ho,hd⟩
 ·show (bP nl ci σ).length=N.length;rw[vX,B.len]
theorem P7 {C:Addr}{σ':St}{H':Hp}{s':Shared}{pb:List (Addr×Obj)} (I:Inv X pins σ H2 s2) (f2:∀b∈fp,j8 X pins H2 b) (J:Inv (bQ X scope cl N C s2 H2 fp) pb σ' H' s'):Inv X pins σ H' s' :=
 I.call' J.os J.base J.hok J.bare fun b hb=>⟨(f2 b hb).2.2.2.1,(f2 b hb).2.1,(f2 b hb).2.2.2.2.1,(f2 b hb).2.2.2.2.2⟩
end
section
variable {prog:Program}{w:World}{A:Around}{R:Result->Shared->Prop}{s:Shared}
theorem yF {elt target iter:Expr}{ifs:List Expr}{scope:Scope}{pos:Pos}{it acc:Value}{env:Env} (I:Nat->Shared->Prop)
  (turn:∀n s,I n s->wpAny (model prog w) A (pyNext it) (fun r s₁=>match r with
   | none=>R (.ok .next) s₁
   | some v=>wpAny (model prog w) A (letOwnedTupleGo target it v) (fun _ s₁'=>wpAny (model prog w) A (assign target env v) (fun _ s₂ =>
     wpAny (model prog w) A (forIn ifs true fun c r=>if r=true then do let ok ←isTrue c env (eval c env);pure (ForInStep.yield ok) else pure (ForInStep.yield r)) (fun ok s₃ =>
      if ok=true then wpAny (model prog w) A (eval elt env) (fun x s₄ =>
       wpAny (model prog w) A (call (.builtin "list.append") [acc,x]) (fun _ s₅=>∃m,m<n/\I m s₅) (notedBy (model prog w) A env fun e s'=>R (.error e) s') s₄) (notedBy (model prog w) A env fun e s'=>R (.error e) s') s₃
      else ∃m,m<n/\I m s₃) (notedBy (model prog w) A env fun e s'=>R (.error e) s') s₂) (notedBy (model prog w) A env fun e s'=>R (.error e) s') s₁') (notedBy (model prog w) A env fun e s'=>R (.error e) s') s₁) (notedBy (model prog w) A env fun e s'=>R (.error e) s') s)
  (n:Nat)(h:I n s) :
  codeAny (model prog w) A (.compLoop (.ListComp elt [⟨target,iter,ifs,0⟩] scope pos) 0 it acc env) R s:=by
 refine codeAny_loop rfl I (fun n s hI=> ?_) n h;show wpAny _ A ((compTurn (.ListComp elt [⟨target,iter,ifs,0⟩] scope pos) 0 it acc env).onRaise (fun x=>do noteFrame x env;theTreesLotGoes x)) _ _ s;refine wpAny_noted ?_;rw[compTurn_list];refine wpAny_bind (wpAny_standAt (wpAny_bind (wpAny_mono (turn n s hI) (fun r s₁ h₁=> ?_) fun _ _ h'=>h')));cases r with
 | none=>exact wpAny_pure h₁
 | some v =>
  refine wpAny_bind (wpAny_mono h₁ (fun _ s₁' h₁'=> ?_) fun _ _ h'=>h');refine wpAny_bind (wpAny_mono h₁' (fun _ s₂ h₂=>wpAny_bind (wpAny_mono h₂ (fun ok s₃ h₃=> ?_) fun _ _ h'=>h')) fun _ _ h'=>h');cases ok with
  | false=>exact wpAny_pure ⟨rfl,h₃⟩
  | true =>
   exact wpAny_bind (wpAny_bind (wpAny_mono h₃ (fun x s₄ h₄=>wpAny_bind (wpAny_mono h₄ (fun _ s₅ h₅=>wpAny_pure (wpAny_pure ⟨rfl,h₅⟩)) fun _ _ h'=>h')) fun _ _ h'=>h'))
end
def PF (X:Cx)(ifs:List Expr)(t:TT):Prop :=
 ∀(pins:List (Addr×Obj)) (s:Shared) (σ:St) (H:Hp) (Q:Bool->Hp->Prop),Inv X pins σ H s->t σ H Q →
  wpAny (model X.prog X.w) X.A (forIn ifs true fun c r=>if r=true then do let ok ←isTrue c X.env (eval c X.env);pure (ForInStep.yield ok) else pure (ForInStep.yield r)) (TP X pins σ Q) X.xe s
def vO:TT:=fun _ H Q=>Q true H
theorem cI {X:Cx}:PF X [] vO:=fun _ _ _ H _ I h=>wpAny_tests_nil ⟨H,I,h⟩
theorem tO {X:Cx}{c:Expr}{t:TT} (h:PT X c t):PF X [c] t:=fun pins s σ H Q I q=>wpAny_tests_one (h pins s σ H Q I q)
def fE (J:It)(g:TG)(ti:TT)(te:TE)(σ0:St)(fin:List V->Hp->Prop)(H1:Hp):Prop :=
 ∃W:Nat->Nat->List V->Hp->Prop,(∃m,W 0 m [] H1)/\∀i m ys H,W i m ys H →
  (J.stop i H/\fin ys H) ∨
  (J.go i H/\∀x H',J.yld i H x H'->g x σ0 H' fun σ2 H2=>(σ2.length=σ0.length/\∀(j:Nat) v,σ0[j]? =some (some v)->σ2[j]? =some (some v)) ∧
   ti σ2 H2 fun b H3=>if b=true then te σ2 H3 fun y H4=>ys.length<sizeLine/\∃m',m'<m/\W (i+1) m' (ys++[y]) H4 else ∃m',m'<m/\W (i+1) m' ys H3)
def F9 (wi:TI)(nl:Nat)(ci:List Nat)(g:TG)(ti:TT)(te:TE):TE:=fun σ H Q =>
 wi σ H fun J H1=>fE J g ti te (bP nl ci σ) (fun ys H'=>∀p,H' p=none->Q (.ref p) (upd H' p (.lst ys))) H1
section
variable {X:Cx}{scope:Scope}{cl:List (Str×Addr)}{N:List Str}{nl:Nat}{ci:List Nat}{tg elt iter:Expr}{ifs:List Expr}{pos:Pos}{wi:TI}{g:TG}{ti:TT}{te:TE}
theorem EB {pins:List (Addr×Obj)}{σ:St}{H2:Hp}{s2:Shared}{fp:List Addr}{it:Addr}{J:It}{tn:Nat->Heap->Prop}{E:Value->Shared->Prop}{RR:Value->Addr->Result->Shared->Prop}{fin:List V->Hp->Prop}
  (hc:X.calm=true)(B:Blk X scope cl N nl ci)(hg:∀C s0 H0 fp,PG (bQ X scope cl N C s0 H0 fp) tg g)(hi:∀C s0 H0 fp,PF (bQ X scope cl N C s0 H0 fp) ifs ti)(he:∀C s0 H0 fp,PE (bQ X scope cl N C s0 H0 fp) elt te)
  (I2:Inv X pins σ H2 s2)(T:v8 X.prog X.w X.K tg J fp it tn)(st2:tn 0 s2.heap)(f2:∀b∈fp,j8 X pins H2 b)(hW:fE J g ti te (bP nl ci σ) fin H2)
  (hfin:∀(D C:Addr) (s':Shared) (H':Hp) (ys:List V) (oC:Obj) (m:Str->Option Value),H' D=none->Inv X (pins++[(C,oC)]) σ (upd H' D (.lst ys)) s'->s'.heap.Ns C m->s2.heap.objs.size<=C->fin ys H'->RR (.ref D) C (.ok .next) s') :
  wpAny (model X.prog X.w) X.A (newList []) (fun acc s₃=>wpAny (model X.prog X.w) X.A (newFunctionEnv scope X.env.globals cl [] X.env.qual none .none (some X.env)) (fun cenv s₄ =>
   codeAny (model X.prog X.w) X.A (.compStart (.ListComp elt [⟨tg,iter,ifs,0⟩] scope pos) 0 (.ref it) acc { cenv with scope:=relabel scope X.env }) (RR acc cenv.locals) s₄) E s₃) E s2:=by
 obtain⟨W,⟨m0,w0⟩,turn⟩:=hW;refine wpAny_newObj_type (wpAny_newFunctionEnv B.nocell (by intro y hy;simp at hy) (fun h1 hns1 hsb1=> ?_) B.kind)
 dsimp only at hns1 hsb1 ⊢
 generalize hH2:s2.heap.push { cls:= .type "list",dict:=none,data:= .seq ([]:List Value).toArray }=G2 at hns1 hsb1 ⊢;have hCs:G2.objs.size=s2.heap.objs.size+1:=by rw[←hH2,Heap.size_push]
 generalize hCe:G2.objs.size=C at hns1 hsb1 hCs ⊢;have hDC:s2.heap.objs.size≠C:=by rw[hCs];exact Nat.ne_of_lt (Nat.lt_succ_self _)
 have hCle:s2.heap.objs.size<=C:=by rw[hCs];exact Nat.le_succ _
 have old:∀b o,s2.heap.get? b=some o->h1.get? b=some o:=fun b o e=>hsb1.extBut b o (by rw[hCs];exact Nat.ne_of_lt (Nat.lt_succ_of_lt (Heap.lt_size e))) (Heap.get?_push_of_some _ (hH2▸Heap.get?_push_of_some _ e));have hacc:h1.get? s2.heap.objs.size=some { cls:= .type "list",data:= .seq ([]:List Value).toArray 0 }:=hsb1.extBut _ _ hDC (Heap.get?_push_of_some _ (hH2▸Heap.get?_push_size _ rfl));have fo:∀b∈fp,∃o,s2.heap.get? b=some o:=fun b hb=>let ⟨o,e,_⟩:=T.obj 0 _ st2 b hb;⟨o,e⟩;have lt2:∀b∈fp,b<s2.heap.objs.size:=fun b hb=>let ⟨o,e⟩:=fo b hb;Heap.lt_size e;have hDfp:s2.heap.objs.size∉fp:=fun z=>Nat.lt_irrefl _ (lt2 _ z);have hCfp:C∉fp:=fun z=>Nat.lt_irrefl _ (Nat.lt_of_lt_of_le (lt2 _ z) hCle);generalize hDe:s2.heap.objs.size=D at hCs hDC hCle hacc hDfp lt2;have loop:∀s3:Shared,s3={ s2 with heap:=h1,toks:=s2.toks+([]:List (Str×Value)).length } →
   codeAny (model X.prog X.w) X.A (.compLoop (.ListComp elt [⟨tg,iter,ifs,0⟩] scope pos) 0 (.ref it) (.ref D) (compEnvC scope cl C X.env)) (RR (.ref D) C) s3:=by
  rintro s3 rfl;have I4:Inv (bQ X scope cl N C s2 H2 fp) [] (bP nl ci σ) H2 { s2 with heap:=h1,toks:=s2.toks+([]:List (Str×Value)).length }:=KU B I2 f2 fo (by rw[hDe];exact hCle) hns1 old;have fpk:∀{H':Hp},(∀b∈fp,H' b=none)->∀b∈fp,j8 (bQ X scope cl N C s2 H2 fp) [] H' b:=fun hn b hb =>
   ⟨hn b hb,(I4.ok.exf b hb).1,I4.ok.exfs b hb,.inl hb,(I4.ok.exf b hb).2,fun p hp=>by cases hp⟩
  have hDX:∀x c,(bQ X scope cl N C s2 H2 fp).env.cells.lookup x=some c->c≠D:=fun x c e=>by
   obtain⟨v,o,ho,_⟩:=I2.cell x c (B.sub x c e);rw[←hDe];exact Nat.ne_of_lt (Heap.lt_size ho)
  have hDL:D≠(bQ X scope cl N C s2 H2 fp).env.locals:=hDC;have hDf:D∉(bQ X scope cl N C s2 H2 fp).fs:=fun z=>by
   rcases List.mem_cons.mp (I2.stkSub D z) with q|q
   ·exact Nat.lt_irrefl _ (by have:=I2.lt;rw[hDe,←q]at this;exact this)
   ·exact I2.nofs (by rw[hDe];exact Nat.le_refl _) q
  refine yF (fun n s'=>∃i ys its k H',W i n ys H'/\Inv (bQ X scope cl N C s2 H2 fp) [] (bP nl ci σ) H' s'/\tn i s'.heap/\(∀b∈fp,H' b=none)/\H' D=none ∧
   s'.heap.get? D=some { cls:= .type "list",data:= .seq its.toArray k }/\Vals ys its/\ys.length<=sizeLine) ?_ m0 ?_
  ·rintro n s' ⟨i,ys,its,k,H',w',I',st',fr',hD',eD,rv,hz⟩;have IP:Inv (bQ X scope cl N C s2 H2 fp) [(D,{ cls:= .type "list",data:= .seq its.toArray k })] (bP nl ci σ) H' s':=I'.pins_of fun p hp=>by
    obtain rfl:p=_:=by simpa using hp
    exact⟨eD,hD',hDL,hDf,fun v z=>by cases z⟩
   have fpD:∀{H'':Hp},(∀b∈fp,H'' b=none)->∀b∈fp,j8 (bQ X scope cl N C s2 H2 fp) [(D,{ cls:= .type "list",data:= .seq its.toArray k })] H'' b:=fun hn b hb =>
    ⟨hn b hb,(I4.ok.exf b hb).1,I4.ok.exfs b hb,.inl hb,(I4.ok.exf b hb).2,fun p hp=>by
     obtain rfl:p=_:=by simpa [bQ] using hp
     exact fun z=>hDfp ((show D=b from z)▸hb)⟩
   rcases turn i n ys H' w' with⟨stop,q⟩|⟨go,step⟩
   ·refine thn (T.done (bQ X scope cl N C s2 H2 fp) rfl rfl rfl hc i _ s' (bP nl ci σ) H' _ IP (fpD fr') st' stop) fun r s'' ⟨hr,I''⟩=> ?_;subst hr;have eD2:=(I''.pin (D,_) (List.mem_append_right _ List.mem_cons_self)).1;have J1:Inv (bQ X scope cl N C s2 H2 fp) [] (bP nl ci σ) (upd H' D (.lst ys)) s'' :=
     (I''.pins_of (pins':=[]) fun p hp=>by cases hp).track hD' eD2 rv hz (by show s2.heap.objs.size<=D;rw[hDe];exact Nat.le_refl _) hDL hDX fun p hp=>by cases hp
    have K1:Inv X pins σ (upd H' D (.lst ys)) s'':=P7 I2 f2 J1;obtain⟨mC,nsC,_⟩:=J1.loc;obtain⟨oC,es,ep,hoC,hdC,rC⟩:=id nsC;refine hfin D C s'' H' ys oC mC hD' (K1.pins_of fun p hp=> ?_) nsC (by rw[hDe];exact hCle) q;rcases List.mem_append.mp hp with hp|hp
    ·exact K1.pin p (List.mem_append_right _ hp)
    ·obtain rfl:p=(C,oC):=by simpa using hp
     refine⟨hoC,J1.free,Nat.ne_of_gt (Nat.lt_of_lt_of_le I2.lt (by rw[hDe];exact hCle)),I2.nofs (by rw[hDe];exact hCle),fun v z=> ?_⟩;rw[hdC]at z;cases z
   ·refine thn (T.item (bQ X scope cl N C s2 H2 fp) rfl rfl rfl hc i _ s' (bP nl ci σ) H' _ IP (fpD fr') st' go) fun r s4 ⟨u,hr,h4⟩=> ?_;subst hr;refine thn h4 fun _ s5 ⟨x,H5,I5,r5,y5,st5,fr5⟩=> ?_;have I5':=I5.pinned (fpD fr5) (T.obj _ _ st5);refine wpAny_mono (hg C s2 H2 fp _ s5 (bP nl ci σ) H5 x u _ I5' r5 (step x H5 y5)) (fun _ s6 ⟨σ6,H6,I6,⟨hl6,hk6⟩,q6⟩=> ?_) fun _ _ f=>f.elim;refine wpAny_mono (hi C s2 H2 fp _ s6 σ6 H6 _ I6 q6) (fun b s7 ⟨H7,I7,q7⟩=> ?_) fun _ _ f=>f.elim;have pinD:∀{pp:List (Addr×Obj)}{σx:St}{Hx:Hp}{sx:Shared},Inv (bQ X scope cl N C s2 H2 fp) ([(D,({ cls:= .type "list",data:= .seq its.toArray k }:Obj))]++i4 fp s5.heap) σx Hx sx →
      sx.heap.get? D=some { cls:= .type "list",data:= .seq its.toArray k }/\Hx D=none/\tn (i+1) sx.heap/\(∀b∈fp,Hx b=none):=fun {pp σx Hx sx} Ix=>by
     refine⟨(Ix.pin (D,_) (List.mem_append_right _ (List.mem_append_left _ List.mem_cons_self))).1,(Ix.pin (D,_) (List.mem_append_right _ (List.mem_append_left _ List.mem_cons_self))).2.1,T.keep _ _ _ st5 fun b hb o e=>(Ix.pin (b,o) (List.mem_append_right _ (List.mem_append_right _ (gI hb e)))).1,fun b hb=> ?_⟩;obtain⟨o,e,d⟩:=T.obj _ _ st5 b hb;exact(Ix.pin (b,o) (List.mem_append_right _ (List.mem_append_right _ (gI hb e)))).2.1
    cases b with
    | false =>
     rw[if_neg Bool.false_ne_true]at q7 ⊢;obtain⟨m',hm',w7⟩:=q7;obtain⟨e7,n7,st7,fr7⟩:=pinD (pp:=[]) I7;exact⟨m',hm',i+1,ys,its,k,H7,w7,(I7.pins_of (pins':=[]) fun p hp=>by cases hp).weak hl6.symm hk6,st7,fr7,n7,e7,rv,hz⟩
    | true =>
     rw[if_pos rfl]at q7 ⊢;refine wpAny_mono (he C s2 H2 fp _ s7 σ6 H7 _ I7 q7) (fun y' s8 ⟨y,H8,I8,r8,hlt,m',hm',w8⟩=> ?_) fun _ _ f=>f.elim;obtain⟨e8,n8,st8,fr8⟩:=pinD (pp:=[]) I8;have I8f:Inv (bQ X scope cl N C s2 H2 fp) (i4 fp s5.heap) σ6 H8 s8:=I8.pins_of fun p hp=>I8.pin p (List.mem_append_right _ (List.mem_append_right _ hp));have I8t:=I8f.track n8 e8 rv hz (by show s2.heap.objs.size<=D;rw[hDe];exact Nat.le_refl _) hDL hDX fun p hp=>by
      have hp':p∈i4 fp s5.heap:=by simpa [bQ] using hp
      exact fun z=>hDfp (z▸(wB hp').1)
     refine wpAny_mono (jS (X:=bQ X scope cl N C s2 H2 fp) (i4 fp s5.heap) s8 σ6 _ (.ref D) [y] (.ref D) [y'] (fun _ H9=>H9=upd H8 D (.lst (ys++[y]))) I8t rfl (.cons r8 .nil)
      ⟨D,ys,y,rfl,rfl,aZ,hlt,L3⟩) (fun _ s9 ⟨_,H9,I9,_,e9⟩=> ?_) fun _ _ f=>f.elim
     subst e9;obtain⟨hz9,its9,k9,rv9,e9⟩:=I9.hok D _ aZ;have I9u:=I9.untrack n8;refine⟨m',hm',i+1,ys++[y],its9,k9,H8,w8,(I9u.pins_of (pins':=[]) fun p hp=>by cases hp).weak hl6.symm hk6,?_,fr8,n8,e9,rv9,hz9⟩;exact T.keep _ _ _ st5 fun b hb o e=>(I9u.pin (b,o) (List.mem_append_right _ (gI hb e))).1
  ·exact⟨0,[],[],0,H2,w0,I4,T.keep _ _ _ st2 fun b hb o e=>old b o e,fun b hb=>(f2 b hb).1,I2.hok.fresh (by rw[hDe];exact Nat.le_refl _),hacc,.nil,Nat.zero_le _⟩
 exact codeAny_compStart_list (loop _ rfl) (T.self _ 0 _ _ _ (T.keep _ _ _ st2 fun b hb o e=>old b o e) (loop _ rfl))
theorem cF (hc:X.calm=true)(B:Blk X scope cl N nl ci)(hp:PI X tg iter wi)(hg:∀C s0 H0 fp,PG (bQ X scope cl N C s0 H0 fp) tg g)(hi:∀C s0 H0 fp,PF (bQ X scope cl N C s0 H0 fp) ifs ti)
  (he:∀C s0 H0 fp,PE (bQ X scope cl N C s0 H0 fp) elt te)(hs:∀x,foldedSetIterable iter X.env x=pure x:=by intro _;rfl):PE X (.ListComp elt [⟨tg,iter,ifs,0⟩] scope pos) (F9 wi nl ci g ti te):=by
 intro pins s σ H Q I h;rw[eval_ListComp];refine wpAny_comprehension_free (use:=none) rfl hs B.clos B.kind B.names (thn (hp pins s σ H _ I h) fun v s1 h1=>thn h1 fun itv s2 h2=> ?_);obtain⟨it,fp,tn,J,H2,e,I2,T,st2,f2,hW⟩:=h2;subst e;refine EB (RR:=fun acc C=>compPost (model X.prog X.w) X.A X.xe none (EP X pins σ Q) acc C) hc B hg hi he I2 T st2 f2 hW ?_;intro D C s' H' ys oC m hD K1 hn hC q;refine⟨m,hn,fun h' hs'=> ?_⟩;have hL:C≠X.env.locals:=(K1.pin (C,oC) (by simp)).2.2.1;have I9:Inv X pins σ (upd H' D (.lst ys)) { s' with heap:=h',toks:=s'.toks }:=K1.unpinned.turned (t':=s'.toks) (it:=C) (fun b o hb e=>hs'.extBut b o hb e) (K1.pin (C,oC) (by simp)).2.1 hL (.inr (Nat.le_trans I2.sz hC)) (fun x c e z=> ?_) fun p hp z=> ?_
 ·exact⟨.ref D,_,I9,rfl,q D hD⟩
 ·obtain⟨v,o,ho,_⟩:=I2.cell x c e;exact absurd (Nat.lt_of_lt_of_le (Heap.lt_size ho) (z▸hC)) (Nat.lt_irrefl _)
 ·exact absurd (Nat.lt_of_lt_of_le (Heap.lt_size (I2.pin p hp).1) (z▸hC)) (Nat.lt_irrefl _)
theorem iN {i:Nat}{x:Str}{pos' spos:Pos} (hN:X.N.Nodup) (hix:X.N[i]? =some x) (hx:Loc X.env.scope x) (hc:X.calm=true) (B:Blk X scope cl N nl ci) (hp:PI X tg iter wi) (hg:∀C s0 H0 fp,PG (bQ X scope cl N C s0 H0 fp) tg g)
  (hi:∀C s0 H0 fp,PF (bQ X scope cl N C s0 H0 fp) ifs ti)(he:∀C s0 H0 fp,PE (bQ X scope cl N C s0 H0 fp) elt te)
  (hsw:swapsWith (.ListComp elt [⟨tg,iter,ifs,0⟩] scope pos) (some (.Name x pos')) spos.line X.env=pure true:=by rfl)(hs:∀x,foldedSetIterable iter X.env x=pure x:=by intro _;rfl)
  (hf:X.fn x=true∨X.env.scope.names.lookup x=some .local:=by first|exact .inl rfl|exact .inr rfl|assumption) :
  PS X (.Assign [.Name x pos'] (.ListComp elt [⟨tg,iter,ifs,0⟩] scope pos) spos) (G8 (F9 wi nl ci g ti te) (cJ i)):=by
 intro pins s σ H D I h;rw[exec_Assign_Name_used _ _ _ _ hsw];refine wpAny_bind (wpAny_standAt (wpAny_bind ?_));show wpAny _ X.A (do let _ ←comprehension (.ListComp elt [⟨tg,iter,ifs,0⟩] scope pos) scope X.env _ (newList []) false (eval iter X.env) (some (assign (.Name x pos') X.env))) _ _ s;refine wpAny_bind (wpAny_mono (wpAny_comprehension_free (use:=some (assign (.Name x pos') X.env)) (Q:=fun _ s'=>SP X pins D .next s') rfl hs B.clos B.kind B.names
  (thn (hp pins s σ H _ I h) fun v s1 h1=>thn h1 fun itv s2 h2=> ?_)) (fun _ s' hq=>wpAny_pure (wpAny_pure hq)) fun _ _ e=>e)
 obtain⟨it,fp,tn,J,H2,e,I2,T,st2,f2,hW⟩:=h2;subst e;refine EB (RR:=fun acc C=>compPost (model X.prog X.w) X.A X.xe (some (assign (.Name x pos') X.env)) (fun _ s'=>SP X pins D .next s') acc C) hc B hg hi he I2 T st2 f2 hW ?_;intro Dd C s' H' ys oC m hD K1 hn hC q;show wpAny _ X.A (assign (.Name x pos') X.env (.ref Dd)) _ _ _;refine thn (aG (i:=i) hN hix hx hf (pins++[(C,oC)]) s' σ (upd H' Dd (.lst ys)) (.ref Dd) (.ref Dd) (fun σ' H''=>D.nx σ' H'') K1 rfl (q Dd hD)) fun _ s'' ⟨σ',H'',K2,q2⟩=> ?_;have eC:=K2.pin (C,oC) (by simp);obtain⟨oC',es,ep,hoC,hdC,rC⟩:=id hn;have eo:oC'=oC:=by
  have:=(K1.pin (C,oC) (by simp)).1;rw[hoC]at this;exact Option.some.inj this
 subst eo;refine⟨m,⟨oC',es,ep,eC.1,hdC,rC⟩,fun h' hs'=> ?_⟩;have hL:C≠X.env.locals:=eC.2.2.1;have I9:Inv X pins σ' H'' { s'' with heap:=h',toks:=s''.toks }:=K2.unpinned.turned (t':=s''.toks) (it:=C) (fun b o hb e=>hs'.extBut b o hb e) eC.2.1 hL (.inr (Nat.le_trans I2.sz hC)) (fun x c e z=> ?_) fun p hp z=> ?_
 ·exact⟨σ',H'',I9,q2⟩
 ·obtain⟨v,o,ho,_⟩:=I2.cell x c e;exact absurd (Nat.lt_of_lt_of_le (Heap.lt_size ho) (z▸hC)) (Nat.lt_irrefl _)
 ·exact absurd (Nat.lt_of_lt_of_le (Heap.lt_size (I2.pin p hp).1) (z▸hC)) (Nat.lt_irrefl _)
end
end L2
namespace L2
open PySem PySem.Spec PyProof.Rows
def Its (x:Str):It:=⟨fun i _=>i<x.cps.size,fun i H v H'=>H'=H/\∃c,x.cps[i]? =some c/\v= .str ⟨#[c]⟩,fun i _=>i=x.cps.size⟩
theorem IV {P:Program}{w:World}{K:PySem.W.Frag}{tg:Expr} (it:Addr) (x:Str) (t:Tok) (ty:String)
  (hty:["enumerate","zip","dict_itemiterator","dict_reverseitemiterator","odict_iterator","itertools.zip_longest","itertools.pairwise"].contains ty=false)
  (W:∀A':Around,A'.handled=none->Walks P w A' it [it] [it] x.cps.size (SignAt x) (fun i h=>h.IsStrIter it ty x t i))
  (hself:∀(A:Around) (i:Nat) (s:Shared) (Q:Value->Shared->Prop) (E:Value->Shared->Prop),s.heap.IsStrIter it ty x t i->Q (.ref it) s->wpAny (model P w) A (pyIter (.ref it)) Q E s) :
  v8 P w K tg (Its x) [it] it (fun i h=>h.IsStrIter it ty x t i) where
 mem:=by simp
 obj:=fun i h st b hb=>by
  have e:b=it:=by simpa using hb
  subst e;obtain⟨o,e,c,d⟩:=st;exact⟨o,e,fun v z=>by rw[d]at z;cases z⟩
 keep:=fun i h h' st k=>let ⟨o,ho,r⟩:=st;⟨o,k it (by simp) o ho,r⟩
 item:=by
  intro X hP hw hK hc i pins s σ H E I hf st hg;subst hP hw hK;obtain⟨f0,f1,f2,f3,f4,f5⟩:=hf it (by simp);refine(W X.A (I.ok.hd hc)).item i s _ _ hg st fun v h' tk hv st' kk=> ?_;obtain⟨c,u,hc',rfl⟩:=hv;have I1:Inv X pins σ H { s with heap:=h',toks:=tk }:=I.turned (fun b o hb e=>kk b o (by simpa using hb) e) f0 f1 f3 f4 f5;obtain⟨o,e,c1,d⟩:=id st';exact⟨_,rfl,NU (s:={ s with heap:=h',toks:=tk }) e c1 d hty ⟨.str ⟨#[c]⟩,H,I1,⟨u,rfl⟩,⟨rfl,c,hc',rfl⟩,st',fun b hb=>(hf b hb).1⟩⟩
 done:=by
  intro X hP hw hK hc i pins s σ H E I hf st hg;subst hP hw hK;obtain⟨f0,f1,f2,f3,f4,f5⟩:=hf it (by simp);have e:i=x.cps.size:=hg;subst e;exact(W X.A (I.ok.hd hc)).done s _ _ st fun h' tk kk=>⟨rfl,I.turned (fun b o hb e=>kk b o (by simpa using hb) e) f0 f1 f3 f4 f5⟩
 self:=hself
def aC6 (tl:TE):TI:=fun σ H R=>tl σ H fun x H1=>∃z,x= .str z/\R (Its z) H1
theorem aAL {X:Cx}{tg l:Expr}{tl:TE} (hl:PE X l tl):PI X tg l (aC6 tl):=by
 intro pins s σ H R I h;refine thn (hl pins s σ H _ I h) fun v s1 ⟨x,H1,I1,rx,z,ez,q⟩=> ?_;subst ez;obtain⟨t,rfl⟩:=rx;cases ha:z.cps.all (·<128)
 ·refine wpAny_pyIter_wide ha ⟨s1.heap.objs.size,[s1.heap.objs.size],_,Its z,H1,rfl,I1.kept (t':=s1.toks) fun b u e=>Heap.get?_push_of_some _ e,IV _ z t "str_iterator" (by decide) (fun A' hA=>Walks.strWide hA _ z t) (fun _ _ _ _ _ st h=>wpAny_pyIter_striter_wide st h),⟨_,Heap.get?_push_size _ rfl,rfl,rfl⟩,fun b hb=> ?_,q⟩;have e:b=s1.heap.objs.size:=by simpa using hb
  subst e;exact I1.fpOk (Nat.le_refl _) (I1.hok.fresh (Nat.le_refl _))
 ·refine wpAny_pyIter_ascii ha ⟨s1.heap.objs.size,[s1.heap.objs.size],_,Its z,H1,rfl,I1.kept (t':=s1.toks) fun b u e=>Heap.get?_push_of_some _ e,IV _ z t "str_ascii_iterator" (by decide) (fun A' hA=>Walks.strAscii hA _ z t) (fun _ _ _ _ _ st h=>wpAny_pyIter_striter_ascii st h),⟨_,Heap.get?_push_size _ rfl,rfl,rfl⟩,fun b hb=> ?_,q⟩;have e:b=s1.heap.objs.size:=by simpa using hb
  subst e;exact I1.fpOk (Nat.le_refl _) (I1.hok.fresh (Nat.le_refl _))
theorem YY {J:It}{g:TG}{ti:TT}{te:TE}{σ0:St}{fin:List V->Hp->Prop}{H1:Hp} (n:Nat) (f:Nat->V) (hn:n<=sizeLine) (Ok:Hp->Prop) (h0:Ok H1)
  (hst:∀H,Ok H->J.stop n H)(hgo:∀i H,i<n->Ok H->J.go i H)
  (hstep:∀i H x H',i<n->Ok H->J.yld i H x H'->g x σ0 H' fun σ2 H2=>(σ2.length=σ0.length/\∀(j:Nat) v,σ0[j]? =some (some v)->σ2[j]? =some (some v))/\ti σ2 H2 fun b H3=>b=true/\te σ2 H3 fun y H4=>y=f i/\Ok H4)
  (mono:∀σ H (Q Q':Bool->Hp->Prop),(∀b H',Q b H'->Q' b H')->ti σ H Q->ti σ H Q')(mono2:∀σ H (Q Q':VK),(∀b H',Q b H'->Q' b H')->te σ H Q->te σ H Q')(mono3:∀x σ H (Q Q':St->Hp->Prop),(∀σ' H',Q σ' H'->Q' σ' H')->g x σ H Q->g x σ H Q')
  (hfin:∀H,Ok H->fin ((List.range n).map f) H):fE J g ti te σ0 fin H1:=by
 refine⟨fun i m ys H=>m=n - i/\i<=n/\ys=(List.range i).map f/\Ok H,⟨n,by simp,Nat.zero_le _,rfl,h0⟩,?_⟩;rintro i m ys H ⟨rfl,hi,rfl,ok⟩
 by_cases hlt:i<n
 ·refine .inr ⟨hgo i H hlt ok,fun x H' y=> ?_⟩;refine mono3 _ _ _ _ _ (fun σ' H'' q=>⟨q.1,mono _ _ _ _ (fun b H3 q=> ?_) q.2⟩) (hstep i H x H' hlt ok y);obtain⟨rfl,q⟩:=q;rw[if_pos rfl];refine mono2 _ _ _ _ (fun v H4 q=> ?_) q;obtain⟨rfl,ok4⟩:=q;refine⟨by rw[List.length_map,List.length_range];lia,n - (i+1),by lia,rfl,hlt,?_,ok4⟩;rw[List.range_succ,List.map_append];rfl
 ·have e:i=n:=by lia
  subst e;exact .inl ⟨hst H ok,hfin H ok⟩
section
variable {X:Cx}
theorem HZ:∀bs:List Bool,(List.range bs.length).all (fun i=>bs.getD i true)=bs.all id
 | []=>rfl
 | b::bs=>by
  rw[List.length_cons,List.range_succ_eq_map,List.all_cons,List.all_map,List.all_cons,←HZ bs];rfl
theorem CI (hc:X.calm=true):dC X (.builtin "all") (fun xs H Q=>∃(p:Addr) (bs:List Bool),xs=[.ref p]/\SqL X.K H p (bs.map V.bl)/\Q (.bl (bs.all id)) H):=by
 intro pins s σ H xs us Q I r h;obtain⟨p,bs,rfl,hq,q⟩:=h;obtain⟨u,rfl,rx⟩:=lU r;cases rx;obtain⟨its,r',pl,hz⟩:=I.list hq;have hl:=pl.isList;have hlt:p<s.heap.objs.size:=by obtain⟨_,e,_⟩:=hl;exact Heap.lt_size e
 have hlen:bs.length=its.length:=by have:=r'.length;rw[List.length_map]at this;exact this
 refine call_all_walk (wpAny_pyIter_list hl ?_);refine⟨s.heap.objs.size,_,_,its.toArray.size,_,_,fun i=>bs.getD i true,rfl,Walks.list (show X.A.in1.handled=none from I.ok.hd hc) s.heap.objs.size p (Nat.ne_of_lt hlt) its.toArray,⟨⟨_,Heap.get?_push_size _ rfl,rfl,rfl⟩,hl.push _⟩,?_,?_⟩
 ·intro i v s' Q' E' hi hQ;have hi':its[i]? =some v:=by simpa using hi
  have hib:i<bs.length:=by rw[hlen];exact(List.getElem?_eq_some_iff.mp hi').1
  obtain⟨u,hu,ru⟩:=r'.get (i:=i) (x:=V.bl bs[i]) (by rw[List.getElem?_map,List.getElem?_eq_getElem hib];rfl);rw[hi']at hu;cases hu;have:v=Value.bool bs[i]:=ru;subst this;refine wpAny_truthy_bool ?_;have eb:bs.getD i true=bs[i]:=by rw[List.getD_eq_getElem?_getD,List.getElem?_eq_getElem hib];rfl
  have hQ':Q' (bs.getD i true) s':=hQ;rw[eb]at hQ';exact hQ'
 ·intro h' tk hk;have eall:(List.range its.toArray.size).all (fun i=>bs.getD i true)=bs.all id:=by
   rw[List.size_toArray,←hlen];exact HZ bs
  rw[eall];refine⟨.bl (bs.all id),H,?_,rfl,q⟩;have I1:Inv X pins σ H { s with heap:=s.heap.push { cls:= .type "list_iterator",data:= .fields #[.ref p,.int 0 0] },toks:=s.toks }:=I.kept fun b u e=>Heap.get?_push_of_some _ e;obtain⟨f0,f1,f2,f3,f4,f5⟩:=I.fpOk (Nat.le_refl _) (I.hok.fresh (Nat.le_refl _));exact I1.turned (fun b o hb e=>hk b o (by simpa using hb) e) f0 f1 f3 f4 f5
theorem KM:dC X (.builtin "isinstance") (fun xs H Q=>∃x c t u b,xs=[x,c]/\lA X.K H x t/\RelV c u/\PySem.W.kitOne X.K t u=some b/\Q (.bl b) H):=by
 intro pins s σ H xs us Q I r h;obtain⟨x,c,t,u,b,rfl,ty,rc,e,q⟩:=h;obtain⟨v1,v2,rfl,r1,r2⟩:=MS r;have e2:v2=u:=by
  cases c with
  | non=>exact(show v2=_ from r2).trans (show u=_ from rc).symm
  | bl b=>exact(show v2=_ from r2).trans (show u=_ from rc).symm
  | ref b=>exact(show v2=_ from r2).trans (show u=_ from rc).symm
  | ty b=>exact(show v2=_ from r2).trans (show u=_ from rc).symm
  | int i =>
   obtain⟨t1,rfl⟩:=(show ∃t,u=_ from rc)
   cases ty<;>simp[PySem.W.kitOne,PySem.W.kitCls]at e
  | str i =>
   obtain⟨t1,rfl⟩:=(show ∃t,u=_ from rc)
   cases ty<;>simp[PySem.W.kitOne,PySem.W.kitCls]at e
  | byt i =>
   obtain⟨t1,rfl⟩:=(show ∃t,u=_ from rc)
   cases ty<;>simp[PySem.W.kitOne,PySem.W.kitCls]at e
  | flt i =>
   obtain⟨t1,rfl⟩:=(show ∃t,u=_ from rc)
   cases ty<;>simp[PySem.W.kitOne,PySem.W.kitCls]at e
 subst e2;exact O9 I r1 ty e fun tk=>⟨.bl b,H,I.tok tk,rfl,q⟩
theorem QU:OpR X (compareOp .LtE) (fun x y H Q=>∃i j,x= .str i/\y= .str j/\Q (.bl (!decide (j.cps.toList<i.cps.toList))) H):=by
 intro pins s σ H x y v u Q I rx ry h;obtain⟨i,j,rfl,rfl,q⟩:=h;obtain⟨t,rfl⟩:=rx;obtain⟨t',rfl⟩:=ry;exact P.le_str ⟨.bl _,H,I,rfl,q⟩
theorem AA {v:Value}{o:Option Int} (p:IsPart v o):∃l:Option (Int×Tok),v=partValue l/\o=l.map (·.1):=by
 cases p with
 | none=>exact⟨none,rfl,rfl⟩
 | int i u=>exact⟨some (i,u),rfl,rfl⟩
def Z6:V->Option Int->Option Int->Hp->VK->Prop:=fun x lo hi H Q=>∃z,x= .str z/\z.length<=sizeLine/\Q (.str (Txt.slice z lo hi)) H
theorem vU:SlR X Z6:=by
 intro pins s σ H x v vl vu lo hi sl Q I rx hs pl pu h;obtain⟨z,rfl,hz,q⟩:=h;obtain⟨t,rfl⟩:=rx;obtain⟨l,rfl,rfl⟩:=AA pl;obtain⟨u,rfl,rfl⟩:=AA pu;refine⟨"str",_,F.slot_str_getitem.lookup,typeIs_str _ _ _,?_⟩;exact wpAny_getItem_str_slice (l:=l) (u:=u) (st:=none) hs rfl (post_val_or_str ⟨Nat.le_trans (Txt.slice_le z _ _) hz,fun t' k=>⟨.str _,H,I.tok k,⟨t',rfl⟩,q⟩⟩)
end
end L2
namespace L2
open PySem PySem.Spec PyProof.Rows
def AB (xs:List (Str×NameKind))(XN:List Str)(ns:List (Str×NameKind))(N:List Str)(nl:Nat)(ci:List Nat):Bool :=
 (ns.all fun y=>y.2 != .cell&&(y.2 != .local||ns.lookup y.1==some .local)&&(y.2 != .free||(xs.lookup y.1==some .cell&&ns.lookup y.1==some .free))) &&
 (N.length==nl+ci.length) &&
 (List.range ci.length).all fun j=>match ci[j]?,N[nl+j]? with
  | some i,some n=>XN[i]? ==some n&&xs.lookup n==some .cell&&ns.lookup n==some .free
  | _,_=>false
def jQ (ns:List (Str×NameKind))(cs:List (Str×Addr)):List (Str×Addr)->List (Str×Addr)
 | acc=>ns.foldl (fun acc y=>if y.2== .free then (y.1,(cs.lookup y.1).getD 0)::acc else acc) acc
theorem kU {env:Env}:∀(ns:List (Str×NameKind)) (acc:List (Str×Addr)),(∀y∈ns,y.2= .free->∃c,env.cells.lookup y.1=some c) →
  (forIn ns acc fun x r=>(do
   let (name,kind):=x
   if (kind==NameKind.free)=true then do
     let c ←cellOf env name
     pure (ForInStep.yield ((name,c)::r))
    else pure (ForInStep.yield r)):Sem (List (Str×Addr)))=pure (jQ ns env.cells acc)
 | [],acc,_=>rfl
 | (n,k)::r,acc,h=>by
  have ih:=fun acc=>kU r acc fun y hy=>h y (List.mem_cons_of_mem _ hy);rw[List.forIn_cons]
  by_cases hk:k= .free
  ·subst hk;obtain⟨c,e⟩:=h (n,.free) List.mem_cons_self rfl;have e1:cellOf env n=pure c:=by unfold cellOf;rw[e]
   simp only[beq_self_eq_true,if_true,e1];show (forIn r ((n,c)::acc) _:Sem (List (Str×Addr)))=_;rw[ih];show _=pure (jQ ((n,NameKind.free)::r) env.cells acc);simp only[jQ,List.foldl_cons,beq_self_eq_true,if_true,e,Option.getD_some]
  ·have hb:(k==NameKind.free)=false:=by simpa using hk
   simp only[hb,Bool.false_eq_true,if_false];show (forIn r acc _:Sem (List (Str×Addr)))=_;rw[ih];simp only[jQ,List.foldl_cons,hb,Bool.false_eq_true,if_false]
theorem dY {cs:List (Str×Addr)}:∀(ns:List (Str×NameKind)) (acc:List (Str×Addr)) (n:Str),(∀y∈ns,y.2= .free->∃c,cs.lookup y.1=some c) →
  ((n,NameKind.free)∈ns∨acc.lookup n=cs.lookup n)->(∀c,acc.lookup n=some c->cs.lookup n=some c)->(jQ ns cs acc).lookup n=cs.lookup n
 | [],acc,n,_,h,_=>by
  rcases h with h|h
  ·cases h
  ·exact h
 | (m,k)::r,acc,n,hc,h,hs=>by
  have hc':∀y∈r,y.2= .free->∃c,cs.lookup y.1=some c:=fun y hy=>hc y (List.mem_cons_of_mem _ hy);show (jQ r cs (if k== .free then (m,(cs.lookup m).getD 0)::acc else acc)).lookup n=cs.lookup n
  by_cases hk:k= .free
  ·subst hk;obtain⟨c,e⟩:=hc (m,.free) List.mem_cons_self rfl;simp only[beq_self_eq_true,if_true,e,Option.getD_some]
   by_cases hm:n=m
   ·subst hm;have q:List.lookup n ((n,c)::acc)=some c:=by simp[List.lookup_cons]
    exact dY r _ n hc' (.inr (q.trans e.symm)) fun c' z=>by rw[q]at z;cases z;exact e
   ·have hb:(n==m)=false:=by simpa using hm
    have q:List.lookup n ((m,c)::acc)=acc.lookup n:=by simp[List.lookup_cons,hb]
    refine dY r _ n hc' ?_ fun c' z=>hs c' (q▸z);rcases h with h|h
    ·rcases List.mem_cons.mp h with z|z
     ·cases z;exact absurd rfl hm
     ·exact .inl z
    ·exact .inr (q.trans h)
  ·have hb:(k==NameKind.free)=false:=by simpa using hk
   simp only[hb,Bool.false_eq_true,if_false];refine dY r _ n hc' ?_ hs;rcases h with h|h
   ·rcases List.mem_cons.mp h with z|z
    ·cases z;exact absurd rfl hk
    ·exact .inl z
   ·exact .inr h
theorem uT {cs:List (Str×Addr)}:∀(ns:List (Str×NameKind)) (acc:List (Str×Addr)),(∀y∈ns,y.2= .free->∃c,cs.lookup y.1=some c) →
  (∀n c,acc.lookup n=some c->cs.lookup n=some c)->∀n c,(jQ ns cs acc).lookup n=some c->cs.lookup n=some c
 | [],acc,_,hs,n,c,h=>hs n c h
 | (m,k)::r,acc,hc,hs,n,c,h=>by
  have hc':∀y∈r,y.2= .free->∃c,cs.lookup y.1=some c:=fun y hy=>hc y (List.mem_cons_of_mem _ hy);have h':(jQ r cs (if k== .free then (m,(cs.lookup m).getD 0)::acc else acc)).lookup n=some c:=h;refine uT r _ hc' ?_ n c h';intro n' c' z
  by_cases hk:k= .free
  ·subst hk;obtain⟨d,e⟩:=hc (m,.free) List.mem_cons_self rfl;simp only[beq_self_eq_true,if_true,e,Option.getD_some]at z
   by_cases hm:n'=m
   ·subst hm;simp[List.lookup_cons]at z;subst z;exact e
   ·have hb:(n'==m)=false:=by simpa using hm
    simp[List.lookup_cons,hb]at z;exact hs n' c' z
  ·have hb:(k==NameKind.free)=false:=by simpa using hk
   simp only[hb,Bool.false_eq_true,if_false]at z;exact hs n' c' z
theorem fX {env:Env}(hkf:env.scope.kind= .function):∀{names:List (Str×NameKind)}{x:Str},names.lookup x=some .free->env.kindOf x=some .cell →
  (names.map fun (n,k)=>if (k==NameKind.free&&env.scope.kind== .function&&env.kindOf n==some .cell) then (n,NameKind.cell) else (n,k)).lookup x=some .cell
 | [],_,h,_=>by simp at h
 | (n,k)::r,x,h,hc=>by
  show List.lookup x ((if (k==NameKind.free&&env.scope.kind== .function&&env.kindOf n==some .cell)=true then (n,NameKind.cell) else (n,k))::_)=_;cases hx:x==n with
  | true =>
   simp only[List.lookup_cons,hx]at h;cases h;have e:x=n:=by simpa using hx
   subst e;rw[hkf,hc];simp[List.lookup_cons]
  | false =>
   simp only[List.lookup_cons,hx]at h;have ih:=fX hkf h hc
   split
   ·simp only[List.lookup_cons,hx];exact ih
   ·simp only[List.lookup_cons,hx];exact ih
theorem dL {env:Env}:∀{names:List (Str×NameKind)}{x:Str}{k':NameKind},(∀y∈names,y.2≠ .cell)->(k'= .cell∨k'= .free) →
  (names.map fun (n,k)=>if (k==NameKind.free&&env.scope.kind== .function&&env.kindOf n==some .cell) then (n,NameKind.cell) else (n,k)).lookup x=some k'->(x,NameKind.free)∈names
 | [],_,_,_,_,h=>by simp at h
 | (n,k)::r,x,k',hn,hk',h=>by
  have h':List.lookup x ((if (k==NameKind.free&&env.scope.kind== .function&&env.kindOf n==some .cell)=true then (n,NameKind.cell) else (n,k))::r.map _)=some k':=h;cases hx:x==n with
  | true =>
   have e:x=n:=by simpa using hx
   subst e
   by_cases hf:k= .free
   ·subst hf;exact List.mem_cons_self
   ·have hb:(k==NameKind.free)=false:=by simpa using hf
    simp only[hb,Bool.false_and,Bool.false_eq_true,if_false,List.lookup_cons,hx]at h';cases h';rcases hk' with z|z
    ·exact absurd z (hn (x,k) List.mem_cons_self)
    ·exact absurd z hf
  | false =>
   have h2:List.lookup x (r.map fun (n,k)=>if (k==NameKind.free&&env.scope.kind== .function&&env.kindOf n==some .cell) then (n,NameKind.cell) else (n,k))=some k':=by
    split at h'
    ·simp only[List.lookup_cons,hx]at h';exact h'
    ·simp only[List.lookup_cons,hx]at h';exact h'
   exact List.mem_cons_of_mem _ (dL (fun y hy=>hn y (List.mem_cons_of_mem _ hy)) hk' h2)
theorem blk {X:Cx}{scope:Scope}{N:List Str}{nl:Nat}{ci:List Nat} (n0:Nat) (hX:X.env.cells=cellsFrom n0 X.env.scope.names []) (hkf:X.env.scope.kind= .function) (hk:scope.kind= .function)
  (h:AB X.env.scope.names X.N scope.names N nl ci=true):Blk X scope (jQ scope.names X.env.cells []) N nl ci:=by
 unfold AB at h;rw[Bool.and_eq_true,Bool.and_eq_true]at h;obtain⟨⟨h1,h2⟩,h3⟩:=h;rw[List.all_eq_true]at h1;have h1':∀y∈scope.names,y.2≠ .cell/\(y.2= .local->scope.names.lookup y.1=some .local)/\(y.2= .free->X.env.scope.names.lookup y.1=some .cell/\scope.names.lookup y.1=some .free):=fun y hy=>by
  have q:=h1 y hy;simp only[Bool.and_eq_true,Bool.or_eq_true,bne_iff_ne,ne_eq,beq_iff_eq]at q;obtain⟨⟨q1,q2⟩,q3⟩:=q;exact⟨q1,fun e=>q2.resolve_left fun z=>z e,fun e=>q3.resolve_left fun z=>z e⟩
 have hcs:∀y∈scope.names,y.2= .free->∃c,X.env.cells.lookup y.1=some c:=fun y hy e=>by
  rw[hX];exact qI ((h1' y hy).2.2 e).1
 refine⟨hk,fun y hy=>(h1' y hy).2.1,fun y hy=>(h1' y hy).1,?_,?_,?_,by simpa using h2,?_⟩
 ·unfold closureFor;refine(congrArg (fun m:Sem (List (Str×Addr))=>m >>= fun cs=>pure cs) (kU scope.names [] hcs)).trans ?_;rfl
 ·exact uT scope.names [] hcs fun n c z=>by cases z
 ·intro n hn;have hm:(n,NameKind.free)∈scope.names:=by
   rcases hn with z|z
   ·exact dL (fun y hy=>(h1' y hy).1) (.inl rfl) z
   ·exact dL (fun y hy=>(h1' y hy).1) (.inr rfl) z
  obtain⟨c,e⟩:=hcs _ hm rfl;exact⟨c,(dY scope.names [] n hcs (.inl hm) fun c z=>by cases z).trans e⟩
 ·intro j i hj;have hjl:j<ci.length:=(List.getElem?_eq_some_iff.mp hj).1;rw[List.all_eq_true]at h3;have q:=h3 j (List.mem_range.mpr hjl);rw[hj]at q;cases e:N[nl+j]? with
  | none=>rw[e]at q;cases q
  | some n =>
   rw[e]at q;simp only[Bool.and_eq_true,beq_iff_eq]at q;obtain⟨⟨q1,q2⟩,q3⟩:=q;refine⟨n,rfl,q1,.inl q2,.inl (fX hkf q3 q2),?_⟩;exact dY scope.names [] n hcs (.inl (PySem.mem_of_lookup q3)) fun c z=>by cases z
structure Fc (P:Program)(w:World)(K:PySem.W.Frag)(mg:Str->Option Value)(base:Heap)(x:Str)(k:Nat)(ps:List Str)(sp:Sp):Prop where
 ex:∃f fd,mg x=some (.ref f)/\PySem.W.keepIn K (.ref f)=true/\Binds K fd ps []/\FnOk P w K mg base CX0 k f fd ps sp
theorem bD {X:Cx}{x:Str}{k k':Nat}{ps:List Str}{sp:Sp}{e:Expr}{es:List Expr}{t:TA}{p pos:Pos} (F:Fc X.prog X.w X.K X.mg X.base x k ps sp) (hr:Room k' X.A) (ha:PA X (e::es) t) (hk:k<=k':=by decide) (hg:Gl X x:=by rfl)
  (hdb:(x==("__debug__" :Str))=false:=by decide)(he:starEach (e::es) X.env=(false,eval e X.env)::starEach es X.env:=by rfl)(hpl:(backTo pos (starEach es X.env)).any (·.1)=false:=by rfl) :
  PE X (.Call (.Name x p) (e::es) [] pos) (t8 sp [] E0 t):=by
 obtain⟨f,fd,hm,kp,b,G⟩:=F.ex;exact XA G (hr.mono hk) hg hm kp b .nil uX ha hdb he hpl
theorem N6 {X:Cx}{x:Str}{n:String}{pos:Pos} (hg:Gl X x) (hm:X.mg x=none) (hv:bootBuiltins x=some (.type n)) (hn:x≠ "__name__" :=by decide) (hd:(x==("__debug__" :Str))=false:=by decide):PE X (.Name x pos) (tC (.ty n)):=YW hg hm hv rfl hn hd
theorem XD {X:Cx}{x:Str}{i:Int}{t:Tok}{pos:Pos} (hg:Gl X x) (hm:X.mg x=some (.int i t)) (hd:(x==("__debug__" :Str))=false:=by decide):PE X (.Name x pos) (tC (.int i)):=XI hg hm ⟨t,rfl⟩ hd
theorem oI:bootBuiltins "isinstance" =some (.builtin "isinstance"):=by decide +kernel
theorem aA6:bootBuiltins "all" =some (.builtin "all"):=by decide +kernel
theorem iX:bootBuiltins "len" =some (.builtin "len"):=by decide +kernel
theorem aBa:bootBuiltins "max" =some (.builtin "max"):=by decide +kernel
theorem aBf:bootBuiltins "min" =some (.builtin "min"):=by decide +kernel
theorem ZQ:bootBuiltins "int" =some (.type "int"):=by decide +kernel
theorem aAa:bootBuiltins "str" =some (.type "str"):=by decide +kernel
theorem XM:bootBuiltins "bool" =some (.type "bool"):=by decide +kernel
theorem w4:bootBuiltins "list" =some (.type "list"):=by decide +kernel
theorem CY:bootBuiltins "dict" =some (.type "dict"):=by decide +kernel
inductive BTy (K:PySem.W.Frag)(H:Hp):V->String->Prop where
 | non:BTy K H .non "NoneType"
 | bl (x:Bool):BTy K H (.bl x) "bool"
 | int (i:Int):BTy K H (.int i) "int"
 | str (x:Str):BTy K H (.str x) "str"
 | lst {a:Addr}{xs:List V} (e:H a=some (.lst xs)):BTy K H (.ref a) "list"
 | tup {a:Addr}{xs:List V} (e:H a=some (.tup xs)):BTy K H (.ref a) "tuple"
 | dK {a:Addr}{kvs:List (Key×V)} (e:H a=some (.dK kvs)):BTy K H (.ref a) "dict"
theorem BTy.ty {K:PySem.W.Frag}{H:Hp}{x:V}{n:String} (b:BTy K H x n):lA K H x (.type n):=by
 cases b with
 | non=>exact .non
 | bl=>exact .bl _
 | int=>exact .int _
 | str=>exact .str _
 | lst e=>exact .lst e
 | tup e=>exact .tup e
 | dK e=>exact .dK e
def isB (n c:String):Bool:=n==c||(n== "bool" &&c== "int")
theorem MX {K:PySem.W.Frag}{H:Hp}{x:V}{n:String} (b:BTy K H x n) (c:String) (hc:c= "int" ∨c= "bool" ∨c= "str"):PySem.W.kitOne K (.type n) (.type c)=some (isB n c):=by
 cases b<;>rcases hc with rfl|rfl|rfl<;>kernel_rfl
end L2
namespace L2
open PySem PySem.Spec PyProof.Rows
theorem QJ {J:It}{te:TE}{σ0:St}{fin:List V->Hp->Prop}{H1:Hp} (n:Nat) (Ok:Nat->List V->Hp->Prop) (hn:n<=sizeLine) (h00:σ0[0]? =some none) (h0:Ok 0 [] H1) (hlen:∀i ys H,Ok i ys H->ys.length<=i)
  (hst:∀ys H,Ok n ys H->J.stop n H/\fin ys H)(hstep:∀i ys H,i<n->Ok i ys H->J.go i H/\∀x H',J.yld i H x H'->∀R:VK,(∀y H4,Ok (i+1) (ys++[y]) H4->R y H4)->te (σ0.set 0 (some x)) H' R):fE J (cJ 0) vO te σ0 fin H1:=by
 refine⟨fun i m ys H=>m=n - i/\i<=n/\Ok i ys H,⟨n,by simp,Nat.zero_le _,h0⟩,?_⟩;rintro i m ys H ⟨rfl,hi,ok⟩
 by_cases hlt:i<n
 ·obtain⟨go,st⟩:=hstep i ys H hlt ok;refine .inr ⟨go,fun x H' y=>⟨⟨by simp,fun j v hv=> ?_⟩,?_⟩⟩
  ·cases j with
   | zero=>rw[h00]at hv;cases hv
   | succ j=>rw[List.getElem?_set_ne (by lia)];exact hv
  ·unfold vO
   dsimp only
   rw[if_pos rfl];exact st x H' y _ fun z H4 ok4=>⟨by have:=hlen i ys H ok;lia,n - (i+1),by lia,rfl,hlt,ok4⟩
 ·have e:i=n:=by lia
  subst e;exact .inl (hst ys H ok)
theorem N4 {lo:Int}{n:Nat}{te:TE}{σ0:St}{fin:List V->Hp->Prop}{H1:Hp} (Ok:Nat->List V->Hp->Prop) (hn:n<=sizeLine) (h00:σ0[0]? =some none) (h0:Ok 0 [] H1) (hlen:∀i ys H,Ok i ys H->ys.length<=i) (hfin:∀ys H,Ok n ys H->fin ys H)
  (hstep:∀i ys H,i<n->Ok i ys H->∀R:VK,(∀y H4,Ok (i+1) (ys++[y]) H4->R y H4)->te (σ0.set 0 (some (.int (lo+i)))) H R):fE (Itr lo n) (cJ 0) vO te σ0 fin H1 :=
 QJ n Ok hn h00 h0 hlen (fun ys H ok=>⟨Nat.le_refl _,hfin ys H ok⟩) fun i ys H hi ok=>⟨hi,fun x H' y=>by
  obtain⟨e1,e2⟩:=y;subst e1 e2;exact hstep i ys _ hi ok⟩
section
variable {X:Cx}
theorem TC {x:V}(h:jX x=true):eqV x x=true:=by
 cases x<;>first|rfl|(simp[eqV];done)|exact absurd h Bool.false_ne_true
theorem t6 (n:Nat):(List.range n).all (fun _=>true)=true:=by simp
end
structure FunV (K:PySem.W.Frag)(x qual:Str)(st:Stmt)(f:Addr)(fd:FuncData):Prop where
 ex:∃(oc:Value) (od:Option Addr) (dV kV doc pm:Value) (an:Option Addr) (cdv ct:Value) (osl:Array (Option Value)),
  fd=PySem.W.fnOf x qual (aJ st) (aH st) (aC st) dV kV doc pm an cdv ct/\K.lookup f=some ⟨oc,od,.func fd,osl⟩/\PySem.W.codeIn K cdv qual=true
 kp:PySem.W.keepIn K (.ref f)=true
section
variable {P:Program}{w:World}{K:PySem.W.Frag}{mg:Str->Option Value}{base:Heap}
theorem FunV.ok {x qual:Str}{st:Stmt}{f:Addr}{fd:FuncData}{N ps:List Str}{k:Nat}{sp:Sp} (F:FunV K x qual st f fd) (S:aS N ps (aC st)) (len:∀vs H Q E,sp vs H Q E->vs.length=ps.length)
  (hbody:∀(cdv:Value) (A:Around) (outer:List Env) (s:Shared) (H:Hp) (vs:List V) (Q:VK) (E:XK),Room k (A.deeper (envOfC qual (aC st) s.heap.objs.size f cdv))->sp vs H Q E →
   ∃t,PSs (uE CX0 P w K mg base N qual (aC st) f cdv A outer s H E).nox (aH st) t/\t { nx:=fun _ H'=>Q .non H',rt:=Q } (iQ N vs) H):FnOk P w K mg base CX0 (k+1) f fd ps sp:=by
 obtain⟨oc,od,dV,kV,doc,pm,an,cdv,ct,osl,rfl,lk,hcd⟩:=F.ex;refine aCy lk hcd S len fun A outer s H vs Q E hr h=> ?_;obtain⟨t,h1,h2⟩:=hbody cdv A outer s H vs Q E hr h;exact⟨t,PSs.nox h1,h2⟩
theorem aP {x qual:Str}{st:Stmt}{f:Addr}{oc:Value}{od an:Option Addr}{osl:Array (Option Value)}{dV kV doc pm cdv ct:Value} (l:K.lookup f=some ⟨oc,od,.func (PySem.W.fnOf x qual (aJ st) (aH st) (aC st) dV kV doc pm an cdv ct),osl⟩) (c:PySem.W.codeIn K cdv qual=true)
  (k:PySem.W.keepIn K (.ref f)=true):FunV K x qual st f (PySem.W.fnOf x qual (aJ st) (aH st) (aC st) dV kV doc pm an cdv ct):=⟨⟨oc,od,dV,kV,doc,pm,an,cdv,ct,osl,rfl,l,c⟩,k⟩
structure Mc (P:Program)(w:World)(K:PySem.W.Frag)(mg:Str->Option Value)(base:Heap)(C:Addr)(nm:Str)(k:Nat)(sp:Sp):Prop where
 ex:∃f fd ps,Cls K C/\dJ K C nm f/\Binds K fd ps []/\FnOk P w K mg base CX0 k f fd ps sp
structure Kc (P:Program)(w:World)(K:PySem.W.Frag)(mg:Str->Option Value)(base:Heap)(x:Str)(C:Addr)(k:Nat)(dvs:List V)(sp:Sp):Prop where
 ex:∃f fd ps ds,mg x=some (.ref C)/\Mk K C f/\Vals dvs ds/\Binds K fd ps ds/\FnOk P w K mg base CX0 k f fd ps sp
end
section
variable {X:Cx}{k k':Nat}{sp:Sp}{x m:Str}{p pos apos:Pos}{e o:Expr}{es:List Expr}{ta:TE}{t:TA}{C:Addr}{dvs:List V}
def tMD (M:Addr->Sp->Prop)(m:Str)(ta:TE)(t:TA):TE:=fun σ H Q=>ta σ H fun x H1=>∃a C dx fs sp,x= .ref a/\H1 a=some (.ins C dx fs)/\fs.lookup m=none/\M C sp/\t σ H1 fun vs H2=>sp (x::vs) H2 Q E0
theorem jH (k:Nat){pl:Sem Bool}(hr:Room k' X.A)(ho:PE X o ta)(ha:PA X (e::es) t)(hk:k<=k':=by decide)
  (hst:starEach (e::es) X.env=(false,eval e X.env)::starEach es X.env:=by rfl)(hpl:(backTo pos (starEach es X.env)).any (·.1)=false:=by rfl)
  (ht:eval (.Call (.Attribute o m apos) (e::es) [] pos) X.env=(do
   let ov ←eval o X.env
   standAt apos.atName
   let (f,first) ←holding [ov] (getMethod ov m pl)
   callWith pos f first (backTo pos (starEach (e::es) X.env)) (backToKw pos (keywordEach [] X.env))):=by rfl) :
  PE X (.Call (.Attribute o m apos) (e::es) [] pos) (tMD (fun C sp=>Mc X.prog X.w X.K X.mg X.base C m k sp) m ta t):=by
 intro pins s σ H Q I h;refine PySem.W.methodCall_KW (pl:=pl) (thn (ho pins s σ H _ I h) fun u s1 ⟨x,H1,I1,rx,a,C,dx,fs,sp,ex,ea,l,M,q⟩=> ?_) ht;subst ex;obtain rfl:u=Value.ref a:=rx;obtain⟨f,fd,ps,c,hm,hb,F⟩:=M.ex;refine AM I1 ea c hm l ?_;refine PySem.W.callWith_K (first:=[.ref a]) (h₀:=X.base) I.ok.mod.kin hm.kp (thn (ha pos pins s1 σ H1 _ I1 q) fun us s2 ⟨vs,H2,I2,r,q2⟩=>⟨I2.kIn,?_⟩) hst hpl;exact tM (us:= .ref a::us) (vs:= .ref a::vs) (dvs:=[]) F (hr.mono hk) hb .nil uX I2 (.cons rfl r) (by rw[List.append_nil];exact q2)
theorem fJ (k:Nat){pl:Sem Bool}(hr:Room k' X.A)(ho:PE X o ta)(hk:k<=k':=by decide)
  (ht:eval (.Call (.Attribute o m apos) [] [] pos) X.env=(do
   let ov ←eval o X.env
   standAt apos.atName
   let (f,first) ←holding [ov] (getMethod ov m pl)
   callWith pos f first (backTo pos (starEach [] X.env)) (backToKw pos (keywordEach [] X.env))):=by rfl) :
  PE X (.Call (.Attribute o m apos) [] [] pos) (tMD (fun C sp=>Mc X.prog X.w X.K X.mg X.base C m k sp) m ta SU):=by
 intro pins s σ H Q I h;refine PySem.W.methodCall_KW (pl:=pl) (thn (ho pins s σ H _ I h) fun u s1 ⟨x,H1,I1,rx,a,C,dx,fs,sp,ex,ea,l,M,q⟩=> ?_) ht;subst ex;obtain rfl:u=Value.ref a:=rx;obtain⟨f,fd,ps,c,hm,hb,F⟩:=M.ex;refine AM I1 ea c hm l ?_;exact PySem.W.callWith_K0 (first:=[.ref a]) I1.kIn hm.kp (tM (us:=[.ref a]) (vs:=[.ref a]) (dvs:=[]) F (hr.mono hk) hb .nil uX I1 (.cons rfl .nil) q)
theorem uS (F:Kc X.prog X.w X.K X.mg X.base x C k dvs sp)(hr:Room k' X.A)(ha:PA X (e::es) t)(hk:k+1<=k':=by decide)(hg:Gl X x:=by rfl)
  (hdb:(x==("__debug__" :Str))=false:=by decide)(he:starEach (e::es) X.env=(false,eval e X.env)::starEach es X.env:=by rfl)(hpl:(backTo pos (starEach es X.env)).any (·.1)=false:=by rfl) :
  PE X (.Call (.Name x p) (e::es) [] pos) (M0 C sp dvs E0 t):=by
 obtain⟨f,fd,ps,ds,hm,M,hd,hb,G⟩:=F.ex;exact WW M G (hr.mono hk) hg hm hb hd uX ha hdb he hpl
structure Dc (P:Program)(w:World)(K:PySem.W.Frag)(mg:Str->Option Value)(base:Heap)(x m:Str)(k:Nat)(sp:Sp):Prop where
 ex:∃C f fd ps,mg x=some (.ref C)/\PySem.W.specialIn K (.ref C) "__getattribute__" =some (some (.builtin "type.__getattribute__"))/\PySem.W.readsIn K C (.type "type")=true/\PySem.W.findCls K (.ref C) (.type "type") m=some (.val (.ref f)) ∧
  PySem.W.keepIn K (.ref f)=true/\Binds K fd ps []/\FnOk P w K mg base CX0 k f fd ps sp
theorem aCh {pl:Sem Bool}(F:Dc X.prog X.w X.K X.mg X.base x m k sp)(hr:Room k' X.A)(ha:PA X (e::es) t)(hk:k<=k':=by decide)(hg:Gl X x:=by rfl)(hdb:(x==("__debug__" :Str))=false:=by decide)
  (hst:starEach (e::es) X.env=(false,eval e X.env)::starEach es X.env:=by rfl)(hpl:(backTo pos (starEach es X.env)).any (·.1)=false:=by rfl)
  (ht:eval (.Call (.Attribute (.Name x p) m apos) (e::es) [] pos) X.env=(do
   let ov ←eval (.Name x p) X.env
   standAt apos.atName
   let (f,first) ←holding [ov] (getMethod ov m pl)
   callWith pos f first (backTo pos (starEach (e::es) X.env)) (backToKw pos (keywordEach [] X.env))):=by rfl) :
  PE X (.Call (.Attribute (.Name x p) m apos) (e::es) [] pos) (t8 sp [] E0 t):=by
 intro pins s σ H Q I h;obtain⟨C,f,fd,ps,hm,hga,hrd,hfc,kp,hb,G⟩:=F.ex;refine PySem.W.methodCall_KW (pl:=pl) (sY I hg hm ?_ hdb) ht;refine PySem.W.method_cls I.kIn hga (PySem.W.cls_value I.kIn hrd hfc (wA (v:= .ref f) rfl) ?_);have I1:=I.tok (s.toks+1);refine PySem.W.callWith_K (first:=[]) (h₀:=X.base) I.ok.mod.kin kp (thn (ha pos pins _ σ H _ I1 h) fun us s2 ⟨vs,H2,I2,r,q2⟩=>⟨I2.kIn,?_⟩) hst hpl;exact tM G (hr.mono hk) hb .nil uX I2 r q2
end
end L2
namespace L2
open PySem PySem.Spec PyProof.Rows
def VF:R2:=fun x y H Q=>∃i j,x= .str i/\y= .str j/\i.length+j.length<=sizeLine/\Q (.str (i++j)) H
def R3:R2:=fun x y H Q=>y= .non/\Q (.bl (decide (x= .non))) H
def F8:R2:=fun x y H Q=>y= .non/\Q (.bl (!decide (x= .non))) H
def aC5:R2:=fun x y H Q=>∃i j,x= .str i/\y= .str j/\Q (.bl (!decide (j.cps.toList<i.cps.toList))) H
def aC0 (K:PySem.W.Frag):List V->Hp->VK->Prop:=fun xs H Q=>∃x c t u b,xs=[x,c]/\lA K H x t/\RelV c u/\PySem.W.kitOne K t u=some b/\Q (.bl b) H
def aCT (K:PySem.W.Frag):List V->Hp->VK->Prop:=fun xs H Q=>∃(p:Addr) (bs:List Bool),xs=[.ref p]/\SqL K H p (bs.map V.bl)/\Q (.bl (bs.all id)) H
def VX:List V->Hp->VK->Prop:=fun xs H Q=>∃z,xs=[.str z]/\z.length<=sizeLine/\Q (.int z.length) H
def VP (K:PySem.W.Frag):List V->Hp->VK->Prop:=fun xs H Q=>∃p ys,xs=[.ref p]/\(SqL K H p ys∨SqT K H p ys)/\Q (.int ys.length) H
def V5:List V->Hp->VK->Prop:=fun xs H Q=>∃i j,xs=[.int i,.int j]/\Q (.int (if j>i then j else i)) H
def VJ:List V->Hp->VK->Prop:=fun xs H Q=>∃i j,xs=[.int i,.int j]/\Q (.int (if j<i then j else i)) H
def DA (K:PySem.W.Frag):List V->Hp->VK->Prop:=fun xs H Q=>∃p ys,xs=[.ref p]/\(SqL K H p ys∨SqT K H p ys)/\∀l,H l=none->Q (.ref l) (upd H l (.lst ys))
section
variable {X:Cx}
theorem BZ:OpR X (binaryOp .Add) VF:=NR
theorem G6:OpR X (compareOp .Is) R3:=aBI
theorem MK:OpR X (compareOp .IsNot) F8:=YA
theorem QI:OpR X (compareOp .LtE) aC5:=QU
theorem yW:dC X (.builtin "isinstance") (aC0 X.K):=KM
theorem UJ (hc:X.calm=true):dC X (.builtin "all") (aCT X.K):=CI hc
theorem EG:dC X (.builtin "len") VX:=GH
theorem fG:dC X (.builtin "len") (VP X.K):=JH
theorem Q2 (hc:X.calm=true):dC X (.builtin "max") V5:=RA hc
theorem P6 (hc:X.calm=true):dC X (.builtin "min") VJ:=PU hc
theorem AW:dC X (.type "list") (DA X.K):=HS
theorem X1 {i j:Int}(n:Int){k1 k2 p1 p2 pos}(h:i^j.toNat=n)(c:aA9 i j):PE X (.BinOp (.Constant (.int i) k1 p1) .Pow (.Constant (.int j) k2 p2) pos) (tC (.int n)):=by
 subst h;intro pins s σ H Q I q;exact aN aBF aE aE pins s σ H Q I ⟨i,j,rfl,rfl,c,q⟩
end
def GA (P:Bool->Hp->Prop):VK:=fun x H=>∃k,x= .bl k/\P k H
def aAp (O:Option Int->Hp->Prop):VK:=fun x H=>∃i,x= .int i/\O (some i) H
def aBB (Q:VK):List V->Hp->Prop:=fun xs H=>xs.length<=sizeLine/\∀p,H p=none->Q (.ref p) (upd H p (.lst xs))
def BU (Q:VK):List V->Hp->Prop:=fun xs H=>xs.length<=sizeLine/\∀p,H p=none->Q (.ref p) (upd H p (.tup xs))
def ZR (Q:VK):List V->Hp->Prop:=fun ys H=>∀p,H p=none->Q (.ref p) (upd H p (.lst ys))
def ZV (K:PySem.W.Frag)(f:Str)(Q:VK):VK:=fun x H=>∃a C dx fs v,x= .ref a/\H a=some (.ins C dx fs)/\Cls K C/\NoAttr K C f/\fs.lookup f=some v/\Q v H
def V8 (K:PySem.W.Frag)(f:Str)(y:V)(q:Hp->Prop):VK:=fun x H=>∃a C dx fs,x= .ref a/\H a=some (.ins C dx fs)/\Cls K C/\NoAttr K C f/\fs.length<1000/\q (upd H a (.ins C dx (cM f y fs)))
def MdP (M:Addr->Sp->Prop)(m:Str)(t:TA)(σ:St)(Q:VK):VK:=fun x H=>∃a C dx fs sp,x= .ref a/\H a=some (.ins C dx fs)/\fs.lookup m=none/\M C sp/\t σ H fun vs H2=>sp (x::vs) H2 Q E0
def rR (C:Addr)(sp:Sp)(dvs:List V)(E:XK)(Q:VK):List V->Hp->Prop:=fun vs H1=>∀x dx,H1 x=none->H1 dx=none->dx≠x →
 sp (.ref x::(vs++dvs)) (upd (upd H1 dx (.own x)) x (.ins C dx [])) (fun v H2=>v= .non/\Q (.ref x) H2) E
def BmP (K:PySem.W.Frag)(T:String)(r:V->List V->Hp->VK->Prop)(t:TA)(σ:St)(Q:VK):VK:=fun x H1=>tyV K T x H1/\t σ H1 fun xs H2=>r x xs H2 Q
def aBj (K:PySem.W.Frag)(R:It->Hp->Prop):VK:=fun x H1=>∃a,x= .ref a/\(∃xs,SqL K H1 a xs)/\R (Itl K a) H1
def ZO (R:It->Hp->Prop):List V->Hp->Prop:=fun vs H1=>∃j:Int,vs=[.int j]/\ -(2^62)<=j/\j<2^62/\R (Itr 0 j.toNat) H1
def aAV (R:It->Hp->Prop):List V->Hp->Prop:=fun vs H1=>∃i j:Int,vs=[.int i,.int j]/\(-(2^62)<=i/\i<2^62/\ -(2^62)<=j/\j<2^62)/\R (Itr i (j - i).toNat) H1
section
variable {nx bk ct:St->Hp->Prop}{rt:VK}{σ:St}{H:Hp}{Q:VK}{t u:TS}{te ta tb tc:TE}{g:TG}{c d:TT}{v:V}{K:PySem.W.Frag}{E:XK}
theorem aAR (h:t ⟨u ⟨nx,rt,bk,ct⟩,rt,bk,ct⟩ σ H):GX t u ⟨nx,rt,bk,ct⟩ σ H:=h
theorem C8 (R:St->Hp->Prop)(h2:∀σ' H',R σ' H'->u ⟨nx,rt,bk,ct⟩ σ' H')(h1:∀nx':St->Hp->Prop,(∀σ' H',R σ' H'->nx' σ' H')->t ⟨nx',rt,bk,ct⟩ σ H):GX t u ⟨nx,rt,bk,ct⟩ σ H:=h1 _ h2
theorem R8 {v:TS}(h:GX (NV c t u) v ⟨nx,rt,bk,ct⟩ σ H):GX (NV c t u) v ⟨nx,rt,bk,ct⟩ σ H:=h
theorem W9 (h:nx σ H):VU ⟨nx,rt,bk,ct⟩ σ H:=h
theorem aBs (h:te σ H fun x H1=>g x σ H1 nx):G8 te g ⟨nx,rt,bk,ct⟩ σ H:=h
theorem aAP (h:te σ H rt):aBg te ⟨nx,rt,bk,ct⟩ σ H:=h
theorem XB (h:te σ H fun _ H1=>nx σ H1):V7 te ⟨nx,rt,bk,ct⟩ σ H:=h
theorem aCd (h:c σ H fun b H1=>if b=true then t ⟨nx,rt,bk,ct⟩ σ H1 else u ⟨nx,rt,bk,ct⟩ σ H1):NV c t u ⟨nx,rt,bk,ct⟩ σ H:=h
def OD (J:It)(g:TG)(tb:TS)(D:d4)(σ:St)(H:Hp):Prop :=
 ∃W:Nat->Nat->St->Hp->Prop,(∃m,W 0 m σ H)/\∀i m σ H,W i m σ H →
  (J.stop i H/\D.nx σ H)∨(J.go i H/\∃N:St->Hp->Prop,(∀σ' H',N σ' H'->∃m',m'<m/\W (i+1) m' σ' H')/\∀x H',J.yld i H x H'->g x σ H' fun σ2 H2=>tb { D with nx:=N,ct:=N,bk:=D.nx } σ2 H2)
theorem aAr {wi:TI}{tb:TS} (h:wi σ H fun J H1=>OD J g tb ⟨nx,rt,bk,ct⟩ σ H1):aAW wi g tb ⟨nx,rt,bk,ct⟩ σ H:=h
theorem aCH {l:St}(h:Q v H):jC 0 (some v::l) H Q:=⟨v,rfl,h⟩
theorem aCn {a0}{l:St} (h:Q v H):jC 1 (a0::some v::l) H Q:=⟨v,rfl,h⟩
theorem aB9 {a0 a1}{l:St} (h:Q v H):jC 2 (a0::a1::some v::l) H Q:=⟨v,rfl,h⟩
theorem aB8 {a0 a1 a2}{l:St} (h:Q v H):jC 3 (a0::a1::a2::some v::l) H Q:=⟨v,rfl,h⟩
theorem aB5 {a0 a1 a2 a3}{l:St} (h:Q v H):jC 4 (a0::a1::a2::a3::some v::l) H Q:=⟨v,rfl,h⟩
theorem aCm {a0 a1 a2 a3 a4}{l:St} (h:Q v H):jC 5 (a0::a1::a2::a3::a4::some v::l) H Q:=⟨v,rfl,h⟩
theorem aCi {a0 a1 a2 a3 a4 a5}{l:St} (h:Q v H):jC 6 (a0::a1::a2::a3::a4::a5::some v::l) H Q:=⟨v,rfl,h⟩
theorem aCe {a0 a1 a2 a3 a4 a5 a6}{l:St} (h:Q v H):jC 7 (a0::a1::a2::a3::a4::a5::a6::some v::l) H Q:=⟨v,rfl,h⟩
theorem aCk {a0 a1 a2 a3 a4 a5 a6 a7}{l:St} (h:Q v H):jC 8 (a0::a1::a2::a3::a4::a5::a6::a7::some v::l) H Q:=⟨v,rfl,h⟩
theorem aB7 {a0 a1 a2 a3 a4 a5 a6 a7 a8}{l:St} (h:Q v H):jC 9 (a0::a1::a2::a3::a4::a5::a6::a7::a8::some v::l) H Q:=⟨v,rfl,h⟩
theorem aBw {a0 a1 a2 a3 a4 a5 a6 a7 a8 a9}{l:St} (h:Q v H):jC 10 (a0::a1::a2::a3::a4::a5::a6::a7::a8::a9::some v::l) H Q:=⟨v,rfl,h⟩
theorem aAf {a0 a1 a2 a3 a4 a5 a6 a7 a8 a9 a10}{l:St} (h:Q v H):jC 11 (a0::a1::a2::a3::a4::a5::a6::a7::a8::a9::a10::some v::l) H Q:=⟨v,rfl,h⟩
theorem aAM {a0 a1 a2 a3 a4 a5 a6 a7 a8 a9 a10 a11}{l:St} (h:Q v H):jC 12 (a0::a1::a2::a3::a4::a5::a6::a7::a8::a9::a10::a11::some v::l) H Q:=⟨v,rfl,h⟩
variable {q:St->Hp->Prop}
theorem aCF {a0 a}{l:St} (h:q (a0::some v::l) H):cJ 1 v (a0::a::l) H q:=h
theorem aCa {a0 a1 a}{l:St} (h:q (a0::a1::some v::l) H):cJ 2 v (a0::a1::a::l) H q:=h
theorem aCB {a0 a1 a2 a}{l:St} (h:q (a0::a1::a2::some v::l) H):cJ 3 v (a0::a1::a2::a::l) H q:=h
theorem aCE {a0 a1 a2 a3 a}{l:St} (h:q (a0::a1::a2::a3::some v::l) H):cJ 4 v (a0::a1::a2::a3::a::l) H q:=h
theorem aB0 {a0 a1 a2 a3 a4 a}{l:St} (h:q (a0::a1::a2::a3::a4::some v::l) H):cJ 5 v (a0::a1::a2::a3::a4::a::l) H q:=h
theorem aB4 {a0 a1 a2 a3 a4 a5 a}{l:St} (h:q (a0::a1::a2::a3::a4::a5::some v::l) H):cJ 6 v (a0::a1::a2::a3::a4::a5::a::l) H q:=h
theorem aCC {a0 a1 a2 a3 a4 a5 a6 a}{l:St} (h:q (a0::a1::a2::a3::a4::a5::a6::some v::l) H):cJ 7 v (a0::a1::a2::a3::a4::a5::a6::a::l) H q:=h
theorem aB1 {a0 a1 a2 a3 a4 a5 a6 a7 a}{l:St} (h:q (a0::a1::a2::a3::a4::a5::a6::a7::some v::l) H):cJ 8 v (a0::a1::a2::a3::a4::a5::a6::a7::a::l) H q:=h
theorem aCw {a0 a1 a2 a3 a4 a5 a6 a7 a8 a}{l:St} (h:q (a0::a1::a2::a3::a4::a5::a6::a7::a8::some v::l) H):cJ 9 v (a0::a1::a2::a3::a4::a5::a6::a7::a8::a::l) H q:=h
theorem Z1 {a0 a1 a2 a3 a4 a5 a6 a7 a8 a9 a}{l:St} (h:q (a0::a1::a2::a3::a4::a5::a6::a7::a8::a9::some v::l) H):cJ 10 v (a0::a1::a2::a3::a4::a5::a6::a7::a8::a9::a::l) H q:=h
theorem aAe {a0 a1 a2 a3 a4 a5 a6 a7 a8 a9 a10 a}{l:St} (h:q (a0::a1::a2::a3::a4::a5::a6::a7::a8::a9::a10::some v::l) H):cJ 11 v (a0::a1::a2::a3::a4::a5::a6::a7::a8::a9::a10::a::l) H q:=h
theorem aBl {a0 a1 a2 a3 a4 a5 a6 a7 a8 a9 a10 a11 a}{l:St} (h:q (a0::a1::a2::a3::a4::a5::a6::a7::a8::a9::a10::a11::some v::l) H):cJ 12 v (a0::a1::a2::a3::a4::a5::a6::a7::a8::a9::a10::a11::a::l) H q:=h
theorem aCW (h:Q v H):tC v σ H Q:=h
theorem aCu {r:R2}(h:ta σ H fun x H1=>tb σ H1 fun y H2=>r x y H2 Q):tOp r ta tb σ H Q:=h
theorem aCD {f:Int->Int->V}{i j:Int} (h:Q (f i j) H):rI0 f (.int i) (.int j) H Q:=⟨i,j,rfl,rfl,h⟩
theorem aA7 {f:Int->Int->V}{i j:Int} (h0:0<j) (h1:j<1073741824) (h:Q (f i j) H):rI aAD f (.int i) (.int j) H Q:=⟨i,j,rfl,rfl,⟨h0,h1⟩,h⟩
theorem Z9 {f:Int->Int->V}{i j:Int} (h0:0<j) (h:Q (f i j) H):rI (fun _ j=>0<j) f (.int i) (.int j) H Q:=⟨i,j,rfl,rfl,h0,h⟩
theorem Y4 {f:Int->Int->V}{i j:Int} (h0: -18446744073709551616<i) (h1:i<18446744073709551616) (h:Q (f i j) H):rI CMul f (.int i) (.int j) H Q:=⟨i,j,rfl,rfl,.inl ⟨by lia,by lia⟩,h⟩
theorem WH {f:Int->Int->V}{i j:Int} (h0: -18446744073709551616<j) (h1:j<18446744073709551616) (h:Q (f i j) H):rI CMul f (.int i) (.int j) H Q:=⟨i,j,rfl,rfl,.inr ⟨by lia,by lia⟩,h⟩
theorem V2 {i j:Int}:decide (V.int i=V.int j)=decide (i=j):=by simp
theorem aCj {i j:Bool}:decide (V.bl i=V.bl j)=decide (i=j):=by simp
theorem aCc {i j:Str}:decide (V.str i=V.str j)=decide (i=j):=by simp
theorem aBc {i j:Int}(h:Q (.bl (decide (i=j))) H):rEq (.int i) (.int j) H Q:=⟨rfl,by rw[V2];exact h⟩
theorem aBH {i j:Str}(h:Q (.bl (decide (i=j))) H):rEq (.str i) (.str j) H Q:=⟨rfl,by rw[aCc];exact h⟩
theorem aAF {i j:Int}(h:Q (.bl (!decide (i=j))) H):rNe (.int i) (.int j) H Q:=⟨rfl,by rw[V2];exact h⟩
theorem aAi {i j:Bool}(h:Q (.bl (!decide (i=j))) H):rNe (.bl i) (.bl j) H Q:=⟨rfl,by rw[aCj];exact h⟩
theorem WZ {i:Addr}(h:Q (.bl false) H):R3 (.ref i) .non H Q:=⟨rfl,by rw[decide_eq_false (fun z=>by cases z)];exact h⟩
theorem Y3 (h:Q (.bl (decide (v= .non))) H):R3 v .non H Q:=⟨rfl,h⟩
theorem WT (h:Q (.bl false) H):F8 .non .non H Q:=⟨rfl,h⟩
theorem W5 {i:Str}(h:Q (.bl true) H):F8 (.str i) .non H Q:=⟨rfl,by rw[decide_eq_false (fun z=>by cases z)];exact h⟩
theorem YZ {i:Addr}(h:Q (.bl true) H):F8 (.ref i) .non H Q:=⟨rfl,by rw[decide_eq_false (fun z=>by cases z)];exact h⟩
theorem XE {i j:Str}(hl:i.length+j.length<=sizeLine)(h:Q (.str (i++j)) H):VF (.str i) (.str j) H Q:=⟨i,j,rfl,rfl,hl,h⟩
theorem YS (h:ta σ H (GA fun c H1=>if c=true then tb σ H1 Q else Q (.bl false) H1)):VC ta tb σ H Q:=h
theorem aAm (h:c σ H fun k H1=>if k=true then ta σ H1 Q else tb σ H1 Q):tIf c ta tb σ H Q:=h
theorem X6 {sp:Sp}{t:TA} (h:t σ H fun vs H1=>sp vs H1 Q E):t8 sp [] E t σ H Q:=by
 unfold t8;simp only[List.append_nil];exact h
theorem aCI {r:List V->Hp->VK->Prop}{t:TA} (h:t σ H fun vs H1=>r vs H1 Q):tCB r t σ H Q:=h
theorem Z4 {t:TA}(h:t σ H (aBB Q)):Z5 t σ H Q:=h
theorem aBk {t:TA}(h:t σ H (BU Q)):aAd t σ H Q:=h
theorem iD {o:HO}{R:V->Hp->Prop} (h:∀p H',H p=none->Same H H'->H' p=some o->R (.ref p) H'):∀p,H p=none->R (.ref p) (upd H p o) :=
 fun p hp=>h p _ hp (fun b u e=>by rw[aK (bH e hp)];exact e) aZ
theorem Y1 {xs:List V}(hn:xs.length<=sizeLine)(h:∀p H',H p=none->Same H H'->H' p=some (.lst xs)->Q (.ref p) H'):aBB Q xs H:=⟨hn,iD h⟩
theorem XZ {xs:List V}(hn:xs.length<=sizeLine)(h:∀p H',H p=none->Same H H'->H' p=some (.tup xs)->Q (.ref p) H'):BU Q xs H:=⟨hn,iD h⟩
theorem YJ {xs:List V}(h:∀p H',H p=none->Same H H'->H' p=some (.lst xs)->Q (.ref p) H'):ZR Q xs H:=iD h
theorem aAT {f:Str}(h:ta σ H (ZV K f Q)):RP K ta f σ H Q:=h
theorem X4 {a C dx:Addr}{fs:List (Str×V)}{f:Str} (e:H a=some (.ins C dx fs)) (cl:Cls K C) (na:NoAttr K C f) (l:fs.lookup f=some v) (h:Q v H):ZV K f Q (.ref a) H:=⟨a,C,dx,fs,v,rfl,e,cl,na,l,h⟩
theorem X7 {f:Str}(h:ta σ H fun y H1=>tb σ H1 (V8 K f y (nx σ))):Z0 K tb ta f ⟨nx,rt,bk,ct⟩ σ H:=h
theorem TW {a C dx:Addr}{fs:List (Str×V)}{f:Str}{y:V}{w:Hp->Prop} (e:H a=some (.ins C dx fs)) (cl:Cls K C) (na:NoAttr K C f) (l:decide (fs.length<1000)=true)
  (h:∀H',(∀b o,H b=some o->b≠a->H' b=some o)->H' a=some (.ins C dx (cM f y fs))->w H'):V8 K f y w (.ref a) H :=
 ⟨a,C,dx,fs,rfl,e,cl,na,of_decide_eq_true l,h _ (fun b o q hb=>by rw[aK hb];exact q) aZ⟩
theorem aCq {M:Addr->Sp->Prop}{m:Str}{t:TA} (h:ta σ H (MdP M m t σ Q)):tMD M m ta t σ H Q:=h
theorem Z2 {M:Addr->Sp->Prop}{m:Str}{t:TA}{a C dx:Addr}{fs:List (Str×V)}{sp:Sp} (e:H a=some (.ins C dx fs)) (l:fs.lookup m=none) (F:M C sp) (h:t σ H fun vs H2=>sp (.ref a::vs) H2 Q E0):MdP M m t σ Q (.ref a) H :=
 ⟨a,C,dx,fs,sp,rfl,e,l,F,h⟩
theorem X5 {C:Addr}{sp:Sp}{dvs:List V}{t:TA} (h:t σ H (rR C sp dvs E Q)):M0 C sp dvs E t σ H Q:=h
theorem qD {C:Addr}{sp:Sp}{dvs vs:List V}{fs:List (Str×V)}
  (hsp:∀p dx H0 (Q':VK),H0 p=some (.ins C dx [])->(∀H',(∀b o,H0 b=some o->b≠p->H' b=some o)->H' p=some (.ins C dx fs)->Q' .non H')->Same H H0->sp (.ref p::(vs++dvs)) H0 Q' E)
  (k:∀p dx H',H p=none->Same H H'->H' p=some (.ins C dx fs)->Q (.ref p) H'):rR C sp dvs E Q vs H:=by
 intro x dx nx nd ne;have s0:Same H (upd (upd H dx (.own x)) x (.ins C dx [])):=fun b o e=>by
  rw[aK (bH e nx),aK (bH e nd)];exact e
 exact hsp x dx _ _ aZ (fun H' sb e=>⟨rfl,k x dx H' nx (fun b o q=>sb b o (s0 b o q) (bH q nx)) e⟩) s0
theorem XW {wi:TI}{nl:Nat}{ci:List Nat}{ti:TT} (h:wi σ H fun J H1=>fE J g ti te (bP nl ci σ) (ZR Q) H1):F9 wi nl ci g ti te σ H Q:=h
theorem aCf {r:V->Option Int->Option Int->Hp->VK->Prop}{tl th:TO} (h:te σ H fun x H1=>tl σ H1 fun l H2=>th σ H2 fun u H3=>r x l u H3 Q):tSl r te tl th σ H Q:=h
theorem PP {z:Str}{lo hi:Option Int} (hz:z.length<=sizeLine) (h:(Txt.slice z lo hi).length<=z.length->Q (.str (Txt.slice z lo hi)) H):Z6 (.str z) lo hi H Q:=⟨z,rfl,hz,h (Txt.slice_le _ _ _)⟩
theorem QQ {a:Addr}{xs:List V}{lo hi:Option Int} (e:SqL K H a xs) (h:∀p H',H p=none->Same H H'->H' p=some (.lst (mO xs lo hi))->Q (.ref p) H'):SW K (.ref a) lo hi H Q:=⟨a,xs,rfl,e,iD h⟩
theorem ZS {p:Addr}{xs:List V}{i:Int} (e:SqT K H p xs) (l:atI xs i=some v) (h:Q v H):UX K (.ref p) (.int i) H Q:=⟨p,xs,i,v,rfl,rfl,e,l,h⟩
theorem WP {p:Addr}{a b i:Int} (e:SqL K H p [.int a,.int b]) (h0:0<=i) (h1:i<2) (h:∀v,(i=0/\v=a)∨(i=1/\v=b)->Q (.int v) H):N8 K (.ref p) (.int i) H Q:=by
 have:i=0∨i=1:=by lia
 rcases this with rfl|rfl
 ·exact⟨p,_,0,_,rfl,rfl,e,rfl,h a (.inl ⟨rfl,rfl⟩)⟩
 ·exact⟨p,_,1,_,rfl,rfl,e,rfl,h b (.inr ⟨rfl,rfl⟩)⟩
def BR (ns:List Int)(lo hi:Option Int):List Int:=(ns.drop (HT.sIx ns.length 0 lo)).take (HT.sIx ns.length ns.length hi - HT.sIx ns.length 0 lo)
theorem P2 (ns:List Int)(lo hi:Option Int):mO (ns.map V.int) lo hi=(BR ns lo hi).map V.int:=by
 unfold mO BR;rw[List.length_map,List.map_take,List.map_drop]
theorem aBA {a:Addr}{ns:List Int}{lo hi:Option Int} (e:SqL K H a (ns.map V.int)) (h:∀p H',H p=none->Same H H'->H' p=some (.lst ((BR ns lo hi).map V.int))->Q (.ref p) H'):SW K (.ref a) lo hi H Q :=
 QQ e (by rw[P2];exact h)
theorem yP {p:Addr}{xs:List V}{k:Int}{j:Nat}{R:Hp->Prop} (e:H p=some (.lst xs)) (l:ixN xs.length k=some j) (h:∀H',(∀b o,H b=some o->b≠p->H' b=some o)->H' p=some (.lst (xs.set j v))->R H'):VO (.ref p) (.int k) v H R :=
 ⟨p,xs,k,j,rfl,rfl,e,l,h _ (fun b o q hb=>by rw[aK hb];exact q) aZ⟩
theorem pY {l b:Addr}{xs zs:List V} (e:H l=some (.lst xs)) (e2:H b=some (.lst zs)) (hn:xs.length+zs.length<=sizeLine) (h:∀p H',H p=none->Same H H'->H' p=some (.lst (xs++zs))->Q (.ref p) H'):aAg (.ref l) (.ref b) H Q :=
 ⟨l,b,xs,zs,rfl,rfl,e,e2,hn,iD h⟩
theorem aCs {T:String}{r:V->List V->Hp->VK->Prop}{to:TE}{t:TA} (h:to σ H (BmP K T r t σ Q)):tBM K T r to t σ H Q:=h
theorem aAo {r:V->List V->Hp->VK->Prop}{t:TA}{p:Addr}{xs:List V} (e:SqL K H p xs) (h:t σ H fun xs H2=>r (.ref p) xs H2 Q):BmP K "list" r t σ Q (.ref p) H:=⟨.inl ⟨rfl,xs,e⟩,h⟩
structure ICls (K:PySem.W.Frag)(C:Addr):Prop where
 cl:Cls K C
 ha:PySem.W.findIn K (.ref C) "__class__" =some (some (.builtin "object.__class__"))
 hn:PySem.W.specialIn K (.builtin "object.__class__") "__get__" =some (some (.builtin "getset_descriptor.__get__"))
 tk:PySem.W.takesIn K (.builtin "object.__class__")=some true
 hm:PySem.W.mroIn K C (.type "object")=some true
theorem YU {z:Str}(hz:z.length<=sizeLine)(h:Q (.int z.length) H):VX [.str z] H Q:=⟨z,rfl,hz,h⟩
theorem YC {p:Addr}{ys:List V} (e:SqL K H p ys) (h:Q (.int ys.length) H):VP K [.ref p] H Q:=⟨p,ys,rfl,.inl e,h⟩
theorem YM {i j:Int}(h:Q (.int (max i j)) H):V5 [.int i,.int j] H Q:=⟨i,j,rfl,by
 have e:(if j>i then j else i)=max i j:=by lia
 rw[e];exact h⟩
theorem WL {i j:Int}(h:Q (.int (min i j)) H):VJ [.int i,.int j] H Q:=⟨i,j,rfl,by
 have e:(if j<i then j else i)=min i j:=by lia
 rw[e];exact h⟩
theorem QO {p:Addr}{ys:List V} (e:SqL K H p ys) (h:∀l H',H l=none->Same H H'->H' l=some (.lst ys)->Q (.ref l) H'):DA K [.ref p] H Q:=⟨p,ys,rfl,.inl e,iD h⟩
variable {B:Bool->Hp->Prop}
theorem YD (h:te σ H (GA B)):ND te σ H B:=h
theorem aB3 (h:te σ H (GA B)):tB te σ H B:=h
theorem aAx (h:c σ H fun k H1=>if k=true then d σ H1 B else B false H1):aBL c d σ H B:=h
theorem aCr (h:c σ H fun k H1=>if k=true then B true H1 else d σ H1 B):tOr c d σ H B:=h
theorem aAG (h:c σ H fun k H1=>B (!k) H1):aAy c σ H B:=h
theorem aAA {b:Bool}{P:Bool->Hp->Prop} (h:P b H):GA P (.bl b) H:=⟨b,rfl,h⟩
theorem OT {A B:Prop}(h:A):if true=true then A else B:=by rw[if_pos rfl];exact h
theorem IO {A B:Prop}(h:B):if false=true then A else B:=by rw[if_neg Bool.false_ne_true];exact h
theorem WQ {A B:Prop}(h:B):if (!true)=true then A else B:=IO h
theorem W1 {A B:Prop}(h:A):if (!false)=true then A else B:=OT h
theorem aBz {p A B:Prop}[Decidable p](hp:p)(h:A):if decide p=true then A else B:=by rw[if_pos (decide_eq_true hp)];exact h
theorem aAN {p A B:Prop}[Decidable p](hp:¬p)(h:B):if decide p=true then A else B:=by rw[if_neg (by rw[decide_eq_false hp];exact Bool.false_ne_true)];exact h
theorem XG {p A B:Prop}[Decidable p](hp:p)(h:B):if (!decide p)=true then A else B:=by rw[decide_eq_true hp];exact IO h
theorem gK {p A B:Prop}[Decidable p](h1:p->A)(h2:¬p->B):if decide p=true then A else B:=CK (fun h=>h1 (of_decide_eq_true h)) fun h=>h2 fun z=>h (decide_eq_true z)
variable {L:List V->Hp->Prop}{O:Option Int->Hp->Prop}{tr:TA}
theorem ZX (h:L [] H):SU σ H L:=h
theorem W3 (h:te σ H fun x H1=>tr σ H1 fun xs H2=>L (x::xs) H2):VQ te tr σ H L:=h
theorem RB (h:O none H):MI σ H O:=h
theorem YK (h:te σ H (aAp O)):V3 te σ H O:=h
theorem aAw {i:Int}(h:O (some i) H):aAp O (.int i) H:=⟨i,rfl,h⟩
variable {vs:List V}{gs:TGs}
theorem W6 {to ti:TE}{ts:NL} (h:to σ H fun o H1=>ti σ H1 fun i H2=>ts o i v H2 fun H3=>q σ H3):aAh to ti ts v σ H q:=h
theorem WD (h:q σ H):M9 [] σ H q:=⟨rfl,h⟩
theorem US (h:g v σ H fun σ' H'=>gs vs σ' H' q):xC g gs (v::vs) σ H q:=⟨v,vs,rfl,h⟩
theorem WO {a:Addr}{n:Nat} (e:SqT K H a vs) (hl:vs.length=n) (h:gs vs σ H q):GM K n gs (.ref a) σ H q:=⟨a,vs,rfl,e,hl,h⟩
variable {R:It->Hp->Prop}
theorem UB (h:te σ H (aBj K R)):VL K te σ H R:=h
theorem D3 {a:Addr}{xs:List V} (e:SqL K H a xs) (h:R (Itl K a) H):aBj K R (.ref a) H:=⟨a,rfl,⟨xs,e⟩,h⟩
theorem RZ (h:tr σ H (ZO R)):VE tr σ H R:=h
theorem QN {j:Int}(h0: -4611686018427387904<=j)(h1:j<4611686018427387904)(h:R (Itr 0 j.toNat) H):ZO R [.int j] H:=⟨j,rfl,by lia,by lia,h⟩
theorem UH (h:tr σ H (aAV R)):VW tr σ H R:=h
theorem PM {i j:Int}(h0: -4611686018427387904<=i)(h1:i<4611686018427387904)(h2: -4611686018427387904<=j)(h3:j<4611686018427387904)(h:R (Itr i (j - i).toNat) H):aAV R [.int i,.int j] H:=⟨i,j,rfl,⟨by lia,by lia,by lia,by lia⟩,h⟩
theorem gB {a:Addr}{tb:TS} (xs:List V) (Pv:Nat->St->Hp->Prop) (h0:Pv 0 σ H) (hl:∀i σ H,i<=xs.length->Pv i σ H->SqL K H a xs)
  (hs:∀i x σ H,xs[i]? =some x->Pv i σ H->g x σ H fun σ2 H2=>tb ⟨Pv (i+1),rt,nx,Pv (i+1)⟩ σ2 H2)(hd:∀σ H,Pv xs.length σ H->nx σ H):OD (Itl K a) g tb ⟨nx,rt,bk,ct⟩ σ H :=
 TM (D:=⟨nx,rt,bk,ct⟩) Pv h0 hl hs hd
theorem iB {lo:Int}{n:Nat}{tb:TS} (Pv:Nat->St->Hp->Prop) (h0:Pv 0 σ H)
  (hs:∀i σ H,i<n->Pv i σ H->g (.int (lo+i)) σ H fun σ2 H2=>tb ⟨Pv (i+1),rt,nx,Pv (i+1)⟩ σ2 H2)(hd:∀σ H,Pv n σ H->nx σ H):OD (Itr lo n) g tb ⟨nx,rt,bk,ct⟩ σ H :=
 QD (D:=⟨nx,rt,bk,ct⟩) Pv h0 hs hd
end
section
variable {K:PySem.W.Frag}{te:TE}{σ:St}{ci:List Nat}{rest:St}{fin:List V->Hp->Prop}{H:Hp}{a:Addr}
theorem wH (hr:ci.map (fun i=>(σ[i]?).join)=rest):bP 1 ci σ=none::rest:=by
 unfold bP;rw[hr];rfl
theorem KF {lo:Int}{n:Nat} (P:Nat->V->Prop) (hn:n<=sizeLine) (hr:ci.map (fun i=>(σ[i]?).join)=rest)
  (hs:∀i H1,i<n->Same H H1->∀R:VK,(∀y H2,P i y->Same H1 H2->R y H2)->te (some (.int (lo+i))::rest) H1 R)
  (hf:∀ys H1,Same H H1->ys.length=n->(∀i y,ys[i]? =some y->P i y)->fin ys H1):fE (Itr lo n) (cJ 0) vO te (bP 1 ci σ) fin H:=by
 rw[wH hr];refine N4 (fun i ys H1=>Same H H1/\ys.length=i/\∀j y,ys[j]? =some y->P j y) hn rfl ⟨Same.refl _,rfl,fun j y h=>by simp at h⟩ (fun i ys H1 ok=>Nat.le_of_eq ok.2.1) (fun ys H1 ok=>hf ys H1 ok.1 ok.2.1 ok.2.2) ?_;intro i ys H1 hi ⟨s1,hl,hp⟩ R hR;refine hs i H1 hi s1 R fun y H2 hy s2=>hR y H2 ⟨s1.trans s2,by simp[hl],fun j z hz=> ?_⟩
 by_cases hj:j<ys.length
 ·rw[List.getElem?_append_left hj]at hz;exact hp j z hz
 ·rw[List.getElem?_append_right (by lia)]at hz;have hj0:j - ys.length=0:=by
   cases e:j - ys.length with
   | zero=>rfl
   | succ k=>rw[e]at hz;simp at hz
  rw[hj0]at hz;have:z=y:=by simpa using hz.symm
  subst this;have:j=i:=by lia
  subst this;exact hy
end
section
variable {K:PySem.W.Frag}{te:TE}{σ:St}{ci:List Nat}{rest:St}{fin:List V->Hp->Prop}{H:Hp}{a:Addr}
theorem M8 {α β:Type}{xs:List α}{ys:List β}{f:α->β} (hl:ys.length=xs.length) (h:∀(i:Nat) y,ys[i]? =some y->∃x,xs[i]? =some x/\y=f x):ys=xs.map f:=by
 apply List.ext_getElem?
 intro i;rw[List.getElem?_map];cases e:ys[i]? with
 | none =>
  have:xs[i]? =none:=by
   rw[List.getElem?_eq_none_iff]at e ⊢
   lia
  rw[this];rfl
 | some y =>
  obtain⟨x,hx,rfl⟩:=h i y e;rw[hx];rfl
theorem uB {lo:Int}{n:Nat} (f:Nat->V) (hn:n<=sizeLine) (hr:ci.map (fun i=>(σ[i]?).join)=rest)
  (hs:∀i H1,i<n->Same H H1->∀R:VK,(∀H2,Same H1 H2->R (f i) H2)->te (some (.int (lo+i))::rest) H1 R)
  (hf:∀H1,Same H H1->fin ((List.range n).map f) H1):fE (Itr lo n) (cJ 0) vO te (bP 1 ci σ) fin H:=by
 refine KF (fun i y=>y=f i) hn hr (fun i H1 hi s1 R hR=>hs i H1 hi s1 R fun H2 s2=>hR _ H2 rfl s2) ?_;intro ys H1 s1 hl hp;have e:ys=(List.range n).map f:=by
  refine M8 (by rw[hl,List.length_range]) fun i y hy=> ?_;have hi:i<n:=by
   rw[←hl];exact(List.getElem?_eq_some_iff.mp hy).1
  exact⟨i,by simp[hi],hp i y hy⟩
 rw[e];exact hf H1 s1
end
theorem Same.at {H H':Hp}{b:Addr}{o:HO} (s:Same H H') (h:H b=some o):H' b=some o:=s b o h
def SameBut (p:Addr)(H H':Hp):Prop:=∀b o,H b=some o->b≠p->H' b=some o
theorem SameBut.upd {p:Addr}{H:Hp}{o:HO}:SameBut p H (upd H p o):=fun b u e hb=>by rw[aK hb];exact e
theorem SameBut.trans {p:Addr}{H H1 H2:Hp} (a:SameBut p H H1) (b:SameBut p H1 H2):SameBut p H H2:=fun c o h hc=>b c o (a c o h hc) hc
theorem Same.but {p:Addr}{H H':Hp} (s:Same H H'):SameBut p H H':=fun b o e _=>s b o e
theorem SameBut.same {p:Addr}{H H0 H':Hp} (n:H0 p=none) (s:Same H0 H) (b:SameBut p H H'):Same H0 H':=fun c o e=>b c o (s c o e) (bH e n)
theorem aQ {t:TS}{D:d4}{N:List Str}{vs:List V}{σ:St}{H:Hp} (e:iQ N vs=σ) (h:t D σ H):t D (iQ N vs) H:=e▸h
theorem SameBut.refl {p:Addr}{H:Hp}:SameBut p H H:=fun _ _ e _=>e
theorem SameBut.snoc {p:Addr}{H H1 H2:Hp} (b:∀c o,H1 c=some o->c≠p->H2 c=some o) (a:SameBut p H H1):SameBut p H H2:=fun c o h hc=>b c o (a c o h hc) hc
theorem SameBut.snocS {p:Addr}{H H1 H2:Hp} (b:Same H1 H2) (a:SameBut p H H1):SameBut p H H2:=fun c o h hc=>b c o (a c o h hc)
theorem Same.snoc {H H1 H2:Hp}(b:Same H1 H2)(a:Same H H1):Same H H2:=a.trans b
theorem YX {f:Str}{v:V}{fs:List (Str×V)}:(cM f v fs).lookup f=some v:=by rw[nX,if_pos rfl]
theorem aCb {f g:Str}{v:V}{o:Option V}{fs:List (Str×V)} (h:decide (g=f)=false) (l:fs.lookup g=o):(cM f v fs).lookup g=o:=by rw[nX,if_neg (of_decide_eq_false h)];exact l
theorem aBi {f:Str}:([]:List (Str×V)).lookup f=none:=rfl
section
variable {K:PySem.W.Frag}{x qual:Str}{st:Stmt}{kV doc pm cdv ct:Value}{an:Option Addr}{ps:List Str}
theorem aR (h:∀us:List Value,us.length=ps.length->bindArgs (PySem.W.fnOf x qual (aJ st) (aH st) (aC st) .none kV doc pm an cdv ct) ⟨us,[]⟩=pure (ps.zip us)) :
  Binds K (PySem.W.fnOf x qual (aJ st) (aH st) (aC st) .none kV doc pm an cdv ct) ps []:= .all h
theorem mW (k:Nat){T:Addr}{ds:List Value}{oc:Value}{od:Option Addr}{sl:Array (Option Value)}{items:Array Value}{n:Nat} (lt:K.lookup T=some ⟨oc,od,.seq items n,sl⟩)
  (h:∀us:List Value,us.length=k->∃k,bindArgs (PySem.W.fnOf x qual (aJ st) (aH st) (aC st) (.ref T) kV doc pm an cdv ct) ⟨us,[]⟩=seqItems? (.ref T) >>= k/\k (some items)=pure (ps.zip (us++ds)))(hk:k+ds.length=ps.length:=by rfl) :
  Binds K (PySem.W.fnOf x qual (aJ st) (aH st) (aC st) (.ref T) kV doc pm an cdv ct) ps ds:=fun s us hK hl=>by
 obtain⟨k,h1,h2⟩:=h us (by rw[List.length_append]at hl;lia);exact .of_defaults (T:=T) (items:=items) (n:=n) rfl (hK T _ lt) rfl h1 h2
end
theorem bX (s:String):(Str.ofString s).length=s.length:=by
 rw[Str.ofString_eq_toList];show (s.toList.map Char.toNat).toArray.size=_;rw[List.size_toArray,List.length_map,String.length_toList]
def sgB (c:Nat):Bool:=decide (97<=c)&&decide (c<=122)
def jE (z:Str):Bool:=z.cps.toList.all sgB
def bA (z:Str):Bool:=decide (1<=(z.length:Int))&&decide ((z.length:Int)<=8)&&jE z
theorem DZ {z:Str}(h:bA z=true):z.length<=8:=by
 unfold bA at h;simp only[Bool.and_eq_true,decide_eq_true_eq]at h
 lia
theorem GT {z:Str}(h0:1<=z.length)(h1:z.length<=8)(h2:jE z=true):bA z=true:=by
 unfold bA;simp only[Bool.and_eq_true,decide_eq_true_eq];exact⟨⟨by lia,by lia⟩,h2⟩
theorem yN {c:Nat}{z:Str} (h:jE z=true) (hc:c∈z.cps.toList):jE ⟨#[c]⟩=true:=by
 unfold jE at h ⊢;rw[List.all_eq_true]at h;show [c].all sgB=true;rw[List.all_cons,h c hc];rfl
theorem O6 {z:Str}{l u:Option Int}{c:Nat} (h:c∈(Txt.slice z l u).cps.toList):c∈z.cps.toList:=by
 unfold Txt.slice at h
 split at h
 ·exact h
 ·rw[List.toList_toArray]at h;obtain⟨i,_,hi⟩:=List.mem_filterMap.mp h;rw[←Array.getElem?_toList]at hi;exact List.mem_of_getElem? hi
theorem jV {z:Str}{l u:Option Int} (h:jE z=true):jE (Txt.slice z l u)=true:=by
 unfold jE at h ⊢;rw[List.all_eq_true]at h ⊢;exact fun c hc=>h c (O6 hc)
theorem yJ (x y:Str):(x++y).cps.toList=x.cps.toList++y.cps.toList:=by
 show (x.cps++y.cps).toList=_;simp
theorem dZ (x y:Str):(x++y).length=x.length+y.length:=by
 show (x.cps++y.cps).size=_;rw[Array.size_append];rfl
theorem CL (c:Nat):(⟨#[c]⟩:Str).length=1:=rfl
theorem y4 {x y:Str}(h:jE x=true)(h':jE y=true):jE (x++y)=true:=by
 unfold jE at h h' ⊢;rw[yJ,List.all_append,h,h'];rfl
end L2
namespace L2
open PySem PySem.Spec PyProof.Rows
section
variable {prog:Program}{w:World}{A:Around}{E:Value->Shared->Prop}{s:Shared}
end
section
variable {X:Cx}{pos:Pos}
end
section
variable {nx bk ct:St->Hp->Prop}{rt:VK}{σ:St}{H:Hp}{g:TG}{K:PySem.W.Frag}{a:Addr}{tb:TS}{xs:List V}
end
theorem YI {H:Hp}{Q:VK}{i j:Int} (h0:0<j) (h:0<=i%j->i%j<j->Q (.int (i%j)) H):rI (fun _ j=>0<j) (fun i j=> .int (i%j)) (.int i) (.int j) H Q:=⟨i,j,rfl,rfl,h0,h (Int.emod_nonneg _ (by lia)) (Int.emod_lt_of_pos _ h0)⟩
end L2
namespace L2
open PySem PySem.Spec PyProof.Rows PySem.W
section
variable {prog:Program}{w:World}{A:Around}{E:Value->Shared->Prop}{h:Heap}{g:Array GenState}{d:Drawn}{t:Nat}{os:OsState}{a C:Addr}{o:Obj}{vs:Array Value}{K:Frag}
end
end L2
namespace L2
open PySem PySem.Spec PyProof.Rows PySem.W
section
variable {M:Model}{A:Around}{E:Value->Shared->Prop}{s:Shared}{base:Heap}{env:Env}{outer:List Env}{L ea:Addr}{Q:Unit->Shared->Prop}
end
end L2
namespace L2
open PySem PySem.Spec PyProof.Rows PySem.W
section
variable {P:Program}{w:World}{H H':Hp}{h h':Heap}{a:Addr}{o:HO}
end
section
variable {X:Cx}{pins:List (Addr×Obj)}{σ:St}{H H1:Hp}{s s1:Shared}{h2 B:Heap}
end
end L2
namespace L2
open PySem PySem.Spec PyProof.Rows PySem.W
section
variable {X:Cx}{E:XK}{x:Str}{C:Addr}{np cpos pos:Pos}{e:Expr}{es:List Expr}{t:TA}
end
section
variable {X:Cx}{k k':Nat}{sp:Sp}{x m:Str}{p pos apos:Pos}{e o:Expr}{es:List Expr}{ta:TE}{t:TA}{C:Addr}{dvs:List V}{E:XK}{ps:List Str}
end
section
variable {P:Program}{w:World}{K:PySem.W.Frag}{mg:Str->Option Value}{base:Heap}
end
end L2
namespace L2
open PySem PySem.Spec PyProof.Rows PySem.W
section
variable {M:Model}{A:Around}{E:Value->Shared->Prop}{s:Shared}{base:Heap}{env:Env}{outer:List Env}{L ea:Addr}{Q:Unit->Shared->Prop}
end
end L2
namespace L2
open PySem PySem.Spec PyProof.Rows PySem.W
section
variable {X:Cx}{pins:List (Addr×Obj)}{σ:St}{H:Hp}{s:Shared}{ea:Addr}
end
section
variable {X:Cx}{k k':Nat}{sp:Sp}{x m:Str}{p pos apos:Pos}{e o:Expr}{es:List Expr}{ta:TE}{t:TA}{C f:Addr}{dvs:List V}{ds:List Value}{R:XK}{ps:List Str}{fd:FuncData}
end
section
variable {X:Cx}{k k':Nat}{sp:Sp}{x m:Str}{p pos apos:Pos}{e o:Expr}{es:List Expr}{ta:TE}{t:TA}{C:Addr}{dvs:List V}{R:XK}
end
section
variable {X:Cx}{i:Nat}{n x:Str}{T:Addr}{np hpos pos epos:Pos}{e:Expr}{tc:XK->TE}{b₀:Stmt}{suite:List Stmt}{ts:TS}
end
end L2
namespace L2
open PySem PySem.Spec PyProof.Rows PySem.W
section
variable {X:Cx}{x:Str}{j:Nat}{p pos:Pos}{e v1 v2:Expr}{es:List Expr}{te:TE}{t:TJ}
end
end L2
namespace L2
open PySem PySem.W
section
variable {K:Frag}{C D:Addr}{cd:ClassData}{b:Bool}
end
variable {K:Frag}{H:Hp}{Q:VK}
end L2
namespace L2
open PySem PySem.W
end L2
set_option maxHeartbeats 4000000
namespace L2
open PySem PySem.Spec PyProof.Rows
abbrev kn (o:Obj):HO:= .frz o (.ext fun _=>True)
theorem F7 {P:Program}{w:World}{H:Hp}{h:Heap}{a:Addr}{o:Obj} (e:h.get? a=some o):ObjOk P w H h a (kn o):=⟨e,trivial,⟨o,e⟩,fun _ _ _ _=>trivial⟩
theorem vZ {P:Program}{w:World}{H:Hp}{h:Heap}{a:Addr}{o:Obj} (x:HOk P w H h) (e:H a=some (kn o)):h.get? a=some o:=(x a _ e).1
section
variable {X:Cx}{pins:List (Addr×Obj)}{σ:St}{H:Hp}{s:Shared}
end
section
variable {X:Cx}{CX:CXT}{k k':Nat}{sp:Sp}{E:XK}{x y:Str}{p pos:Pos}{e:Expr}{es:List Expr}{t:TA}{i:Nat}{c:Addr}
end
def cxL (CX:CXT)(P:Program)(w:World)(K:PySem.W.Frag)(mg:Str->Option Value)(base:Heap)(N:List Str)(qual:Str)(scope:Scope)(f:Addr)(cd:Value)(cl:List (Str×Addr))(A:Around)(outer:List Env)(s:Shared)(H:Hp)(E:XK):Cx where
 prog:=P
 w:=w
 K:=K
 mg:=mg
 base:=base
 A:=A.deeper (PySem.W.envX qual scope s.heap.objs.size f cd cl)
 N:=N
 s₀:=s
 H₀:=H
 env:=PySem.W.envX qual scope s.heap.objs.size f cd cl
 outer:=outer
 stack:=PySem.W.envX qual scope s.heap.objs.size f cd cl::outer
 ex:=[]
 calm:=true
 fn:=fun _=>false
 pn:=[]
 xe:=fun e s'=>wpAny (model P w) (A.deeper (PySem.W.envX qual scope s.heap.objs.size f cd cl)) (leaving (PySem.W.envX qual scope s.heap.objs.size f cd cl) e) (fun _ s''=>CX outer H s E e s'') (fun e' s''=>CX outer H s E e' s'') s'
section
variable {P:Program}{w:World}{K:PySem.W.Frag}{mg:Str->Option Value}{base:Heap}
end
section
variable {X:Cx}{k k':Nat}{x:Str}{p pos:Pos}{e:Expr}{es:List Expr}{t:TA}
def aA8 (F:Addr->FuncData->List Str->Sp->Prop)(K:PySem.W.Frag)(i:Nat)(t:TA):TE:=fun σ H Q=>∃f o fd,σ[i]? =some (some (.ref f))/\H f=some (kn o)/\o.data= .func fd ∧
 t σ H fun vs H1=>∃ps sp,H1 f=some (kn o)/\Binds K fd ps []/\F f fd ps sp/\sp vs H1 Q E0
theorem LZ {h:Heap}{f:Addr}{o:Obj}{fd:FuncData} (e:h.get? f=some o) (d:o.data= .func fd):PySem.W.FnAt f h:=by
 obtain⟨oc,od,dt,sl⟩:=o;have d':dt= .func fd:=d;subst d';exact⟨oc,od,fd,sl,e⟩
theorem SZ (k:Nat)(i:Nat)(hr:Room k' X.A)(ha:PA X (e::es) t)(hk:k<=k':=by decide)(hN:X.N[i]? =some x:=by rfl)(hv:Vis X.env.scope x:=by first|exact Or.inl rfl|exact Or.inr (Or.inl rfl)|exact Or.inr (Or.inr rfl))
  (hdb:(x==("__debug__" :Str))=false:=by decide)(hcd:(x==("__classdict__" :Str))=false:=by decide)(he:starEach (e::es) X.env=(false,eval e X.env)::starEach es X.env:=by rfl)(hpl:(backTo pos (starEach es X.env)).any (·.1)=false:=by rfl) :
  PE X (.Call (.Name x p) (e::es) [] pos) (aA8 (fun f fd ps sp=>FnOk X.prog X.w X.K X.mg X.base CX0 k f fd ps sp) X.K i t):=by
 intro pins s σ H Q I h;obtain⟨f,o,fd,hi,hf,hd,h⟩:=h;refine wpAny_Call_Name_kw (thn (QZ (i:=i) hN hv hdb hcd pins s σ H (fun v' H'=>v'= .ref f/\H' f=some (kn o)/\t σ H' fun vs H1=>∃ps sp,H1 f=some (kn o)/\Binds X.K fd ps []/\FnOk X.prog X.w X.K X.mg X.base CX0 k f fd ps sp/\sp vs H1 Q E0) I ⟨_,hi,rfl,hf,h⟩) fun u s1 ⟨v1,H1,I1,rv,e1,hf1,q1⟩=> ?_);subst e1;obtain rfl:u=Value.ref f:=rv;refine PySem.W.callWith_F (LZ (vZ I1.hok hf1) hd) (thn (ha pos pins s1 σ H1 _ I1 q1) fun us s2 ⟨vs,H2,I2,r,ps,sp,hf2,hb,F,q⟩=>⟨LZ (vZ I2.hok hf2) hd,?_⟩) he hpl;have q':sp (vs++[]) H2 Q E0:=by rw[List.append_nil];exact q
 exact tM (us:=us) (vs:=vs) F (hr.mono hk) hb .nil uX I2 r q'
end
section
variable {X:Cx}{args:Arguments}{body:Expr}{lsc:Scope}{pos:Pos}{y:Str}{c cL PL:Addr}
end
end L2
namespace L2
open PySem PySem.Spec PyProof.Rows
section
variable {P:Program}{w:World}{K:PySem.W.Frag}{mg:Str->Option Value}{base:Heap}
end
theorem QH {P:Program}{w:World}{K:PySem.W.Frag}{mg mb:Str->Option Value}{CX:CXT}{k:Nat}{fa a cL PL:Addr}{fd:FuncData}{x:Str}{sp:Sp}{s₁:Shared}{vs:List Value}{ns:List Int}
  (KX:K.In s₁.heap)(hns:s₁.heap.Ns mainGlobals mg)(hb:s₁.heap.Ns builtinsNs mb)(hbb:∀x:Str,x≠ "__name__" ->mb x=bootBuiltins x)(hlim:s₁.heap.NoLimit)(hg:s₁.gens= #[])
  (C:PySem.W.CodeHd s₁.heap cL PL)(hP:s₁.heap.get? PL=some (PySem.W.tabObj #[]))(hKP:K.lookup PL=none)
  (hbm:∃bm ob,mg "__builtins__" =some (.ref bm)/\bm≠builtinsNs/\s₁.heap.get? bm=some ob/\ob.cls= .type "module" /\ob.dict=some builtinsNs/\ob.data= .plain)
  (ha:s₁.heap.get? a=some { cls:= .type "list",data:= .seq vs.toArray })(hi:IntsAre vs ns)(hl:ns.length<=sizeLine)(hr:Room k callerA)
  (F:∀base:Heap,PySem.W.CodeHd base cL PL->base.BuiltinsAt mg PL->FnOk P w K mg base CX k fa fd [x] sp)(hbind:∀(s:Shared) (u:Value),BindsTo s fd ⟨[u],[]⟩ [(x,u)])
  (hsp:∀H:Hp,SqL K H a (ns.map V.int)->H PL=some (.tbl #[])->sp [.ref a] H (fun v _=>v= .bl true) fun _ _ _=>False)
  (hCX:∀H e s',CX [] H s₁ (fun _ _ _=>False) e s'->False) :
  codeAny (model P w) callerA (.call (.ref fa) ⟨[.ref a],[]⟩) (fun r s'=>r= .ok (.ret (.bool true))/\OldK s₁.heap s'.heap/\s'.os=s₁.os/\AllBare s'.gens) s₁:=by
 have rv:=EN hi;have lenV:=hi.length;have naP:a≠PL:=fun z=>by rw[z,hP]at ha;cases ha
 have core:∀H:Hp,H PL=some (.tbl #[])->SqL K H a (ns.map V.int)->HOk P w H s₁.heap->(∀b,H b≠none->b=a∨b=PL)->(H a≠none->K.lookup a=none)->(∀u,H a=some u->∃o xs,u= .frz o (.lst xs)) →
   codeAny (model P w) callerA (.call (.ref fa) ⟨[.ref a],[]⟩) (fun r s'=>r= .ok (.ret (.bool true))/\OldK s₁.heap s'.heap/\s'.os=s₁.os/\AllBare s'.gens) s₁:=by
  intro H hHP hS hok hA hK hfz;have base_of:∀{b:Addr}{o:Obj},s₁.heap.get? b=some o->H b=none->(qC s₁.heap H).get? b=some o:=fun e n=>RW e n;have noT:∀{b:Addr}{o:Obj},s₁.heap.get? b=some o->o.cls≠ .none->o.cls≠ .type "list" ->H b=none:=fun {b o} e n1 n2=>by
   cases q:H b with
   | none=>rfl
   | some u =>
    rcases hA b (by rw[q];simp) with z|z
    ·rw[z,ha]at e;cases e;exact absurd rfl n2
    ·rw[z,hP]at e;cases e;exact absurd rfl n1
  have noA:∀{b:Addr}{o:Obj}{es:Array DictEntry}{ep:Nat},s₁.heap.get? b=some o->o.data= .dict es ep->H b=none:=fun {b o es ep} e d=>by
   cases q:H b with
   | none=>rfl
   | some u =>
    rcases hA b (by rw[q];simp) with z|z
    ·rw[z,ha]at e;cases e;have d':Data.seq vs.toArray _=Data.dict es ep:=d;cases d'
    ·rw[z,hP]at e;cases e;have d':Data.fields #[]=Data.dict es ep:=d;cases d'
  have nsK:∀{b:Addr}{m:Str->Option Value},s₁.heap.Ns b m->(qC s₁.heap H).Ns b m:=fun {b m} ⟨o,es,ep,e,d,r⟩=>⟨o,es,ep,base_of e (noA e d),d,r⟩
  have hKb:K.In (qC s₁.heap H):=fun b o e=>base_of (KX b o e) (by
   cases q:H b with
   | none=>rfl
   | some u =>
    rcases hA b (by rw[q];simp) with z|z
    ·subst z;rw[hK (by rw[q];simp)]at e;cases e
    ·rw[z,hKP]at e;cases e)
  have hM:Mod K mg (qC s₁.heap H):=⟨hKb,nsK hns,⟨mb,nsK hb,hbb⟩,let ⟨mc,h1,h2⟩:=hlim;⟨mc,nsK h1,h2⟩⟩
  have e0:Env0 P w K mg (qC s₁.heap H) callerA [] s₁ H:=⟨rfl,hM,fun b o e=>YE e,Nat.le_of_eq (PR _ _),trivial,fun b hb=>absurd (show b∈([]:List Addr) from hb) (by simp),hok,.of_eq hg⟩
  have hC:PySem.W.CodeHd (qC s₁.heap H) cL PL:=by
   obtain⟨o,fv,file,tf,flags,tg,inF,text,tt,e1,e2,r⟩:=C;exact⟨o,fv,file,tf,flags,tg,inF,text,tt,base_of e1 (noT e1 (by rw[e2];intro z;cases z) (by rw[e2];decide)),e2,r⟩
  have hB:(qC s₁.heap H).BuiltinsAt mg PL:=by
   obtain⟨bm,ob,b1,b2,b3,b4,b5,b6⟩:=hbm;refine⟨bm,ob,b1,b2,fun z=> ?_,fun z=> ?_,base_of b3 (noT b3 (by rw[b4];intro z;cases z) (by rw[b4];decide)),b4,b5,b6⟩
   ·obtain⟨o,es,ep,e,hd,_⟩:=hns;rw[z,e]at b3;cases b3;rw[hd]at b6;cases b6
   ·rw[z,hP]at b3;cases b3;cases b4
  refine codeAny_mono ((F _ hC hB).run callerA [] s₁ H ⟨[.ref a],[]⟩ [.ref a] [.ref a] _ _ hr e0 (hbind s₁ (.ref a)) (.cons rfl .nil) (hsp H hS hHP)) fun r s' h=> ?_;cases r with
  | error e=>exact(hCX H e s' h).elim
  | ok fl =>
   cases fl with
   | next=>exact False.elim h
   | brk=>exact False.elim h
   | cont=>exact False.elim h
   | ret u =>
    obtain⟨v,H',os,bare,un,hok',r',q⟩:=h;have q':v= .bl true:=q;subst q';obtain rfl:u=Value.bool true:=r';have kept:∀b o,b≠PL->s₁.heap.get? b=some o->s'.heap.get? b=some o:=fun b o nb e=>by
     cases q:H b with
     | none=>exact un.keep b o e q (by intro z;exact absurd (show b∈([]:List Addr) from z) (by simp)) (by simp)
     | some u =>
      rcases hA b (by rw[q];simp) with z|z
      ·subst z;obtain⟨ob,xs,rfl⟩:=hfz u q;have z2:=un.frzs b ob _ q;obtain⟨e1,_⟩:=hok b _ q;obtain⟨e2,_⟩:=hok' b _ z2;rw[e]at e1;cases e1;exact e2
      ·exact absurd z nb
    obtain⟨more,hm⟩:=un.tbls PL #[] hHP;have gP':s'.heap.get? PL=some (PySem.W.tabObj (#[]++more)):=hok' PL _ hm;refine⟨rfl,⟨fun b o e=> ?_,fun b o e=> ?_⟩,os,bare⟩
    ·by_cases hb:b=PL
     ·subst hb;rw[hP]at e;cases e;exact .inr (.inl ⟨(C.tab hP).isCodeTable,rfl,#[],more,rfl,gP'⟩)
     ·exact .inl (kept b o hb e)
    ·by_cases hb:b=PL
     ·subst hb;exact⟨_,gP'⟩
     ·exact⟨o,kept b o hb e⟩
 cases hk:K.lookup a with
 | some o =>
  have e:=KX a o hk;rw[ha]at e;cases e;refine core (fun b=>if b=PL then some (.tbl #[]) else none) (if_pos rfl) (.inr ⟨_,vs.toArray,_,hk,rfl,rfl,rfl,by rw[List.size_toArray,lenV];exact hl,by simpa using rv⟩) (fun b u z=> ?_) (fun b z=> ?_) (fun z=>absurd (if_neg naP) z) (fun u z=> ?_)
  ·by_cases hb:b=PL
   ·have z':=(if_pos hb).symm.trans z;cases z';subst hb;exact hP
   ·have z':=(if_neg hb).symm.trans z;cases z'
  ·by_cases hb:b=PL
   ·exact .inr hb
   ·exact absurd (if_neg hb) z
  ·have z':=(if_neg naP).symm.trans z;cases z'
 | none =>
  have eP:(if PL=a then some (HO.frz { cls:= .type "list",data:= .seq vs.toArray } (.lst (ns.map V.int))) else if PL=PL then some (.tbl #[]) else none)=some (.tbl #[]):=by rw[if_neg (Ne.symm naP),if_pos rfl]
  refine core (fun b=>if b=a then some (.frz { cls:= .type "list",data:= .seq vs.toArray } (.lst (ns.map V.int))) else if b=PL then some (.tbl #[]) else none) eP (.inl (.inr ⟨{ cls:= .type "list",data:= .seq vs.toArray },if_pos rfl⟩)) (fun b u z=> ?_) (fun b z=> ?_) (fun _=>hk) (fun u z=> ?_)
  ·by_cases hb:b=a
   ·have z':=(if_pos hb).symm.trans z;cases z';subst hb;exact⟨ha,by rw[List.length_map];exact hl,vs,_,rv,ha⟩
   ·have z1:=(if_neg hb).symm.trans z
    by_cases hb2:b=PL
    ·have z':=(if_pos hb2).symm.trans z1;cases z';subst hb2;exact hP
    ·have z':=(if_neg hb2).symm.trans z1;cases z'
  ·by_cases hb:b=a
   ·exact .inl hb
   ·by_cases hb2:b=PL
    ·exact .inr hb2
    ·exact absurd ((if_neg hb).trans (if_neg hb2)) z
  ·have z':=(if_pos rfl).symm.trans z;cases z';exact⟨_,_,rfl⟩
section
variable {X:Cx}{o:Expr}{to:TE}{ap pos:Pos}
theorem IN:∀{xs:List V}{us:List Value},xs.length=us.length->(∀(i:Nat) x u,xs[i]? =some x->us[i]? =some u->RelV x u)->Vals xs us
 | [],[],_,_=> .nil
 | [],_::_,h,_=>by simp at h
 | _::_,[],h,_=>by simp at h
 | x::xs,u::us,h,k=> .cons (k 0 x u rfl rfl) (IN (by simpa using h) fun i y w e1 e2=>k (i+1) y w (by simpa using e1) (by simpa using e2))
end
structure DcD (P:Program)(w:World)(K:PySem.W.Frag)(mg:Str->Option Value)(base:Heap)(x m:Str)(k:Nat)(dvs:List V)(sp:Sp):Prop where
 ex:∃C f fd ps ds,mg x=some (.ref C)/\PySem.W.specialIn K (.ref C) "__getattribute__" =some (some (.builtin "type.__getattribute__"))/\PySem.W.readsIn K C (.type "type")=true/\PySem.W.findCls K (.ref C) (.type "type") m=some (.val (.ref f)) ∧
  PySem.W.keepIn K (.ref f)=true/\Vals dvs ds/\Binds K fd ps ds/\FnOk P w K mg base CX0 k f fd ps sp
section
variable {X:Cx}{k k':Nat}{sp:Sp}{x m:Str}{p pos apos:Pos}{e:Expr}{es:List Expr}{t:TA}{dvs:List V}
theorem IS {pl:Sem Bool}(F:DcD X.prog X.w X.K X.mg X.base x m k dvs sp)(hr:Room k' X.A)(ha:PA X (e::es) t)(hk:k<=k':=by decide)(hg:Gl X x:=by rfl)(hdb:(x==("__debug__" :Str))=false:=by decide)
  (hst:starEach (e::es) X.env=(false,eval e X.env)::starEach es X.env:=by rfl)(hpl:(backTo pos (starEach es X.env)).any (·.1)=false:=by rfl)
  (ht:eval (.Call (.Attribute (.Name x p) m apos) (e::es) [] pos) X.env=(do
   let ov ←eval (.Name x p) X.env
   standAt apos.atName
   let (f,first) ←holding [ov] (getMethod ov m pl)
   callWith pos f first (backTo pos (starEach (e::es) X.env)) (backToKw pos (keywordEach [] X.env))):=by rfl) :
  PE X (.Call (.Attribute (.Name x p) m apos) (e::es) [] pos) (t8 sp dvs E0 t):=by
 intro pins s σ H Q I h;obtain⟨C,f,fd,ps,ds,hm,hga,hrd,hfc,kp,hd,hb,G⟩:=F.ex;refine PySem.W.methodCall_KW (pl:=pl) (sY I hg hm ?_ hdb) ht;refine PySem.W.method_cls I.kIn hga (PySem.W.cls_value I.kIn hrd hfc (wA (v:= .ref f) rfl) ?_);have I1:=I.tok (s.toks+1);refine PySem.W.callWith_K (first:=[]) (h₀:=X.base) I.ok.mod.kin kp (thn (ha pos pins _ σ H _ I1 h) fun us s2 ⟨vs,H2,I2,r,q2⟩=>⟨I2.kIn,?_⟩) hst hpl;exact tM G (hr.mono hk) hb hd uX I2 r q2
theorem y6 {E:XK}{σ:St}{H:Hp}{Q:VK} (h:t σ H fun vs H1=>sp (vs++dvs) H1 Q E):t8 sp dvs E t σ H Q:=h
end
end L2
namespace L2
open PySem PySem.Spec PyProof.Rows
def aCx (H:Hp)(c:Addr)(v:V):Prop:=∃o u,H c=some (kn o)/\o.data= .cell (some u)/\RelV v u
def off (H:Hp)(c:Addr):Hp:=fun b=>if b=c then none else H b
theorem ID {H:Hp}{c:Addr}:off H c c=none:=by unfold off;rw[if_pos rfl]
theorem iZ {H:Hp}{c b:Addr} (h:b≠c):off H c b=H b:=by unfold off;rw[if_neg h]
theorem R5 {H:Hp}{c b:Addr}{u:HO} (h:off H c b=some u):b≠c/\H b=some u:=by
 by_cases hb:b=c
 ·subst hb;rw[ID]at h;cases h
 ·rw[iZ hb]at h;exact⟨hb,h⟩
theorem R1 {H:Hp}{c:Addr}{u:HO} (h:H c=some u):upd (off H c) c u=H:=by
 funext b
 by_cases hb:b=c
 ·subst hb;rw[aZ,h]
 ·rw[aK hb,iZ hb]
section
variable {P:Program}{w:World}
theorem WX {H:Hp}{h:Heap}{c:Addr}{o:Obj} (x:HOk P w H h) (e:H c=some (kn o)):HOk P w (off H c) h:=fun b u q=>by
 obtain⟨hb,q'⟩:=R5 q;refine(x b u q').stay (fun _ _ _ z=>z) (fun d z=> ?_) fun d xs z=> ?_
 ·rw[iZ (by rintro rfl;rw[e]at z;cases z)];exact z
 ·rw[iZ (by rintro rfl;rw[e]at z;cases z)];exact z
theorem aBy {H:Hp}{h:Heap}{c:Addr}{o:Obj} (x:HOk P w H h) (n:H c=none) (g:h.get? c=some o):HOk P w (upd H c (kn o)) h:=fun b u q=>by
 by_cases hb:b=c
 ·subst hb;rw[aZ]at q;cases q;exact F7 g
 ·rw[aK hb]at q;exact(x b u q).stay (fun _ _ _ z=>z) (fun d z=>by rw[aK (bH z n)];exact z) fun d xs z=>by rw[aK (bH z n)];exact z
theorem aA1 {fs:List Addr}{H H':Hp}{h h':Heap}{c:Addr}{o:Obj} (e:H c=some (kn o)) (g:h.get? c=some o) (hf:c∉fs) (x:Un fs [] (off H c) H' h h'):Un fs [] H (upd H' c (kn o)) h h' where
 keep:=fun b ob q n hb hx=>x.keep b ob q (by rw[iZ (by rintro rfl;rw[e]at n;cases n)];exact n) hb hx
 slot:=fun b ob q n hb hx=>x.slot b ob q (by rw[iZ (by rintro rfl;rw[e]at n;cases n)];exact n) hb hx
 free:=fun b ob q n hx=>by
  have hb:b≠c:=by rintro rfl;rw[e]at n;cases n
  rw[aK hb];exact x.free b ob q (by rw[iZ hb];exact n) hx
 there:=x.there
 tups:=fun b xs q=>by
  have hb:b≠c:=by rintro rfl;rw[e]at q;cases q
  rw[aK hb];exact x.tups b xs (by rw[iZ hb];exact q)
 frzs:=fun b ob u q=>by
  by_cases hb:b=c
  ·subst hb;rw[e]at q;cases q;exact aZ
  ·rw[aK hb];exact x.frzs b ob u (by rw[iZ hb];exact q)
 tbls:=fun b ps q=>by
  have hb:b≠c:=by rintro rfl;rw[e]at q;cases q
  obtain⟨m,z⟩:=x.tbls b ps (by rw[iZ hb];exact q);exact⟨m,by rw[aK hb];exact z⟩
end
section
variable {P:Program}{w:World}{K:PySem.W.Frag}{mg:Str->Option Value}{base:Heap}
end
def SPr (X:Cx)(pins:List (Addr×Obj))(D:d4)(R:St->V->Hp->Prop)(f:Flow)(s':Shared):Prop :=
 match f with
 | .ret u=>∃v σ' H',Inv X pins σ' H' s'/\RelV v u/\(D.rt v H'∨R σ' v H')
 | f=>SP X pins D f s'
def PRs (X:Cx)(st:List Stmt)(t:d4->(St->V->Hp->Prop)->St->Hp->Prop):Prop :=
 ∀(pins:List (Addr×Obj)) (s:Shared) (σ:St) (H:Hp) (D:d4) (R:St->V->Hp->Prop),Inv X pins σ H s->t D R σ H->wpAny (model X.prog X.w) X.A (execs st X.env) (SPr X pins D R) X.xe s
section
variable {X:Cx}{st:Stmt}{rest:List Stmt}{t:TS}{u:d4->(St->V->Hp->Prop)->St->Hp->Prop}{e:Expr}{te:TE}{pos:Pos}
theorem SP.r {pins:List (Addr×Obj)}{D:d4}{R:St->V->Hp->Prop}{f:Flow}{s':Shared} (h:SP X pins D f s'):SPr X pins D R f s':=by
 cases f with
 | ret u=>obtain⟨v,σ',H',I,r,q⟩:=h;exact⟨v,σ',H',I,r,.inl q⟩
 | next=>exact h
 | brk=>exact h
 | cont=>exact h
def VS (t:TS)(u:d4->(St->V->Hp->Prop)->St->Hp->Prop):d4->(St->V->Hp->Prop)->St->Hp->Prop:=fun D R=>t { D with nx:=u D R }
def VR (te:TE):d4->(St->V->Hp->Prop)->St->Hp->Prop:=fun _ R σ H=>te σ H (R σ)
theorem YF {nx bk ct:St->Hp->Prop}{rt:VK}{R:St->V->Hp->Prop}{σ:St}{H:Hp} (h:t ⟨u ⟨nx,rt,bk,ct⟩ R,rt,bk,ct⟩ σ H):VS t u ⟨nx,rt,bk,ct⟩ R σ H:=h
theorem YN {D:d4}{R:St->V->Hp->Prop}{σ:St}{H:Hp} (h:te σ H (R σ)):VR te D R σ H:=h
theorem yS (h1:PS X st t)(h2:PRs X rest u):PRs X (st::rest) (VS t u):=by
 intro pins s σ H D R I h;refine wpAny_execs_cons (thn (h1 pins s σ H { D with nx:=u D R } I h) fun f s1 q=> ?_);cases f with
 | next =>
  obtain⟨σ',H',I',q⟩:=q;exact h2 pins s1 σ' H' D R I' q
 | ret v=>obtain⟨v,σ',H',I,r,q⟩:=q;exact⟨v,σ',H',I,r,.inl q⟩
 | brk=>exact q
 | cont=>exact q
theorem W7 (he:PE X e te):PRs X [.Return (some e) pos] (VR te):=by
 intro pins s σ H D R I h;refine wpAny_execs_cons ?_;exact wpAny_Return_some (thn (he pins s σ H _ I h) fun v s1 ⟨x,H1,I1,r1,q1⟩=>⟨x,σ,H1,I1,r1,.inr q1⟩)
end
theorem aCg {fs:List Addr}{H H':Hp}{h h':Heap}{c:Addr}{u:HO} (n:H' c=none) (hc:h.objs.size<=c) (x:Un fs [] H H' h h'):Un fs [] H (upd H' c u) h h' where
 keep:=x.keep
 slot:=x.slot
 free:=fun b ob q n' hx=>by
  rw[aK (Nat.ne_of_lt (Nat.lt_of_lt_of_le (Heap.lt_size q) hc))];exact x.free b ob q n' hx
 there:=x.there
 tups:=fun b xs q=>by rw[aK (bH (x.tups b xs q) n)];exact x.tups b xs q
 frzs:=fun b ob u' q=>by rw[aK (bH (x.frzs b ob u' q) n)];exact x.frzs b ob u' q
 tbls:=fun b ps q=>by
  obtain⟨m,z⟩:=x.tbls b ps q;exact⟨m,by rw[aK (bH z n)];exact z⟩
section
variable {P:Program}{w:World}{K:PySem.W.Frag}{mg:Str->Option Value}{base:Heap}
end
section
open PySem.W
variable {X:Cx}{i j:Nat}{n x y:Str}{T:Addr}{np yp hpos pos epos:Pos}{e:Expr}{tc:XK->TE}{b₀:Stmt}{suite:List Stmt}{ts:TS}
end
end L2
namespace L2
open PySem PySem.Spec PyProof.Rows
theorem PX {t:d4->(St->V->Hp->Prop)->St->Hp->Prop}{D:d4}{R:St->V->Hp->Prop}{N:List Str}{vs:List V}{σ:St}{H:Hp} (e:iQ N vs=σ) (h:t D R σ H):t D R (iQ N vs) H:=e▸h
theorem walk_ofT2 {l:PySem.W.OpenLaw}{n k:Nat}{q:Program}{loose:List Str}{XP:(Str->Option Value)->Heap->Prop}{YP:World->Heap->Prop}{d d2:DefRec}{K:Params->PySem.W.Frag}{CX:World->CXT}{sp:World->Addr->Sp}{x:Str}
  (hn:l.most=some n)(hn2:n<=sizeLine)(hdf:d.params.defaults=[])(hr:Room k callerA)(hrec:d2∈recsOf q)(hnt:∀w:World,PySem.W.noTabs (K w.params)=true)
  (hY:∀(w:World) (h:Heap),YP w h->(K w.params).In h)
  (F:∀(w:World) (mg:Str->Option Value) (fa:Addr) (h:Heap),(K w.params).In h->h.Ns mainGlobals mg->mg d.name=some (.ref fa) →
   ∃(fd:FuncData) (f2:Addr) (fd2:FuncData),mg d2.name=some (.ref f2)/\(∃oc od osl,(K w.params).lookup f2=some ⟨oc,od,.func fd2,osl⟩)/\(∀(s:Shared) (u:Value),BindsTo s fd ⟨[u],[]⟩ [(x,u)]) ∧
    ∀(base:Heap) (cL PL:Addr),fd2.code= .ref cL->PySem.W.CodeHd base cL PL->base.BuiltinsAt mg PL->FnOk l.prog w (K w.params) mg base (CX w) k fa fd [x] (sp w PL))
  (hsp:∀(w:World) (PL:Addr) (H:Hp) (a:Addr) (ns:List Int),ns.length<=n->SqL (K w.params) H a (ns.map V.int)->H PL=some (.tbl #[])->sp w PL [.ref a] H (fun v _=>v= .bl true) fun _ _ _=>False)
  (hCX:∀(w:World) (H:Hp) (s:Shared) (e:Value) (s':Shared),CX w [] H s (fun _ _ _=>False) e s'->False) :
  PySem.W.WalkO q loose XP YP l.row.toRowW d [] (fun f vs=>PySem.call f vs):=by
 refine Att.attach_call hn hdf fun w s₀ s₁ mg mb fa o pm cd doc a vs ns G Y ho hd hcd hmg hobj hints hlen hg=> ?_;have KX:=hY w _ Y;obtain⟨fd,f2,fd2,hm2,⟨oc,od,osl,lk⟩,hb,hF⟩:=F w mg fa _ KX G.T.g hmg;obtain⟨a',o',fd',c,PL,h1,h2,h3,h4,h5,h6⟩:=G.T.tab d2 hrec;rw[hm2]at h1;cases h1;have e1:=KX _ _ lk;rw[h2]at e1;cases e1;have h3':fd2=fd':=by injection h3
 subst h3';have C:=PySem.W.CodeHd.of h5 h6;have hKP:(K w.params).lookup PL=none:=by
  cases q:(K w.params).lookup PL with
  | none=>rfl
  | some o2 =>
   have e2:=KX _ _ q;rw[h6.2]at e2;cases e2;have z:=List.all_eq_true.mp (hnt w) (PL,_) (PySem.W.mem_of_lookupK q);exact absurd (show false=true from z) Bool.false_ne_true
 exact QH KX G.T.g G.T.b G.T.builtins G.T.nolimit hg C h6.2 hKP G.T.bmain hobj hints (Nat.le_trans hlen hn2) hr (fun base hc hB=>hF base c PL h4 hc hB) hb (fun H hS hP=>hsp w PL H a ns hlen hS hP) fun H e s'=>hCX w H s₁ e s'
end L2
namespace L2
open PySem PySem.Spec PyProof.Rows
section
variable {X:Cx}
end
end L2
namespace L2
open PySem PySem.Spec PyProof.Rows
section
variable {κ:Type}[DecidableEq κ]
def bM (kvs:List (κ×V))(k:κ):Option V:=(kvs.find? fun kv=>decide (kv.1=k)).map (·.2)
def c5 (kvs:List (κ×V))(k:κ)(v:V):List (κ×V) :=
 if (kvs.any fun kv=>decide (kv.1=k))=true then kvs.map (fun kv=>if kv.1=k then (kv.1,v) else kv) else kvs++[(k,v)]
theorem dO {p:κ×V}{r:List (κ×V)}{k:κ} (e:p.1=k):bM (p::r) k=some p.2:=by simp[bM,List.find?_cons,e]
theorem cR {p:κ×V}{r:List (κ×V)}{k:κ} (e:¬p.1=k):bM (p::r) k=bM r k:=by simp[bM,List.find?_cons,e]
theorem mU (k:κ):∀kvs:List (κ×V),(kvs.any fun kv=>decide (kv.1=k))=(bM kvs k).isSome
 | []=>rfl
 | p::r=>by
  rw[List.any_cons]
  by_cases e:p.1=k
  ·simp only[dO e,decide_eq_true e,Bool.true_or,Option.isSome_some]
  ·rw[cR e,decide_eq_false e,Bool.false_or];exact mU k r
theorem IB (k j:κ)(y:V):∀kvs:List (κ×V),bM (kvs.map fun kv=>if kv.1=k then (kv.1,y) else kv) j=(bM kvs j).map fun x=>if j=k then y else x
 | []=>rfl
 | p::r=>by
  have ih:=IB k j y r;rw[List.map_cons]
  by_cases h:p.1=k
  ·rw[if_pos h]
   by_cases e:p.1=j
   ·rw[dO (p:=(p.1,y)) e,dO e,Option.map_some,if_pos (e.symm.trans h)]
   ·rw[cR (p:=(p.1,y)) e,cR e,ih]
  ·rw[if_neg h]
   by_cases e:p.1=j
   ·rw[dO (p:=p) e,dO e,Option.map_some,if_neg (fun z=>h (e.trans z))]
   ·rw[cR (p:=p) e,cR e,ih]
theorem D1 (k j:κ)(y:V):∀kvs:List (κ×V),bM kvs k=none->bM (kvs++[(k,y)]) j=if j=k then some y else bM kvs j
 | [],_=>by
  by_cases e:k=j
  ·rw[if_pos e.symm];exact dO (p:=(k,y)) e
  ·rw[if_neg (fun z=>e z.symm)];exact cR (p:=(k,y)) e
 | p::r,hn=>by
  rw[List.cons_append];have hk:¬p.1=k:=fun z=>by rw[dO z]at hn;cases hn
  rw[cR hk]at hn;have ih:=D1 k j y r hn
  by_cases e:p.1=j
  ·rw[dO e,dO e,if_neg (fun z=>hk (e.trans z))]
  ·rw[cR e,cR e,ih]
theorem yM (kvs:List (κ×V))(k j:κ)(y:V):bM (c5 kvs k y) j=if j=k then some y else bM kvs j:=by
 unfold c5
 by_cases a:(kvs.any fun kv=>decide (kv.1=k))=true
 ·rw[if_pos a,IB];rw[mU]at a
  by_cases e:j=k
  ·obtain⟨x,hx⟩:=Option.isSome_iff_exists.mp a;rw[if_pos e,e,hx,Option.map_some,if_pos rfl]
  ·rw[if_neg e];cases bM kvs j with
   | none=>rfl
   | some x=>rw[Option.map_some,if_neg e]
 ·rw[if_neg a];refine D1 k j y kvs ?_;rw[mU]at a;cases q:bM kvs k with
  | none=>rfl
  | some x=>rw[q]at a;exact(a rfl).elim
theorem nR (kvs:List (κ×V))(k:κ)(v:V):(c5 kvs k v).length<=kvs.length+1:=by
 unfold c5
 split
 ·rw[List.length_map];lia
 ·rw[List.length_append,List.length_cons,List.length_nil];lia
theorem qJ {kvs:List (κ×V)}{k:κ} (v:V) (h:bM kvs k=none):c5 kvs k v=kvs++[(k,v)]:=by
 unfold c5;rw[mU,h];exact if_neg (by decide)
theorem RelO.isSome_eq {o:Option V}{u:Option Value} (r:RelO o u):o.isSome=u.isSome:=by
 cases o with
 | none=>cases u with
  | none=>rfl
  | some _=>exact(show False from r).elim
 | some _=>cases u with
  | none=>exact(show False from r).elim
  | some _=>rfl
theorem RelO.getD {o:Option V}{u:Option Value}{d:V}{d':Value} (r:RelO o u) (rd:RelV d d'):RelV (o.getD d) (u.getD d'):=by
 cases o with
 | none=>cases u with
  | none=>exact rd
  | some _=>exact(show False from r).elim
 | some _=>cases u with
  | none=>exact(show False from r).elim
  | some _=>exact r
theorem KV.val {kvs:List (κ×V)}{vs:List (κ×Value)} (r:KV kvs vs) (k:κ):RelO (bM kvs k) (valueAt vs k):=by
 unfold KV at r
 induction r with
 | nil=>exact True.intro
 | @cons p q ps qs h t ih =>
  obtain⟨h1,h2⟩:=h
  by_cases e:p.1=k
  ·have e':q.1=k:=h1.symm.trans e;have b:valueAt (q::qs) k=some q.2:=by simp[valueAt,List.find?_cons,e']
   rw[dO e,b];exact h2
  ·have e':¬q.1=k:=fun z=>e (h1.trans z);have b:valueAt (q::qs) k=valueAt qs k:=by simp[valueAt,List.find?_cons,e']
   rw[cR e,b];exact ih
theorem KV.any {kvs:List (κ×V)}{vs:List (κ×Value)} (r:KV kvs vs) (k:κ):(kvs.any fun kv=>decide (kv.1=k))=vs.any fun kv=>decide (kv.1=k):=by
 unfold KV at r
 induction r with
 | nil=>rfl
 | cons h t ih=>rw[List.any_cons,List.any_cons,ih,h.1]
theorem KV.repl {kvs:List (κ×V)}{vs:List (κ×Value)} (r:KV kvs vs) (k:κ) {y:V}{u:Value} (ry:RelV y u) :
  KV (kvs.map fun kv=>if kv.1=k then (kv.1,y) else kv) (vs.map fun kv=>if kv.1=k then (kv.1,u) else kv):=by
 unfold KV at r ⊢
 induction r with
 | nil=>exact .nil
 | @cons p q ps qs h t ih =>
  rw[List.map_cons,List.map_cons];refine .cons ?_ ih;obtain⟨h1,h2⟩:=h
  by_cases e:p.1=k
  ·rw[if_pos e,if_pos (h1.symm.trans e)];exact⟨h1,ry⟩
  ·rw[if_neg e,if_neg (fun z=>e (h1.trans z))];exact⟨h1,h2⟩
theorem KV.put {kvs:List (κ×V)}{vs:List (κ×Value)} (r:KV kvs vs) (k:κ) {y:V}{u:Value} (ry:RelV y u):KV (c5 kvs k y) (stored vs k u):=by
 unfold c5 stored;rw[r.any k]
 by_cases e:(vs.any fun kv=>decide (kv.1=k))=true
 ·rw[if_pos e,if_pos e];exact r.repl k ry
 ·rw[if_neg e,if_neg e];exact Paired.snoc r ⟨rfl,ry⟩
theorem KV.length {kvs:List (κ×V)}{vs:List (κ×Value)} (r:KV kvs vs):kvs.length=vs.length:=Paired.length r
end
theorem u4 {P:Program}{w:World}{k:Key}{u:Value} (r:RelV (kV k) u):(bZ P w).is k u=true:=by
 cases k with
 | inl i=>obtain⟨t,e⟩:=(show ∃t,u=Value.int i t from r);subst e;exact KG P w i t
 | inr x=>obtain⟨t,e⟩:=(show ∃t,u=Value.str x t from r);subst e;exact KR P w x t
theorem D7 {P:Program}{w:World}:∀{ks:List Key}{us:List Value},Vals (ks.map kV) us->ItemsAre (bZ P w) ks us
 | [],_,r=>by rw[List.map_nil]at r;cases r;exact .nil
 | k::ks,_,r=>by
  rw[List.map_cons]at r;cases r with
  | cons h t=>exact .cons (u4 h) (D7 t)
abbrev KT (H:Hp):List (List Key×V)->List (List Key×Addr×Value)->Prop:=Paired fun p q=>p.1=q.1/\H q.2.1=some (.tup (p.1.map kV))/\RelV p.2 q.2.2
theorem KT.val {H:Hp}{kvs:List (List Key×V)}{xs:List (List Key×Addr×Value)} (r:KT H kvs xs) (k:List Key):RelO (bM kvs k) ((atKey xs k).map (·.2)):=by
 induction r with
 | nil=>exact True.intro
 | @cons p q ps qs h t ih =>
  obtain⟨h1,_,h2⟩:=h
  by_cases e:p.1=k
  ·have e':q.1=k:=h1.symm.trans e;have b:atKey (q::qs) k=some q.2:=by simp[atKey,List.find?_cons,e']
   rw[dO e,b];exact h2
  ·have e':¬q.1=k:=fun z=>e (h1.trans z);have b:atKey (q::qs) k=atKey qs k:=by simp[atKey,List.find?_cons,e']
   rw[cR e,b];exact ih
theorem KT.repl {H:Hp}{kvs:List (List Key×V)}{xs:List (List Key×Addr×Value)} (r:KT H kvs xs) (k:List Key) {y:V}{u:Value} (ry:RelV y u) :
  KT H (kvs.map fun kv=>if kv.1=k then (kv.1,y) else kv) (xs.map (putAt k u)):=by
 induction r with
 | nil=>exact .nil
 | @cons p q ps qs h t ih =>
  rw[List.map_cons,List.map_cons];refine .cons ?_ ih;obtain⟨h1,h2,h3⟩:=h;unfold putAt
  by_cases e:p.1=k
  ·rw[if_pos e,if_pos (h1.symm.trans e)];exact⟨h1,h2,ry⟩
  ·rw[if_neg e,if_neg (fun z=>e (h1.trans z))];exact⟨h1,h2,h3⟩
theorem KT.put {H:Hp}{kvs:List (List Key×V)}{xs:List (List Key×Addr×Value)} (r:KT H kvs xs) (k:List Key) {b:Addr}{y:V}{u:Value} (hb:H b=some (.tup (k.map kV))) (ry:RelV y u) :
  KT H (c5 kvs k y) (storedH xs k b u):=by
 have e:(kvs.any fun kv=>decide (kv.1=k))=(atKey xs k).isSome:=by
  rw[mU,(r.val k).isSome_eq,Option.isSome_map]
 unfold c5 storedH;rw[e]
 by_cases q:(atKey xs k).isSome=true
 ·rw[if_pos q,if_pos q];exact r.repl k ry
 ·rw[if_neg q,if_neg q];exact Paired.snoc r ⟨rfl,hb,ry⟩
theorem KT.keeps {H H':Hp}{kvs:List (List Key×V)}{xs:List (List Key×Addr×Value)} (r:KT H kvs xs) (ht:∀b ys,H b=some (.tup ys)->H' b=some (.tup ys)):KT H' kvs xs :=
 Paired.mapP r fun _ _ z=>⟨z.1,ht _ _ z.2.1,z.2.2⟩
section
variable {P:Program}{w:World}{H:Hp}{h:Heap}{a:Addr}
theorem VI {u:HO}(ok:HOk P w H h)(e:Rd H a u):ObjOk P w H h a u:=e.ok ok
theorem nU {kvs:List (Key×V)}(ok:HOk P w H h)(e:Rd H a (.dK kvs)):kvs.length<=sizeLine/\(a==sysModules)=false/\∃vs,KV kvs vs/\h.DictOf (bZ P w) a vs :=
 show ObjOk P w H h a (.dK kvs) from VI ok e
theorem V0 {kvs:List (Key×V)}(ok:HOk P w H h)(e:H a=some (.dK kvs)):kvs.length<=sizeLine/\(a==sysModules)=false/\∃vs,KV kvs vs/\h.DictOf (bZ P w) a vs:=nU ok (.inl e)
theorem sZ {ks:List Key}(ok:HOk P w H h)(e:H a=some (.tup (ks.map kV))):(tupleKind (bZ P w)).is h ks a:=by
 obtain⟨_,its,r,o,h1,h2,n,h3⟩:=(show ObjOk P w H h a (.tup (ks.map kV)) from ok a _ e)
 exact⟨o,its.toArray,n,h1,h2,h3,by simpa using D7 r⟩
theorem uF {kvs:List (List Key×V)}(ok:HOk P w H h)(e:Rd H a (.dT kvs)):kvs.length<=sizeLine/\(a==sysModules)=false ∧
  ∃xs,KT H kvs xs/\h.DictOfH (tupleKind (bZ P w)) a xs:=by
 obtain⟨z,y,xs,r,o,es,ep,h1,h2,h3,h4,h5⟩:=(show ObjOk P w H h a (.dT kvs) from VI ok e)
 refine⟨z,y,xs,r,o,es,ep,h1,h2,h3,h4,fun x hx=> ?_,h5⟩;have all:∀{l:List (List Key×V)}{m:List (List Key×Addr×Value)},KT H l m->∀x∈m,(tupleKind (bZ P w)).is h x.1 x.2.1:=by
  intro l m q
  induction q with
  | nil=>intro x hx;exact nomatch hx
  | @cons p q ps qs hq t ih =>
   intro x hx;rcases List.mem_cons.mp hx with e|hx
   ·subst e;exact sZ ok (by rw[←hq.1];exact hq.2.1)
   ·exact ih x hx
 exact all r x hx
theorem aB2 {kvs:List (List Key×V)}(ok:HOk P w H h)(e:H a=some (.dT kvs)):kvs.length<=sizeLine/\(a==sysModules)=false ∧
  ∃xs,KT H kvs xs/\h.DictOfH (tupleKind (bZ P w)) a xs:=uF ok (.inl e)
end
def DGet (H:Hp)(a:Addr)(y:V)(r:Option V):Prop :=
 (∃kvs k,Rd H a (.dK kvs)/\y=kV k/\r=bM kvs k)∨∃kvs k b,Rd H a (.dT kvs)/\y= .ref b/\H b=some (.tup (k.map kV))/\r=bM kvs k
def DPut (H:Hp)(a:Addr)(y v:V)(H':Hp):Prop :=
 (∃kvs k,H a=some (.dK kvs)/\y=kV k/\kvs.length<sizeLine/\H'=upd H a (.dK (c5 kvs k v))) ∨
 ∃kvs k b,H a=some (.dT kvs)/\y= .ref b/\H b=some (.tup (k.map kV))/\kvs.length<sizeLine/\H'=upd H a (.dT (c5 kvs k v))
theorem DGet.t {H:Hp}{a b:Addr}{kvs:List (List Key×V)}{k:List Key} (e:H a=some (.dT kvs)) (eb:H b=some (.tup (k.map kV))):DGet H a (.ref b) (bM kvs k):= .inr ⟨kvs,k,b,.inl e,rfl,eb,rfl⟩
theorem DPut.k {H:Hp}{a:Addr}{kvs:List (Key×V)}{k:Key}{v:V} (e:H a=some (.dK kvs)) (hl:kvs.length<sizeLine):DPut H a (kV k) v (upd H a (.dK (c5 kvs k v))):= .inl ⟨kvs,k,e,rfl,hl,rfl⟩
theorem DPut.t {H:Hp}{a b:Addr}{kvs:List (List Key×V)}{k:List Key}{v:V} (e:H a=some (.dT kvs)) (eb:H b=some (.tup (k.map kV))) (hl:kvs.length<sizeLine) :
  DPut H a (.ref b) v (upd H a (.dT (c5 kvs k v))):= .inr ⟨kvs,k,b,e,rfl,eb,hl,rfl⟩
section
variable {X:Cx}{pins:List (Addr×Obj)}{σ:St}{H:Hp}{s:Shared}{a:Addr}{y v:V}{u r:Value}{o:Option V}{A:Around}{E:Value->Shared->Prop}
theorem Inv.big (I:Inv X pins σ H s):sysModules<s.heap.objs.size:=by
 have h:mainGlobals<s.heap.objs.size:=(I.mod.glob.keeps I.bk).lt;exact Nat.lt_trans (by decide) h
theorem D4 {Q:Value->Shared->Prop}(hu:A.units+1<cLine)(I:Inv X pins σ H s)(g:DGet H a y (some v))(ry:RelV y u)(h:∀w' s',Inv X pins σ H s'->RelV v w'->Q w' s') :
  wpAny (model X.prog X.w) A (getItem (.ref a) u) Q E s:=by
 rcases g with⟨kvs,k,e,ey,l⟩|⟨kvs,k,b,e,ey,eb,l⟩
 ·subst ey;obtain⟨z,hd,vs,rel,dd⟩:=nU I.hok e;obtain⟨w',hw,rw'⟩:=RelO.some_of (v:=v) (o:=valueAt vs k) (by rw[l];exact rel.val k);exact wpAny_getItem_of (u4 ry) dd.mapOf hw (h w' _ (I.tok _) rw')
 ·subst ey;cases (show u=Value.ref b from ry);obtain⟨z,hd,xs,rel,dd⟩:=uF I.hok e;obtain⟨w',hw,rw'⟩:=RelO.some_of (v:=v) (o:=(atKey xs k).map (·.2)) (by rw[l];exact rel.val k);obtain⟨p,hp,hp2⟩:=Option.map_eq_some_iff.mp hw;refine wpAny_getItem_heap (tupleKind_room_in1 hu) (sZ I.hok eb) dd hp ?_;rw[hp2];exact h w' _ (I.tok _) rw'
theorem aCV {Q:Value->Shared->Prop}(hu:A.units+1<cLine)(I:Inv X pins σ H s)(g:DGet H a y o)(ry:RelV y u)(h:∀s',Inv X pins σ H s'->Q (.bool o.isSome) s') :
  wpAny (model X.prog X.w) A (compareOp .In u (.ref a)) Q E s:=by
 rcases g with⟨kvs,k,e,ey,l⟩|⟨kvs,k,b,e,ey,eb,l⟩
 ·subst ey;obtain⟨z,hd,vs,rel,dd⟩:=nU I.hok e;refine wpAny_in_of (u4 ry) hd dd.mapOf ?_;rw[←(rel.val k).isSome_eq,←l];exact h _ (I.tok _)
 ·subst ey;cases (show u=Value.ref b from ry);obtain⟨z,hd,xs,rel,dd⟩:=uF I.hok e;refine wpAny_in_heap (tupleKind_room_in1 hu) (sZ I.hok eb) hd dd ?_;have q:=(rel.val k).isSome_eq;rw[Option.isSome_map]at q;rw[←q,←l];exact h _ (I.tok _)
theorem W2 {Q:Value->Shared->Prop}(hu:A.units+1<cLine)(I:Inv X pins σ H s)(g:DGet H a y o)(ry:RelV y u)(h:∀s',Inv X pins σ H s'->Q (.bool (!o.isSome)) s') :
  wpAny (model X.prog X.w) A (compareOp .NotIn u (.ref a)) Q E s:=by
 rcases g with⟨kvs,k,e,ey,l⟩|⟨kvs,k,b,e,ey,eb,l⟩
 ·subst ey;obtain⟨z,hd,vs,rel,dd⟩:=nU I.hok e;refine wpAny_notIn_of (u4 ry) hd dd.mapOf ?_;rw[←(rel.val k).isSome_eq,←l];exact h _ (I.tok _)
 ·subst ey;cases (show u=Value.ref b from ry);obtain⟨z,hd,xs,rel,dd⟩:=uF I.hok e;refine wpAny_notIn_heap (tupleKind_room_in1 hu) (sZ I.hok eb) hd dd ?_;have q:=(rel.val k).isSome_eq;rw[Option.isSome_map]at q;rw[←q,←l];exact h _ (I.tok _)
theorem L8 {h':Heap}{t':Nat}{ob:HO} (I:Inv X pins σ H s) (mu:Mut (H a)) (hs:Heap.SameBut a s.heap h') (he:∃q,h'.get? a=some q) (new:ObjOk X.prog X.w (upd H a ob) h' a ob) :
  Inv X pins σ (upd H a ob) { s with heap:=h',toks:=t' } :=
 I.write (x:=a) (e:=a) mu (.inl rfl) (fun b q hb z=>(hs.2 b hb).trans z) he new
theorem P0 {P:Program}{w:World}{H':Hp}{h':Heap}{kvs:List (Key×V)}{vs:List (Key×Value)} (z:kvs.length<=sizeLine) (hd:(a==sysModules)=false) (rel:KV kvs vs) (dd:h'.DictOf (bZ P w) a vs) :
  ObjOk P w H' h' a (.dK kvs):=⟨z,hd,vs,rel,dd⟩
theorem DX {H':Hp}{Q:Unit->Shared->Prop} (hu:A.units+1<cLine) (I:Inv X pins σ H s) (g:DPut H a y v H') (ry:RelV y u) (rv:RelV v r) (h:∀s',Inv X pins σ H' s'->Q () s') :
  wpAny (model X.prog X.w) A (setItem (.ref a) u r) Q E s:=by
 rcases g with⟨kvs,k,e,ey,l,eH⟩|⟨kvs,k,b,e,ey,eb,l,eH⟩
 ·subst ey eH;obtain⟨z,hd,vs,rel,dd⟩:=V0 I.hok e;have hz:vs.length<=sizeLine:=by rw[←rel.length];exact z
  have hl:(c5 kvs k v).length<=sizeLine:=by have:=nR kvs k v;lia
  refine wpAny_setItem_pairs (hsz:=hz) (u4 ry) dd fun h' dd' hs=>h _ ?_;have he:∃q,h'.get? a=some q:=let ⟨q,_,_,hq,_⟩:=dd';⟨q,hq⟩;exact L8 I (by rw[e];exact True.intro) hs he (P0 hl hd (rel.put k rv) dd')
 ·subst ey eH;cases (show u=Value.ref b from ry);obtain⟨z,hd,xs,rel,dd⟩:=aB2 I.hok e;have hz:xs.length<=sizeLine:=by rw[←Paired.length rel];exact z
  have hl:(c5 kvs k v).length<=sizeLine:=by have:=nR kvs k v;lia
  refine wpAny_setItem_heap (hsz:=hz) (tupleKind_room_in1 hu) (sZ I.hok eb) dd fun h' dd' hs=>h _ ?_;obtain⟨q,es,ep,hq,h2,h3,h4,_,h5⟩:=dd';refine L8 I (by rw[e];exact True.intro) hs ⟨q,hq⟩ ⟨hl,hd,_,(rel.put k eb rv).keeps fun c ys ec=> ?_,q,es,ep,hq,h2,h3,h4,h5⟩;rw[aK (aCt ec e (fun z=>nomatch z))];exact ec
end
section
variable {X:Cx}{pins:List (Addr×Obj)}{σ:St}{H:Hp}{s:Shared}{a:Addr}{kvs:List (Key×V)}{k:Key}{u:Value}{A:Around}{E:Value->Shared->Prop}
end
def aBt (i:Expr):Prop:=∀ov iv,subscripted i false ov iv=operate [ov,iv] (getItem ov iv)
theorem W0 {prog:Program}{w:World}{A:Around}{E:Value->Shared->Prop}{s:Shared}{env:Env}{value slice:Expr}{pos:Pos}{T id:String}{Q:Value->Shared->Prop}
  (hl:typeLookup (.type T) "__getitem__" =pure (some (.builtin id)))(hs:aBt slice)
  (h:wpAny (model prog w) A (eval value env) (fun o s₁=>wpAny (model prog w) A (eval slice env) (fun i s₂=>s₂.TypeIs o T/\wpAny (model prog w) A (getItem o i) Q E s₂) E s₁) E s) :
  wpAny (model prog w) A (eval (.Subscript value slice pos) env) Q E s:=by
 refine Subscript_ (wpAny_mono h (fun o s₁ h₁=>wpAny_mono h₁ (fun i s₂ h₂=> ?_) fun _ _ x=>x) fun _ _ x=>x);obtain⟨hT,h₂⟩:=h₂;unfold subscriptTail;refine wpAny_bind ?_;rw[getitemInPython_of_ne hT.not_modules];refine wpAny_bind (wpAny_specialOf hT hl ?_);have fin:wpAny (model prog w) A (subscripted slice false o i) (fun r s₃=>wpAny (model prog w) A (letTemporaryGo value o r >>= fun _=>pure r) Q E s₃) E s₂:=by
  rw[hs o i];exact wpAny_operating (wpAny_mono h₂ (fun r s₃ h₃=>wpAny_bind (wpAny_letTemporaryGo (wpAny_pure h₃))) fun _ _ x=>x)
 first
  | exact wpAny_pure (wpAny_bind fin)
  | exact wpAny_bind (wpAny_pure (wpAny_bind fin))
  | exact wpAny_bind fin
theorem KB {X:Cx}{pins:List (Addr×Obj)}{σ:St}{H:Hp}{s:Shared}{a:Addr}{y:V}{o:Option V} (I:Inv X pins σ H s) (g:DGet H a y o):s.TypeIs (.ref a) "dict" :=by
 rcases g with⟨kvs,k,e,_,_⟩|⟨kvs,k,b,e,_,_,_⟩
 ·obtain⟨_,_,vs,_,dd⟩:=nU I.hok e;exact dd.typeIs
 ·obtain⟨_,_,xs,_,dd⟩:=uF I.hok e;exact dd.typeIs
def VN (td ty:TE):TE:=fun σ H Q=>td σ H fun x H1=>ty σ H1 fun y H2=>∃a v,x= .ref a/\DGet H2 a y (some v)/\Q v H2
def ZT (ty td:TE):TE:=fun σ H Q=>ty σ H fun y H1=>td σ H1 fun x H2=>∃a o,x= .ref a/\DGet H2 a y o/\Q (.bl o.isSome) H2
def LE (ty td:TE):TE:=fun σ H Q=>ty σ H fun y H1=>td σ H1 fun x H2=>∃a o,x= .ref a/\DGet H2 a y o/\Q (.bl (!o.isSome)) H2
def VV (td ty tv:TE):TS:=fun D σ H=>tv σ H fun v H1=>td σ H1 fun x H2=>ty σ H2 fun y H3=>∃a H4,x= .ref a/\DPut H3 a y v H4/\D.nx σ H4
def VD (td ty tv:TE)(rd:V->V->Hp->VK->Prop):TS:=fun D σ H=>td σ H fun x H1=>ty σ H1 fun y H2=>∃a v,x= .ref a/\DGet H2 a y (some v) ∧
 tv σ H2 fun y2 H3=>rd v y2 H3 fun z H4=>∃H5,DPut H4 a y z H5/\D.nx σ H5
section
variable {X:Cx}{o i e value:Expr}{pos pos' tpos:Pos}{td ty tv:TE}
theorem dF (hu:X.A.units+1<cLine)(ho:PE X o td)(hi:PE X i ty)(hs:aBt i):PE X (.Subscript o i pos) (VN td ty):=by
 intro pins s σ H Q I h;refine W0 PySem.F.slot_dict_getitem.lookup hs (thn (ho pins s σ H _ I h) fun u s1 ⟨x,H1,I1,rx,q1⟩=>thn (hi pins s1 σ H1 _ I1 q1) fun iv s2 ⟨y,H2,I2,ry,a,v,ex,g,q2⟩=> ?_);subst ex;obtain rfl:u=Value.ref a:=rx;exact⟨KB I2 g,D4 hu I2 g ry fun w' s3 I3 rw'=>⟨v,H2,I3,rw',q2⟩⟩
theorem aBd (hu:X.A.units+1<cLine)(hi:PE X i ty)(ho:PE X o td):PC X .In i o (ZT ty td):=by
 intro pins s σ H Q I h;refine thn (hi pins s σ H _ I h) fun iv s1 ⟨y,H1,I1,ry,q1⟩=>thn (ho pins s1 σ H1 _ I1 q1) fun u s2 ⟨x,H2,I2,rx,a,ov,ex,g,q2⟩=> ?_;subst ex;obtain rfl:u=Value.ref a:=rx;exact aCV hu I2 g ry fun s3 I3=>⟨.bl ov.isSome,H2,I3,rfl,q2⟩
theorem D6 (hu:X.A.units+1<cLine)(hi:PE X i ty)(ho:PE X o td):PC X .NotIn i o (LE ty td):=by
 intro pins s σ H Q I h;refine thn (hi pins s σ H _ I h) fun iv s1 ⟨y,H1,I1,ry,q1⟩=>thn (ho pins s1 σ H1 _ I1 q1) fun u s2 ⟨x,H2,I2,rx,a,ov,ex,g,q2⟩=> ?_;subst ex;obtain rfl:u=Value.ref a:=rx;exact W2 hu I2 g ry fun s3 I3=>⟨.bl (!ov.isSome),H2,I3,rfl,q2⟩
theorem hU (hu:X.A.units+1<cLine)(ho:PE X o td)(hi:PE X i ty)(hv:PE X value tv)(hs:swapsWith value (some (.Subscript o i pos')) pos.line X.env=pure false) :
  PS X (.Assign [.Subscript o i pos'] value pos) (VV td ty tv):=by
 intro pins s σ H D I h;refine wpAny_Assign_Subscript (thn (hv pins s σ H _ I h) fun r s1 ⟨v,H1,I1,rv,q1⟩=>thn (ho pins s1 σ H1 _ I1 q1) fun u s2 ⟨x,H2,I2,rx,q2⟩=>thn (hi pins s2 σ H2 _ I2 q2) fun iv s3 ⟨y,H3,I3,ry,a,H4,ex,g,q3⟩=> ?_) hs;subst ex;obtain rfl:u=Value.ref a:=rx;exact DX hu I3 g ry rv fun s4 I4=>⟨σ,H4,I4,q3⟩
theorem X0 {op:Operator}{rd:V->V->Hp->VK->Prop} (hu:X.A.units+1<cLine) (ho:PE X o td) (hi:PE X i ty) (hv:PE X value tv) (hop:Z7 X op rd)
  (ha:∀ov iv new,augStore i ov iv new=(do holding [new,ov,iv] (setItem ov iv new);release [new,ov,iv] [];pure .next)):PS X (.AugAssign (.Subscript o i tpos) op value pos) (VD td ty tv rd):=by
 intro pins s σ H D I h;refine wpAny_AugAssign_SubscriptAny (thn (ho pins s σ H _ I h) fun u s1 ⟨x,H1,I1,rx,q1⟩=>thn (hi pins s1 σ H1 _ I1 q1) fun iv s2 ⟨y,H2,I2,ry,a,v,ex,g,q2⟩=> ?_) ha;subst ex;obtain rfl:u=Value.ref a:=rx;refine D4 hu I2 g ry fun w' s3 I3 rw'=>thn (hv pins s3 σ H2 _ I3 q2) fun w2 s4 ⟨y2,H3,I4,ry2,q3⟩=>thn (hop pins s4 σ H3 v y2 w' w2 _ I4 rw' ry2 q3) fun w3 s5 ⟨z,H4,I5,rz,H5,g5,q4⟩=> ?_;exact DX hu I5 g5 ry rz fun s6 I6=>⟨σ,H5,I6,q4⟩
end
theorem UC {P:Program}{w:World}{H:Hp} (h:Heap) (hb:sysModules<h.objs.size):ObjOk P w H (h.push { cls:= .type "dict",data:= .dict #[] }) h.objs.size (.dK []) :=
 ⟨Nat.zero_le _,beq_eq_false_iff_ne.mpr (Ne.symm (Nat.ne_of_lt hb)),[],.nil,Heap.DictOf.new h⟩
theorem RX {P:Program}{w:World}{H:Hp} (h:Heap) (hb:sysModules<h.objs.size):ObjOk P w H (h.push { cls:= .type "dict",data:= .dict #[] }) h.objs.size (.dT []) :=
 ⟨Nat.zero_le _,beq_eq_false_iff_ne.mpr (Ne.symm (Nat.ne_of_lt hb)),[],.nil,_,#[],0,Heap.get?_push_size _ rfl,⟨rfl,rfl,rfl⟩,rfl,rfl,List.nodup_nil⟩
def P5:TE:=fun _ H Q=>∀p,H p=none->Q (.ref p) (upd H p (.dK []))
def Q8:TE:=fun _ H Q=>∀p,H p=none->Q (.ref p) (upd H p (.dT []))
section
variable {X:Cx}{pos:Pos}
theorem uM:PE X (.Dict [] [] pos) P5:=fun pins s σ H Q I h =>
 wpAny_Dict_empty ⟨.ref s.heap.objs.size,_,I.laid (a:=s.heap.objs.size) (o:= .dK []) (t':=s.toks) (fun _ _ q=>Heap.get?_push_of_some _ q) (Nat.le_refl _) (UC s.heap I.big),rfl,h _ (I.hok.fresh (Nat.le_refl _))⟩
theorem uJ:PE X (.Dict [] [] pos) Q8:=fun pins s σ H Q I h =>
 wpAny_Dict_empty ⟨.ref s.heap.objs.size,_,I.laid (a:=s.heap.objs.size) (o:= .dT []) (t':=s.toks) (fun _ _ q=>Heap.get?_push_of_some _ q) (Nat.le_refl _) (RX s.heap I.big),rfl,h _ (I.hok.fresh (Nat.le_refl _))⟩
end
def lX (kvs more:List (Key×V)):List (Key×V):=more.foldl (fun acc kv=>c5 acc kv.1 kv.2) kvs
theorem KV.merge:∀{more:List (Key×V)}{rs:List (Key×Value)}{kvs:List (Key×V)}{vs:List (Key×Value)},KV more rs->KV kvs vs->KV (lX kvs more) (merged vs rs):=by
 intro more rs kvs vs r;unfold KV at r
 induction r generalizing kvs vs with
 | nil=>intro q;exact q
 | @cons p q ps qs h t ih =>
  intro r0;have e:KV (c5 kvs p.1 p.2) (stored vs q.1 q.2):=by
   have:=r0.put p.1 h.2;rw[←h.1];exact this
  exact ih e
theorem vE:∀(more kvs:List (Key×V)),(lX kvs more).length<=kvs.length+more.length
 | [],kvs=>by show kvs.length<=kvs.length+0;lia
 | p::r,kvs=>by
  have h1:=vE r (c5 kvs p.1 p.2);have h2:=nR kvs p.1 p.2;show (lX (c5 kvs p.1 p.2) r).length<=_;rw[List.length_cons];lia
structure M2 (X:Cx)(o:Expr)(m:Str)(apos:Pos)(e f:Expr)(cpos:Pos):Prop where
 base:attributeBase o m X.env (eval o X.env)=eval o X.env
 few:((backTo cpos (starEach [e,f] X.env)).all (fun x=> !x.1)&&(backToKw cpos (keywordEach [] X.env)).all (fun x=>x.1.isSome)
  && decide (([e,f]:List Expr).length+([]:List Keyword).length+(if ([]:List Keyword).isEmpty then 0 else 1)<30))=true
 line:(apos.endLine==cpos.line)=true
 trees:backTo cpos (starEach [e,f] X.env)=[(false,eval e X.env),(false,eval f X.env)]
def IsD (H:Hp)(a:Addr):Prop:=(∃kvs,Rd H a (.dK kvs))∨∃kvs,Rd H a (.dT kvs)
theorem HX {X:Cx}{pins:List (Addr×Obj)}{σ:St}{H:Hp}{s:Shared}{a:Addr} (I:Inv X pins σ H s) (d:IsD H a) :
  s.TypeIs (.ref a) "dict" /\(∀b,Value.ref a= .ref b->∃ob,s.heap.get? b=some ob/\ob.dict=none)/\(a==sysModules)=false:=by
 rcases d with⟨kvs,e⟩|⟨kvs,e⟩
 ·obtain⟨_,hd,vs,_,dd⟩:=nU I.hok e;refine⟨dd.typeIs,fun b q=> ?_,hd⟩;cases q;obtain⟨ob,_,_,h1,h2,_⟩:=dd;exact⟨ob,h1,h2.2.1⟩
 ·obtain⟨_,hd,xs,_,dd⟩:=uF I.hok e;refine⟨dd.typeIs,fun b q=> ?_,hd⟩;cases q;obtain⟨ob,_,_,h1,h2,_⟩:=dd;exact⟨ob,h1,h2.2.1⟩
section
variable {X:Cx}{pins:List (Addr×Obj)}{σ:St}{H:Hp}{s:Shared}{a:Addr}{y d:V}{u r:Value}{o:Option V}{A:Around}{E:Value->Shared->Prop}
theorem aA2 {Q:Value->Shared->Prop}(hu:A.units+1<cLine)(I:Inv X pins σ H s)(g:DGet H a y o)(ry:RelV y u)(rd:RelV d r)(h:∀w' s',Inv X pins σ H s'->RelV (o.getD d) w'->Q w' s') :
  wpAny (model X.prog X.w) A (call (.builtin "dict.get") [.ref a,u,r]) Q E s:=by
 rcases g with⟨kvs,k,e,ey,l⟩|⟨kvs,k,b,e,ey,eb,l⟩
 ·subst ey;obtain⟨z,hd,vs,rel,dd⟩:=nU I.hok e;refine call_meetsIn PySem.F.slot_dict_get dd.typeIs PySem.F.entry_dict_get (PySem.F.args_dict_get_3 _ _ _) (meets_dict_get_default (bZ X.prog X.w) a (u4 ry) hd r) ⟨_,dd.mapOf,h _ _ (I.tok _) ?_⟩;rw[l];exact(rel.val k).getD rd
 ·subst ey;cases (show u=Value.ref b from ry);obtain⟨z,hd,xs,rel,dd⟩:=uF I.hok e;refine call_meetsIn PySem.F.slot_dict_get dd.typeIs PySem.F.entry_dict_get (PySem.F.args_dict_get_3 _ _ _) (meetsH_dict_get_default (tupleKind (bZ X.prog X.w)) a b hd r) ⟨tupleKind_room_in1 hu,k,xs,sZ I.hok eb,dd,h _ _ (I.tok _) ?_⟩;rw[l];exact(rel.val k).getD rd
end
def PZ (td ty tx:TE):TE:=fun σ H Q=>td σ H fun x H1=>∃a,x= .ref a/\IsD H1 a/\ty σ H1 fun y H2=>tx σ H2 fun z H3=>∃o,DGet H3 a y o/\Q (o.getD z) H3
section
variable {X:Cx}{o e f:Expr}{apos cpos:Pos}{td ty tx:TE}
theorem mN (hu:X.A.units+1<cLine)(ho:PE X o td)(he:PE X e ty)(hf:PE X f tx)(m:M2 X o "get" apos e f cpos):PE X (.Call (.Attribute o "get" apos) [e,f] [] cpos) (PZ td ty tx):=by
 intro pins s σ H Q I h;refine wpAny_Call_method m.base m.few m.line PySem.F.plainAttrs_dict PySem.F.slot_dict_get PySem.F.type_dict_get (thn (ho pins s σ H _ I h) fun u s1 ⟨x,H1,I1,rx,a,ex,d,q1⟩=> ?_);subst ex;obtain rfl:u=Value.ref a:=rx;obtain⟨t1,t2,_⟩:=HX I1 d;refine⟨t1,t2,?_⟩;rw[m.trees];refine Calls.callWith_builtin rfl (Calls.evalArgs_plain (Calls.spliced_cons (thn (he pins s1 σ H1 _ I1 q1) fun iv s2 ⟨y,H2,I2,ry,q2⟩ =>
  Calls.spliced_cons (thn (hf pins s2 σ H2 _ I2 q2) fun fv s3 ⟨z,H3,I3,rz,ov,g,q3⟩=>Calls.spliced_nil ?_))))
 exact aA2 hu I3 g ry rz fun w' s4 I4 rw'=>⟨_,H3,I4,rw',q3⟩
end
section
variable {X:Cx}{pins:List (Addr×Obj)}{σ:St}{H:Hp}{s:Shared}{a:Addr}{kvs:List (Key×V)}{A:Around}{E:Value->Shared->Prop}
end
section
variable {X:Cx}{pins:List (Addr×Obj)}{σ:St}{H:Hp}{s:Shared}{a:Addr}{y:V}{u:Value}{A:Around}{E:Value->Shared->Prop}
end
end L2
namespace L2
open PySem PySem.Spec PyProof.Rows
section
variable {κ:Type}[DecidableEq κ]
end
end L2
namespace L2
open PySem PySem.W PyProof.Rows
def jN {α:Type}(c:Nat->Nat->Bool):KasT α->α
 | .ret a=>a
 | .ask i j k=>jN c (k (c i j))
def KasIn {α:Type}(n:Nat)(R:α->Prop):KasT α->Prop
 | .ret a=>R a
 | .ask i j k=>i<n/\j<n/\∀b,KasIn n R (k b)
theorem KasIn.bind {α β:Type}{n:Nat}{R:α->Prop}{S:β->Prop}{f:α->KasT β} (hf:∀a,R a->KasIn n S (f a)):∀{t:KasT α},KasIn n R t->KasIn n S (t.bind f)
 | .ret _,h=>hf _ h
 | .ask _ _ _,h=>⟨h.1,h.2.1,fun b=>KasIn.bind hf (h.2.2 b)⟩
theorem KasIn.val {α:Type}{n:Nat}{R:α->Prop} (c:Nat->Nat->Bool):∀{t:KasT α},KasIn n R t->R (jN c t)
 | .ret _,h=>h
 | .ask i j k,h=>KasIn.val c (t:=k (c i j)) (h.2.2 (c i j))
theorem KasIn.wp {α:Type}{n:Nat}{R:α->Prop}{c:Nat->Nat->Bool}{cmp:Nat->Nat->(Bool->Shared->Prop)->Shared->Prop}{s:Shared} (hc:∀i j,i<n->j<n->∀C,C (c i j) s->cmp i j C s) {Q:α->Shared->Prop} :
  ∀{t:KasT α},KasIn n R t->Q (jN c t) s->t.kasWp cmp Q s
 | .ret _,_,q=>q
 | .ask i j k,h,q=>hc i j h.1 h.2.1 _ (KasIn.wp hc (t:=k (c i j)) (h.2.2 (c i j)) q)
abbrev Places (n:Nat)(p:Array Nat):Prop:=p.Perm (List.range n).toArray
theorem Places.lt {n:Nat}{p:Array Nat} (h:Places n p) (h0:0<n) (i:Nat):p.getD i 0<n:=by
 by_cases hi:i<p.size
 ·have e:p.getD i 0=p[i]:=by simp[Array.getD,hi]
  rw[e];have:=h.mem_iff.mp (Array.getElem_mem hi)
  simpa using this
 ·have e:p.getD i 0=0:=by simp[Array.getD,hi]
  rw[e];exact h0
theorem lT {n:Nat}{p:Array Nat} (h:Places n p) (i j:Nat):Places n (kas_rev p i j):=(mirror_perm _ _ _ _).trans h
theorem IK {n:Nat}{p:Array Nat} (h0:0<n) (hp:Places n p):∀(f k:Nat),KasIn n (fun _=>True) (kas_asc p f k)
 | 0,_=>trivial
 | f+1,k=>⟨hp.lt h0 _,hp.lt h0 _,fun b=>by cases b with|true=>exact trivial|false=>exact IK h0 hp f (k+1)⟩
theorem xG {n:Nat}(h0:0<n):∀(f:Nat) {p:Array Nat},Places n p->∀k q,KasIn n (fun r:Array Nat×Nat×Nat=>Places n r.1) (kas_desc f p k q)
 | 0,_,hp,_,_=>hp
 | f+1,p,hp,k,q=>by
  refine⟨hp.lt h0 _,hp.lt h0 _,fun b=> ?_⟩;cases b with
  | true =>
   show KasIn n _ (if q>0 then _ else _)
   split
   ·exact xG h0 f (lT hp _ _) _ _
   ·exact xG h0 f hp _ _
  | false =>
   refine⟨hp.lt h0 _,hp.lt h0 _,fun b=> ?_⟩;cases b with
   | true=>exact hp
   | false=>exact xG h0 f hp _ _
theorem JF {n k m:Nat}{p:Array Nat} (h0:0<n) (hp:Places n p):KasIn n (fun r:Nat×Array Nat=>Places n r.2) (kas_tail3 k m p) :=
 KasIn.bind (R:=fun _=>True) (S:=fun r:Nat×Array Nat=>Places n r.2) (f:=fun j=> .ret (j,kas_rev p 0 k)) (fun _ _=>lT hp 0 k) (IK h0 (lT hp 0 k) (m - k) k)
theorem yB {n k m:Nat}{p:Array Nat} (h0:0<n) (hp:Places n p):KasIn n (fun r:Nat×Array Nat=>Places n r.2) (kas_descPart k m p) :=
 KasIn.bind (fun r hr=>by
  split
  ·exact JF h0 (lT hr _ _)
  ·exact JF h0 hr) (xG h0 _ hp _ _)
theorem R6 {n m:Nat}{p:Array Nat} (h0:0<n) (hp:Places n p):KasIn n (fun r:Nat×Array Nat=>Places n r.2) (kas_count m p) :=
 KasIn.bind (fun k _=>by
  split
  ·exact hp
  ·split
   ·refine⟨hp.lt h0 _,hp.lt h0 _,fun b=> ?_⟩;cases b with
    | true=>exact hp
    | false=>exact yB h0 (lT hp _ _)
   ·exact yB h0 hp) (IK h0 hp _ _)
theorem zH {n k:Nat}{p:Array Nat} (h0:0<n) (hp:Places n p):∀(f l r:Nat),KasIn n (fun _=>True) (kas_place p k f l r)
 | 0,_,_=>trivial
 | f+1,l,r=>by
  unfold kas_place
  split
  ·exact trivial
  ·refine⟨hp.lt h0 _,hp.lt h0 _,fun b=> ?_⟩;cases b with
   | true=>exact zH h0 hp f _ _
   | false=>exact zH h0 hp f _ _
theorem PJ {n:Nat}(h0:0<n):∀(f:Nat) {p:Array Nat} (k:Nat),Places n p->KasIn n (Places n) (kas_bin f p k)
 | 0,_,_,hp=>hp
 | f+1,_,k,hp=>KasIn.bind (fun _ _=>PJ h0 f (k+1) ((bubble_perm _ _ _).trans hp)) (zH h0 hp _ _ _)
theorem LI {n:Nat}(h0:0<n):KasIn n (Places n) (kas_sort n) :=
 KasIn.bind (fun r hr=>by
  split
  ·exact PJ h0 _ _ hr
  ·exact hr) (R6 h0 (Array.Perm.refl _))
def dR {α:Type}(d:α)(c:Nat->Nat->Bool)(l:List α):List α:=if l.length<2 then l else (jN c (kas_sort l.length)).toList.map fun i=>l.getD i d
theorem kK {n:Nat}(c:Nat->Nat->Bool)(h:0<n):Places n (jN c (kas_sort n)):=(LI h).val c
theorem tD {α:Type}(d:α)(c:Nat->Nat->Bool)(l:List α):(dR d c l).length=l.length:=by
 unfold dR
 split
 ·rfl
 ·have h:=(kK (n:=l.length) c (by lia)).size_eq;rw[List.length_map,Array.length_toList,h];simp
end L2
namespace L2
open PySem PySem.W PyProof.Rows PySem.Calls
section
variable {prog:Program}{w:World}{A:Around}{E:Value->Shared->Prop}{s:Shared}
abbrev p9 (a:Addr)(h h':Heap):Prop:=∀b o,b≠a->h.get? b=some o->h'.get? b=some o
theorem L5 {a:Addr}{vs:List Value}{n:Nat}{P:PySem.Fin->Shared->Prop} (c:Nat->Nat->Bool) (κ:SortKind) (ho:s.heap.get? a=some (seqObj "list" vs.toArray n)) (h64:vs.length<64)
  (hk:2<=vs.length->∀h',p9 a s.heap h'->∀R:SortKind->Shared->Prop,R κ { s with heap:=h' }->wpAny (model prog w) A (keyKind' vs.toArray) R (fun _ _=>False) { s with heap:=h' })
  (hc:2<=vs.length->∀h',p9 a s.heap h'->∀i j,i<vs.length->j<vs.length->∀C,C (c i j) { s with heap:=h' }->kas_ask prog w A κ vs i j C { s with heap:=h' })
  (h:∀h' e,p9 a s.heap h'->h'.get? a=some (seqObj "list" (dR Value.none c vs).toArray e)->P (.done (.ret .none)) { s with heap:=h' }) :
  wpAny (model prog w) A (Builtin.«list.sort» ⟨[.ref a],[]⟩) P E s:=by
 have lt:a<s.heap.objs.size:=Heap.lt_size ho;generalize hg1:s.heap.update a (Obj.mapSeq fun _=>(#[]:Array Value))=g1;have sb1:Heap.SameBut a s.heap g1:=hg1▸Heap.SameBut.update s.heap a (Obj.mapSeq fun _=>(#[]:Array Value));obtain⟨e1,o1⟩:∃e1,g1.get? a=some (seqObj "list" #[] e1):=hg1▸⟨_,get?_update_seq ho fun _=> #[]⟩;have lt1:a<g1.objs.size:=Heap.lt_size o1;have kp:p9 a s.heap ((g1.push (seqObj "tuple" vs.toArray 0)).push (seqObj "list" #[] 0)):=fun b o hb q =>
  Heap.get?_push_of_some _ (Heap.get?_push_of_some _ ((sb1.2 b hb).trans q))
 have o3:((g1.push (seqObj "tuple" vs.toArray 0)).push (seqObj "list" #[] 0)).get? a=some (seqObj "list" #[] e1):=Heap.get?_push_of_some _ (Heap.get?_push_of_some _ o1);generalize hg3:(g1.push (seqObj "tuple" vs.toArray 0)).push (seqObj "list" #[] 0)=g3 at kp o3;have fin:∀out:List Value,out.length=vs.length->out=dR Value.none c vs->wpAny (model prog w) A (do
   let touched:=(←seqEpoch a) !=e1
   Builtin.List.listUpdate (.ref a) fun _=>out.toArray
   if let some e:=(none:Option Value) then rule "list.sort.comparison-raised";throw e
   if touched then rule "list.sort.modified";raiseError "ValueError" "list modified during sort"
   ret .none) P E { s with heap:=g3 }:=by
  intro out hl ho';obtain⟨e2,o4⟩:∃e2,(g3.update a (Obj.mapSeq fun _=>out.toArray)).get? a=some (seqObj "list" out.toArray e2):=⟨_,get?_update_seq o3 fun _=>out.toArray⟩
  refine wpAny_bind (seqEpoch_at (s:={ s with heap:=g3 }) o3 rfl ?_);refine wpAny_bind (listUpdate_at (s:={ s with heap:=g3 }) o3 rfl ?_ (Nat.zero_le _) (by rw[List.size_toArray,sizeLine_eq];lia));simp only[bne_self_eq_false,Bool.false_eq_true,if_false];refine wpAny_pure (h _ e2 (fun b o hb q=> ?_) (ho'▸o4));exact((Heap.SameBut.update g3 a (Obj.mapSeq fun _=>out.toArray)).2 b hb).trans (kp b o hb q)
 rw[list_sort_plain];refine wpAny_bind (listItems_at ho rfl (wpAny_bind (listUpdate_at ho rfl ?_ (by rw[List.size_toArray,sizeLine_eq];lia) (Nat.zero_le _))));rw[hg1];refine wpAny_bind (seqEpoch_at (s:={ s with heap:=g1 }) o1 rfl ?_);refine wpAny_bind (wpAny_newTuple ?_ (by show vs.length<=_;rw[sizeLine_eq];lia));refine wpAny_bind (wpAny_newList ?_ (Nat.zero_le _));refine wpAny_holding ?_;show wpAny (model prog w) A _ P E { s with heap:=(g1.push (seqObj "tuple" vs.toArray 0)).push (seqObj "list" #[] 0) };rw[hg3]
 dsimp only
 by_cases h2:vs.toArray.size<2
 ·rw[if_pos h2,if_pos h2];have h2':vs.length<2:=by rwa [List.size_toArray]at h2
  refine wpAny_bind (wpAny_pure ?_);rw[StateT.run_pure];refine wpAny_bind (wpAny_pure ?_)
  dsimp only
  have ez:(arrOf (SortSt.mk' general' (vs.toArray.zip vs.toArray) #[] 7 none)).map (·.2)=vs.toArray:=by
   show (vs.toArray.zip vs.toArray).map (·.2)=_
   apply Array.toList_inj.mp
   rw[Array.toList_map,Array.toList_zip,List.map_snd_zip];exact Nat.le_refl _
  rw[ez];exact fin vs rfl (by unfold dR;rw[if_pos h2'])
 ·rw[if_neg h2,if_neg h2];have h2':2<=vs.length:=by rw[List.size_toArray]at h2;lia
  refine wpAny_bind (wpAny_mono (hk h2' _ kp (fun κ' s'=>κ'=κ/\s'={ s with heap:=g3 }) ⟨rfl,rfl⟩) ?_ fun _ _ x=>x.elim);rintro _ _ ⟨rfl,rfl⟩;refine wpAny_bind (wpAny_mono (kat_run (Q:=fun st' s'=>∃p:Array Nat,p=jN c (kas_sort vs.length)/\arrOf st'=p.map (kas_item (vs.toArray.zip vs.toArray))/\failedOf st'=none/\s'={ s with heap:=g3 }) (G:=fun p s'=>p=jN c (kas_sort vs.length)/\s'={ s with heap:=g3 })
   rfl h2' h64 (fun p st' s' _ a2 a3 a4=>⟨p,a4.1,a2,a3,a4.2⟩) ((LI (by lia)).wp (hc h2' _ kp) ⟨rfl,rfl⟩)) ?_ fun _ _ e=>e)
  rintro ⟨⟨⟩,st'⟩ _ ⟨p,rfl,har,hf,rfl⟩
  dsimp only
  rw[kat_snds rfl har,hf];have hz:=(kK (n:=vs.length) c (by lia)).size_eq;exact fin _ (by rw[List.length_map,Array.length_toList,hz];simp) (by unfold dR;rw[if_neg (by lia)])
theorem PY {l:Addr}{vs:List Value}{Q:Value->Shared->Prop} (c:Nat->Nat->Bool) (κ:SortKind) (hl:s.heap.IsList l vs.toArray) (h64:vs.length<64)
  (hk:2<=vs.length->∀h',(∀b o,s.heap.get? b=some o->h'.get? b=some o)->∀R:SortKind->Shared->Prop,R κ { s with heap:=h' }->wpAny (model prog w) A.in1.in1 (keyKind' vs.toArray) R (fun _ _=>False) { s with heap:=h' })
  (hc:2<=vs.length->∀h',(∀b o,s.heap.get? b=some o->h'.get? b=some o)->∀i j,i<vs.length->j<vs.length->∀C,C (c i j) { s with heap:=h' }->kas_ask prog w A.in1.in1 κ vs i j C { s with heap:=h' })
  (h:∀D h' e,s.heap.objs.size<=D->(∀b o,s.heap.get? b=some o->h'.get? b=some o)->h'.get? D=some (seqObj "list" (dR Value.none c vs).toArray e)->Q (.ref D) { s with heap:=h' }) :
  wpAny (model prog w) A (call (.builtin "sorted") [.ref l]) Q E s:=by
 have hz64:vs.length<=sizeLine:=by rw[sizeLine_eq];lia
 refine Calls.call_function_entry kind_sorted plain_sorted entry_sorted (args_sorted1 _) ?_;unfold Builtin.«sorted»;refine wpAny_bind (m:=checkCount "sorted" 1 1 _) (wpAny_pure (wpAny_bind (collect_list hl ?_ hz64)));refine wpAny_bind (wpAny_newList ?_ hz64);generalize hq:(s.heap.push (seqObj "list" #[] 0)).update s.heap.objs.size (Obj.mapSeq (·++vs.toArray))=q;have qs:q.objs.size=s.heap.objs.size+1:=by rw[←hq,Heap.size_update,size_push']
 have qk:∀b o,s.heap.get? b=some o->q.get? b=some o:=fun b o e=>by
  have bl:b<s.heap.objs.size:=Heap.lt_size e;rw[←hq,Heap.get?_update_ne _ _ _ _ (Nat.ne_of_lt bl),Heap.get?_push_ne _ _ _ (Nat.ne_of_lt bl)];exact e
 have oD:(q.push (seqObj "list" vs.toArray 0)).get? q.objs.size=some (seqObj "list" vs.toArray 0):=Heap.get?_push_size _ rfl;have kD:∀h',p9 q.objs.size (q.push (seqObj "list" vs.toArray 0)) h'->∀b o,s.heap.get? b=some o->h'.get? b=some o:=fun h' k b o e =>
  k b o (Nat.ne_of_lt (by rw[qs];exact Nat.lt_succ_of_lt (Heap.lt_size e))) (Heap.get?_push_of_some _ (qk b o e))
 refine wpAny_bind (wpAny_holding (wpAny_call_entry slot_list_sort ⟨_,oD,rfl⟩ entry_list_sort ?body (args_list_sort _)))
 case body =>
  refine L5 (s:={ s with heap:=q.push (seqObj "list" vs.toArray 0) }) c κ oD h64 (fun h2 h' k=>hk h2 h' (kD h' k)) (fun h2 h' k=>hc h2 h' (kD h' k)) fun h' e k o'=> ?_;exact⟨_,rfl,wpAny_pure ⟨_,rfl,h _ h' e (by show s.heap.objs.size<=q.objs.size;rw[qs];exact Nat.le_succ _) (kD h' k) o'⟩⟩
end
end L2
namespace L2
open PySem PySem.W PyProof.Rows
def gY:Key->Bool
 | .inl _=>true
 | .inr _=>false
def N1:Key->Key->Bool
 | .inl i,.inl j=>decide (i<j)
 | .inr x,.inr y=>decide (x.cps.toList<y.cps.toList)
 | _,_=>false
def BT:List Key->List Key->Bool
 | a::as,b::bs=>if a=b then BT as bs else N1 a b
 | _,_=>false
section
variable {prog:Program}{w:World}{A:Around}{s:Shared}
theorem aAv {a b:Key}{u v:Value}{Q:Bool->Shared->Prop}{E:Value->Shared->Prop} (k:gY a=gY b) (ru:RelV (kV a) u) (rv:RelV (kV b) v) (q:Q (decide (a=b)) s):wpAny (model prog w) A (eqBool u v) Q E s:=by
 cases a<;>cases b<;>first|(cases k;done)|skip
 ·obtain⟨t,rfl⟩:=ru;obtain⟨t',rfl⟩:=rv;refine wpAny_eqBool_int ?_;rename_i i j;have e:(i==j)=decide ((Sum.inl i:Key)=Sum.inl j):=by
   by_cases z:i=j
   ·subst z;simp
   ·rw[beq_false_of_ne z,decide_eq_false (fun y=>z (Sum.inl.inj y))]
  rw[e];exact q
 ·obtain⟨t,rfl⟩:=ru;obtain⟨t',rfl⟩:=rv;refine wpAny_eqBool_str ?_;rename_i i j;have e:decide (i=j)=decide ((Sum.inr i:Key)=Sum.inr j):=by
   by_cases z:i=j
   ·subst z;simp
   ·rw[decide_eq_false z,decide_eq_false (fun y=>z (Sum.inr.inj y))]
  rw[e];exact q
theorem aAq {a b:Key}{u v:Value}{Q:Bool->Shared->Prop}{E:Value->Shared->Prop} (k:gY a=gY b) (ru:RelV (kV a) u) (rv:RelV (kV b) v) (q:Q (N1 a b) s) (t:Bool):wpAny (model prog w) A (oneLt' t u v) Q E s:=by
 cases a<;>cases b<;>first|(cases k;done)|skip
 ·obtain⟨t1,rfl⟩:=ru;obtain⟨t2,rfl⟩:=rv;cases t with
  | true=>exact oneLt_int q
  | false=>exact kat_one _ _ (lt_int q)
 ·obtain⟨t1,rfl⟩:=ru;obtain⟨t2,rfl⟩:=rv;cases t with
  | true=>exact oneLt_str q
  | false=>exact kat_one _ _ (lt_str q)
theorem II {Q:Bool->Shared->Prop}:∀{as bs:List Key}{us vs:List Value} (i:Nat),as.map gY=bs.map gY->Vals (as.map kV) us->Vals (bs.map kV) vs->Q (BT as bs) s->KatLex prog w A true false Q (us.zip vs) i s
 | [],[],_,_,_,_,.nil,.nil,q=>kat_nil q
 | [],_::_,_,_,_,k,_,_,_=>by cases k
 | _::_,[],_,_,_,k,_,_,_=>by cases k
 | a::as,b::bs,_,_,i,k,.cons ra rs,.cons rb rt,q=>by
  have k1:gY a=gY b:=(List.cons.inj k).1;refine kat_cons (aAv k1 ra rb ?_);have q':Q (if a=b then BT as bs else N1 a b) s:=q
  by_cases z:a=b
  ·rw[if_pos z]at q';rw[decide_eq_true z];exact kat_yes (II (i+1) (List.cons.inj k).2 rs rt q')
  ·rw[if_neg z]at q';rw[decide_eq_false z];exact kat_no (aAq k1 ra rb q' _)
end
abbrev KRows (H:Hp):List V->List (List Key)->Prop:=Paired fun v r=>∃p,v= .ref p/\H p=some (.tup (r.map kV))
theorem KRows.map {H H':Hp}(f:∀p xs,H p=some (.tup xs)->H' p=some (.tup xs)):∀{vs:List V}{rs:List (List Key)},KRows H vs rs->KRows H' vs rs
 | _,_,.nil=> .nil
 | _,_,.cons ⟨p,e,h⟩ r=> .cons ⟨p,e,f _ _ h⟩ (KRows.map f r)
theorem KRows.same {H H':Hp}{vs:List V}{rs:List (List Key)} (x:KRows H vs rs) (s:Same H H'):KRows H' vs rs:=x.map fun p xs h=>s _ _ h
theorem KRows.get {H:Hp}:∀{vs:List V}{rs:List (List Key)}{i:Nat}{v:V},KRows H vs rs->vs[i]? =some v->∃p r,v= .ref p/\rs[i]? =some r/\H p=some (.tup (r.map kV))
 | _,_,0,_,.cons ⟨p,e,h⟩ _,z=>by cases z;exact⟨p,_,e,rfl,h⟩
 | _,_,i+1,_,.cons _ t,z=>KRows.get (i:=i) t (by simpa using z)
 | _,_,_,_,.nil,z=>by simp at z
def l9 (rs:List (List Key))(i j:Nat):Bool:=BT (rs.getD i []) (rs.getD j [])
def t7 (rs:List (List Key))(vs:List V):List V:=dR .non (l9 rs) vs
section
variable {X:Cx}{pins:List (Addr×Obj)}{σ:St}{H:Hp}{s:Shared}
theorem tT (I:Inv X pins σ H s){p:Addr}{r:List Key} (e:H p=some (.tup (r.map kV))):∃(o:Obj) (us:List Value) (n:Nat),s.heap.get? p=some o/\o.cls= .type "tuple" /\o.data= .seq us.toArray n/\Vals (r.map kV) us:=by
 obtain⟨_,its,r',o,h1,h2,n,h3⟩:=(show ObjOk X.prog X.w H s.heap p (.tup (r.map kV)) from I.hok p _ e)
 exact⟨o,its,n,h1,h2,h3,r'⟩
theorem wE (I:Inv X pins σ H s){sh:List Bool}{T:Value}{h':Heap} (kp:∀b o,s.heap.get? b=some o->h'.get? b=some o) (hT:∀(k:Key) (u:Value),sh.head? =some (gY k)->RelV (kV k) u->Looks (model X.prog X.w) h' (typeOf u) T) :
  ∀{vs:List V}{rs:List (List Key)}{us:List Value},KRows H vs rs->Vals vs us->(∀r∈rs,r.map gY=sh)->sh≠[]->∃fs,KatTups h' us fs/\fs.length=us.length/\∀v∈fs,Looks (model X.prog X.w) h' (typeOf v) T
 | _,_,_,.nil,.nil,_,_=>⟨[],trivial,rfl,fun _ z=>nomatch z⟩
 | _::_,r::_,_::_,.cons ⟨p,hv,e⟩ q,.cons rv rt,hs,hn=>by
  obtain⟨fs,f1,f2,f3⟩:=wE I kp hT q rt (fun r hr=>hs r (List.mem_cons_of_mem _ hr)) hn;subst hv;cases rv;have hr:=hs r (.head _);cases r with
  | nil=>exact absurd hr.symm hn
  | cons k ks =>
   obtain⟨o,us,n,o1,o2,o3,o4⟩:=tT I e;cases o4 with
   | cons r1 r2 =>
    rename_i u us;refine⟨u::fs,KatTups.cons (kp _ _ o1) o2 o3 (by simp) f1,by simp[f2],fun v hv=> ?_⟩;rcases List.mem_cons.mp hv with rfl|hv
    ·exact hT k _ (by rw[←hr];rfl) r1
    ·exact f3 v hv
def L0 (K:PySem.W.Frag):List V->Hp->VK->Prop:=fun xs H Q=>∃p vs rs sh,xs=[.ref p]/\SqL K H p vs/\KRows H vs rs/\vs.length<64/\(∀r∈rs,r.map gY=sh)/\sh≠[]/\∀l,H l=none->Q (.ref l) (upd H l (.lst (t7 rs vs)))
theorem vK {xs:List V}{us:List Value} (c:Nat->Nat->Bool) (r:Vals xs us):Vals (dR .non c xs) (dR Value.none c us):=by
 have hl:=r.length;unfold dR;rw[hl]
 split
 ·exact r
 ·have hp:=kK (n:=us.length) c (by lia);have hm:∀i∈(jN c (kas_sort us.length)).toList,i<us.length:=fun i hi=>by
   have h:=hp.mem_iff.mp (Array.mem_toList_iff.mp hi)
   simpa using h
  revert hm;generalize (jN c (kas_sort us.length)).toList=l;intro hm
  induction l with
  | nil=>exact .nil
  | cons i l ih =>
   refine .cons ?_ (ih fun j hj=>hm j (List.mem_cons_of_mem _ hj));have hi:=hm i (.head _);have hx:xs[i]? =some (xs[i]'(by lia)):=List.getElem?_eq_getElem _;obtain⟨u,hu,ru⟩:=r.get hx;show RelV (xs.getD i .non) (us.getD i Value.none);rw[List.getD_eq_getElem?_getD,List.getD_eq_getElem?_getD,hx,hu];exact ru
theorem GE:dC X (.builtin "sorted") (L0 X.K):=by
 intro pins s σ H xs us Q I r h;obtain⟨p,vs,rs,sh,rfl,hq,kr,h64,hs,hn,q⟩:=h;obtain⟨u,rfl,rx⟩:=lU r;cases rx;obtain⟨its,rv,pl,hz⟩:=I.list hq;have hl:=rv.length;have hT:∃T:Value,(T==T)=true/\(T !=Value.type "tuple")=true/\∀(h':Heap) (k:Key) (u:Value),sh.head? =some (gY k)->RelV (kV k) u->Looks (model X.prog X.w) h' (typeOf u) T:=by
  cases sh with
  | nil=>exact absurd rfl hn
  | cons b sh =>
   cases b with
   | true =>
    refine⟨.type "int",rfl,by decide,fun h' k u hk ru=> ?_⟩;cases k with
    | inl i=>obtain⟨t,rfl⟩:=ru;exact Looks.of_pure rfl
    | inr x=>cases hk
   | false =>
    refine⟨.type "str",rfl,by decide,fun h' k u hk ru=> ?_⟩;cases k with
    | inl i=>cases hk
    | inr x=>obtain⟨t,rfl⟩:=ru;exact Looks.of_pure rfl
 obtain⟨T,t1,t2,t3⟩:=hT;refine PY (l9 rs) (tuples' true) pl.isList (by lia) (fun h2 h' kp R hR=> ?_) (fun h2 h' kp i j hi hj C hC=> ?_) fun D h' e hD kp o'=> ?_
 ·obtain⟨fs,f1,f2,f3⟩:=wE I kp (fun k u=>t3 h' k u) kr rv hs hn;refine kat_kind (s:={ s with heap:=h' }) f1 (by lia) f3 t1 ?_;rw[t2];exact hR
 ·obtain⟨p1,r1,x1,y1,z1⟩:=kr.get (i:=i) (List.getElem?_eq_getElem (by lia));obtain⟨p2,r2,x2,y2,z2⟩:=kr.get (i:=j) (List.getElem?_eq_getElem (by lia));obtain⟨u1,v1,w1⟩:=rv.get (List.getElem?_eq_getElem (show i<vs.length by lia));obtain⟨u2,v2,w2⟩:=rv.get (List.getElem?_eq_getElem (show j<vs.length by lia));rw[x1]at w1;rw[x2]at w2;cases w1;cases w2;obtain⟨o1,us1,n1,g1,c1,d1,l1⟩:=tT I z1;obtain⟨o2,us2,n2,g2,c2,d2,l2⟩:=tT I z2;have s1:=hs r1 (List.mem_of_getElem? y1);have s2:=hs r2 (List.mem_of_getElem? y2);have e1:=l1.length;have e2:=l2.length;rw[List.length_map]at e1 e2;have e3:r1.length=r2.length:=by rw[←List.length_map (f:=gY),s1,←s2,List.length_map]
  unfold kas_ask;rw[List.getD_eq_getElem?_getD,List.getD_eq_getElem?_getD,v1,v2];refine kat_lt (s:={ s with heap:=h' }) (kp _ _ g1) d1 (kp _ _ g2) d2 ?_;rw[show decide (us1.toArray.size<us2.toArray.size)=false from decide_eq_false (by rw[List.size_toArray,List.size_toArray];lia)];refine II 0 (s1.trans s2.symm) l1 l2 ?_;have ec:l9 rs i j=BT r1 r2:=by
   unfold l9;rw[List.getD_eq_getElem?_getD,List.getD_eq_getElem?_getD,y1,y2];rfl
  rw[ec]at hC;exact hC
 ·exact⟨.ref D,_,I.laid (t':=s.toks) kp hD (show ObjOk X.prog X.w _ h' _ (.lst _) from⟨by rw[tD];exact hz,_,e,vK _ rv,o'⟩),rfl,q _ (I.hok.fresh hD)⟩
end
end L2
namespace L2
open PySem PySem.W PyProof.Rows
section
variable {prog:Program}{w:World}{A:Around}{E:Value->Shared->Prop}{s:Shared}{d it:Addr}{o:Obj}{es:Array DictEntry}{ep i:Nat}
theorem zB {Q:Value->Shared->Prop}(hd:(d==sysModules)=false)(ho:s.heap.get? d=some o)(hc:o.ExactDict)(hq:o.data= .dict es ep)
  (k:Q (.ref s.heap.objs.size) { s with heap:=s.heap.push { cls:= .type "dict_keyiterator",data:= .fields #[.ref d,.int 0 0,.int es.size 0,.int ep 0] } }):wpAny (model prog w) A (pyIter (.ref d)) Q E s:=by
 have T:s.TypeIs (.ref d) "dict" :=⟨o,ho,hc.1⟩
 refine wpAny_pyIter_slot T F.slot_dict_iter (wpAny_call_entry F.slot_dict_iter T F.entry_dict_iter ?_ (F.args_dict_iter_1 _));unfold Builtin.«dict.__iter__» Builtin.Dict.dictSlotNone;refine wpAny_bind (wpAny_bind (wpAny_notOrdered_dict T (wpAny_pure ?_)));show wpAny _ A.in1 (Builtin.Dict.showsAll d >>= _) _ _ s;unfold Builtin.Dict.showsAll;rw[if_neg (fun z=>by rw[hd]at z;cases z)];refine wpAny_bind (wpAny_pure (wpAny_bind (wpAny_dictEntries ho hq (wpAny_bind (wpAny_dictEpoch ho hq ?_)))));exact wpAny_bind (wpAny_newObj_type (wpAny_pure ⟨_,rfl,"dict_keyiterator",_,⟨_,Heap.get?_push_size _ rfl,rfl⟩,F.slot_dict_keyiterator_next.lookup,k⟩))
theorem IG {Q:Option Value->Shared->Prop}{e:DictEntry} (hit:s.heap.IsKeyIter it d i es.size ep) (ho:s.heap.get? d=some o) (hq:o.data= .dict es ep) (hx:es[i]? =some e)
  (k:∀h',h'.IsKeyIter it d (i+1) es.size ep->Heap.SameBut it s.heap h'->Q (some e.key) { s with heap:=h' }):wpAny (model prog w) A (pyNext (.ref it)) Q E s:=by
 obtain⟨oi,hi,ci,di⟩:=id hit;have T:=hit.typeIs;unfold pyNext;refine wpAny_bind (wpAny_attempt (wpAny_callSpecial?_slot (name:=Str.ofString "__next__") T F.slot_dict_keyiterator_next (wpAny_call_entry F.slot_dict_keyiterator_next T F.entry_dict_keyiterator_next ?_ (F.args_dict_keyiterator_next_1 _))));refine wpAny_bind (wpAny_pure (wpAny_bind (wpAny_bind ?_)))
 first|refine wpAny_bind (wpAny_typeNameOfWhole_keyiter T (wpAny_pure (wpAny_bind (wpAny_fieldsOf hi di ?_))))|refine wpAny_bind (wpAny_typeNameOf_keyiter T (wpAny_pure (wpAny_bind (wpAny_fieldsOf hi di ?_))))
 simp only[show Builtin.Dict_items.ownsTuple "dict_keyiterator" =false by decide,Bool.false_eq_true,if_false];show wpAny _ A.in1 (if (Value.ref d==Value.none)=true then _ else _) _ _ s;rw[if_neg (show ¬(Value.ref d==Value.none)=true from Bool.false_ne_true)];refine wpAny_bind (wpAny_pure (wpAny_bind (wpAny_dictEntries ho hq ?_)));rw[if_neg (by simp)];refine wpAny_bind (wpAny_pure (wpAny_bind (wpAny_dictEpoch ho hq ?_)));rw[if_neg (by simp)];refine wpAny_pure ?_;simp only[show ¬((i:Int)<0) from by lia,if_false,Int.toNat_natCast,hx];refine wpAny_bind ?_
 first|refine wpAny_bind (wpAny_typeNameOfWhole_keyiter T (wpAny_pure (wpAny_bind (wpAny_isOneOf_keyiter T ?_))))|refine wpAny_bind (wpAny_typeNameOf_keyiter T (wpAny_pure (wpAny_bind (wpAny_isOneOf_keyiter T ?_))))
 show wpAny _ A.in1 (setField (.ref it) 1 (rawInt ((i:Int)+1)) >>= _) _ _ s;refine wpAny_bind (wpAny_setField hi di (by simp) ?_);have H2:(s.heap.update it (Obj.mapFields (·.setIfInBounds 1 (rawInt ((i:Int)+1))))).IsKeyIter it d (i+1) es.size ep :=
  ⟨_,Heap.get?_update_self _ hi (Obj.isFreed_of_fields (Obj.data_mapFields di _)),(Obj.cls_mapFields ..).trans ci,(Obj.data_mapFields di _).trans (by simp[rawInt])⟩
 refine wpAny_bind (wpAny_holding (wpAny_bind (wpAny_isOneOf_keyiter (s:={ s with heap:=s.heap.update it (Obj.mapFields (·.setIfInBounds 1 (rawInt ((i:Int)+1)))) }) H2.typeIs ?_)));show wpAny _ A.in1 (pure e.key) _ _ _;exact wpAny_pure (wpAny_pure ⟨_,rfl,wpAny_pure (k _ H2 (Heap.SameBut.update ..))⟩)
theorem MC {Q:Option Value->Shared->Prop}(hh:A.handled=none)(hit:s.heap.IsKeyIter it d i es.size ep)(ho:s.heap.get? d=some o)(hq:o.data= .dict es ep)(hx:es.size<=i)
  (k:∀h',Heap.ExtBut it s.heap h'->Q none { s with heap:=h' }):wpAny (model prog w) A (pyNext (.ref it)) Q E s:=by
 obtain⟨oi,hi,ci,di⟩:=id hit;have T:=hit.typeIs;unfold pyNext;refine wpAny_bind (wpAny_attempt (wpAny_callSpecial?_slot (name:=Str.ofString "__next__") T F.slot_dict_keyiterator_next (wpAny_call_entry F.slot_dict_keyiterator_next T F.entry_dict_keyiterator_next ?_ (F.args_dict_keyiterator_next_1 _))));refine wpAny_bind (wpAny_pure (wpAny_bind (wpAny_bind ?_)))
 first|refine wpAny_bind (wpAny_typeNameOfWhole_keyiter T (wpAny_pure (wpAny_bind (wpAny_fieldsOf hi di ?_))))|refine wpAny_bind (wpAny_typeNameOf_keyiter T (wpAny_pure (wpAny_bind (wpAny_fieldsOf hi di ?_))))
 simp only[show Builtin.Dict_items.ownsTuple "dict_keyiterator" =false by decide,Bool.false_eq_true,if_false];show wpAny _ A.in1 (if (Value.ref d==Value.none)=true then _ else _) _ _ s;rw[if_neg (show ¬(Value.ref d==Value.none)=true from Bool.false_ne_true)];refine wpAny_bind (wpAny_pure (wpAny_bind (wpAny_dictEntries ho hq ?_)));rw[if_neg (by simp)];refine wpAny_bind (wpAny_pure (wpAny_bind (wpAny_dictEpoch ho hq ?_)));rw[if_neg (by simp)];refine wpAny_pure ?_;simp only[show ¬((i:Int)<0) from by lia,if_false,Int.toNat_natCast,Array.getElem?_eq_none hx];refine wpAny_bind ?_
 first|refine wpAny_bind (wpAny_typeNameOfWhole_keyiter T (wpAny_pure ?_))|refine wpAny_bind (wpAny_typeNameOf_keyiter T (wpAny_pure ?_))
 show wpAny _ A.in1 (setField (.ref it) 0 .none >>= _) _ _ s;refine wpAny_bind (wpAny_setField hi di (by simp) ?_);show wpAny _ A.in1 (newExc (.type "StopIteration") [] >>= _) _ _ _;refine wpAny_bind ?_;simp only[newExc,newTuple];refine wpAny_bind (wpAny_newObj_type (wpAny_bind (m:=firstArgMember _ _) (wpAny_of_eq (a:=Value.none) (by first|rfl|(simp only[firstArgMember];rfl)) (wpAny_newObj_type ?_ (by size_fits)))) (by size_fits));simp only[raiseNew];refine wpAny_bind (wpAny_handled ?_);rw[show A.in1.handled=none from hh];refine wpAny_bind (wpAny_pure (wpAny_throw ?_));refine wpAny_bind (wpAny_isInstance (b:=true) (T:= "StopIteration") ⟨_,Heap.get?_push_size _ rfl,rfl⟩ isSubtype_stop ?_);exact wpAny_pure (k _ (((Heap.SameBut.update ..).extBut.push _).push _))
end
end L2
namespace L2
open PySem PySem.W PyProof.Rows
def Itk (a:Addr)(o:Obj)(kvs:List (Key×V)):It :=
 ⟨fun i H=>H a=some (.frz o (.dK kvs))/\i<kvs.length,fun i H x H'=>H'=H/\∃k v,kvs[i]? =some (k,v)/\x=kV k,fun i H=>H a=some (.frz o (.dK kvs))/\kvs.length<=i⟩
def Itq (a:Addr)(o:Obj)(kvs:List (List Key×V)):It :=
 ⟨fun i H=>H a=some (.frz o (.dT kvs))/\i<kvs.length,fun i H x H'=>H'=H/\∃k v q,kvs[i]? =some (k,v)/\x= .ref q/\H q=some (.tup (k.map kV)),fun i H=>H a=some (.frz o (.dT kvs))/\kvs.length<=i⟩
theorem KT.get {H:Hp}:∀{kvs:List (List Key×V)}{xs:List (List Key×Addr×Value)}{i:Nat},KT H kvs xs->i<kvs.length->∃k v b u,kvs[i]? =some (k,v)/\xs[i]? =some (k,b,u)/\H b=some (.tup (k.map kV))
 | _,_,0,.cons h _,_=>⟨_,_,_,_,rfl,by rw[h.1];rfl,h.2.1⟩
 | _,_,i+1,.cons _ t,hi=>by
  obtain⟨k,v,b,u,e1,e2,e3⟩:=KT.get (i:=i) t (by simpa using hi);exact⟨k,v,b,u,by simpa using e1,by simpa using e2,e3⟩
 | _,_,_,.nil,hi=>by simp at hi
theorem KT.len {H:Hp}{kvs:List (List Key×V)}{xs:List (List Key×Addr×Value)} (r:KT H kvs xs):kvs.length=xs.length:=Paired.length r
theorem NH {P:Program}{w:World}{K:PySem.W.Frag}{tg:Expr} (a it:Addr) {o:Obj}{es:Array DictEntry}{ep:Nat} (kvs:List (List Key×V)) (hd:o.data= .dict es ep) (hz:es.size=kvs.length) :
  v8 P w K tg (Itq a o kvs) [it] it (fun i h=>h.IsKeyIter it a i es.size ep) where
 mem:=by simp
 obj:=fun i h st b hb=>by
  have e:b=it:=by simpa using hb
  subst e;obtain⟨ob,e,c,d⟩:=st;exact⟨ob,e,fun v z=>by rw[d]at z;cases z⟩
 keep:=fun i h h' st k=>st.at fun ob e=>k it (by simp) ob e
 item:=by
  intro X hP hw hK hc i pins s σ H E I hf st hg;subst hP hw hK;obtain⟨ha,hi⟩:=hg;obtain⟨ho,hok⟩:=(show ObjOk X.prog X.w H s.heap a (.frz o (.dT kvs)) from I.hok a _ ha)
  obtain⟨z,y,xs,r,o',es',ep',h1,h2,h3,h4,h5⟩:=hok;rw[ho]at h1;cases h1;rw[hd]at h3;cases h3;obtain⟨k,v,b,u,e1,e2,e3⟩:=KT.get r hi;have e4:=entry_at h4 i;rw[e2]at e4;obtain⟨f0,f1,f2,f3,f4,f5⟩:=hf it (by simp);refine IG st ho hd e4 fun h' st' sb=> ?_;have I1:Inv X pins σ H { s with heap:=h' }:=I.turned (t':=s.toks) (fun b o hb e=>(sb.2 b hb).trans e) f0 f1 f3 f4 f5;exact⟨_,rfl,letGo_keyiter (s':={ s with heap:=h' }) st' ⟨.ref b,H,I1,rfl,⟨rfl,k,v,b,e1,rfl,e3⟩,st',fun b hb=>(hf b hb).1⟩⟩
 done:=by
  intro X hP hw hK hc i pins s σ H E I hf st hg;subst hP hw hK;obtain⟨ha,hi⟩:=hg;obtain⟨ho,hok⟩:=(show ObjOk X.prog X.w H s.heap a (.frz o (.dT kvs)) from I.hok a _ ha)
  obtain⟨f0,f1,f2,f3,f4,f5⟩:=hf it (by simp);exact MC (I.ok.hd hc) st ho hd (by lia) fun h' eb=>⟨rfl,I.turned (t':=s.toks) (fun b o hb e=>eb b o hb e) f0 f1 f3 f4 f5⟩
 self:=fun _ _ _ _ _ st h=>wpAny_pyIter_keyiter st h
def O2 (td:TE):TI:=fun σ H R=>td σ H fun x H1=>∃a kvs,x= .ref a/\H1 a=some (.dT kvs)/\∀o,R (Itq a o kvs) (upd H1 a (.frz o (.dT kvs)))
section
variable {X:Cx}{tg:Expr}
theorem Inv.freeze {pins:List (Addr×Obj)}{σ:St}{H:Hp}{s:Shared}{a:Addr}{u:HO}{o:Obj} (I:Inv X pins σ H s) (mu:Mut (some u)) (e:H a=some u) (ho:s.heap.get? a=some o) (new:ObjOk X.prog X.w (upd H a (.frz o u)) s.heap a (.frz o u)):Inv X pins σ (upd H a (.frz o u)) s :=
 I.write (t':=s.toks) (h':=s.heap) (by rw[e];exact mu) (.inl rfl) (fun b u _ z=>z) ⟨_,ho⟩ new
theorem UM {l:Expr}{td:TE} (hl:PE X l td):PI X tg l (O2 td):=by
 intro pins s σ H R I h;refine thn (hl pins s σ H _ I h) fun v s1 ⟨x,H1,I1,r1,q1⟩=> ?_;obtain⟨a,kvs,rfl,hq,q⟩:=q1;cases r1;obtain⟨z,y,xs,r,o,es,ep,h1,h2,h3,h4,h5⟩:=(show ObjOk X.prog X.w H1 s1.heap a (.dT kvs) from I1.hok a _ hq)
 have hz:es.size=kvs.length:=by rw[size_of_entries h4,KT.len r]
 have hne:∀b ys,H1 b=some (.tup ys)->upd H1 a (.frz o (.dT kvs)) b=some (.tup ys):=fun b ys e=>by
  have hb:b≠a:=fun z=>by rw[z,hq]at e;cases e
  rw[aK hb];exact e
 have new:ObjOk X.prog X.w (upd H1 a (.frz o (.dT kvs))) s1.heap a (.frz o (.dT kvs)):=⟨h1,z,y,xs,KT.keeps r hne,o,es,ep,h1,h2,h3,h4,h5⟩
 have I2:Inv X pins σ (upd H1 a (.frz o (.dT kvs))) s1:=I1.freeze trivial hq h1 new;refine zB y h1 h2 h3 ?_;refine⟨s1.heap.objs.size,[s1.heap.objs.size],_,_,upd H1 a (.frz o (.dT kvs)),rfl,I2.kept (t':=s1.toks) fun b o e=>Heap.get?_push_of_some _ e,NH a _ kvs h3 hz,⟨_,Heap.get?_push_size _ rfl,rfl,rfl⟩,fun b hb=> ?_,q o⟩;have e:b=s1.heap.objs.size:=by simpa using hb
 subst e;exact I2.fpOk (Nat.le_refl _) (I2.hok.fresh (Nat.le_refl _))
end
end L2
namespace L2
open PySem PySem.W PyProof.Rows
section
variable {X:Cx}{e c:Expr}{te:TE}{lo hi:Option Expr}{tl th ts:TO}{pos p2:Pos}
end
def pO:V->Bool
 | .ref _=>true
 | x=>jX x
section
variable {X:Cx}
end
section
variable {X:Cx}{pins:List (Addr×Obj)}{σ:St}{H:Hp}{s:Shared}
end
section
variable {X:Cx}
end
end L2
namespace L2
open PySem PySem.W PyProof.Rows
section
variable {K:PySem.W.Frag}{ti:TT}{te:TE}{σ:St}{ci:List Nat}{rest:St}{fin:List V->Hp->Prop}{H:Hp}{a:Addr}
end
end L2
namespace L2
open PySem PySem.W PyProof.Rows
theorem D0:bootBuiltins "sorted" =some (.builtin "sorted"):=by decide +kernel
theorem Room.units1 {k:Nat}{A:Around} (r:Room k A):A.units+1<cLine:=by have:=r.un;lia
section
variable {K:PySem.W.Frag}{H:Hp}{Q:VK}
end
section
variable {H:Hp}{Q:VK}{σ:St}
theorem SH (h:∀p H',H p=none->Same H H'->H' p=some (.dT [])->Q (.ref p) H'):Q8 σ H Q:=iD h
end
end L2
namespace L2
open PySem PySem.W PyProof.Rows
section
variable {X:Cx}{K:PySem.W.Frag}
theorem lN {es:List Expr}{k:Nat}{t:TGs}{n:Nat}{pos:Pos} (hc:X.calm=true) (h:PGs X es t) (hK:X.K=K:=by rfl)
  (hn:(assignEach es X.env).length=n:=by rfl)(hst:(assignEach es X.env).findIdx? (·.1)=none:=by rfl):PG X (.Tuple es k pos) (GM K n t):=by
 subst hK;exact l7 hc h hn hst
theorem fZ (hK:X.K=K:=by rfl):IxR X (UX K):=by
 subst hK;exact b9
end
def NC (nx:St->Hp->Prop)(σ:St)(x v:V):VK:=fun y H3=>∃a H4,x= .ref a/\DPut H3 a y v H4/\nx σ H4
def NK (Q:VK)(x:V):VK:=fun y H2=>∃a v,x= .ref a/\DGet H2 a y (some v)/\Q v H2
def VZ (R:It->Hp->Prop):VK:=fun x H1=>∃a kvs,x= .ref a/\H1 a=some (.dT kvs)/\∀o,R (Itq a o kvs) (upd H1 a (.frz o (.dT kvs)))
section
variable {K:PySem.W.Frag}{H:Hp}{Q:VK}{σ:St}{nx rt bk ct:St->Hp->Prop}
theorem W4 {td ty tv:TE}{nx:St->Hp->Prop}{rt:VK}{bk ct:St->Hp->Prop} (h:tv σ H fun v H1=>td σ H1 fun x H2=>ty σ H2 (NC nx σ x v)):VV td ty tv ⟨nx,rt,bk,ct⟩ σ H:=h
theorem GY {p b:Addr}{v:V}{kvs:List (List Key×V)} (k:List Key) (e:H p=some (.dT kvs)) (eb:H b=some (.tup (k.map kV))) (hl:kvs.length<sizeLine)
  (h:∀H',SameBut p H H'->H' p=some (.dT (c5 kvs k v))->nx σ H'):NC nx σ (.ref p) v (.ref b) H :=
 ⟨p,_,rfl,DPut.t e eb hl,h _ SameBut.upd aZ⟩
theorem XR {td ty:TE}(h:td σ H fun x H1=>ty σ H1 (NK Q x)):VN td ty σ H Q:=h
theorem uR {p b:Addr}{v:V}{kvs:List (List Key×V)} (k:List Key) (e:Rd H p (.dT kvs)) (eb:H b=some (.tup (k.map kV))) (hv:bM kvs k=some v) (h:Q v H):NK Q (.ref p) (.ref b) H :=
 ⟨p,v,rfl,.inr ⟨kvs,k,b,e,rfl,eb,hv.symm⟩,h⟩
theorem TF {td:TE}{R:It->Hp->Prop} (h:td σ H (VZ R)):O2 td σ H R:=h
theorem UQ {p:Addr}{kvs:List (List Key×V)}{R:It->Hp->Prop} (e:H p=some (.dT kvs)) (h:∀o H',SameBut p H H'->H' p=some (.frz o (.dT kvs))->R (Itq p o kvs) H'):VZ R (.ref p) H :=
 ⟨p,kvs,rfl,e,fun o=>h o _ SameBut.upd aZ⟩
theorem A2 {p:Addr}{xs:List V}{i:Int} (e:SqL K H p xs) (h0:0<=i) (h1:i<xs.length) (h:∀v∈xs,Q v H):N8 K (.ref p) (.int i) H Q:=by
 have hl:i.toNat<xs.length:=by lia
 have e1:=d7 (xs:=xs) (j:=i.toNat) (v:=xs[i.toNat]) (List.getElem?_eq_getElem hl);rw[show ((i.toNat:Nat):Int)=i by lia]at e1;exact⟨p,xs,i,_,rfl,rfl,e,e1,h _ (List.getElem_mem hl)⟩
end
end L2
namespace L2
open PySem PySem.W PyProof.Rows
theorem CU {P:Program}{w:World}{k:Key}{u:Value} (h:(bZ P w).is k u=true):RelV (kV k) u:=by
 rcases c7 h with⟨i,t,rfl,rfl⟩|⟨x,t,rfl,rfl⟩
 ·exact⟨t,rfl⟩
 ·exact⟨t,rfl⟩
theorem IU {κ:Type}{kvs:List (κ×V)}{vs:List (κ×Value)}{i:Nat} (h:KV kvs vs) (hi:i<kvs.length):∃k v u,kvs[i]? =some (k,v)/\vs[i]? =some (k,u)/\RelV v u:=by
 induction h generalizing i with
 | nil=>exact absurd hi (Nat.not_lt_zero _)
 | @cons x y l m h t ih =>
  cases i with
  | zero=>exact⟨x.1,x.2,y.2,rfl,by rw[h.1];rfl,h.2⟩
  | succ i=>exact ih (Nat.lt_of_succ_lt_succ hi)
theorem ER {P:Program}{w:World}{κ:Type} [DecidableEq κ] {knd:KeyKind P w κ}:∀{es:List DictEntry}{kvs:List (κ×Value)}{i:Nat}{k:κ}{u:Value},Pairs knd es kvs->kvs[i]? =some (k,u)->∃e,es[i]? =some e/\knd.is k e.key=true/\e.val=u
 | _,_,0,_,_,.cons h1 h2 _,z=>by cases z;exact⟨_,rfl,h1,h2⟩
 | _,_,i+1,_,_,.cons _ _ t,z=>by
  obtain⟨e,e1,e2⟩:=ER (i:=i) t (by simpa using z);exact⟨e,by simpa using e1,e2⟩
 | _,_,_,_,_,.nil,z=>by simp at z
theorem MW {P:Program}{w:World}{K:PySem.W.Frag}{tg:Expr} (a it:Addr) {o:Obj}{es:Array DictEntry}{ep:Nat} (kvs:List (Key×V)) (hd:o.data= .dict es ep) (hz:es.size=kvs.length) :
  v8 P w K tg (Itk a o kvs) [it] it (fun i h=>h.IsKeyIter it a i es.size ep) where
 mem:=by simp
 obj:=fun i h st b hb=>by
  have e:b=it:=by simpa using hb
  subst e;obtain⟨ob,e,c,d⟩:=st;exact⟨ob,e,fun v z=>by rw[d]at z;cases z⟩
 keep:=fun i h h' st k=>st.at fun ob e=>k it (by simp) ob e
 item:=by
  intro X hP hw hK hc i pins s σ H E I hf st hg;subst hP hw hK;obtain⟨ha,hi⟩:=hg;obtain⟨ho,z,y,vs,r,o',es',ep',h1,h2,h3,h4,h5,h6⟩:=(show ObjOk X.prog X.w H s.heap a (.frz o (.dK kvs)) from I.hok a _ ha)
  rw[ho]at h1;cases h1;rw[hd]at h3;cases h3;obtain⟨k,v,u,e1,e2,e3⟩:=IU r hi;obtain⟨e,f6,f7,f8⟩:=ER h5 e2;obtain⟨f0,f1,f2,f3,f4,f5⟩:=hf it (by simp);refine IG st ho hd (e:=e) (by simpa using f6) fun h' st' sb=> ?_;have I1:Inv X pins σ H { s with heap:=h' }:=I.turned (t':=s.toks) (fun b o hb e=>(sb.2 b hb).trans e) f0 f1 f3 f4 f5;exact⟨_,rfl,letGo_keyiter (s':={ s with heap:=h' }) st' ⟨kV k,H,I1,CU f7,⟨rfl,k,v,e1,rfl⟩,st',fun b hb=>(hf b hb).1⟩⟩
 done:=by
  intro X hP hw hK hc i pins s σ H E I hf st hg;subst hP hw hK;obtain⟨ha,hi⟩:=hg;obtain⟨ho,hok⟩:=(show ObjOk X.prog X.w H s.heap a (.frz o (.dK kvs)) from I.hok a _ ha)
  obtain⟨f0,f1,f2,f3,f4,f5⟩:=hf it (by simp);exact MC (I.ok.hd hc) st ho hd (by lia) fun h' eb=>⟨rfl,I.turned (t':=s.toks) (fun b o hb e=>eb b o hb e) f0 f1 f3 f4 f5⟩
 self:=fun _ _ _ _ _ st h=>wpAny_pyIter_keyiter st h
def Q4 (td:TE):TI:=fun σ H R=>td σ H fun x H1=>∃a kvs,x= .ref a/\H1 a=some (.dK kvs)/\∀o,R (Itk a o kvs) (upd H1 a (.frz o (.dK kvs)))
section
variable {X:Cx}{tg:Expr}
theorem zF {l:Expr}{td:TE} (hl:PE X l td):PI X tg l (Q4 td):=by
 intro pins s σ H R I h;refine thn (hl pins s σ H _ I h) fun v s1 ⟨x,H1,I1,r1,q1⟩=> ?_;obtain⟨a,kvs,rfl,hq,q⟩:=q1;cases r1;obtain⟨z,y,vs,r,o,es,ep,h1,h2,h3,h4,h5,h6⟩:=(show ObjOk X.prog X.w H1 s1.heap a (.dK kvs) from I1.hok a _ hq)
 have hz:es.size=kvs.length:=by rw[r.length,←h5.length];simp
 have new:ObjOk X.prog X.w (upd H1 a (.frz o (.dK kvs))) s1.heap a (.frz o (.dK kvs)):=⟨h1,z,y,vs,r,o,es,ep,h1,h2,h3,h4,h5,h6⟩
 have I2:Inv X pins σ (upd H1 a (.frz o (.dK kvs))) s1:=I1.freeze trivial hq h1 new;refine zB y h1 h2 h3 ?_;refine⟨s1.heap.objs.size,[s1.heap.objs.size],_,_,upd H1 a (.frz o (.dK kvs)),rfl,I2.kept (t':=s1.toks) fun b o e=>Heap.get?_push_of_some _ e,MW a _ kvs h3 hz,⟨_,Heap.get?_push_size _ rfl,rfl,rfl⟩,fun b hb=> ?_,q o⟩;have e:b=s1.heap.objs.size:=by simpa using hb
 subst e;exact I2.fpOk (Nat.le_refl _) (I2.hok.fresh (Nat.le_refl _))
end
section
variable {X:Cx}
end
end L2
namespace L2
open PySem PySem.W PyProof.Rows
section
variable {X:Cx}{pins:List (Addr×Obj)}{σ:St}{H:Hp}{s:Shared}{a:Addr}{o:Obj}{u:HO}
theorem Inv.thaw (I:Inv X pins σ H s)(h0:∀o u,X.H₀ a≠some (.frz o u))(e:H a=some (.frz o u)):Inv X pins σ (upd H a u) s:=by
 have nn:∀b,H b=none->b≠a:=fun b n z=>by rw[z,e]at n;cases n
 have no:∀b c,H b=some (.own c)->b≠a:=fun b c n z=>by rw[z,e]at n;cases n
 have nt:∀b xs,H b=some (.tup xs)->b≠a:=fun b c n z=>by rw[z,e]at n;cases n
 refine⟨I.ok,I.os,I.bare,⟨I.base.keep,I.base.slot,fun b ob q n hx=> ?_,I.base.there,fun b xs q=> ?_,fun b ob xs q=> ?_,fun b ps q=> ?_⟩,I.loc,I.cell,?_,fun x c ec=> ?_,fun p hp=> ?_,fun b v q=> ?_,I.len⟩
 ·have z:=I.base.free b ob q n hx;rw[aK (nn b z)];exact z
 ·have z:=I.base.tups b xs q;rw[aK (nt b xs z)];exact z
 ·have z:=I.base.frzs b ob xs q;have hb:b≠a:=fun y=>h0 ob xs (by rw[←y];exact q);rw[aK hb];exact z
 ·obtain⟨more,z⟩:=I.base.tbls b ps q;refine⟨more,?_⟩;rw[aK (fun y=>by rw[y,e]at z;cases z)];exact z
 ·rw[aK (nn _ I.free)];exact I.free
 ·rw[aK (nn _ (I.freeC x c ec))];exact I.freeC x c ec
 ·obtain⟨p1,p2,p3⟩:=I.pin p hp;exact⟨p1,by rw[aK (nn _ p2)];exact p2,p3⟩
 ·have so:∀b c,H b=some (.own c)->upd H a u b=some (.own c):=fun b c z=>by rw[aK (no b c z)];exact z
  have st:∀b xs,H b=some (.tup xs)->upd H a u b=some (.tup xs):=fun b c z=>by rw[aK (nt b c z)];exact z
  by_cases hb:b=a
  ·subst hb;rw[aZ]at q;cases q;obtain⟨_,z⟩:=(show ObjOk X.prog X.w H s.heap b (.frz o u) from I.hok b _ e)
   exact z.stay (fun _ _ _ q=>q) (fun c z=>so c b z) st
  ·rw[aK hb]at q;exact(I.hok b v q).stay (fun _ _ _ q=>q) (fun c z=>so c b z) st
theorem Inv.wasFree (I:Inv X pins σ H s)(h:∀o u,H a≠some (.frz o u)):∀o u,X.H₀ a≠some (.frz o u):=fun o u z=>h o u (I.base.frzs a o u z)
end
def jJ (a:Addr)(R:Hp->Prop):Hp->Prop:=fun H=>∃o u,H a=some (.frz o u)/\R (upd H a u)
def V6 (te:TE):TE:=fun σ H Q=>∃a,(∀o u,H a≠some (.frz o u))/\te σ H fun x=>jJ a (Q x)
def VG (ts:TS):TS:=fun D σ H=>∃a,(∀o u,H a≠some (.frz o u))/\ts ⟨fun σ'=>jJ a (D.nx σ'),fun v=>jJ a (D.rt v),fun σ'=>jJ a (D.bk σ'),fun σ'=>jJ a (D.ct σ')⟩ σ H
section
variable {X:Cx}
theorem CQ {e:Expr}{te:TE} (he:PE X e te):PE X e (V6 te):=by
 intro pins s σ H Q I h;obtain⟨a,h0,h⟩:=h;refine thn (he pins s σ H _ I h) fun v s1 ⟨x,H1,I1,r1,o,u,e,q⟩=> ?_;exact⟨x,_,I1.thaw (I.wasFree h0) e,r1,q⟩
theorem YO {st:Stmt}{ts:TS} (he:PS X st ts):PS X st (VG ts):=by
 intro pins s σ H D I h;obtain⟨a,h0,h⟩:=h;refine thn (he pins s σ H _ I h) fun f s1 z=> ?_;cases f with
 | next=>obtain⟨σ1,H1,I1,o,u,e,q⟩:=z;exact⟨σ1,_,I1.thaw (I.wasFree h0) e,q⟩
 | brk=>obtain⟨σ1,H1,I1,o,u,e,q⟩:=z;exact⟨σ1,_,I1.thaw (I.wasFree h0) e,q⟩
 | cont=>obtain⟨σ1,H1,I1,o,u,e,q⟩:=z;exact⟨σ1,_,I1.thaw (I.wasFree h0) e,q⟩
 | ret v=>obtain⟨x,σ1,H1,I1,r,o,u,e,q⟩:=z;exact⟨x,σ1,_,I1.thaw (I.wasFree h0) e,r,q⟩
end
end L2
namespace L2
open PySem PySem.W PyProof.Rows
theorem GI:∀bs:List Bool,((List.range bs.length).any fun i=>bs.getD i false)=bs.any id
 | []=>rfl
 | b::bs=>by
  rw[List.length_cons,List.range_succ_eq_map,List.any_cons,List.any_map,List.any_cons,←GI bs];rfl
section
variable {X:Cx}
def aAE (K:PySem.W.Frag):List V->Hp->VK->Prop:=fun xs H Q=>∃(p:Addr) (bs:List Bool),xs=[.ref p]/\SqL K H p (bs.map V.bl)/\Q (.bl (bs.any id)) H
theorem EK (hc:X.calm=true):dC X (.builtin "any") (aAE X.K):=by
 intro pins s σ H xs us Q I r h;obtain⟨p,bs,rfl,hq,q⟩:=h;obtain⟨u,rfl,rx⟩:=lU r;cases rx;obtain⟨its,r',pl,hz⟩:=I.list hq;have hl:=pl.isList;have hlt:p<s.heap.objs.size:=by obtain⟨_,e,_⟩:=hl;exact Heap.lt_size e
 have hlen:bs.length=its.length:=by have:=r'.length;rw[List.length_map]at this;exact this
 refine call_any_walk (wpAny_pyIter_list hl ?_);refine⟨s.heap.objs.size,_,_,its.toArray.size,_,_,fun i=>bs.getD i false,rfl,Walks.list (show X.A.in1.handled=none from I.ok.hd hc) s.heap.objs.size p (Nat.ne_of_lt hlt) its.toArray,⟨⟨_,Heap.get?_push_size _ rfl,rfl,rfl⟩,hl.push _⟩,?_,?_⟩
 ·intro i v s' Q' E' hi hQ;have hi':its[i]? =some v:=by simpa using hi
  have hib:i<bs.length:=by rw[hlen];exact(List.getElem?_eq_some_iff.mp hi').1
  obtain⟨u,hu,ru⟩:=r'.get (i:=i) (x:=V.bl bs[i]) (by rw[List.getElem?_map,List.getElem?_eq_getElem hib];rfl);rw[hi']at hu;cases hu;have:v=Value.bool bs[i]:=ru;subst this;refine wpAny_truthy_bool ?_;have eb:bs.getD i false=bs[i]:=by rw[List.getD_eq_getElem?_getD,List.getElem?_eq_getElem hib];rfl
  have hQ':Q' (bs.getD i false) s':=hQ;rw[eb]at hQ';exact hQ'
 ·intro h' tk hk;have eany:(List.range its.toArray.size).any (fun i=>bs.getD i false)=bs.any id:=by
   rw[List.size_toArray,←hlen];exact GI bs
  rw[eany];refine⟨.bl (bs.any id),H,?_,rfl,q⟩;have I1:Inv X pins σ H { s with heap:=s.heap.push { cls:= .type "list_iterator",data:= .fields #[.ref p,.int 0 0] },toks:=s.toks }:=I.kept fun b u e=>Heap.get?_push_of_some _ e;obtain⟨f0,f1,f2,f3,f4,f5⟩:=I.fpOk (Nat.le_refl _) (I.hok.fresh (Nat.le_refl _));exact I1.turned (fun b o hb e=>hk b o (by simpa using hb) e) f0 f1 f3 f4 f5
end
section
variable {K:PySem.W.Frag}{H:Hp}{Q:VK}
theorem QF {p:Addr}{bs:List Bool} (e:SqL K H p (bs.map V.bl)) (h:Q (.bl (bs.any id)) H):aAE K [.ref p] H Q:=⟨p,bs,rfl,e,h⟩
end
theorem QR:bootBuiltins "any" =some (.builtin "any"):=by decide +kernel
theorem P4:bootBuiltins "sum" =some (.builtin "sum"):=by decide +kernel
end L2
namespace L2
open PySem PySem.W PyProof.Rows
theorem W8:typeLookup (.type "list") "keys" =pure none:=by rw[typeLookup_type,builtinLookup_eq_fast];kernel_rfl
theorem X2:typeLookup (.type "list") "__getattr__" =pure none:=by rw[typeLookup_type,builtinLookup_eq_fast];kernel_rfl
theorem JB:isSubtype (.type "AttributeError") (.type "AttributeError")=pure true:=by rw[isSubtype_type];kernel_rfl
theorem TD:((Manifest.find? "AttributeError").elim false fun t=>t.mro.contains "StopIteration" ||t.mro.contains "SystemExit")=false:=by decide +kernel
section
variable {prog:Program}{w:World}{A:Around}{E:Value->Shared->Prop}{s:Shared}
theorem RY {α:Type}{v:Value}{a:Addr}{Q:α->Shared->Prop} (hh:A.handled=none)
  (k:∀e h' tk' o,h'.get? e=some o->o.cls= .type "AttributeError" ->(∀b o,s.heap.get? b=some o->h'.get? b=some o)->E (.ref e) { s with heap:=h',toks:=tk' }) :
  wpAny (model prog w) A (do
   let e ←newExc (.type "AttributeError") [v];let l ←mkText "keys"
   noteAttr e (.ref a) l
   raiseNew e) Q E s:=by
 unfold newExc newTuple;refine wpAny_bind (wpAny_bind (wpAny_newObj_type (wpAny_bind (m:=firstArgMember _ _) (wpAny_of_eq (a:=Value.none) (by simp only[firstArgMember,TD];rfl) (wpAny_newObj_type ?_ (by size_fits)))) (by size_fits)));refine wpAny_bind (wpAny_mkText ?_);refine wpAny_bind ?_;unfold noteAttr;refine wpAny_bind ?_;unfold lacksNameAndObj;have e1:(#[Value.ref s.heap.objs.size,.none,.none,.none,.bool false,.none]++ownMembersOf (.type "AttributeError") [v]:Array Value)= #[Value.ref s.heap.objs.size,.none,.none,.none,.bool false,.none,unsetMember,unsetMember]:=rfl;rw[e1];generalize hs:s.heap.push { cls:=Value.type "tuple",data:=Data.seq #[v] }=h1;have ho:(h1.push { cls:= .type "AttributeError",data:= .fields #[Value.ref s.heap.objs.size,.none,.none,.none,.bool false,.none,unsetMember,unsetMember] }).get? h1.objs.size=some { cls:= .type "AttributeError",data:= .fields #[Value.ref s.heap.objs.size,.none,.none,.none,.bool false,.none,unsetMember,unsetMember] }:=Heap.get?_push_size _ rfl;refine wpAny_bind (wpAny_isInstance (b:=true) (T:= "AttributeError") ⟨_,ho,rfl⟩ JB ?_);refine wpAny_bind (wpAny_load ho ?_);refine wpAny_pure ?_;refine wpAny_bind (wpAny_rule ?_);refine wpAny_bind (wpAny_typeOf (T:= "AttributeError") ⟨_,ho,rfl⟩ ?_);unfold layMembers;refine wpAny_bind (wpAny_load ho ?_);refine wpAny_update ho ?_;simp only[raiseNew];refine wpAny_bind (wpAny_handled ?_);rw[hh];refine wpAny_bind (wpAny_pure (wpAny_throw ?_));refine k h1.objs.size _ _ _ (Heap.get?_update_self _ ho (Obj.isFreed_of_fields (Obj.data_mapFields rfl _))) (Obj.cls_mapFields ..) fun b o e=> ?_;have hb:b≠h1.objs.size:=fun z=>by
  have h2:h1.objs.size=s.heap.objs.size+1:=by rw[←hs];simp[Heap.push]
  have h3:=Heap.lt_size e;rw[z,h2]at h3;exact absurd h3 (Nat.not_lt.mpr (Nat.le_succ _))
 exact(Heap.get?_update_other _ _ (Ne.symm hb)).trans (Heap.get?_push_of_some _ (by rw[←hs];exact Heap.get?_push_of_some _ e))
theorem OA {a:Addr}{its:Array Value}{n:Nat}{tk:Tok}{Q:Fin->Shared->Prop} (hh:A.handled=none) (hx:s.heap.get? a=some { cls:= .type "list",data:= .seq its n })
  (k:∀e h' tk' o,h'.get? e=some o->o.cls= .type "AttributeError" ->(∀b o,s.heap.get? b=some o->h'.get? b=some o)->E (.ref e) { s with heap:=h',toks:=tk' }) :
  wpAny (model prog w) A (Builtin.«object.__getattribute__» ⟨[.ref a,.str "keys" tk],[]⟩) Q E s:=by
 obtain⟨h,g,d,t,os⟩:=s;have hT:(⟨h,g,d,t,os⟩:Shared).TypeIs (.ref a) "list" :=⟨_,hx,rfl⟩
 have f4:=W8
 repeat (any_goals (first|assumption|wp_step))
 refine wpAny_bind (wpAny_mkStr ?_ (by rw[sizeLine_eq];decide +kernel));exact RY hh fun e h' tk' o e1 e2 e3=>k e h' tk' o e1 e2 e3
theorem QM {a:Addr}{its:Array Value}{n:Nat}{tk:Tok}{R:Result->Shared->Prop} (hh:A.handled=none) (hx:s.heap.get? a=some { cls:= .type "list",data:= .seq its n })
  (k:∀e h' tk' o,h'.get? e=some o->o.cls= .type "AttributeError" ->(∀b o,s.heap.get? b=some o->h'.get? b=some o)->R (.error (.ref e)) { s with heap:=h',toks:=tk' }) :
  codeAny (model prog w) A (.call (.builtin "list.__getattribute__") ⟨[.ref a,.str "keys" tk],[]⟩) R s:=by
 obtain⟨h,g,d,t,os⟩:=s;exact codeAny_call_builtin F.slot_list_getattribute.plain F.entry_list_ga (F.slot_list_getattribute.check _ _ _ _ _ _ _ _ (show (⟨h,g,d,t,os⟩:Shared).TypeIs (.ref a) "list" from⟨_,hx,rfl⟩) (F.args_list_getattribute_2 _ _) (OA hh hx k))
theorem YL {a:Addr}{its:Array Value}{n:Nat}{Q:Option Value->Shared->Prop} (hh:A.handled=none) (hx:s.heap.get? a=some { cls:= .type "list",data:= .seq its n })
  (k:∀h' tk',(∀b o,s.heap.get? b=some o->h'.get? b=some o)->Q none { s with heap:=h',toks:=tk' }):wpAny (model prog w) A (getAttr? (.ref a) "keys") Q E s:=by
 obtain⟨h,g,d,t,os⟩:=s;have hT:(⟨h,g,d,t,os⟩:Shared).TypeIs (.ref a) "list" :=⟨_,hx,rfl⟩
 have f2:=F.slot_list_getattribute.lookup;have f3:=F.slot_list_getattribute.bind (.ref a);unfold getAttr? getAttrBy?
 repeat (any_goals (first|assumption|wp_step))
 refine QM hh hx fun e h' tk' o e1 e2 e3=> ?_;have hE:(⟨h',g,d,tk',os⟩:Shared).TypeIs (.ref e) "AttributeError" :=⟨_,e1,e2⟩
 show wpAny (model prog w) A (getattributeRaised (Value.ref a) (Value.str (Str.ofString "keys") t) (.type "list") (.ref e) none false false) _ _ (⟨h',g,d,tk',os⟩:Shared);unfold getattributeRaised;refine wpAny_bind (wpAny_isInstance (b:=true) hE JB ?_);show wpAny (model prog w) A (typeLookup (.type "list") "__getattr__" >>= fun x=>hookOrError (Value.ref a) (Value.str (Str.ofString "keys") t) (.ref e) false false x) _ _ (⟨h',g,d,tk',os⟩:Shared);rw[X2];refine wpAny_bind (wpAny_pure ?_);refine wpAny_throw ?_;refine wpAny_bind (wpAny_isInstance (b:=true) hE JB ?_);exact wpAny_pure (k h' tk' e3)
end
end L2
namespace L2
open PySem PySem.W PyProof.Rows
theorem tG:entryFor table "dict.update.loop" =some Builtin.«dict.update.loop»:=entryFor_of_tree (by kernel_rfl)
theorem jW:plainId "dict.update.loop" =true:=by decide +kernel
def OY {κ:Type}[DecidableEq κ](kvs ps:List (κ×Value)):List (κ×Value):=ps.foldl (fun acc p=>stored acc p.1 p.2) kvs
theorem N5 {κ:Type}[DecidableEq κ](kvs:List (κ×Value))(k:κ)(v:Value):(stored kvs k v).length<=kvs.length+1:=by
 unfold stored
 split
 ·rw[List.length_map];exact Nat.le_succ _
 ·rw[List.length_append];exact Nat.le_refl _
section
variable {prog:Program}{w:World}{A:Around}{E:Value->Shared->Prop}{κ:Type} [DecidableEq κ] {knd:KeyKind prog w κ}{I d:Addr}{fp wr:List Addr}{n:Nat}{P:Nat->Value->Prop}{St:Nat->Heap->Prop}{R:Result->Shared->Prop}
def aCA (knd:KeyKind prog w κ)(d:Addr)(wr:List Addr)(P:Nat->Value->Prop)(ps:List (κ×Value))(h:Heap):Prop :=
 ∀i v,P i v->∃(q:Addr) (o:Obj) (key:Value) (k:κ) (u:Value) (c:Nat),v= .ref q/\q∉wr/\q≠d/\h.get? q=some o/\o.cls= .type "tuple" /\o.data= .seq #[key,u] c/\knd.is k key=true/\ps[i]? =some (k,u)
theorem UT (W:Walks prog w A.in1 I fp wr n P St)(hdf:d∉fp)(ps:List (κ×Value))(hn:ps.length=n)(hsz:n<=sizeLine) :
  ∀(k i:Nat) (s:Shared) (kvs:List (κ×Value)),n - i=k->i<=n->St i s.heap->kvs.length<=i->s.heap.DictOf knd d kvs->aCA knd d wr P ps s.heap →
  (∀h' tk,h'.DictOf knd d (OY kvs (ps.drop i))->(∀b o,b∉wr->b≠d->s.heap.get? b=some o->h'.get? b=some o)->R (.ok (.ret .none)) { s with heap:=h',toks:=tk }) →
  codeAny (model prog w) A (.builtin "dict.update.loop" ⟨[.ref d,.ref I,rawInt i,.none],[]⟩) R s:=by
 have hdw:d∉wr:=fun h=>hdf (W.sub _ h);intro k
 induction k with
 | zero =>
  intro i s kvs hk hi hst hl hd hrow hR;have hin:i=n:=by lia
  subst hin;refine codeAny_builtin tG ?_;rw[Around.under_plainId jW _];show wpAny _ A.in1 (pyNext (.ref I) >>= _) _ _ s;refine wpAny_bind (W.done s _ _ hst fun h' tk hk'=> ?_);show wpAny _ _ (Builtin.Dict.addKeywords d [] >>= _) _ _ _;refine wpAny_bind (wpAny_pure (wpAny_pure (hR h' tk ?_ fun b o hb _ e=>hk' b o hb e)));rw[List.drop_of_length_le (by lia)];exact hd.at fun o e=>hk' d o hdw e
 | succ k ih =>
  intro i s kvs hk hi hst hl hd hrow hR;have hlt:i<n:=by lia
  refine codeAny_builtin tG ?_;rw[Around.under_plainId jW _];show wpAny _ A.in1 (pyNext (.ref I) >>= _) _ _ s;refine wpAny_bind (W.item i s _ _ hlt hst fun v h' tk hP hst' hk'=> ?_);obtain⟨q,o,key,kk,u,c,rfl,hqw,hqd,ho,hc,hdt,his,hps⟩:=hrow i v hP;have ho':=hk' q o hqw ho;refine wpAny_bind (wpAny_holding (wpAny_bind (wpAny_tryCatch ?_)));unfold Builtin.Dict.pairItems;refine wpAny_bind (wpAny_typeOf (T:= "tuple") ⟨o,ho',hc⟩ ?_);rw[if_pos (by rfl)];refine wpAny_bind (wpAny_seqItems ho' hdt (wpAny_pure ?_));have hd':h'.DictOf knd d kvs:=hd.at fun o e=>hk' d o hdw e;refine wpAny_holding (wpAny_dictSet_pairs his hd' (fun h2 hd2 sb=> ?_) (by lia));have keep:∀b o,b∉wr->b≠d->s.heap.get? b=some o->h2.get? b=some o:=fun b o hb hbd e=>(sb.2 b hbd).trans (hk' b o hb e);refine wpAny_pure ⟨plainId_quiet jW _,ih (i+1) _ (stored kvs kk u) (by lia) hlt (W.frame _ _ _ hst' fun b hb o e=>(sb.2 b (fun z=>hdf (z▸hb))).trans e) (Nat.le_trans (N5 ..) (by lia)) hd2 (fun j v hj=> ?_) fun h3 tk3 hd3 hk3=> ?_⟩
  ·obtain⟨q,o,key,kk,u,c,e1,e2,e3,e4,e5⟩:=hrow j v hj;exact⟨q,o,key,kk,u,c,e1,e2,e3,keep q o e2 e3 e4,e5⟩
  ·refine hR h3 tk3 ?_ fun b o hb hbd e=>hk3 b o hb hbd (keep b o hb hbd e);have ed:ps.drop i=(kk,u)::ps.drop (i+1):=by
    have hi2:i<ps.length:=by lia
    rw[List.drop_eq_getElem_cons hi2];have:=(List.getElem?_eq_some_iff.mp hps).2;rw[this]
   rw[ed];exact hd3
end
end L2
namespace L2
open PySem PySem.W PyProof.Rows
section
variable {prog:Program}{w:World}{A:Around}{E:Value->Shared->Prop}{κ:Type} [DecidableEq κ] {knd:KeyKind prog w κ}{s:Shared}{l:Addr}{its:Array Value}{c:Nat}
theorem PH {ps:List (κ×Value)}{Q:Value->Shared->Prop} (hh:A.handled=none) (hl:s.heap.get? l=some { cls:= .type "list",data:= .seq its c }) (hsz:its.size<=sizeLine) (hlen:ps.length=its.size)
  (hrow:∀(i:Nat) (v:Value),its[i]? =some v->∃(q:Addr) (o:Obj) (key:Value) (k:κ) (u:Value) (c:Nat),v= .ref q/\s.heap.get? q=some o/\o.cls= .type "tuple" /\o.data= .seq #[key,u] c/\knd.is k key=true/\ps[i]? =some (k,u))
  (h:∀h' tk,h'.DictOf knd s.heap.objs.size (OY [] ps)->(∀b o,s.heap.get? b=some o->h'.get? b=some o)->Q (.ref s.heap.objs.size) { s with heap:=h',toks:=tk }) :
  wpAny (model prog w) A (call (.type "dict") [.ref l]) Q E s:=by
 refine callType_codes (Q₁:=fun obj s₁=>obj= .ref s.heap.objs.size/\s₁={ s with heap:=s.heap.push { cls:= .type "dict",data:= .dict #[] } }) F.kt_called_dict (F.kt_typeCall_dict_1 _) F.entry_dict_init (kt_code_dict_new _ ⟨rfl,rfl⟩) ?_;rintro obj s₁ ⟨rfl,rfl⟩;have hnew:(s.heap.push { cls:= .type "dict",data:= .dict #[] }).DictOf knd s.heap.objs.size []:=Heap.DictOf.new s.heap;have hl':(s.heap.push { cls:= .type "dict",data:= .dict #[] }).get? l=some { cls:= .type "list",data:= .seq its c }:=Heap.get?_push_of_some _ hl;refine⟨hnew.typeIs,F.args_dict_init_2 _ _,?_⟩;unfold Builtin.«dict.__init__»;refine wpAny_bind ?_;unfold Builtin.Dict.selfAndRest;refine wpAny_bind (wpAny_notOrdered_dict hnew.typeIs ?_);show wpAny _ _ (pure (s.heap.objs.size,[Value.ref l])) _ _ _;refine wpAny_pure ?_;show wpAny _ _ (Builtin.Dict.updateFrom "dict.__init__" s.heap.objs.size (.ref l) [] .none) _ _ _;unfold Builtin.Dict.updateFrom;refine wpAny_bind (wpAny_typeOf (T:= "list") ⟨_,hl',rfl⟩ ?_);rw[if_pos (by decide)];refine wpAny_bind (YL hh hl' fun h1 t1 kp1=> ?_);rw[if_pos (show (none:Option Value).isNone=true from rfl)];refine wpAny_bind (wpAny_rule ?_);have hl1:=kp1 _ _ hl';have isl:h1.IsList l its:=⟨_,hl1,rfl,_,rfl⟩
 have lt1:∀b o,s.heap.get? b=some o->b≠h1.objs.size:=fun b o e z=>by
  have:=Heap.lt_size (kp1 b o (Heap.get?_push_of_some _ e));rw[z]at this;exact Nat.lt_irrefl _ this
 have hdI:s.heap.objs.size≠h1.objs.size:=fun z=>by
  have:=Heap.lt_size (kp1 _ _ (Heap.get?_push_size s.heap (o:={ cls:= .type "dict",data:= .dict #[] }) rfl));rw[z]at this;exact Nat.lt_irrefl _ this
 have hdl:∀b o,s.heap.get? b=some o->b≠s.heap.objs.size:=fun b o e z=>by
  have:=Heap.lt_size e;rw[z]at this;exact Nat.lt_irrefl _ this
 refine wpAny_bind (wpAny_pyIter_list isl ?_);refine wpAny_pure ⟨plainId_quiet jW _,?_⟩;have W:=Walks.list (prog:=prog) (w:=w) (A:=A.in1.in1) hh h1.objs.size l (lt1 _ _ hl) its;refine UT (knd:=knd) W (by simp only[List.mem_cons,List.not_mem_nil,or_false,not_or];exact⟨hdI,Ne.symm (hdl _ _ hl)⟩) ps hlen hsz its.size 0 _ [] (Nat.sub_zero _) (Nat.zero_le _) ⟨⟨_,Heap.get?_push_size _ rfl,rfl,rfl⟩,isl.push _⟩ (Nat.le_refl _) ((hnew.at fun o e=>kp1 _ o e).push _) (fun i v hi=> ?_) fun h' tk hd hk=> ?_
 ·obtain⟨q,o,key,k,u,c',e1,e2,e3,e4,e5,e6⟩:=hrow i v hi;refine⟨q,o,key,k,u,c',e1,?_,hdl _ _ e2,Heap.get?_push_of_some _ (kp1 _ _ (Heap.get?_push_of_some _ e2)),e3,e4,e5,e6⟩;simp only[List.mem_cons,List.not_mem_nil,or_false];exact lt1 _ _ e2
 ·refine⟨rfl,h h' tk hd fun b o e=>hk b o ?_ (hdl _ _ e) (Heap.get?_push_of_some _ (kp1 _ _ (Heap.get?_push_of_some _ e)))⟩;simp only[List.mem_cons,List.not_mem_nil,or_false];exact lt1 _ _ e
end
end L2
namespace L2
open PySem PySem.W PyProof.Rows
abbrev A7 (H:Hp):List V->List (Key×V)->Prop:=Paired fun v p=>∃q,v= .ref q/\H q=some (.tup [kV p.1,p.2])
section
variable {X:Cx}{pins:List (Addr×Obj)}{σ:St}{H:Hp}{s:Shared}
theorem TX (I:Inv X pins σ H s){q:Addr}{k:Key}{x:V} (e:H q=some (.tup [kV k,x])):∃(o:Obj) (key u:Value) (n:Nat),s.heap.get? q=some o/\o.cls= .type "tuple" /\o.data= .seq #[key,u] n/\(bZ X.prog X.w).is k key=true/\RelV x u:=by
 obtain⟨_,us,r,o,h1,h2,n,h3⟩:=(show ObjOk X.prog X.w H s.heap q (.tup [kV k,x]) from I.hok q _ e)
 cases r with
 | @cons _ key _ _ r1 r =>
  cases r with
  | @cons _ u _ _ r2 r =>
   cases r;exact⟨o,key,u,n,h1,h2,h3,u4 r1,r2⟩
theorem A9 (I:Inv X pins σ H s):∀{vs:List V}{ps:List (Key×V)}{us:List Value},A7 H vs ps->Vals vs us →
  ∃rs:List (Key×Value),KV ps rs/\rs.length=us.length/\∀(i:Nat) (v:Value),us[i]? =some v->∃(q:Addr) (o:Obj) (key:Value) (k:Key) (u:Value) (c:Nat),v= .ref q/\s.heap.get? q=some o/\o.cls= .type "tuple" /\o.data= .seq #[key,u] c/\(bZ X.prog X.w).is k key=true/\rs[i]? =some (k,u)
 | _,_,_,.nil,.nil=>⟨[],.nil,rfl,fun i v z=>by simp at z⟩
 | _::_,(k,x)::_,_::us,.cons ⟨q,e,hq⟩ t,.cons r rt=>by
  obtain⟨rs,h1,h2,h3⟩:=A9 I t rt;obtain⟨o,key,u,n,o1,o2,o3,o4,o5⟩:=TX I hq;subst e;cases r;refine⟨(k,u)::rs,.cons ⟨rfl,o5⟩ h1,by simp[h2],fun i v z=> ?_⟩;cases i with
  | zero=>cases z;exact⟨q,o,key,k,u,n,rfl,o1,o2,o3,o4,rfl⟩
  | succ i =>
   obtain⟨q,o,key,k,u,c,w1⟩:=h3 i v (by simpa using z);exact⟨q,o,key,k,u,c,by simpa using w1⟩
def OR:List V->Hp->VK->Prop:=fun xs H Q=>∃p vs ps,xs=[.ref p]/\Rd H p (.lst vs)/\A7 H vs ps/\∀l,H l=none->Q (.ref l) (upd H l (.dK (lX [] ps)))
theorem uW (hc:X.calm=true):dC X (.type "dict") OR:=by
 intro pins s σ H xs us Q I r h;obtain⟨p,vs,ps,rfl,hq,pr,q⟩:=h;obtain⟨u,rfl,rx⟩:=lU r;cases rx;obtain⟨z,its,n,rv,e⟩:=(show ObjOk X.prog X.w H s.heap p (.lst vs) from hq.ok I.hok)
 obtain⟨rs,h1,h2,h3⟩:=A9 I pr rv;have hl:=rv.length;have hlp:=h1.length;refine PH (knd:=bZ X.prog X.w) (ps:=rs) (I.ok.hd hc) e (by rw[List.size_toArray];lia) (by rw[List.size_toArray];exact h2) (fun i v hv=>h3 i v (by simpa using hv)) fun h' tk hd kp=> ?_;have lm:(lX [] ps).length<=sizeLine:=Nat.le_trans (vE ps []) (by simp;lia);have nm:(s.heap.objs.size==sysModules)=false:=by
  have:=I.big;simp only[beq_eq_false_iff_ne];exact fun z=>by rw[z]at this;exact Nat.lt_irrefl _ this
 exact⟨.ref _,_,I.laid (t':=tk) kp (Nat.le_refl _) (P0 lm nm (KV.merge h1 .nil) hd),rfl,q _ (I.hok.fresh (Nat.le_refl _))⟩
end
end L2
namespace L2
open PySem PySem.W PyProof.Rows
section
variable {prog:Program}{w:World}{A:Around}{E:Value->Shared->Prop}{s:Shared}{d it:Addr}{o:Obj}{es:Array DictEntry}{ep i:Nat}{k0 v0:Value}
end
end L2
namespace L2
open PySem PySem.W PyProof.Rows
section
variable {prog:Program}{w:World}{A:Around}{E:Value->Shared->Prop}{s:Shared}{d it:Addr}{o:Obj}{es:Array DictEntry}{ep i:Nat}
end
section
variable {X:Cx}
end
end L2
namespace L2
open PySem PySem.W PyProof.Rows
section
variable (r:Nat->Int)
variable {r}{p:Array Nat}
end
end L2
namespace L2
open PySem PySem.W PyProof.Rows
section
variable {r:Nat->Int}{p:Array Nat}
end
end L2
namespace L2
open PySem PySem.W PyProof.Rows
section
variable {α:Type}{lt:α->α->Bool}{l:List α}{d:α}
theorem HY (c:Nat->Nat->Bool):(dR d c l).Perm l:=by
 unfold dR
 split
 ·exact List.Perm.refl _
 ·have h:=Array.perm_iff_toList_perm.mp (kK (n:=l.length) c (by lia));refine(h.map fun i=>l.getD i d).trans ?_;have e:((List.range l.length).toArray.toList.map fun i=>l.getD i d)=l:=by
   apply List.ext_getElem?
   intro i
   by_cases hi:i<l.length
   ·simp[hi,List.getD_eq_getElem?_getD]
   ·simp[hi]
  rw[e]
end
end L2
namespace L2
open PySem PySem.W PyProof.Rows
section
variable {X:Cx}
end
def AZ (rs:List (List Key)):List (List Key):=dR [] (l9 rs) rs
theorem M6 (rs:List (List Key)):(AZ rs).Perm rs:=HY _
theorem AU {H:Hp}{vs:List V}{rs:List (List Key)} (k:KRows H vs rs):KRows H (t7 rs vs) (AZ rs):=by
 have hl:vs.length=rs.length:=Paired.length k;unfold t7 AZ dR;rw[hl]
 split
 ·exact k
 ·have hp:=kK (n:=rs.length) (l9 rs) (by lia);have hm:∀i∈(jN (l9 rs) (kas_sort rs.length)).toList,i<rs.length:=fun i hi=>by
   have h:=hp.mem_iff.mp (Array.mem_toList_iff.mp hi)
   simpa using h
  revert hm;generalize (jN (l9 rs) (kas_sort rs.length)).toList=l;intro hm
  induction l with
  | nil=>exact .nil
  | cons i l ih =>
   refine .cons ?_ (ih fun j hj=>hm j (List.mem_cons_of_mem _ hj));have hi:=hm i (.head _);obtain⟨p,r,e1,e2,e3⟩:=k.get (i:=i) (v:=vs.getD i .non) (by rw[List.getD_eq_getElem?_getD,List.getElem?_eq_getElem (by lia)];rfl);refine⟨p,e1,?_⟩;show H p=some (.tup ((rs.getD i []).map kV));rw[List.getD_eq_getElem?_getD,e2];exact e3
end L2
namespace L2
open PySem PySem.W PyProof.Rows
section
variable {X:Cx}{pins:List (Addr×Obj)}{σ:St}{H:Hp}{s:Shared}
end
end L2
namespace L2
open PySem PySem.W PyProof.Rows
section
variable {X:Cx}
end
end L2
namespace L2
open PySem PySem.W PyProof.Rows
theorem Paired.snoc {α β:Type}{F:α->β->Prop}:∀{l:List α}{m:List β}{a:α}{b:β},Paired F l m->F a b->Paired F (l++[a]) (m++[b])
 | _,_,_,_,.nil,h=> .cons h .nil
 | _,_,_,_,.cons r t,h=> .cons r (Paired.snoc t h)
theorem Paired.at2 {α β:Type}{F:α->β->Prop}:∀{l:List α}{m:List β}{i:Nat}{a:α}{b:β},Paired F l m->l[i]? =some a->m[i]? =some b->F a b
 | _,_,0,_,_,.cons r _,h1,h2=>by cases h1;cases h2;exact r
 | _,_,i+1,_,_,.cons _ t,h1,h2=>Paired.at2 (i:=i) t (by simpa using h1) (by simpa using h2)
 | _,_,_,_,_,.nil,h1,_=>by simp at h1
theorem qN {α:Type}{J:It}{g:TG}{ti:TT}{te:TE}{σ0:St}{fin:List V->Hp->Prop}{H:Hp} (xs:List α) (c:α->Bool) (P:α->V->Hp->Prop) (hm:∀x y H1 H2,P x y H1->Same H1 H2->P x y H2) (hn:xs.length<=sizeLine)
  (hgo:∀i H1,Same H H1->i<xs.length->J.go i H1)(hst:∀H1,Same H H1->J.stop xs.length H1)
  (hb:∀i x H1,xs[i]? =some x->Same H H1->∀v H',J.yld i H1 v H'->Same H1 H'/\∃σ2:St,σ2.length=σ0.length/\(∀(j:Nat) v,σ0[j]? =some (some v)->σ2[j]? =some (some v))/\(∀R:St->Hp->Prop,R σ2 H'->g v σ0 H' R) ∧
   (∀R:Bool->Hp->Prop,(∀H2,Same H' H2->R (c x) H2)->ti σ2 H' R)/\(c x=true->∀H2,Same H' H2->∀R:VK,(∀y H3,P x y H3->Same H2 H3->R y H3)->te σ2 H2 R))
  (hf:∀ys H1,Same H H1->Paired (fun x y=>P x y H1) (xs.filter c) ys->fin ys H1):fE J g ti te σ0 fin H:=by
 refine⟨fun i m ys H1=>i+m=xs.length/\Same H H1/\Paired (fun x y=>P x y H1) ((xs.take i).filter c) ys,⟨xs.length,by lia,Same.refl _,.nil⟩,?_⟩;rintro i m ys H1 ⟨e1,s1,pr⟩;cases m with
 | zero =>
  have ei:i=xs.length:=by lia
  subst ei;rw[List.take_length]at pr;exact .inl ⟨hst H1 s1,hf ys H1 s1 pr⟩
 | succ m =>
  have hi:i<xs.length:=by lia
  refine .inr ⟨hgo i H1 s1 hi,fun v H' y=> ?_⟩;have ex:xs[i]? =some xs[i]:=List.getElem?_eq_getElem hi;have etake:xs.take (i+1)=xs.take i++[xs[i]]:=by rw[List.take_succ,ex];rfl
  have hlen:ys.length<=i:=by
   rw[←Paired.length pr];exact Nat.le_trans (List.length_filter_le _ _) (by rw[List.length_take];lia)
  obtain⟨s2,σ2,l2,c2,hg,ht,he⟩:=hb i xs[i] H1 ex s1 v H' y;refine hg _ ⟨⟨l2,c2⟩,ht _ fun H2 s3=> ?_⟩;cases hc:c xs[i] with
  | true =>
   show te σ2 H2 _;refine he hc H2 s3 _ fun y H3 py s4=>⟨by lia,m,by lia,by lia,((s1.trans s2).trans s3).trans s4,?_⟩
   rw[etake,List.filter_append,List.filter_cons_of_pos hc];exact Paired.snoc (Paired.imp' (fun a b h=>hm a b _ _ h ((s2.trans s3).trans s4)) pr) py
  | false =>
   show ∃m',_;refine⟨m,by lia,by lia,(s1.trans s2).trans s3,?_⟩;rw[etake,List.filter_append,List.filter_cons_of_neg (by rw[hc];exact Bool.false_ne_true),List.filter_nil,List.append_nil];exact Paired.imp' (fun a b h=>hm a b _ _ h (s2.trans s3)) pr
section
variable {K:PySem.W.Frag}{ti:TT}{te:TE}{σ:St}{ci:List Nat}{rest:St}{fin:List V->Hp->Prop}{H:Hp}{a:Addr}
theorem aBG {n:Nat}(hr:ci.map (fun i=>(σ[i]?).join)=rest):bP n ci σ=List.replicate n none++rest:=by unfold bP;rw[hr]
theorem mS {α:Type}{vs:List V}{xs:List α} (f1 f2:α->V) (c:α->Bool) (P:α->V->Hp->Prop) (hm:∀x y H1 H2,P x y H1->Same H1 H2->P x y H2) (hn:xs.length<=sizeLine) (hr:ci.map (fun i=>(σ[i]?).join)=rest) (hl:SqL K H a vs)
  (hv:Paired (fun v x=>∃q,v= .ref q/\H q=some (.tup [f1 x,f2 x])) vs xs)
  (ht:∀x H1,x∈xs->Same H H1->∀R:Bool->Hp->Prop,(∀H2,Same H1 H2->R (c x) H2)->ti (some (f1 x)::some (f2 x)::rest) H1 R)
  (he:∀x H1,x∈xs->c x=true->Same H H1->∀R:VK,(∀y H2,P x y H2->Same H1 H2->R y H2)->te (some (f1 x)::some (f2 x)::rest) H1 R)
  (hf:∀ys H1,Same H H1->Paired (fun x y=>P x y H1) (xs.filter c) ys->fin ys H1):fE (Itl K a) (GM K 2 (xC (cJ 0) (xC (cJ 1) M9))) ti te (bP 2 ci σ) fin H:=by
 have e0:bP 2 ci σ=none::none::rest:=aBG hr;rw[e0];have hlen:vs.length=xs.length:=Paired.length hv;refine qN xs c P hm hn (fun i H1 s hi=>⟨vs,vs[i],s.seq hl,List.getElem?_eq_getElem (by lia)⟩) (fun H1 s=>⟨vs,s.seq hl,by lia⟩) (fun i x H1 hx s1 v H' y=> ?_) hf;obtain⟨rfl,e2⟩:=y;have ev:=e2 vs (s1.seq hl);obtain⟨q,rfl,hq⟩:∃q,v= .ref q/\H q=some (.tup [f1 x,f2 x]):=Paired.at2 hv ev hx;have hmem:=List.mem_of_getElem? hx;refine⟨Same.refl _,some (f1 x)::some (f2 x)::rest,rfl,fun j v hv=> ?_,fun R h=>⟨q,[f1 x,f2 x],rfl,.inl (.inl (s1 _ _ hq)),rfl,f1 x,[f2 x],rfl,f2 x,[],rfl,rfl,h⟩,fun R h=>ht x _ hmem s1 R h,fun hc H2 s2 R h=>he x H2 hmem hc (s1.trans s2) R h⟩
 match j,hv with
 | 0,hv=>cases hv
 | 1,hv=>cases hv
 | j+2,hv=>exact hv
end
end L2
namespace L2
open PySem PySem.W PyProof.Rows
section
variable {K:PySem.W.Frag}{ti:TT}{te:TE}{σ:St}{ci:List Nat}{rest:St}{fin:List V->Hp->Prop}{H:Hp}{a:Addr}
theorem u3 {H:Hp}{q:Addr}{o:HO} (h:H q=none):Same H (upd H q o):=fun b u e=>by
 have:b≠q:=fun z=>by rw[z,h]at e;cases e
 rw[aK this];exact e
theorem QC {kvs:List (Key×V)}{o:Obj} (c:Key×V->Bool) (P:Key×V->V->Hp->Prop) (hm:∀x y H1 H2,P x y H1->Same H1 H2->P x y H2) (hn:kvs.length<=sizeLine) (hr:ci.map (fun i=>(σ[i]?).join)=rest) (h0:H a=some (.frz o (.dK kvs)))
  (ht:∀x H1,x∈kvs->Same H H1->∀R:Bool->Hp->Prop,(∀H2,Same H1 H2->R (c x) H2)->ti (some (kV x.1)::rest) H1 R)
  (he:∀x H1,x∈kvs->c x=true->Same H H1->∀R:VK,(∀y H2,P x y H2->Same H1 H2->R y H2)->te (some (kV x.1)::rest) H1 R)
  (hf:∀ys H1,Same H H1->Paired (fun x y=>P x y H1) (kvs.filter c) ys->fin ys H1):fE (Itk a o kvs) (cJ 0) ti te (bP 1 ci σ) fin H:=by
 rw[wH hr];refine qN kvs c P hm hn (fun i H1 s hi=>⟨s _ _ h0,hi⟩) (fun H1 s=>⟨s _ _ h0,Nat.le_refl _⟩) (fun i x H1 hx s1 v H' y=> ?_) hf;obtain⟨rfl,k,u,e2,rfl⟩:=y;rw[hx]at e2;cases e2;have hmem:=List.mem_of_getElem? hx;refine⟨Same.refl _,some (kV k)::rest,rfl,fun j v hv=> ?_,fun R h=>h,fun R h=>ht _ _ hmem s1 R h,fun hc H2 s2 R h=>he _ H2 hmem hc (s1.trans s2) R h⟩;cases j with
 | zero=>cases hv
 | succ j=>exact hv
end
section
variable {σ:St}{H:Hp}{g:TG}{tb:TS}{nx bk ct:St->Hp->Prop}{rt:VK}
theorem TH {p:Addr}{o:Obj} (kvs:List (Key×V)) (Pv:Nat->St->Hp->Prop) (h0:Pv 0 σ H) (hl:∀i σ H,Pv i σ H->H p=some (.frz o (.dK kvs)))
  (hs:∀i k v σ H,kvs[i]? =some (k,v)->Pv i σ H->g (kV k) σ H fun σ2 H2=>tb ⟨Pv (i+1),rt,nx,Pv (i+1)⟩ σ2 H2)(hd:∀σ H,Pv kvs.length σ H->nx σ H):OD (Itk p o kvs) g tb ⟨nx,rt,bk,ct⟩ σ H:=by
 refine⟨fun i m σ H=>m=kvs.length - i/\i<=kvs.length/\Pv i σ H,⟨kvs.length,by simp,Nat.zero_le _,h0⟩,?_⟩;rintro i m σ H ⟨rfl,hi,q⟩
 by_cases hlt:i<kvs.length
 ·refine .inr ⟨⟨hl i σ H q,hlt⟩,Pv (i+1),fun σ' H' p'=>⟨kvs.length - (i+1),by lia,rfl,hlt,p'⟩,fun x H' y=> ?_⟩;obtain⟨rfl,k,v,e,rfl⟩:=y;exact hs i k v σ _ e q
 ·have e:i=kvs.length:=by lia
  subst e;exact .inl ⟨⟨hl _ σ H q,Nat.le_refl _⟩,hd σ H q⟩
end
def PN (R:It->Hp->Prop):VK:=fun x H1=>∃a kvs,x= .ref a/\H1 a=some (.dK kvs)/\∀o,R (Itk a o kvs) (upd H1 a (.frz o (.dK kvs)))
def aAK (Q:VK)(y:V):VK:=fun x H2=>∃a o,x= .ref a/\DGet H2 a y o/\Q (.bl o.isSome) H2
def LM (Q:VK)(y:V):VK:=fun x H2=>∃a o,x= .ref a/\DGet H2 a y o/\Q (.bl (!o.isSome)) H2
def OZ (σ:St)(ty tx:TE)(Q:VK):VK:=fun x H1=>∃a,x= .ref a/\IsD H1 a/\ty σ H1 fun y H2=>tx σ H2 fun z H3=>∃o,DGet H3 a y o/\Q (o.getD z) H3
def aBx (a:Addr)(Q:VK)(y:V):VK:=fun z H3=>∃o,DGet H3 a y o/\Q (o.getD z) H3
section
variable {K:PySem.W.Frag}{H:Hp}{Q:VK}{σ:St}{nx:St->Hp->Prop}{R:It->Hp->Prop}{td ty tx:TE}
theorem O0 (h:td σ H (PN R)):Q4 td σ H R:=h
theorem yY {p:Addr}{kvs:List (Key×V)} (e:H p=some (.dK kvs)) (h:∀o H',SameBut p H H'->H' p=some (.frz o (.dK kvs))->R (Itk p o kvs) H'):PN R (.ref p) H:=⟨p,kvs,rfl,e,fun o=>h o _ SameBut.upd aZ⟩
theorem aAC (h:ty σ H fun y H1=>td σ H1 (aAK Q y)):ZT ty td σ H Q:=h
theorem P1 (h:ty σ H fun y H1=>td σ H1 (LM Q y)):LE ty td σ H Q:=h
theorem YR {p:Addr}{z:Str}{kvs:List (Key×V)} (e:Rd H p (.dK kvs)) (h:Q (.bl (bM kvs (.inr z)).isSome) H):aAK Q (.str z) (.ref p) H:=⟨p,_,rfl,.inl ⟨kvs,.inr z,e,rfl,rfl⟩,h⟩
theorem AL {p:Addr}{z:Str}{kvs:List (Key×V)} (e:Rd H p (.dK kvs)) (h:Q (.bl (!(bM kvs (.inr z)).isSome)) H):LM Q (.str z) (.ref p) H:=⟨p,_,rfl,.inl ⟨kvs,.inr z,e,rfl,rfl⟩,h⟩
theorem mR {p:Addr}{v:V}{z:Str}{kvs:List (Key×V)} (e:H p=some (.dK kvs)) (hl:kvs.length<sizeLine) (h:∀H',SameBut p H H'->H' p=some (.dK (c5 kvs (.inr z) v))->nx σ H'):NC nx σ (.ref p) v (.str z) H :=
 ⟨p,_,rfl,DPut.k (k:= .inr z) e hl,h _ SameBut.upd aZ⟩
theorem fV {p:Addr}{v:V}{z:Str}{kvs:List (Key×V)} (e:Rd H p (.dK kvs)) (hv:bM kvs (.inr z)=some v) (h:Q v H):NK Q (.ref p) (.str z) H:=⟨p,v,rfl,.inl ⟨kvs,.inr z,e,rfl,hv.symm⟩,h⟩
theorem SN (h:∀p H',H p=none->Same H H'->H' p=some (.dK [])->Q (.ref p) H'):P5 σ H Q:=iD h
theorem T5 (h:td σ H (OZ σ ty tx Q)):PZ td ty tx σ H Q:=h
theorem vW {p:Addr}{kvs:List (List Key×V)} (e:H p=some (.dT kvs)) (h:ty σ H fun y H2=>tx σ H2 (aBx p Q y)):OZ σ ty tx Q (.ref p) H:=⟨p,rfl,.inr ⟨kvs,.inl e⟩,h⟩
theorem yO {p b:Addr}{z:V}{kvs:List (List Key×V)} (k:List Key) (e:H p=some (.dT kvs)) (eb:H b=some (.tup (k.map kV))) (h:Q ((bM kvs k).getD z) H):aBx p Q (.ref b) z H:=⟨_,DGet.t e eb,h⟩
theorem zI {p:Addr}{vs:List V}{ps:List (Key×V)} (e:H p=some (.lst vs)) (r:A7 H vs ps) (h:∀l H',H l=none->Same H H'->H' l=some (.dK (lX [] ps))->Q (.ref l) H'):OR [.ref p] H Q:=⟨p,vs,ps,rfl,.inl e,r,iD h⟩
theorem SQ {p:Addr}{vs:List V}{rs:List (List Key)}{sh:List Bool} (e:SqL K H p vs) (kr:KRows H vs rs) (hl:vs.length<64) (hs:∀r∈rs,r.map gY=sh) (hn:sh≠[]) (h:∀l ws H',H l=none->Same H H'->H' l=some (.lst ws)->KRows H' ws (AZ rs)->Q (.ref l) H'):L0 K [.ref p] H Q :=
 ⟨p,vs,rs,sh,rfl,e,kr,hl,hs,hn,iD fun l H' n S e=>h l _ H' n S e ((AU kr).same S)⟩
theorem yX {te:TE}{p:Addr}{u:HO} (e:H p=some u) (nf:∀o x,u≠ .frz o x) (h:te σ H fun x=>jJ p (Q x)):V6 te σ H Q:=⟨p,fun o x z=>nf o x (by rw[e]at z;exact Option.some.inj z),h⟩
theorem UI {ts:TS}{bk ct:St->Hp->Prop}{rt:VK}{p:Addr}{u:HO} (e:H p=some u) (nf:∀o x,u≠ .frz o x) (h:ts ⟨fun σ'=>jJ p (nx σ'),fun v=>jJ p (rt v),fun σ'=>jJ p (bk σ'),fun σ'=>jJ p (ct σ')⟩ σ H):VG ts ⟨nx,rt,bk,ct⟩ σ H :=
 ⟨p,fun o x z=>nf o x (by rw[e]at z;exact Option.some.inj z),h⟩
theorem rQ {p:Addr}{o:Obj}{u:HO}{R:Hp->Prop} (e:H p=some (.frz o u)) (h:∀H',SameBut p H H'->H' p=some u->R H'):jJ p R H:=⟨o,u,e,h _ SameBut.upd aZ⟩
theorem DY {H Hf H1 H2:Hp}{p:Addr}{u:HO} (e:H p=some u) (a:SameBut p H Hf) (b:SameBut p Hf H1) (c:SameBut p H1 H2) (e2:H2 p=some u):Same H H2:=fun x o z=>by
 by_cases hx:x=p
 ·subst hx;rw[e]at z;cases z;exact e2
 ·exact c x o (b x o (a x o z hx) hx) hx
end
section
variable {X:Cx}{K:PySem.W.Frag}
theorem i7 {e:Expr}{ta:TE}{f:Str}{pos:Pos} (he:PE X e ta) (hb:attributeBase e f X.env (eval e X.env)=eval e X.env) (hK:X.K=K:=by rfl):PE X (.Attribute e f pos) (RP K ta f):=by
 subst hK;exact aW he hb
theorem MT (hK:X.K=K:=by rfl):OpR X (compareOp .In) (rIn K false):=by
 subst hK;exact D5
end
end L2
namespace L2
open PySem PySem.W PyProof.Rows
section
variable {K:PySem.W.Frag}{ti:TT}{te:TE}{σ:St}{ci:List Nat}{rest:St}{fin:List V->Hp->Prop}{H:Hp}{a:Addr}{α:Type}
theorem dH {vs:List V}{xs:List α} (F:V->α->Prop) (c:α->Bool) (P:α->V->Hp->Prop) (hm:∀x y H1 H2,P x y H1->Same H1 H2->P x y H2) (hn:xs.length<=sizeLine) (hr:ci.map (fun i=>(σ[i]?).join)=rest) (hl:SqL K H a vs) (hv:Paired F vs xs)
  (ht:∀v x H1,F v x->x∈xs->Same H H1->∀R:Bool->Hp->Prop,(∀H2,Same H1 H2->R (c x) H2)->ti (some v::rest) H1 R)
  (he:∀v x H1,F v x->x∈xs->c x=true->Same H H1->∀R:VK,(∀y H2,P x y H2->Same H1 H2->R y H2)->te (some v::rest) H1 R)
  (hf:∀ys H1,Same H H1->Paired (fun x y=>P x y H1) (xs.filter c) ys->fin ys H1):fE (Itl K a) (cJ 0) ti te (bP 1 ci σ) fin H:=by
 rw[wH hr];have hlen:vs.length=xs.length:=Paired.length hv;refine qN xs c P hm hn (fun i H1 s hi=>⟨vs,vs[i],s.seq hl,List.getElem?_eq_getElem (by lia)⟩) (fun H1 s=>⟨vs,s.seq hl,by lia⟩) (fun i x H1 hx s1 v H' y=> ?_) hf;obtain⟨rfl,e2⟩:=y;have ev:=e2 vs (s1.seq hl);have hF:=Paired.at2 hv ev hx;have hmem:=List.mem_of_getElem? hx;refine⟨Same.refl _,some v::rest,rfl,fun j v hv=> ?_,fun R h=>h,fun R h=>ht v x _ hF hmem s1 R h,fun hc H2 s2 R h=>he v x H2 hF hmem hc (s1.trans s2) R h⟩;cases j with
 | zero=>cases hv
 | succ j=>exact hv
end
theorem d3 {α:Type}{f:α->V}:∀{l:List α}{ys:List V},Paired (fun x y=>y=f x) l ys->ys=l.map f
 | _,_,.nil=>rfl
 | _,_,.cons h t=>by rw[h,d3 t];rfl
theorem eY {α:Type}(l:List α):l.filter (fun _=>true)=l:=by simp
theorem vS {K:PySem.W.Frag}{H:Hp}{Q:VK}{p:Addr}{z:Str}{ss:List Str} (e:SqL K H p (ss.map V.str)) (h:Q (.bl (decide (z∈ss))) H):rIn K false (.str z) (.ref p) H Q:=by
 refine⟨p,_,rfl,.inl e,rfl,?_,?_⟩
 ·rw[List.all_eq_true];intro x hx;obtain⟨y,_,rfl⟩:=List.mem_map.mp hx;rfl
 ·have e2:inV (.str z) (ss.map V.str)=decide (z∈ss):=by
   rw[Bool.eq_iff_iff,decide_eq_true_eq];unfold inV;rw[List.any_eq_true]
   constructor
   ·rintro ⟨x,hx,h⟩;obtain⟨y,hy,rfl⟩:=List.mem_map.mp hx;have:y=z:=by simpa [eqV] using h
    rw[←this];exact hy
   ·intro h;exact⟨.str z,List.mem_map.mpr ⟨z,h,rfl⟩,by simp[eqV]⟩
  show Q (.bl (inV (.str z) (ss.map V.str))) H;rw[e2];exact h
end L2
namespace L2
open PySem PySem.W PyProof.Rows
theorem pX {κ:Type}[DecidableEq κ]:∀{kvs:List (κ×V)}{e:κ×V},(kvs.map (·.1)).Nodup->e∈kvs->bM kvs e.1=some e.2
 | a::l,e,nd,h=>by
  have nd':=List.pairwise_cons.mp nd;rcases List.mem_cons.mp h with rfl|h
  ·exact dO rfl
  ·rw[cR (nd'.1 e.1 (List.mem_map.mpr ⟨e,h,rfl⟩))];exact pX nd'.2 h
end L2
namespace L2
open PySem PySem.W PyProof.Rows
theorem YH:typeLookup (.type "dict") "__len__" =pure (some (.builtin "dict.__len__")):=by rw[typeLookup_type,builtinLookup_eq_fast];kernel_rfl
section
variable {prog:Program}{w:World}{A:Around}{E:Value->Shared->Prop}{s:Shared}{d:Addr}{κ:Type} [DecidableEq κ] {knd:KeyKind prog w κ}{ps:List (κ×Value)}{ep:Nat}
theorem QP (T:s.TypeIs (.ref d) "dict"){Q:Bool->Shared->Prop}(h:Q false s):wpAny (model prog w) A (Builtin.List.listLengthHint (.ref d)) Q E s:=by
 unfold Builtin.List.listLengthHint;refine wpAny_bind (wpAny_specialOf T YH ?_);generalize q:("dict.__len__" :String)=i0
 wp_delta
 rw[show splitId i0=some ("dict","__len__") from by subst q;decide +kernel];subst q;refine wpAny_bind (wpAny_isInstance (T:= "dict") (b:=true) T (by rw[isSubtype_type];kernel_rfl) (wpAny_ite_split (fun z=>absurd z (by decide)) (fun _=>wpAny_ite_split (fun _=> ?_) (fun z=>absurd (by decide +kernel) z))));exact wpAny_bind (wpAny_typeOf T (wpAny_pure h))
theorem KJ {R:Result->Shared->Prop}(hh:A.handled=none)(hm:s.heap.DictAt knd d ps ep)(hd0:(d==sysModules)=false)(S:Addr)(hSd:S≠d)(c0:Nat)(hS:s.heap.get? S=some { cls:= .type "list",data:= .seq #[] c0 })(hn:ps.length<=sizeLine)
  (k:∀h' tk acc c,(∀b o,b≠S->s.heap.get? b=some o->h'.get? b=some o)->h'.get? S=some { cls:= .type "list",dict:=none,data:= .seq acc c,slots:= #[] }->ItemsOf (fun i v=>∃k x,ps[i]? =some (k,x)/\knd.is k v=true) acc ps.length->R (.ok (.ret .none)) { s with heap:=h',toks:=tk }) :
  wpAny (model prog w) A.in1 (Builtin.List.listExtendWith (.ref S) (.ref d) .none) (fun fin s'=>match fin with| .done f=>R (.ok f) s'| .again c'=>c'.quiet=true/\codeAny (model prog w) A c' R s') (fun e s'=>R (.error e) s') s:=by
 obtain⟨o,es,ho,hc,hq,hk,hp,hnd⟩:=id hm;have T:s.TypeIs (.ref d) "dict" :=⟨o,ho,hc.1⟩
 have lS:S<s.heap.objs.size:=Heap.lt_size hS;have ld:d<s.heap.objs.size:=Heap.lt_size ho;have hsz:es.size=ps.length:=by rw[←hp.length];simp
 have W:=(Walks.dictKeys (prog:=prog) (w:=w) (knd:=knd) (A:=A.in1) hh s.heap.objs.size d (Nat.ne_of_lt ld) ps ep).toS;have run:∀(h:Heap) (c1 tk:Nat),h.IsKeyIter s.heap.objs.size d 0 ps.length ep->(∀b u,b≠S->s.heap.get? b=some u->h.get? b=some u)->h.get? S=some { cls:= .type "list",data:= .seq #[] c1 } →
   codeAny (model prog w) A (.builtin "list.extend.loop" ⟨[.ref S,.ref s.heap.objs.size,.none],[]⟩) R { s with heap:=h,toks:=tk }:=by
  intro h c1 tk hit kp hS1;refine codeAny_extend_loopS W hn S (by simp only[List.mem_cons,List.not_mem_nil,or_false,not_or];exact⟨Nat.ne_of_lt lS,hSd⟩) .none ps.length 0 _ #[] c1 rfl (Nat.zero_le _) ⟨hit,o,es,kp d o (Ne.symm hSd) ho,hc,hq,hk,hp,hnd⟩ hS1 (ItemsOf.nil _) fun s' acc c' mv hS2 hacc=> ?_;rw[Moved.eq_with mv];refine k s'.heap s'.toks acc c' (fun b u hb e=>mv.heap b u (fun z=> ?_) (kp b u hb e)) hS2 hacc;rcases List.mem_cons.mp z with z|z
  ·exact hb z
  ·have:=Heap.lt_size e;rw[List.mem_singleton.mp z]at this;exact Nat.lt_irrefl _ this
 unfold Builtin.List.listExtendWith;refine wpAny_bind (wpAny_typeOf (T:= "dict") T ?_);simp only[show Builtin.List.listSameRef (.ref S) (.ref d)=false by simp[Builtin.List.listSameRef,hSd],show (Value.type "dict" ==Value.type "list")=false by decide,show (Value.type "dict" ==Value.type "tuple")=false by decide,Bool.or_false,Bool.false_eq_true,if_false];refine wpAny_bind (zB hd0 ho hc hq ?_);have hS1:=Heap.get?_push_of_some { cls:= .type "dict_keyiterator",data:= .fields #[.ref d,.int 0 0,.int es.size 0,.int ep 0] } hS;refine wpAny_bind (wpAny_holding (QP ⟨o,Heap.get?_push_of_some _ ho,hc.1⟩ ?_));have hit:(s.heap.push { cls:= .type "dict_keyiterator",data:= .fields #[.ref d,.int 0 0,.int es.size 0,.int ep 0] }).IsKeyIter s.heap.objs.size d 0 ps.length ep:=⟨_,Heap.get?_push_size _ rfl,rfl,by rw[hsz];rfl⟩
 refine wpAny_ite_split (fun z=> ?_) (fun _=>wpAny_pure ⟨plainId_quiet F.plain_extend_loop _,run _ c0 _ hit (fun b u _ e=>Heap.get?_push_of_some _ e) hS1⟩);refine wpAny_bind (wpAny_rule (wpAny_bind ?_));show wpAny _ A.in1 (updateSeq S (·.push .none) >>= fun _=>updateSeq S (·.pop)) _ _ _;have u1:=Heap.get?_update_self (Obj.mapSeq (·.push Value.none)) hS1 rfl;have u2:=Heap.get?_update_self (Obj.mapSeq (·.pop)) u1 rfl;refine wpAny_bind (wpAny_updateSeq hS1 rfl (wpAny_updateSeq (hz:=by seq_fits) u1 rfl (wpAny_pure ⟨plainId_quiet F.plain_extend_loop _,run _ _ _ ?_ (fun b u hb e=> ?_) u2⟩)))
 ·exact hit.at fun u e=>(Heap.get?_update_other _ _ (Nat.ne_of_lt lS)).trans ((Heap.get?_update_other _ _ (Nat.ne_of_lt lS)).trans e)
 ·exact(Heap.get?_update_other _ _ (Ne.symm hb)).trans ((Heap.get?_update_other _ _ (Ne.symm hb)).trans (Heap.get?_push_of_some _ e))
theorem QE {Q:Value->Shared->Prop}(hh:A.handled=none)(hm:s.heap.DictAt knd d ps ep)(hd0:(d==sysModules)=false)(hn:ps.length<=sizeLine)
  (k:∀h' tk acc c,(∀b o,s.heap.get? b=some o->h'.get? b=some o)->h'.get? s.heap.objs.size=some { cls:= .type "list",dict:=none,data:= .seq acc c,slots:= #[] }->ItemsOf (fun i v=>∃k x,ps[i]? =some (k,x)/\knd.is k v=true) acc ps.length->Q (.ref s.heap.objs.size) { s with heap:=h',toks:=tk }) :
  wpAny (model prog w) A (call (.type "list") [.ref d]) Q E s:=by
 refine callType_codes (Q₁:=fun x s1=>x= .ref s.heap.objs.size/\s1={ s with heap:=s.heap.push { cls:= .type "list",data:= .seq #[] } }) F.called_list (F.typeCall_list_1 _) F.entry_list_init (code_list_new _ ⟨rfl,rfl⟩) ?_;rintro x s1 ⟨rfl,rfl⟩;have hS:(s.heap.push { cls:= .type "list",data:= .seq #[] }).get? s.heap.objs.size=some { cls:= .type "list",data:= .seq #[] }:=Heap.get?_push_size _ rfl;have hm1:(s.heap.push { cls:= .type "list",data:= .seq #[] }).DictAt knd d ps ep:=hm.at' fun o e=>Heap.get?_push_of_some _ e;have hdS:s.heap.objs.size≠d:=fun z=>by
  obtain⟨o,_,ho,_⟩:=hm;have:=Heap.lt_size ho;rw[←z]at this;exact Nat.lt_irrefl _ this
 refine⟨⟨_,hS,rfl⟩,F.args_list_init_2 _ _,?_⟩;show wpAny _ A.in1.in1 (Builtin.List.listItems (.ref s.heap.objs.size) >>= fun old=>Builtin.List.listUpdate (.ref s.heap.objs.size) (fun _=> #[]) >>= fun _=>letGo old.toList.reverse >>= fun _=>Builtin.List.listExtendWith (.ref s.heap.objs.size) (.ref d) .none) _ _ _;refine wpAny_bind ?_;unfold Builtin.List.listItems;refine wpAny_bind (wpAny_seqItems hS rfl (wpAny_pure ?_));show wpAny _ A.in1.in1 (updateSeq s.heap.objs.size (fun _=> #[]) >>= fun _=>letGo (#[]:Array Value).toList.reverse >>= fun _=>Builtin.List.listExtendWith (.ref s.heap.objs.size) (.ref d) .none) _ _ _;have u1:=Heap.get?_update_self (Obj.mapSeq (fun _=>(#[]:Array Value))) hS rfl;have kp:∀b o,b≠s.heap.objs.size->(s.heap.push { cls:= .type "list",data:= .seq #[] }).get? b=some o->((s.heap.push { cls:= .type "list",data:= .seq #[] }).update s.heap.objs.size (Obj.mapSeq (fun _=>(#[]:Array Value)))).get? b=some o:=fun b o hb e=>(Heap.get?_update_other _ _ (Ne.symm hb)).trans e;refine wpAny_bind (wpAny_updateSeq hS rfl (wpAny_bind (wpAny_letGo ?_)));refine KJ (A:=A.in1) hh (hm1.at' fun o e=>kp d o (Ne.symm hdS) e) hd0 _ hdS _ u1 hn fun h' tk acc c kk hS' hacc=> ?_;exact⟨rfl,k h' tk acc c (fun b o e=>kk b o (Nat.ne_of_lt (Heap.lt_size e)) (kp b o (Nat.ne_of_lt (Heap.lt_size e)) (Heap.get?_push_of_some _ e))) hS' hacc⟩
end
section
variable {X:Cx}
def RC:List V->Hp->VK->Prop:=fun xs H Q=>∃p kvs,xs=[.ref p]/\Rd H p (.dK kvs)/\∀l,H l=none->Q (.ref l) (upd H l (.lst (kvs.map fun e=>kV e.1)))
theorem EW {P:Program}{w:World}{kvs:List (Key×V)}{rs:List (Key×Value)} (r:KV kvs rs) {acc:Array Value} (h:ItemsOf (fun i v=>∃k x,rs[i]? =some (k,x)/\(bZ P w).is k v=true) acc rs.length):Vals (kvs.map fun e=>kV e.1) acc.toList:=by
 have e0:acc.toList.length=rs.length:=by rw[Array.length_toList];exact h.1
 refine IN (by rw[List.length_map,e0];exact r.length) fun i x u h1 h2=> ?_;obtain⟨k,y,e1,e2⟩:=h.2 i u (by simpa using h2);rw[List.getElem?_map]at h1;obtain⟨e,he,rfl⟩:=Option.map_eq_some_iff.mp h1;have hi:i<kvs.length:=(List.getElem?_eq_some_iff.mp he).1;obtain⟨k',v',u',f1,f2,f3⟩:=IU r hi;rw[he]at f1;cases f1;rw[e1]at f2;cases f2;exact CU e2
theorem AH (hc:X.calm=true):dC X (.type "list") RC:=by
 intro pins s σ H xs us Q I r h;obtain⟨p,kvs,rfl,hq,q⟩:=h;obtain⟨u,rfl,rx⟩:=lU r;cases rx;obtain⟨z,y,rs,kv,o,es,ep,h1,h2,h3,h4,h5,h6⟩:=nU I.hok hq;have hl:=kv.length;refine QE (knd:=bZ X.prog X.w) (ps:=rs) (ep:=ep) (I.ok.hd hc) ⟨o,es,h1,h2,h3,h4,h5,h6⟩ y (by lia) fun h' tk acc c kp hS hacc=> ?_;exact⟨.ref _,_,I.laid (t':=tk) kp (Nat.le_refl _) (show ObjOk X.prog X.w _ h' _ (.lst (kvs.map fun e=>kV e.1)) from⟨by rw[List.length_map];exact z,acc.toList,c,EW kv hacc,by rw[Array.toArray_toList];exact hS⟩),rfl,q _ (I.hok.fresh (Nat.le_refl _))⟩
end
end L2
namespace L2
open PySem PySem.W PyProof.Rows
def w6 (v d:Addr):HO:= .ext fun h=>h.IsValuesView v d
def M7 (Q:VK):VK:=fun x H1=>∃a kvs,x= .ref a/\Rd H1 a (.dK kvs)/\∀v,H1 v=none->Q (.ref v) (upd H1 v (w6 v a))
def VT (td:TE):TE:=fun σ H Q=>td σ H (M7 Q)
section
variable {X:Cx}
theorem AT {l:Expr}{td:TE}{apos cpos:Pos} (hl:PE X l td) (hbase:attributeBase l "values" X.env (eval l X.env)=eval l X.env:=by rfl) (hline:(apos.endLine==cpos.line)=true:=by rfl) :
  PE X (.Call (.Attribute l "values" apos) [] [] cpos) (VT td):=by
 intro pins s σ H Q I h;refine wpAny_Call_method0_late hbase hline (thn (hl pins s σ H _ I h) fun v s1 ⟨x,H1,I1,r1,q1⟩=> ?_);obtain⟨a,kvs,rfl,hq,q⟩:=q1;cases r1;obtain⟨t1,t2,_⟩:=HX I1 (.inl ⟨kvs,hq⟩);refine⟨"dict","dict.values",F.plainAttrs_dict,F.slot_dict_values,F.type_dict_values,t1,t2,Calls.callWith_builtin rfl (PySem.evalArgs_none ?_)⟩;obtain⟨z,y,vs,r,o,es,ep,h1,h2,h3,h4,h5,h6⟩:=nU I1.hok hq;refine call_meetsIn F.slot_dict_values t1 F.entry_dict_values (F.args_dict_values_1 _) (meets_dict_values (bZ X.prog X.w) a y) ⟨⟨vs,o,es,ep,h1,h2,h3,h4,h5,h6⟩,?_⟩;have hv:(s1.heap.push { cls:= .type "dict_values",data:= .fields #[.ref a] }).IsValuesView s1.heap.objs.size a:=⟨_,Heap.get?_push_size _ rfl,rfl,rfl⟩
 refine⟨.ref s1.heap.objs.size,_,I1.laid (t':=s1.toks) (fun b u e=>Heap.get?_push_of_some _ e) (Nat.le_refl _) (show ObjOk X.prog X.w _ _ _ (w6 s1.heap.objs.size a) from⟨hv,⟨_,Heap.get?_push_size _ rfl⟩,fun g1 g2 p k=> ?_⟩),rfl,q _ (I1.hok.fresh (Nat.le_refl _))⟩;obtain⟨o,e,c⟩:=p;exact⟨o,k o e,c⟩
theorem IA (ns:List Int):∀j,j<=ns.length->preSum (fun i=>ns.getD i 0) j=(ns.take j).sum
 | 0,_=>by simp[preSum]
 | j+1,h=>by
  rw[preSum,IA ns j (by lia),List.take_succ,List.getElem?_eq_getElem (by lia),List.sum_append];rw[List.getD_eq_getElem?_getD,List.getElem?_eq_getElem (by lia)];simp
theorem WM (ns:List Int):preSum (fun i=>ns.getD i 0) ns.length=ns.sum:=by rw[IA ns _ (Nat.le_refl _),List.take_length]
def WA:List V->Hp->VK->Prop:=fun xs H Q=>∃(v d:Addr) (kvs:List (Key×V)) (ns:List Int),xs=[.ref v]/\H v=some (w6 v d)/\Rd H d (.dK kvs)/\kvs.map (·.2)=ns.map V.int/\Q (.int ns.sum) H
theorem EQ (hc:X.calm=true):dC X (.builtin "sum") WA:=by
 intro pins s σ H xs us Q I r h;obtain⟨v,d,kvs,ns,rfl,hv,hq,hns,q⟩:=h;obtain⟨u,rfl,rx⟩:=lU r;cases rx;obtain⟨hview,_,_⟩:=(show ObjOk X.prog X.w H s.heap v (w6 v d) from I.hok v _ hv)
 have hview:s.heap.IsValuesView v d:=hview;obtain⟨z,y,rs,kv,o,es,ep,h1,h2,h3,h4,h5,h6⟩:=nU I.hok hq;have hl:=kv.length;have hln:kvs.length=ns.length:=by have:=congrArg List.length hns;rwa [List.length_map,List.length_map]at this
 have ld:d<s.heap.objs.size:=Heap.lt_size h1;have hm:s.heap.DictAt (bZ X.prog X.w) d rs ep:=⟨o,es,h1,h2,h3,h4,h5,h6⟩
 refine call_sum_walkG (wpAny_pyIter_values hview hm ?_);refine⟨s.heap.objs.size,_,_,rs.length,_,_,fun i=>ns.getD i 0,rfl,Walks.dictValues (knd:=bZ X.prog X.w) (show X.A.in1.handled=none from I.ok.hd hc) s.heap.objs.size d (Nat.ne_of_lt ld) rs ep,⟨⟨_,Heap.get?_push_size _ rfl,rfl,rfl⟩,hm.at' fun o e=>Heap.get?_push_of_some _ e⟩,?_,?_,?_⟩
 ·intro b hb;simp only[List.mem_cons,List.not_mem_nil,or_false]at hb;have hsz:(s.heap.push { cls:= .type "dict_valueiterator",data:= .fields #[.ref d,.int 0 0,.int rs.length 0,.int ep 0] }).objs.size=s.heap.objs.size+1:=by simp[Heap.push]
  rcases hb with rfl|rfl
  ·show s.heap.objs.size<_;rw[hsz];exact Nat.lt_succ_self _
  ·show b<_;rw[hsz];exact Nat.lt_succ_of_lt ld
 ·rintro i u ⟨kk,hk⟩;have hi:i<kvs.length:=by rw[hl];exact(List.getElem?_eq_some_iff.mp hk).1
  obtain⟨k',v',u',f1,f2,f3⟩:=IU kv hi;rw[hk]at f2;cases f2;have e1:(kvs.map (·.2))[i]? =some v':=by rw[List.getElem?_map,f1];rfl
  rw[hns,List.getElem?_map]at e1;obtain⟨n,hn,rfl⟩:=Option.map_eq_some_iff.mp e1;obtain⟨t,rfl⟩:=f3;refine⟨t,?_⟩;show Value.int n t=Value.int (ns.getD i 0) t;rw[List.getD_eq_getElem?_getD,hn];rfl
 ·intro h' tk t' hk;have e2:preSum (fun i=>ns.getD i 0) rs.length=ns.sum:=by
   rw[←hl,hln];exact WM ns
  rw[e2];have I1:Inv X pins σ H { s with heap:=s.heap.push { cls:= .type "dict_valueiterator",data:= .fields #[.ref d,.int 0 0,.int rs.length 0,.int ep 0] },toks:=s.toks }:=I.kept fun b u e=>Heap.get?_push_of_some _ e;obtain⟨f0,f1,f2,f3,f4,f5⟩:=I.fpOk (Nat.le_refl _) (I.hok.fresh (Nat.le_refl _));exact⟨.int ns.sum,H,I1.turned (fun b o hb e=>hk b o (by simpa using hb) e) f0 f1 f3 f4 f5,⟨t',rfl⟩,q⟩
end
end L2
namespace L2
open PySem PySem.W PyProof.Rows
section
variable {X:Cx}{pins:List (Addr×Obj)}{σ:St}{H:Hp}{s:Shared}{h':Heap}
end
section
variable {X:Cx}
end
end L2
namespace L2
open PySem PySem.W PyProof.Rows
def aA4 (σ:St)(tv:TE)(rd:V->V->Hp->VK->Prop)(nx:St->Hp->Prop)(x:V):VK:=fun y H2=>∃a v,x= .ref a/\DGet H2 a y (some v)/\tv σ H2 fun y2 H3=>rd v y2 H3 fun z H4=>∃H5,DPut H4 a y z H5/\nx σ H5
def aAz (σ:St)(p:Addr)(k:V)(nx:St->Hp->Prop):VK:=fun z H4=>∃H5,DPut H4 p k z H5/\nx σ H5
section
variable {K:PySem.W.Frag}{H:Hp}{Q:VK}{σ:St}{nx:St->Hp->Prop}{td ty tv:TE}{rd:V->V->Hp->VK->Prop}{rt:VK}{bk ct:St->Hp->Prop}{R:It->Hp->Prop}
theorem XY (h:td σ H fun x H1=>ty σ H1 (aA4 σ tv rd nx x)):VD td ty tv rd ⟨nx,rt,bk,ct⟩ σ H:=h
theorem TZ {p:Addr}{z:Str}{kvs:List (Key×V)}{v:V} (e:Rd H p (.dK kvs)) (hv:bM kvs (.inr z)=some v) (h:tv σ H fun y2 H3=>rd v y2 H3 (aAz σ p (.str z) nx)):aA4 σ tv rd nx (.ref p) (.str z) H:=⟨p,v,rfl,.inl ⟨kvs,.inr z,e,rfl,hv.symm⟩,h⟩
theorem XF {p:Addr}{z:Str}{kvs:List (Key×V)}{v:V} (e:H p=some (.dK kvs)) (hl:kvs.length<sizeLine) (h:∀H',SameBut p H H'->H' p=some (.dK (c5 kvs (.inr z) v))->nx σ H'):aAz σ p (.str z) nx v H:=⟨_,DPut.k (k:= .inr z) e hl,h _ SameBut.upd aZ⟩
theorem GD {p:Addr}{kvs:List (Key×V)} (e:Rd H p (.dK kvs)) (h:∀l H',H l=none->Same H H'->H' l=some (.lst (kvs.map fun e=>kV e.1))->Q (.ref l) H'):RC [.ref p] H Q:=⟨p,kvs,rfl,e,iD h⟩
theorem PV {l b:Addr}{xs zs:List V} (e:H l=some (.lst xs)) (e2:H b=some (.lst zs)) (hz:xs.length+zs.length<=sizeLine) (h:∀H',SameBut l H H'->H' l=some (.lst (xs++zs))->Q .non H'):LY (.ref l) [.ref b] H Q:=⟨l,b,xs,zs,rfl,rfl,e,e2,hz,h _ SameBut.upd aZ⟩
theorem X8 (h:td σ H (M7 Q)):VT td σ H Q:=h
theorem IY {a:Addr}{kvs:List (Key×V)} (e:Rd H a (.dK kvs)) (h:∀v H',H v=none->Same H H'->H' v=some (w6 v a)->Q (.ref v) H'):M7 Q (.ref a) H :=
 ⟨a,kvs,rfl,e,fun v hv=>h v _ hv (u3 hv) aZ⟩
theorem MG {v d:Addr}{kvs:List (Key×V)}{ns:List Int} (e:H v=some (w6 v d)) (e2:Rd H d (.dK kvs)) (hn:kvs.map (·.2)=ns.map V.int) (h:Q (.int ns.sum) H):WA [.ref v] H Q:=⟨v,d,kvs,ns,rfl,e,e2,hn,h⟩
end
def bE (ps:List (Str×Int))(z:Str):Int:=((ps.filter fun p=>decide (p.1=z)).map (·.2)).sum
theorem QK (ps:List (Str×Int))(p:Str×Int)(z:Str):bE (ps++[p]) z=bE ps z+if p.1=z then p.2 else 0:=by
 unfold bE;rw[List.filter_append,List.map_append,List.sum_append]
 congr 1
 by_cases h:p.1=z
 ·rw[if_pos h];simp[h]
 ·rw[if_neg h];simp[h]
end L2
namespace L2
open PySem PySem.W PyProof.Rows
theorem aAO {te:TE}{σ:St}{ci:List Nat}{rest:St}{fin:List V->Hp->Prop}{H:Hp}{lo:Int}{n:Nat} (P:Nat->V->Hp->Prop) (hm:∀x y H1 H2,P x y H1->Same H1 H2->P x y H2) (hn:n<=sizeLine) (hr:ci.map (fun i=>(σ[i]?).join)=rest)
  (he:∀(i:Nat) H1,i<n->Same H H1->∀R:VK,(∀y H2,P i y H2->Same H1 H2->R y H2)->te (some (.int (lo+i))::rest) H1 R)
  (hf:∀ys H1,Same H H1->Paired (fun x y=>P x y H1) (List.range n) ys->fin ys H1):fE (Itr lo n) (cJ 0) vO te (bP 1 ci σ) fin H:=by
 rw[wH hr];refine qN (List.range n) (fun _=>true) P hm (by rw[List.length_range];exact hn) (fun i H1 s hi=>by rw[List.length_range]at hi;exact hi) (fun H1 s=>by rw[List.length_range];exact Nat.le_refl _) (fun i x H1 hx s1 v H' y=> ?_) (fun ys H1 s1 h=>hf ys H1 s1 (by rw[eY]at h;exact h));obtain⟨rfl,rfl⟩:=y;obtain⟨hi,e⟩:=List.getElem?_eq_some_iff.mp hx;rw[List.length_range]at hi;rw[List.getElem_range]at e;subst e;refine⟨Same.refl _,some (.int (lo+(i:Nat)))::rest,rfl,fun j v hv=> ?_,fun R h=>h,fun R h=>h _ (Same.refl _),fun hc H2 s2 R h=>he i H2 hi (s1.trans s2) R h⟩;cases j with
 | zero=>cases hv
 | succ j=>exact hv
end L2
namespace L2
open PySem PySem.W PyProof.Rows PySem.Calls
section
variable {prog:Program}{w:World}{A:Around}{E:Value->Shared->Prop}{s:Shared}{d v:Addr}{o:Obj}{es:Array DictEntry}{ep:Nat}
end
section
variable {X:Cx}
end
section
variable {K:PySem.W.Frag}{H:Hp}{Q:VK}{σ:St}{td:TE}
end
end L2
namespace L2
open PySem PySem.W PyProof.Rows
section
variable {X:Cx}
end
def aBb (K:PySem.W.Frag):R2:=fun x y H Q=>∃a b xs,x= .ref a/\y= .ref b/\SqL K H a xs/\SqL K H b []/\Q (.bl xs.isEmpty) H
theorem aAu {X:Cx}(hu:X.A.units<cLine):OpR X (compareOp .Eq) (aBb X.K):=by
 intro pins s σ H x y v u Q I rx ry h;obtain⟨a,b,xs,rfl,rfl,ha,hb,q⟩:=h;cases rx;cases ry;obtain⟨its,r,pl,hz⟩:=I.list ha;obtain⟨its2,r2,pl2,_⟩:=I.list hb;cases r2;cases xs with
 | nil=>cases r;exact SeqAt.RcAt.lists (e:=fun _=>true) pl.isList pl2.isList rfl hu (fun j h1=>absurd h1 (Nat.not_lt_zero _)) X.prog X.w X.xe _ ⟨.bl true,H,I,rfl,q⟩
 | cons x xs=>cases r with|cons r1 r2=>exact SeqAt.RcAt.lists_lengths pl.isList pl2.isList (by simp) hu X.prog X.w X.xe _ ⟨.bl false,H,I,rfl,q⟩
theorem aAt {K:PySem.W.Frag}{H:Hp}{Q:VK}{a b:Addr}{xs:List V} (ha:SqL K H a xs) (hb:SqL K H b []) (h:Q (.bl xs.isEmpty) H):aBb K (.ref a) (.ref b) H Q:=⟨a,b,xs,rfl,rfl,ha,hb,h⟩
section
variable {X:Cx}{P:Program}{w:World}{K:PySem.W.Frag}{mg:Str->Option Value}{base:Heap}{k':Nat}{o e:Expr}{es:List Expr}{m:Str}{ta:TE}{t:TA}{apos pos:Pos}
theorem qR (k:Nat){pl:Sem Bool}(hr:Room k' X.A)(ho:PE X o ta)(ha:PA X (e::es) t)(hk:k<=k':=by decide)(hst:starEach (e::es) X.env=(false,eval e X.env)::starEach es X.env:=by rfl)(hpl:(backTo pos (starEach es X.env)).any (·.1)=false:=by rfl)
  (ht:eval (.Call (.Attribute o m apos) (e::es) [] pos) X.env=(do let ov ←eval o X.env;standAt apos.atName;let (f,first) ←holding [ov] (getMethod ov m pl);callWith pos f first (backTo pos (starEach (e::es) X.env)) (backToKw pos (keywordEach [] X.env))):=by rfl)
  (h1:X.prog=P:=by rfl)(h2:X.w=w:=by rfl)(h3:X.K=K:=by rfl)(h4:X.mg=mg:=by rfl)(h5:X.base=base:=by rfl):PE X (.Call (.Attribute o m apos) (e::es) [] pos) (tMD (fun C sp=>Mc P w K mg base C m k sp) m ta t):=by
 subst h1 h2 h3 h4 h5;exact jH k hr ho ha hk hst hpl ht
end
theorem aA5 {v:V}{H:Hp}{Q:VK}{a0 a1 a2 a3 a4 a5 a6 a7 a8 a9 a10 a11 a12:Option V}{l:St} (h:Q v H):jC 13 (a0::a1::a2::a3::a4::a5::a6::a7::a8::a9::a10::a11::a12::some v::l) H Q:=⟨v,rfl,h⟩
theorem aAZ {v:V}{H:Hp}{q:St->Hp->Prop}{a0 a1 a2 a3 a4 a5 a6 a7 a8 a9 a10 a11 a12 a:Option V}{l:St} (h:q (a0::a1::a2::a3::a4::a5::a6::a7::a8::a9::a10::a11::a12::some v::l) H):cJ 13 v (a0::a1::a2::a3::a4::a5::a6::a7::a8::a9::a10::a11::a12::a::l) H q:=h
theorem aAX {v:V}{H:Hp}{Q:VK}{a0 a1 a2 a3 a4 a5 a6 a7 a8 a9 a10 a11 a12 a13:Option V}{l:St} (h:Q v H):jC 14 (a0::a1::a2::a3::a4::a5::a6::a7::a8::a9::a10::a11::a12::a13::some v::l) H Q:=⟨v,rfl,h⟩
theorem aA3 {v:V}{H:Hp}{q:St->Hp->Prop}{a0 a1 a2 a3 a4 a5 a6 a7 a8 a9 a10 a11 a12 a13 a:Option V}{l:St} (h:q (a0::a1::a2::a3::a4::a5::a6::a7::a8::a9::a10::a11::a12::a13::some v::l) H):cJ 14 v (a0::a1::a2::a3::a4::a5::a6::a7::a8::a9::a10::a11::a12::a13::a::l) H q:=h
theorem aBK {v:V}{H:Hp}{Q:VK}{a0 a1 a2 a3 a4 a5 a6 a7 a8 a9 a10 a11 a12 a13 a14:Option V}{l:St} (h:Q v H):jC 15 (a0::a1::a2::a3::a4::a5::a6::a7::a8::a9::a10::a11::a12::a13::a14::some v::l) H Q:=⟨v,rfl,h⟩
theorem aBm {v:V}{H:Hp}{q:St->Hp->Prop}{a0 a1 a2 a3 a4 a5 a6 a7 a8 a9 a10 a11 a12 a13 a14 a:Option V}{l:St} (h:q (a0::a1::a2::a3::a4::a5::a6::a7::a8::a9::a10::a11::a12::a13::a14::some v::l) H):cJ 15 v (a0::a1::a2::a3::a4::a5::a6::a7::a8::a9::a10::a11::a12::a13::a14::a::l) H q:=h
end L2
namespace L2
open PySem PySem.W PyProof.Rows
theorem Room.units9 {k:Nat}{A:Around} (r:Room k A):A.units+9<cLine:=by have:=r.un;have:cLine=9900:=rfl;lia
def DeepEq (K:PySem.W.Frag)(H:Hp):Nat->V->V->Prop
 | 0,x,y=>x=y/\pO x=true
 | n+1,x,y=>(x=y/\pO x=true)∨(∃a b xs ys,x= .ref a/\y= .ref b/\SqL K H a xs/\SqL K H b ys/\Paired (DeepEq K H n) xs ys)∨(∃a b xs ys,x= .ref a/\y= .ref b/\H a=some (.tup xs)/\H b=some (.tup ys)/\Paired (DeepEq K H n) xs ys)
theorem D8 {A:Around}{s:Shared}{x:V}{u v:Value} (h:pO x=true) (ru:RelV x u) (rv:RelV x v):SeqAt.EqAt A s u v true:=by
 have base:jX x=true->SeqAt.EqAt A s u v true:=fun hx=>by
  have:=JA (A:=A) (s:=s) ru rv hx hx;rw[TC hx]at this;exact this
 cases x<;>first|(cases ru;cases rv;exact SeqAt.EqAt.same _)|exact base h
theorem qE {A:Around}{s:Shared}{F:V->V->Prop} (hF:∀x y u v,F x y->RelV x u->RelV y v->SeqAt.EqAt A s u v true):∀{xs ys:List V}{us ws:List Value},Paired F xs ys->Vals xs us->Vals ys ws->∀j (h1:j<us.length) (h2:j<ws.length),SeqAt.EqAt A s us[j] ws[j] true
 | _,_,_,_,.nil,.nil,.nil,j,h1,_=>absurd h1 (Nat.not_lt_zero _)
 | _,_,_,_,.cons h _,.cons r1 _,.cons r2 _,0,_,_=>hF _ _ _ _ h r1 r2
 | _,_,_,_,.cons _ t,.cons _ t1,.cons _ t2,j+1,h1,h2=>qE hF t t1 t2 j (Nat.lt_of_succ_lt_succ h1) (Nat.lt_of_succ_lt_succ h2)
section
variable {X:Cx}{pins:List (Addr×Obj)}{σ:St}{H:Hp}{s:Shared}
theorem xK (I:Inv X pins σ H s):∀(n:Nat) (A:Around),A.units+n<cLine->∀x y u v,DeepEq X.K H n x y->RelV x u->RelV y v->SeqAt.EqAt A s u v true
 | 0,A,hu,x,y,u,v,h,ru,rv=>by obtain⟨rfl,h⟩:=h;exact D8 h ru rv
 | n+1,A,hu,x,y,u,v,h,ru,rv=>by
  rcases h with⟨rfl,h⟩|⟨a,b,xs,ys,rfl,rfl,ha,hb,pr⟩|⟨a,b,xs,ys,rfl,rfl,ha,hb,pr⟩
  ·exact D8 h ru rv
  ·cases ru;cases rv
   by_cases hab:a=b
   ·subst hab;exact SeqAt.EqAt.same _
   ·obtain⟨its,r,pl,hz⟩:=I.list ha;obtain⟨its2,r2,pl2,_⟩:=I.list hb;have hl:its.length=its2.length:=by rw[←r.length,←r2.length];exact Paired.length pr
    have:=SeqAt.EqAt.of_refs hab (SeqAt.RcAt.lists (A:=A) (e:=fun _=>true) pl.isList pl2.isList (by simpa using hl) (by lia) fun j h1 h2=>by
     have h1':j<its.length:=by simpa using h1
     have h2':j<its2.length:=by simpa using h2
     have:=qE (A:=A.in1) (xK I n A.in1 (by show A.units+1+n<cLine;lia)) pr r r2 j h1' h2'
     simpa using this)
    rw[t6]at this;exact this
  ·cases ru;cases rv
   by_cases hab:a=b
   ·subst hab;exact SeqAt.EqAt.same _
   ·obtain⟨_,its,r,o1,g1,c1,n1,d1⟩:=(show ObjOk X.prog X.w H s.heap a (.tup xs) from I.hok a _ ha)
    obtain⟨_,its2,r2,o2,g2,c2,n2,d2⟩:=(show ObjOk X.prog X.w H s.heap b (.tup ys) from I.hok b _ hb)
    have hl:its.length=its2.length:=by rw[←r.length,←r2.length];exact Paired.length pr
    have:=SeqAt.EqAt.of_refs hab (SeqAt.RcAt.tuples (A:=A) (e:=fun _=>true) ⟨o1,g1,c1,n1,d1⟩ ⟨o2,g2,c2,n2,d2⟩ (by lia) fun j h1 h2=>by
     have h1':j<its.length:=by simpa using h1
     have h2':j<its2.length:=by simpa using h2
     have:=qE (A:=A.in1) (xK I n A.in1 (by show A.units+1+n<cLine;lia)) pr r r2 j h1' h2'
     simpa using this)
    simpa [t6,hl] using this
end
section
variable {X:Cx}
def GO (K:PySem.W.Frag)(r:Bool):R2:=fun x y H Q=>∃a b xs ys,x= .ref a/\y= .ref b/\SqL K H a xs/\SqL K H b ys/\Paired (DeepEq K H 4) xs ys/\Q (.bl r) H
theorem ZU (hu:X.A.units+9<cLine):OpR X (compareOp .Eq) (GO X.K true):=by
 intro pins s σ H x y v u Q I rx ry h;obtain⟨a,b,xs,ys,rfl,rfl,ha,hb,pr,q⟩:=h;cases rx;cases ry;obtain⟨its,r,pl,hz⟩:=I.list ha;obtain⟨its2,r2,pl2,_⟩:=I.list hb;have hl:its.length=its2.length:=by rw[←r.length,←r2.length];exact Paired.length pr
 refine SeqAt.eq_listAt (e:=fun _=>true) pl.isList pl2.isList (by simpa using hl) (by lia) (fun j h1 h2=> ?_) ⟨.bl true,H,I,by rw[t6];rfl,q⟩;have:=qE (A:=X.A.in1) (xK I 4 X.A.in1 (by show X.A.units+1+4<cLine;lia)) pr r r2 j (by simpa using h1) (by simpa using h2)
 simpa using this
theorem tJ (hu:X.A.units+9<cLine):OpR X (compareOp .NotEq) (GO X.K false):=by
 intro pins s σ H x y v u Q I rx ry h;obtain⟨a,b,xs,ys,rfl,rfl,ha,hb,pr,q⟩:=h;cases rx;cases ry;obtain⟨its,r,pl,hz⟩:=I.list ha;obtain⟨its2,r2,pl2,_⟩:=I.list hb;have hl:its.length=its2.length:=by rw[←r.length,←r2.length];exact Paired.length pr
 refine SeqAt.RcNeAt.lists (e:=fun _=>true) pl.isList pl2.isList (by simpa using hl) (by lia) (fun j h1 h2=> ?_) X.prog X.w X.xe _ ⟨.bl false,H,I,by rw[t6];rfl,q⟩;have:=qE (A:=X.A.in1) (xK I 4 X.A.in1 (by show X.A.units+1+4<cLine;lia)) pr r r2 j (by simpa using h1) (by simpa using h2)
 simpa using this
end
section
variable {K:PySem.W.Frag}{H H':Hp}{Q:VK}
theorem lB {a b:Addr}{xs ys:List V}{r:Bool} (ha:SqL K H a xs) (hb:SqL K H b ys) (pr:Paired (DeepEq K H 4) xs ys) (h:Q (.bl r) H):GO K r (.ref a) (.ref b) H Q:=⟨a,b,xs,ys,rfl,rfl,ha,hb,pr,h⟩
theorem DeepEq.self {n:Nat}{x:V} (h:pO x=true):DeepEq K H n x x:=by cases n with|zero=>exact⟨rfl,h⟩|succ n=>exact .inl ⟨rfl,h⟩
theorem DeepEq.lst {n:Nat}{a b:Addr}{xs ys:List V} (ha:SqL K H a xs) (hb:SqL K H b ys) (pr:Paired (DeepEq K H n) xs ys):DeepEq K H (n+1) (.ref a) (.ref b):= .inr (.inl ⟨a,b,xs,ys,rfl,rfl,ha,hb,pr⟩)
theorem DeepEq.tup {n:Nat}{a b:Addr}{xs ys:List V} (ha:H a=some (.tup xs)) (hb:H b=some (.tup ys)) (pr:Paired (DeepEq K H n) xs ys):DeepEq K H (n+1) (.ref a) (.ref b):= .inr (.inr ⟨a,b,xs,ys,rfl,rfl,ha,hb,pr⟩)
theorem iJ {n:Nat}:∀{xs:List V},xs.all pO=true->Paired (DeepEq K H n) xs xs
 | [],_=> .nil
 | x::xs,h=>by
  rw[List.all_cons,Bool.and_eq_true]at h;exact .cons (DeepEq.self h.1) (iJ h.2)
end
section
variable {H:Hp}{Q:VK}{σ:St}{ty tx:TE}
end
end L2
namespace L2
open PySem PySem.W PyProof.Rows
section
variable {H:Hp}{Q:VK}
end
end L2
namespace L2
open PySem PySem.Spec PyProof.Rows
def SameT (H H':Hp):Prop:=∀b u,H b=some u->(∀ps,u≠ .tbl ps)->H' b=some u
theorem Same.t {H H':Hp}(s:Same H H'):SameT H H':=fun b u e _=>s b u e
theorem SameT.trans {H H1 H2:Hp}(s:SameT H H1)(t:SameT H1 H2):SameT H H2:=fun b u e n=>t b u (s b u e n) n
theorem SameT.snoc {H H1 H2:Hp}(s:SameT H H1)(a:Same H1 H2):SameT H H2:=fun b u e n=>a b u (s b u e n)
theorem SameT.seq {K:PySem.W.Frag}{H H':Hp}{a:Addr}{xs:List V} (T:SameT H H') (h:SqL K H a xs):SqL K H' a xs:=by
 rcases h with (h|⟨o,h⟩)|h
 ·exact .inl (.inl (T _ _ h fun ps z=>by cases z))
 ·exact .inl (.inr ⟨o,T _ _ h fun ps z=>by cases z⟩)
 ·exact .inr h
def TabS (H:Hp)(PL:Addr)(pos:Pos)(qual:Str):Prop:=H PL=some (.tbl #[])∨∃(c':Addr) (oc:Obj) (fv:Array Value) (t:Tok),H PL=some (.tbl #[rawInt pos.line,rawInt pos.col,.ref c'])/\H c'=some (kn oc)/\oc.data= .fields fv/\fv[1]? =some (.str qual t)
theorem TabS.same {H H':Hp}{PL:Addr}{pos:Pos}{qual:Str} (x:TabS H PL pos qual) (s:Same H H'):TabS H' PL pos qual:=by
 rcases x with h|⟨c',oc,fv,t,h1,h2,h3⟩
 ·exact .inl (s _ _ h)
 ·exact .inr ⟨c',oc,fv,t,s _ _ h1,s _ _ h2,h3⟩
section
variable {X:Cx}{args:Arguments}{body:Expr}{lsc:Scope}{pos:Pos}{y:Str}{c cL PL:Addr}
end
section
variable {K:PySem.W.Frag}{ti:TT}{te:TE}{σ:St}{ci:List Nat}{rest:St}{fin:List V->Hp->Prop}{H:Hp}{a:Addr}{α:Type}
end
end L2
namespace L2
open PySem PySem.W PyProof.Rows
section
variable {X:Cx}{pins:List (Addr×Obj)}{σ:St}{H:Hp}{s:Shared}
end
open Classical in
section
variable {X:Cx}{K:PySem.W.Frag}
open Classical in
open Classical in
open Classical in
end
end L2
namespace L2
open PySem PySem.W PyProof.Rows
section
variable {K:PySem.W.Frag}{ti:TT}{te:TE}{σ:St}{ci:List Nat}{rest:St}{fin:List V->Hp->Prop}{H:Hp}{a:Addr}
theorem aAQ {kvs:List (List Key×V)}{o:Obj} (c:List Key×V->Bool) (P:List Key×V->V->Hp->Prop) (hm:∀x y H1 H2,P x y H1->Same H1 H2->P x y H2) (hk:∀e∈kvs,e.1.length=2) (hn:kvs.length<=sizeLine) (hr:ci.map (fun i=>(σ[i]?).join)=rest) (h0:H a=some (.frz o (.dT kvs)))
  (ht:∀k1 k2 v H1,([k1,k2],v)∈kvs->Same H H1->∀R:Bool->Hp->Prop,(∀H2,Same H1 H2->R (c ([k1,k2],v)) H2)->ti (some (kV k1)::some (kV k2)::rest) H1 R)
  (he:∀k1 k2 v H1,([k1,k2],v)∈kvs->c ([k1,k2],v)=true->Same H H1->∀R:VK,(∀y H2,P ([k1,k2],v) y H2->Same H1 H2->R y H2)->te (some (kV k1)::some (kV k2)::rest) H1 R)
  (hf:∀ys H1,Same H H1->Paired (fun x y=>P x y H1) (kvs.filter c) ys->fin ys H1):fE (Itq a o kvs) (GM K 2 (xC (cJ 0) (xC (cJ 1) M9))) ti te (bP 2 ci σ) fin H:=by
 have e0:bP 2 ci σ=none::none::rest:=aBG hr;rw[e0];refine qN kvs c P hm hn (fun i H1 s hi=>⟨s _ _ h0,hi⟩) (fun H1 s=>⟨s _ _ h0,Nat.le_refl _⟩) (fun i x H1 hx s1 v H' y=> ?_) hf;obtain⟨rfl,k,u,q,e2,rfl,hq⟩:=y;rw[hx]at e2;cases e2;have hmem:=List.mem_of_getElem? hx;have hl2:=hk _ hmem;obtain⟨k1,k2,rfl⟩:∃k1 k2,k=[k1,k2]:=by
  match k,hl2 with
  | [k1,k2],_=>exact⟨k1,k2,rfl⟩
 refine⟨Same.refl _,some (kV k1)::some (kV k2)::rest,rfl,fun j v hv=> ?_,fun R h=>⟨q,[kV k1,kV k2],rfl,.inl (.inl hq),rfl,kV k1,[kV k2],rfl,kV k2,[],rfl,rfl,h⟩,fun R h=>ht _ _ _ _ hmem s1 R h,fun hc H2 s2 R h=>he _ _ _ H2 hmem hc (s1.trans s2) R h⟩
 match j,hv with
 | 0,hv=>cases hv
 | 1,hv=>cases hv
 | j+2,hv=>exact hv
end
end L2
namespace L2
open PySem PySem.W PyProof.Rows
section
variable {X:Cx}
end
end L2
namespace L2
open PySem PySem.W PyProof.Rows
section
variable {X:Cx}{ek ev:Expr}{tk tv:TE}{pos:Pos}
end
end L2
namespace L2
open PySem PySem.W PyProof.Rows
section
variable {K:Frag}{x qual:Str}{st:Stmt}{f:Addr}
end
end L2
namespace L2
open PySem PySem.W PyProof.Rows
section
variable {prog:Program}{w:World}{A:Around}{E:Value->Shared->Prop}{s:Shared}{κ:SortKind}{D:Keyed->Prop}{ρ:Keyed->Int}{st:SortSt}
end
end L2
namespace L2
open PySem PySem.W PyProof.Rows
section
variable {ρ:Keyed->Int}
variable {all o p ra rb:List Keyed}
end
end L2
namespace L2
open PySem PySem.W PyProof.Rows
section
variable {prog:Program}{w:World}{A:Around}{E:Value->Shared->Prop}{s:Shared}{κ:SortKind}{D:Keyed->Prop}{ρ:Keyed->Int}{st:SortSt}
end
end L2
namespace L2
open PySem PySem.W PyProof.Rows
section
variable {prog:Program}{w:World}{A:Around}{E:Value->Shared->Prop}{s:Shared}{κ:SortKind}{D:Keyed->Prop}{ρ:Keyed->Int}{st:SortSt}
end
end L2
namespace L2
open PySem PySem.W PyProof.Rows
section
variable {prog:Program}{w:World}{A:Around}{E:Value->Shared->Prop}{s:Shared}{κ:SortKind}{D:Keyed->Prop}{ρ:Keyed->Int}{st:SortSt}
end
end L2
namespace L2
open PySem PySem.W PyProof.Rows
section
variable {prog:Program}{w:World}{A:Around}{E:Value->Shared->Prop}{s:Shared}{κ:SortKind}{D:Keyed->Prop}{ρ:Keyed->Int}{st:SortSt}
end
end L2
namespace L2
open PySem PySem.W PyProof.Rows
section
variable {prog:Program}{w:World}{A:Around}{E:Value->Shared->Prop}{s:Shared}{κ:SortKind}{D:Keyed->Prop}{ρ:Keyed->Int}{st:SortSt}
end
end L2
namespace L2
open PySem PySem.W PyProof.Rows
section
variable {prog:Program}{w:World}{A:Around}{E:Value->Shared->Prop}{s:Shared}{κ:SortKind}{D:Keyed->Prop}{ρ:Keyed->Int}{st:SortSt}{a₀:Array Keyed}
end
end L2
namespace L2
open PySem PySem.W PyProof.Rows
section
variable {prog:Program}{w:World}{A:Around}{E:Value->Shared->Prop}{s:Shared}{κ:SortKind}{D:Keyed->Prop}{ρ:Keyed->Int}{st:SortSt}{a₀:Array Keyed}
end
end L2
namespace L2
open PySem PySem.W PyProof.Rows PySem.Calls
section
variable {prog:Program}{w:World}{A:Around}{E:Value->Shared->Prop}{s:Shared}{α:Type}{f:Value->α}{lt:α->α->Bool}{d:α}{l:List α}
end
end L2
namespace L2
open PySem PySem.W PyProof.Rows PySem.Calls
section
variable {X:Cx}{H:Hp}
end
end L2
namespace L2
open PySem PySem.W PyProof.Rows
section
variable {prog:Program}{w:World}{A:Around}{E:Value->Shared->Prop}{s:Shared}
end
open Sem (wp) in
open AutoSeq1 (wpAny_loadPart') in
section
variable {prog:Program}{w:World}{A:Around}{E:Value->Shared->Prop}{s:Shared}
end
end L2
namespace L2
open PySem PySem.W PyProof.Rows
section
variable {prog:Program}{w:World}{A:Around}{E:Value->Shared->Prop}{s:Shared}
end
section
variable {X:Cx}
end
end L2
namespace L2
open PySem PySem.W PyProof.Rows
section
variable {K:PySem.W.Frag}{H:Hp}{σ:St}{Q:VK}{R:It->Hp->Prop}{nx bk ct:St->Hp->Prop}{rt:VK}
end
theorem KQ {X:Cx}(K:PySem.W.Frag)(h:X.K=K):dC X (.type "list") (DA K):=h▸AW
end L2
namespace L2
open PySem PySem.W PyProof.Rows
section
variable {prog:Program}{w:World}{A:Around}{E:Value->Shared->Prop}{s:Shared}
variable {κ:Type}[DecidableEq κ]{knd:HeapKind prog w κ}
end
section
variable {A:Around}{s:Shared}
end
section
variable {prog:Program}{w:World}{A:Around}{E:Value->Shared->Prop}{s:Shared}
variable {κ:Type}[DecidableEq κ]{knd:HeapKind prog w κ}
end
section
variable {X:Cx}{pins:List (Addr×Obj)}{σ:St}{H:Hp}{s:Shared}
end
section
variable {X:Cx}
end
section
variable {X:Cx}
end
end L2
namespace L2
open PySem PySem.W PyProof.Rows
section
variable {X:Cx}
def unV:Value->V
 | .bool b=> .bl b
 | .int i _=> .int i
 | .str x _=> .str x
 | _=> .non
theorem LK {x:V}{u:Value} (h:jX x=true) (r:RelV x u):unV u=x:=by
 cases x<;>first|(cases h;done)|(obtain⟨t,rfl⟩:=r;rfl)|(cases r;rfl)
end
end L2
set_option autoImplicit false
namespace L2
open PySem PySem.Spec PyProof.Rows
section
variable {σ:St}{H:Hp}{nx bk ct:St->Hp->Prop}{rt:VK}
end
end L2
namespace L2
open PySem PySem.Spec PyProof.Rows
def iC (H:Hp):List Addr->Hp
 | []=>H
 | c::cs=>off (iC H cs) c
def ons (H:Hp):List (Addr×Obj)->Hp
 | []=>H
 | p::l=>ons (upd H p.1 (kn p.2)) l
theorem tE {H:Hp}:∀{cs:List Addr}{c:Addr},c∈cs->iC H cs c=none
 | a::cs,c,h=>by
  show off (iC H cs) a c=none
  by_cases e:c=a
  ·subst e;exact ID
  ·rw[iZ e];exact tE ((List.mem_cons.mp h).resolve_left e)
theorem pZ {H:Hp}:∀{cs:List Addr}{b:Addr},b∉cs->iC H cs b=H b
 | [],_,_=>rfl
 | a::cs,b,h=>by
  show off (iC H cs) a b=H b;rw[List.mem_cons,not_or]at h;rw[iZ h.1];exact pZ h.2
theorem I0 {H:Hp}:∀{l:List (Addr×Obj)},(l.map (·.1)).Nodup->(∀p∈l,H p.1=some (kn p.2))->ons (iC H (l.map (·.1))) l=H
 | [],_,_=>rfl
 | p::l,nd,e=>by
  have nd':=List.nodup_cons.mp nd;show ons (upd (off (iC H (l.map (·.1))) p.1) p.1 (kn p.2)) l=H;rw[R1 (by rw[pZ nd'.1];exact e p (.head _))];exact I0 nd'.2 fun q hq=>e q (List.mem_cons_of_mem _ hq)
section
variable {P:Program}{w:World}
theorem HR {H:Hp}{h:Heap} (x:HOk P w H h):∀{l:List (Addr×Obj)},(l.map (·.1)).Nodup->(∀p∈l,H p.1=some (kn p.2))->HOk P w (iC H (l.map (·.1))) h
 | [],_,_=>x
 | p::l,nd,e=>by
  have nd':=List.nodup_cons.mp nd;exact WX (HR x nd'.2 fun q hq=>e q (List.mem_cons_of_mem _ hq)) (by rw[pZ nd'.1];exact e p (.head _))
theorem CW {h:Heap}:∀{l:List (Addr×Obj)}{H:Hp},(l.map (·.1)).Nodup->(∀p∈l,H p.1=none/\h.get? p.1=some p.2)->HOk P w H h->HOk P w (ons H l) h
 | [],_,_,_,x=>x
 | p::l,H,nd,e,x=>by
  have nd':=List.nodup_cons.mp nd;refine CW (H:=upd H p.1 (kn p.2)) nd'.2 (fun q hq=>⟨?_,(e q (List.mem_cons_of_mem _ hq)).2⟩) (aBy x (e p (.head _)).1 (e p (.head _)).2);rw[aK (fun z=>nd'.1 (by show p.1∈l.map (·.1);rw[←z];exact List.mem_map.mpr ⟨q,hq,rfl⟩))];exact(e q (List.mem_cons_of_mem _ hq)).1
theorem MA {fs:List Addr}{H:Hp}{h h':Heap}:∀{l:List (Addr×Obj)}{H':Hp},(l.map (·.1)).Nodup->(∀p∈l,H p.1=some (kn p.2)/\h.get? p.1=some p.2/\p.1∉fs)->Un fs [] (iC H (l.map (·.1))) H' h h'->Un fs [] H (ons H' l) h h'
 | [],_,_,_,x=>x
 | p::l,H',nd,e,x=>by
  have nd':=List.nodup_cons.mp nd;obtain⟨e1,e2,e3⟩:=e p (.head _);exact MA (H':=upd H' p.1 (kn p.2)) nd'.2 (fun q hq=>e q (List.mem_cons_of_mem _ hq)) (aA1 (by rw[pZ nd'.1];exact e1) e2 e3 x)
theorem P3 {fs:List Addr}{H:Hp}{h h':Heap}:∀{l:List (Addr×Obj)}{H':Hp},(l.map (·.1)).Nodup->(∀p∈l,H' p.1=none/\h.objs.size<=p.1)->Un fs [] H H' h h'->Un fs [] H (ons H' l) h h'
 | [],_,_,_,x=>x
 | p::l,H',nd,e,x=>by
  have nd':=List.nodup_cons.mp nd;refine P3 (H':=upd H' p.1 (kn p.2)) nd'.2 (fun q hq=>⟨?_,(e q (List.mem_cons_of_mem _ hq)).2⟩) (aCg (e p (.head _)).1 (e p (.head _)).2 x);rw[aK (fun z=>nd'.1 (by show p.1∈l.map (·.1);rw[←z];exact List.mem_map.mpr ⟨q,hq,rfl⟩))];exact(e q (List.mem_cons_of_mem _ hq)).1
end
theorem v4:∀{l:List (Addr×Obj)}{H:Hp}{b:Addr},b∉l.map (·.1)->ons H l b=H b
 | [],_,_,_=>rfl
 | p::l,H,b,h=>by
  rw[List.map_cons,List.mem_cons,not_or]at h;show ons (upd H p.1 (kn p.2)) l b=H b;rw[v4 h.2,aK h.1]
theorem T9 {l:List (Addr×Obj)}{H:Hp} (e:∀p∈l,H p.1=none):Same H (ons H l):=fun b u h=>by
 have hn:b∉l.map (·.1):=fun z=>by
  obtain⟨p,hp,e'⟩:=List.mem_map.mp z;have h':=e p hp;rw[show p.1=b from e',h]at h';exact nomatch h'
 exact(v4 (l:=l) (H:=H) hn).trans h
theorem aBD {l:List (Addr×Obj)}{H:Hp} (nd:(l.map (·.1)).Nodup) {p:Addr×Obj} (hp:p∈l):ons H l p.1=some (kn p.2):=by
 induction l generalizing H with
 | nil=>exact nomatch hp
 | cons a l ih =>
  have nd':=List.nodup_cons.mp nd;rcases List.mem_cons.mp hp with e|hp
  ·subst e;exact(v4 (l:=l) (H:=upd H p.1 (kn p.2)) nd'.1).trans aZ
  ·exact ih (H:=upd H a.1 (kn a.2)) nd'.2 hp
def LamL (H:Hp)(F:Addr)(fd:FuncData)(qual:Str)(args:Arguments)(body:Expr)(sc:Scope)(cs:List (Str×Addr)):Prop :=
 ∃(c':Addr) (pm ctv:Value) (oc:Obj) (fv:Array Value) (t:Tok),fd=PySem.W.kla_fn "<lambda>" qual args body sc cs pm (.ref c') ctv ∧
  H F=some (kn (PySem.W.kla_obj "<lambda>" qual args body sc cs pm c' ctv))/\H c'=some (kn oc)/\oc.data= .fields fv/\fv[1]? =some (.str qual t)
theorem LamL.same {H H':Hp}{F:Addr}{fd:FuncData}{qual:Str}{args:Arguments}{body:Expr}{sc:Scope}{cs:List (Str×Addr)} (x:LamL H F fd qual args body sc cs) (s:Same H H'):LamL H' F fd qual args body sc cs :=
 let ⟨c',pm,ctv,oc,fv,t,e1,e2,e3,r⟩:=x;⟨c',pm,ctv,oc,fv,t,e1,s _ _ e2,s _ _ e3,r⟩
abbrev oA (H:Hp)(cs:List Addr)(vs:List V):Prop:=Paired (aCx H) cs vs
theorem A4 {H:Hp}:∀{cs:List Addr}{vs:List V},oA H cs vs->∃l:List (Addr×Obj),l.map (·.1)=cs/\∀p∈l,H p.1=some (kn p.2)
 | _,_,.nil=>⟨[],rfl,fun _ h=>nomatch h⟩
 | _,_,.cons ⟨o,u,e,_⟩ t=>by
  obtain⟨l,h1,h2⟩:=A4 t;refine⟨(_,o)::l,by rw[List.map_cons,h1],fun p hp=> ?_⟩;rcases List.mem_cons.mp hp with rfl|hp
  ·exact e
  ·exact h2 p hp
theorem pM {ys:List Str}{cs:List Addr}{z:Str}{d:Addr}:(ys.zip cs).lookup z=some d->∃i:Nat,ys[i]? =some z/\cs[i]? =some d:=by
 induction ys generalizing cs with
 | nil=>intro h;cases h
 | cons y ys ih =>
  cases cs with
  | nil=>intro h;cases h
  | cons c cs =>
   intro h;rw[List.zip_cons_cons,List.lookup_cons]at h;cases q:z==y with
   | true =>
    rw[q]at h;cases h;exact⟨0,by rw[eq_of_beq q];rfl,rfl⟩
   | false =>
    rw[q]at h;obtain⟨i,h1,h2⟩:=ih h;exact⟨i+1,h1,h2⟩
theorem A1 {ys:List Str}{cs:List Addr} (nd:ys.Nodup) {i:Nat}{z:Str}{d:Addr}:ys[i]? =some z->cs[i]? =some d->(ys.zip cs).lookup z=some d:=by
 induction ys generalizing cs i with
 | nil=>intro h;simp at h
 | cons y ys ih =>
  intro h1 h2;have nd':=List.nodup_cons.mp nd;cases cs with
  | nil=>simp at h2
  | cons c cs =>
   rw[List.zip_cons_cons,List.lookup_cons];cases i with
   | zero =>
    have h1:y=z:=by simpa using h1
    have h2:c=d:=by simpa using h2
    rw[h1,beq_self_eq_true,h2]
   | succ i =>
    have h1:ys[i]? =some z:=by simpa using h1
    have h2:cs[i]? =some d:=by simpa using h2
    have:(z==y)=false:=beq_false_of_ne fun e=>nd'.1 (by rw[←e];exact List.mem_of_getElem? h1);rw[this];exact ih nd'.2 h1 h2
theorem SX {α:Type}{l:List α} (nd:l.Nodup) {i j:Nat}{x:α} (h1:l[i]? =some x) (h2:l[j]? =some x):i=j:=by
 obtain⟨a1,b1⟩:=List.getElem?_eq_some_iff.mp h1;obtain⟨a2,b2⟩:=List.getElem?_eq_some_iff.mp h2;have pw:=List.pairwise_iff_getElem.mp nd;rcases Nat.lt_trichotomy i j with h|h|h
 ·exact absurd (b1.trans b2.symm) (pw i j a1 a2 h)
 ·exact h
 ·exact absurd (b2.trans b1.symm) (pw j i a2 a1 h)
section
variable {P:Program}{w:World}{K:PySem.W.Frag}{mg:Str->Option Value}{base:Heap}
theorem X9 {k:Nat}{f:Addr}{fd:FuncData}{qual:Str}{args:Arguments}{body:Expr}{sc:Scope}{x:Str}{ys:List Str}{cs:List Addr}{vs:List V}{sp:Sp}
  (hk:sc.kind= .function)(hco:sc.isCoroutine=false)(hgen:sc.isGenerator=false)(hcell:∀z∈sc.names,z.2≠ .cell)(hx:sc.names.lookup x=some .local)(hfree:∀z,sc.names.lookup z=some .free->z∈ys)(hy:∀y∈ys,sc.names.lookup y=some .free)(ny:ys.Nodup)(ncs:cs.Nodup)(hlen:ys.length=cs.length)
  (len:∀ws H Q E,sp ws H Q E->∃a,ws=[a]/\LamL H f fd qual args body sc (ys.zip cs)/\oA H cs vs)
  (hbody:∀(cdv:Value) (A:Around) (outer:List Env) (s:Shared) (H:Hp) (a:V) (Q:VK) (E:XK),Room k (A.deeper (PySem.W.envX qual sc s.heap.objs.size f cdv (ys.zip cs)))->sp [a] H Q E →
   ∃t,PE (cxL CX0 P w K mg base (x::ys) qual sc f cdv (ys.zip cs) A outer s (iC H cs) E).nox body t/\∀l:List (Addr×Obj),l.map (·.1)=cs->(∀p∈l,H p.1=some (kn p.2))->t (some a::vs.map some) (iC H cs) (fun r H'=>Q r (ons H' l))) :
  FnOk P w K mg base CX0 (k+1) f fd [x] sp:=by
 refine⟨fun ws H Q E h=> ?_,fun A outer s H ar us ws Q E hr e0 hb r hsp=> ?_⟩
 ·obtain⟨a,rfl,_⟩:=len ws H Q E h;rfl
 obtain⟨a,rfl,⟨c',pm,ctv,oc,fv,tt,rfl,hF,hc',hd,hv⟩,kc⟩:=len ws H Q E hsp;obtain⟨u,rfl,ra⟩:∃u,us=[u]/\RelV a u:=by
  cases r with
  | cons r1 r2=>cases r2;exact⟨_,rfl,r1⟩
 obtain⟨t,ht,hq⟩:=hbody (.ref c') A outer s H a Q E (hr.deeper _) hsp;obtain⟨l,rfl,hl⟩:=A4 kc;have hq:=hq l rfl hl;have gC:∀p∈l,s.heap.get? p.1=some p.2:=fun p hp=>vZ e0.hok (hl p hp);have lim:s.heap.NoLimit:=e0.mod.nolimit.keeps fun b o e=>(e0.bs b o e).1;refine PySem.W.kla_callFunE hr.depth (vZ e0.hok hF) rfl hco hgen rfl ⟨c',oc,fv,tt,rfl,vZ e0.hok hc',hd,hv⟩ (hb _ _ _ _ ?_);refine wpAny_newFunctionEnv hcell (fun z hz=>by
  have hz':z∈[(x,u)]:=hz;rw[List.mem_singleton]at hz';rw[hz'];exact hx) (fun h₁ hns hsb=>⟨lim.fresh _ hsb,?_⟩) hk
 have hk₁:∀b o,s.heap.get? b=some o->h₁.get? b=some o:=fun b o e=>hsb.extBut b o (Nat.ne_of_lt (Heap.lt_size e)) (Heap.get?_push_of_some _ e);have inl:∀{d:Addr},d∈l.map (·.1)->∃o,H d=some (kn o)/\s.heap.get? d=some o:=fun hd=>by
  obtain⟨p,hp,rfl⟩:=List.mem_map.mp hd;exact⟨p.2,hl p hp,gC p hp⟩
 have nc:∀b o,base.get? b=some o->b∉l.map (·.1):=fun b o e z=>by
  obtain⟨o',e',_⟩:=inl z;have:=(e0.bs b o e).2;rw[e']at this;cases this
 have ncf:∀c∈l.map (·.1),c∉frs outer:=fun c hc z=>by
  obtain⟨o',e',_⟩:=inl hc;rw[e0.frf c z]at e';cases e'
 show codeAny (model P w) A (.expr body (PySem.W.envX qual sc s.heap.objs.size f (.ref c') (ys.zip (l.map (·.1))))) _ _;have hokO:=HR e0.hok ncs hl;have I:Inv (cxL CX0 P w K mg base (x::ys) qual sc f (.ref c') (ys.zip (l.map (·.1))) A outer s (iC H (l.map (·.1))) E) [] (some a::vs.map some) (iC H (l.map (·.1))) { s with heap:=h₁,toks:=s.toks+([x].zip [u]).length }:=by
  have noA:∀b:Addr,b∉(cxL CX0 P w K mg base (x::ys) qual sc f (.ref c') (ys.zip (l.map (·.1))) A outer s (iC H (l.map (·.1))) E).ex:=fun b z=>absurd (show b∈([]:List Addr) from z) (by simp);refine⟨⟨e0.mod,hk,rfl,rfl,Nat.le_refl _,fun z1 z2 d h1 h2=> ?_,fun z hz=> ?_,fun z d hf _=>absurd (show false=true from hf) Bool.false_ne_true,fun _=>hr.hd,Around.frames_deeper e0.frames,.inr ⟨rfl,rfl⟩,fun b z=>absurd z (noA b),fun b o e=>⟨(e0.bs b o e).1,by show iC H (l.map (·.1)) b=none;rw[pZ (nc b o e)];exact(e0.bs b o e).2⟩,e0.bsz,fun b _ _=>noA b,fun b z=>absurd z (noA b),e0.funs,fun b hb=> ?_⟩,
   rfl,e0.bare,Un.kept hk₁,⟨_,hns,fun i z v' h1 h2 h3=> ?_⟩,fun z d h=> ?_,hokO.fresh (Nat.le_refl _),fun z d h=> ?_,fun p hp=>absurd (show p∈([]:List (Addr×Obj)) from hp) (by simp),hokO.kept hk₁,(by show (some a::vs.map some).length=(x::ys).length;rw[List.length_cons,List.length_cons,List.length_map];have:=Paired.length kc;lia)⟩
  ·obtain⟨i1,a1,b1⟩:=pM h1;obtain⟨i2,a2,b2⟩:=pM h2;have:=SX ncs b1 b2;subst this;rw[a1]at a2;cases a2;rfl
  ·have hz:sc.names.lookup z=some .cell∨sc.names.lookup z=some .free:=hz;rcases hz with hz|hz
   ·exact absurd rfl (hcell _ (PySem.mem_of_lookup hz))
   ·obtain⟨i,hi,e⟩:=List.getElem_of_mem (hfree z hz);have h1:ys[i]? =some z:=by rw[List.getElem?_eq_getElem hi,e]
    have h2:(l.map (·.1))[i]? =some (l.map (·.1))[i]:=List.getElem?_eq_getElem (by lia);exact⟨_,A1 ny h1 h2⟩
  ·show iC H (l.map (·.1)) b=none
   by_cases hbc:b∈l.map (·.1)
   ·exact tE hbc
   ·rw[pZ hbc];exact e0.frf b hb
  ·match i,h1,h2 with
   | 0,h1,h2 =>
    cases h1;cases h2;refine⟨u,ra,.inl ⟨hx,?_⟩⟩;show ([(x,u)].reverse).lookup x=some u;rw[List.reverse_singleton,List.lookup_cons,beq_self_eq_true]
   | i+1,h1,h2 =>
    have h1:(x::ys)[i+1]? =some z:=h1;have h1:ys[i]? =some z:=by simpa using h1
    have h2:vs[i]? =some v':=by
     have h2:(vs.map some)[i]? =some (some v'):=by simpa using h2
     rw[List.getElem?_map]at h2;obtain⟨q,q1,q2⟩:=Option.map_eq_some_iff.mp h2;cases q2;exact q1
    have hil:i<(l.map (·.1)).length:=by
     have:=(List.getElem?_eq_some_iff.mp h1).1
     lia
    have h4:(l.map (·.1))[i]? =some (l.map (·.1))[i]:=List.getElem?_eq_getElem hil;obtain⟨oC,uv,eC,hdC,rv⟩:=Paired.at2 kc h4 h2;obtain⟨o',e',g'⟩:=inl (List.mem_of_getElem? h4);rw[eC]at e';cases e';exact⟨uv,rv,.inr ⟨.inr (hy z (List.mem_of_getElem? h1)),_,A1 ny h1 h4,oC,hk₁ _ _ g',hdC⟩⟩
  ·obtain⟨i,a1,b1⟩:=pM h;have hvl:vs.length=(l.map (·.1)).length:=(Paired.length kc).symm;have hil:i<vs.length:=by
    have:=(List.getElem?_eq_some_iff.mp b1).1
    lia
   obtain⟨oC,uv,eC,hdC,rv⟩:=Paired.at2 kc b1 (List.getElem?_eq_getElem hil);obtain⟨o',e',g'⟩:=inl (List.mem_of_getElem? b1);rw[eC]at e';cases e';exact⟨_,oC,hk₁ _ _ g',hdC⟩
  ·obtain⟨i,a1,b1⟩:=pM h;exact tE (List.mem_of_getElem? b1)
 refine PySem.W.kla_codeExpr (wpAny_mono (PE.nox ht [] _ (some a::vs.map some) (iC H (l.map (·.1))) _ I hq) (fun u' s' ⟨v',H',J,rv',q⟩=> ?_) fun e s' hs=> ?_)
 ·have Jb:Un (frs outer) [] (iC H (l.map (·.1))) H' s.heap s'.heap:=J.base;have gC':∀p∈l,H' p.1=none/\s'.heap.get? p.1=some p.2:=fun p hp=>by
   have hm:p.1∈l.map (·.1):=List.mem_map.mpr ⟨p,hp,rfl⟩;exact⟨Jb.free p.1 p.2 (gC p hp) (tE hm) (by simp),Jb.keep p.1 p.2 (gC p hp) (tE hm) (ncf _ hm) (by simp)⟩
  exact⟨v',ons H' l,J.os,J.bare,MA ncs (fun p hp=>⟨hl p hp,gC p hp,ncf _ (List.mem_map.mpr ⟨p,hp,rfl⟩)⟩) Jb,CW ncs gC' J.hok,rv',q⟩
 ·exact wpAny_mono hs (fun _ s'' z=>z.elim) fun _ s'' z=>z.elim
end
section
variable {X:Cx}{args:Arguments}{body:Expr}{lsc:Scope}{pos:Pos}{cs:List (Str×Addr)}{cL PL:Addr}
def aCv (qual:Str)(args:Arguments)(body:Expr)(lsc:Scope)(cs:List (Str×Addr))(PL:Addr)(pos:Pos):TE:=fun _ H Q=>TabS H PL pos qual ∧
 ∀F fd H',H F=none->LamL H' F fd qual args body lsc cs->SameT H H'->TabS H' PL pos qual->Q (.ref F) H'
theorem WY (hcode:X.env.code= .ref cL)(C:PySem.W.CodeHd X.base cL PL)(B:X.base.BuiltinsAt X.mg PL)(hcl:closureFor lsc X.env=pure cs)(hdef:defaultsOf args X.env=([],[]):=by rfl) :
  PE X (.Lambda args body lsc pos) (aCv (X.env.qual++ "<lambda>") args body lsc cs PL pos):=by
 intro pins s σ H Q I h;obtain⟨hT,h⟩:=h;refine PySem.W.kla_eval hdef ?_;have hg:s.heap.Ns mainGlobals X.mg:=I.mod.glob.keeps I.bk;obtain⟨bm,ob,b1,b2,b3,b4,b5,b6⟩:=B;rcases hT with hP|⟨c',oc,fv,t,hP,hc',hd,hv⟩
 ·have gP:s.heap.get? PL=some (PySem.W.tabObj #[]):=I.hok PL _ hP;have hgP:mainGlobals≠PL:=fun q=>by
   obtain⟨o,es,ep,e,hd,_⟩:=hg;rw[q,gP]at e;cases e;cases hd
  refine PySem.W.kla_makeFunction (mg:=X.mg) (ps:= #[]) hcl I.ok.glob hg hcode (C.keeps I.bk) gP trivial rfl hgP ⟨bm,ob,b1,b2,b3,b4,I.bk _ _ b5,b6⟩ fun c' ctv h' tk hx hge hlt hrec htb=> ?_;obtain⟨c₂,oc,fv,t,e2,hoc,hd,hv⟩:=hrec;cases e2;have hps:(#[]++ #[rawInt pos.line,rawInt pos.col,Value.ref c']:Array Value)= #[rawInt pos.line,rawInt pos.col,Value.ref c']:=Array.empty_append;rw[hps]at htb;generalize hps2:(#[rawInt pos.line,rawInt pos.col,Value.ref c']:Array Value)=ps' at htb;generalize hoF:PySem.W.kla_obj "<lambda>" (X.env.qual++ "<lambda>") args body lsc cs ((X.mg "__name__").getD .none) c' ctv=oF;have pu:∀b o,h'.get? b=some o->(h'.push oF).get? b=some o:=fun b o e=>Heap.get?_push_of_some _ e;have gF:(h'.push oF).get? h'.objs.size=some oF:=Heap.get?_push_size _ (by subst hoF;rfl);have nPc:PL≠c':=Nat.ne_of_lt (Nat.lt_of_lt_of_le (Heap.lt_size gP) hge);have ncF:c'≠h'.objs.size:=Nat.ne_of_lt hlt;have nPF:PL≠h'.objs.size:=Nat.ne_of_lt (Heap.lt_size htb);have ltc:∀b u,H b=some u->b≠c':=fun b u e=>Nat.ne_of_lt (Nat.lt_of_lt_of_le (I.hok.lt e) hge);have ltF:∀b u,H b=some u->b≠h'.objs.size:=fun b u e=>Nat.ne_of_lt (Nat.lt_trans (Nat.lt_of_lt_of_le (I.hok.lt e) hge) hlt);have at0:∀b,b≠PL->b≠c'->b≠h'.objs.size->upd (upd (upd H PL (.tbl ps')) c' (kn oc)) h'.objs.size (kn oF) b=H b:=fun b n1 n2 n3=>by rw[aK n3,aK n2,aK n1]
  have atP:upd (upd (upd H PL (.tbl ps')) c' (kn oc)) h'.objs.size (kn oF) PL=some (.tbl ps'):=by rw[aK nPF,aK nPc,aZ]
  have atc:upd (upd (upd H PL (.tbl ps')) c' (kn oc)) h'.objs.size (kn oF) c'=some (kn oc):=by rw[aK ncF,aZ]
  have atF:upd (upd (upd H PL (.tbl ps')) c' (kn oc)) h'.objs.size (kn oF) h'.objs.size=some (kn oF):=aZ;generalize upd (upd (upd H PL (.tbl ps')) c' (kn oc)) h'.objs.size (kn oF)=H3 at at0 atP atc atF;have keepH:∀b u,H b=some u->(∀ps,u≠ .tbl ps)->H3 b=some u:=fun b u e nt=>by
   rw[at0 b (fun z=>by rw[z,hP]at e;cases e;exact nt _ rfl) (ltc b u e) (ltF b u e)];exact e
  have sz:∀b o,s.heap.get? b=some o->b≠c'/\b≠h'.objs.size:=fun b o e =>
   ⟨Nat.ne_of_lt (Nat.lt_of_lt_of_le (Heap.lt_size e) hge),Nat.ne_of_lt (Nat.lt_trans (Nat.lt_of_lt_of_le (Heap.lt_size e) hge) hlt)⟩
  have nP:∀b,H b=none->b≠PL:=fun b n z=>by rw[z,hP]at n;cases n
  have I':Inv X pins σ H3 { s with heap:=h'.push oF,toks:=tk }:=by
   refine I.un ⟨fun b o e n _ _=>pu b o (hx b o (nP b n) e),fun b o e n _ _=>⟨o.slots,pu b o (hx b o (nP b n) e)⟩,fun b o e n _=> ?_,fun b o e _=> ?_,fun b xs e=>keepH b _ e (fun ps z=>by cases z),fun b o u e=>keepH b _ e (fun ps z=>by cases z),fun b ps e=> ?_⟩ fun b o e=> ?_
   ·rw[at0 b (nP b n) (sz b o e).1 (sz b o e).2];exact n
   ·by_cases hb:b=PL
    ·subst hb;exact⟨_,pu _ _ htb⟩
    ·exact⟨o,pu b o (hx b o hb e)⟩
   ·by_cases hb:b=PL
    ·subst hb;rw[hP]at e;cases e;exact⟨ps',by rw[atP,Array.empty_append]⟩
    ·refine⟨#[],?_⟩;rw[at0 b hb (ltc b _ e) (ltF b _ e),e,Array.append_empty]
   ·by_cases hF:b=h'.objs.size
    ·subst hF;rw[atF]at e;cases e;exact F7 gF
    by_cases hc':b=c'
    ·subst hc';rw[atc]at e;cases e;exact F7 (pu _ _ hoc)
    by_cases hb:b=PL
    ·subst hb;rw[atP]at e;cases e;exact pu _ _ htb
    rw[at0 b hb hc' hF]at e;refine(I.hok b o e).stay (fun d u hd' q=>pu d u (hx d u ?_ q)) (fun d q=>keepH d _ q fun ps z=>by cases z) fun d xs q=>keepH d _ q fun ps z=>by cases z
    rcases hd' with z|z
    ·rw[z];exact hb
    ·intro z2;rw[z2,hP]at z;cases z
  refine⟨.ref h'.objs.size,H3,I',rfl,h _ _ H3 ?_ ⟨c',_,ctv,oc,fv,t,rfl,by rw[hoF];exact atF,atc,hd,hv⟩ keepH (.inr ⟨c',oc,fv,t,by rw[atP,hps2],atc,hd,hv⟩)⟩;exact I.hok.fresh (Nat.le_trans hge (Nat.le_of_lt hlt))
 ·have gP:s.heap.get? PL=some (PySem.W.tabObj #[rawInt pos.line,rawInt pos.col,.ref c']):=I.hok PL _ hP;refine PySem.W.kla_makeFunctionHit (mg:=X.mg) (ps:= #[rawInt pos.line,rawInt pos.col,.ref c']) (cv:= .ref c') hcl I.ok.glob hg hcode (C.keeps I.bk) gP (by simp[TriplesOk,rawInt]) (by simp[codeAmong,rawInt]) ⟨bm,ob,b1,b2,b3,b4,I.bk _ _ b5,b6⟩ fun ctv h' tk hx hge=> ?_;generalize hoF:PySem.W.kla_obj "<lambda>" (X.env.qual++ "<lambda>") args body lsc cs ((X.mg "__name__").getD .none) c' ctv=oF;have hoF':=hoF;unfold PySem.W.kla_obj at hoF';rw[hoF'];have pu:∀b o,h'.get? b=some o->(h'.push oF).get? b=some o:=fun b o e=>Heap.get?_push_of_some _ e;have gF:(h'.push oF).get? h'.objs.size=some oF:=Heap.get?_push_size _ (by subst hoF;rfl);have ltF:∀b u,H b=some u->b≠h'.objs.size:=fun b u e=>Nat.ne_of_lt (Nat.lt_of_lt_of_le (I.hok.lt e) hge);have sF:Same H (upd H h'.objs.size (kn oF)):=fun b u e=>by rw[aK (ltF b u e)];exact e
  have I':Inv X pins σ (upd H h'.objs.size (kn oF)) { s with heap:=h'.push oF,toks:=tk }:=by
   refine I.un ⟨fun b o e n _ _=>pu b o (hx b o e),fun b o e n _ _=>⟨o.slots,pu b o (hx b o e)⟩,fun b o e n _=> ?_,fun b o e _=>⟨o,pu b o (hx b o e)⟩,fun b xs e=>sF _ _ e,fun b o u e=>sF _ _ e,fun b ps e=>⟨#[],by rw[Array.append_empty];exact sF _ _ e⟩⟩ fun b o e=> ?_
   ·rw[aK (Nat.ne_of_lt (Nat.lt_of_lt_of_le (Heap.lt_size e) hge))];exact n
   ·by_cases hF:b=h'.objs.size
    ·subst hF;rw[aZ]at e;cases e;exact F7 gF
    ·rw[aK hF]at e;exact(I.hok b o e).stay (fun d u hd' q=>pu d u (hx d u q)) (fun d q=>sF _ _ q) fun d xs q=>sF _ _ q
  refine⟨.ref h'.objs.size,_,I',rfl,h _ _ _ (I.hok.fresh hge) ⟨c',_,ctv,oc,fv,t,rfl,by rw[hoF];exact aZ,sF _ _ hc',hd,hv⟩ (Same.t sF) (.inr ⟨c',oc,fv,t,sF _ _ hP,sF _ _ hc',hd,hv⟩)⟩
end
section
variable {P:Program}{w:World}{K:PySem.W.Frag}{mg:Str->Option Value}{base:Heap}
def aC1 (ics:List (Nat×Addr))(Q:VK):St->V->Hp->Prop:=fun σ v H'=>∃cvs,Paired (fun (ic:Nat×Addr) cv=>σ[ic.1]? =some (some cv)) ics cvs/\∀H2,Same H' H2->(∀ic∈ics,H' ic.2=none)->oA H2 (ics.map (·.2)) cvs->Q v H2
theorem FunV.okL {x qual:Str}{st:Stmt}{f:Addr}{fd:FuncData}{N ps:List Str}{k:Nat}{iys:List (Nat×Str)}{sp:Sp} (F:FunV K x qual st f fd) (S:aS N ps (aC st)) (hi:∀iy∈iys,N[iy.1]? =some iy.2/\(aC st).names.lookup iy.2=some .cell) (len:∀vs H Q E,sp vs H Q E->vs.length=ps.length)
  (hbody:∀(cdv:Value) (A:Around) (outer:List Env) (s:Shared) (H:Hp) (vs:List V) (Q:VK) (E:XK) (ics:List (Nat×Addr)),fd.code=cdv->Paired (fun (iy:Nat×Str) (ic:Nat×Addr)=>ic.1=iy.1/\(cellsFrom (s.heap.objs.size+1) (aC st).names []).lookup iy.2=some ic.2) iys ics->Room k (A.deeper (envOfC qual (aC st) s.heap.objs.size f cdv))->sp vs H Q E →
   (ics.map (·.2)).Nodup/\∃t,PRs (uE CX0 P w K mg base N qual (aC st) f cdv A outer s H E).nox (aH st) t/\t { nx:=fun _ H'=>Q .non H',rt:=Q } (aC1 ics Q) (iQ N vs) H):FnOk P w K mg base CX0 (k+1) f fd ps sp:=by
 obtain⟨oc,od,dV,kV,doc,pm,an,cdv,ct,osl,rfl,lk,hcd⟩:=F.ex;refine⟨len,fun A outer s H args us vs Q E hr e0 hb r hsp=> ?_⟩;have hl:=len _ _ _ _ hsp;have KX:K.In s.heap:=e0.mod.kin.keeps fun b o e=>(e0.bs b o e).1;have lim:s.heap.NoLimit:=e0.mod.nolimit.keeps fun b o e=>(e0.bs b o e).1;have hkind:∀y∈ps.zip us,(aC st).names.lookup y.1=some .local∨((aC st).names.lookup y.1=some .cell/\((cellsFrom (s.heap.objs.size+1) (aC st).names []).lookup y.1).isSome=true):=fun⟨n,v⟩ hy=>by
  rcases S.par n (List.of_mem_zip hy).1 with q|q
  ·exact .inl q
  ·exact .inr ⟨q,PySem.W.cellsFrom_some _ _ _ (.inl q)⟩
 refine codeAny_call_function hr.depth (KX _ _ lk) rfl S.co S.gen rfl (PySem.W.codeRec_of KX hcd) (hb _ _ _ _ ?_);refine wpAny_newFunctionEnv_cells S.kind hkind fun env he s1 x=> ?_;subst he;refine⟨lim.keeps x.toInCall.keep,codeAny_func ?_⟩;obtain⟨ics,hic⟩:∃ics:List (Nat×Addr),Paired (fun (iy:Nat×Str) (ic:Nat×Addr)=>ic.1=iy.1/\(cellsFrom (s.heap.objs.size+1) (aC st).names []).lookup iy.2=some ic.2) iys ics:=by
  clear hbody
  induction iys with
  | nil=>exact⟨[],.nil⟩
  | cons a l ih =>
   obtain⟨ics,h⟩:=ih fun iy hiy=>hi iy (List.mem_cons_of_mem _ hiy);obtain⟨c,hc⟩:=qI (n:=s.heap.objs.size+1) (hi a (.head _)).2;exact⟨(a.1,c)::ics,.cons ⟨rfl,hc⟩ h⟩
 obtain⟨ncs,t,ht,hq⟩:=hbody cdv A outer s H vs Q E ics rfl hic (hr.deeper _) hsp;have I:Inv (uE CX0 P w K mg base N qual (aC st) f cdv A outer s H E) [] (iQ N vs) H s1:=EO S hr.hd e0 hl r x;refine wpAny_mono (ht [] s1 (iQ N vs) H _ _ (I.wish _) hq) (fun fl s' hs=> ?_) fun e s' hs=>False.elim hs;have fin:∀{σ':St}{H':Hp}{v:V}{u:Value},Inv (uE CX0 P w K mg base N qual (aC st) f cdv A outer s H E).nox [] σ' H' s'->RelV v u->Q v H'->CE outer P w H s Q u s' :=
  fun {σ' H' v u} J rv q=>⟨v,H',J.os,J.bare,J.base,J.hok,rv,q⟩
 cases fl with
 | ret u =>
  obtain⟨v,σ',H',J,rv,q⟩:=hs;rcases q with q|⟨cvs,hi',q⟩
  ·exact fin J rv q
  ·obtain⟨m,hn,hl'⟩:=J.loc;have one:∀(iy:Nat×Str) (ic:Nat×Addr) (cv:V),iy∈iys->(ic.1=iy.1/\(cellsFrom (s.heap.objs.size+1) (aC st).names []).lookup iy.2=some ic.2)->σ'[ic.1]? =some (some cv)->H' ic.2=none/\s.heap.objs.size<=ic.2/\∃oC u',s'.heap.get? ic.2=some oC/\oC.data= .cell (some u')/\RelV cv u':=fun iy ic cv hiy hc hs'=>by
    obtain⟨hN,hyc⟩:=hi iy hiy;obtain⟨u',ru,lk'⟩:=hl' iy.1 iy.2 cv hN (by rw[←hc.1];exact hs') (.inr (.inl hyc));have hcell:s'.heap.IsCell ic.2 (some u'):=by
     rcases lk' with⟨z,_⟩|⟨_,c2,e1,e2⟩
     ·have z':(aC st).names.lookup iy.2=some .local:=z;rw[hyc]at z';cases z'
     ·have e1':(cellsFrom (s.heap.objs.size+1) (aC st).names []).lookup iy.2=some c2:=e1;rw[hc.2]at e1';cases e1';exact e2
    obtain⟨oC,hoC,hdC⟩:=hcell;exact⟨J.freeC iy.2 ic.2 hc.2,J.ok.cab iy.2 ic.2 rfl hc.2,oC,u',hoC,hdC,ru⟩
   have all:∀{iys':List (Nat×Str)}{ics':List (Nat×Addr)}{cvs':List V},(∀iy∈iys',iy∈iys)->Paired (fun (iy:Nat×Str) (ic:Nat×Addr)=>ic.1=iy.1/\(cellsFrom (s.heap.objs.size+1) (aC st).names []).lookup iy.2=some ic.2) iys' ics'->Paired (fun (ic:Nat×Addr) cv=>σ'[ic.1]? =some (some cv)) ics' cvs' →
     ∃l:List (Addr×Obj),l.map (·.1)=ics'.map (·.2)/\(∀p∈l,H' p.1=none/\s.heap.objs.size<=p.1/\s'.heap.get? p.1=some p.2)/\∀H2:Hp,(∀p∈l,H2 p.1=some (kn p.2))->oA H2 (ics'.map (·.2)) cvs':=by
    intro iys' ics' cvs' hsub p1 p2
    induction p1 generalizing cvs' with
    | nil =>
     cases p2;exact⟨[],rfl,(fun _ h=>nomatch h),fun _ _=> .nil⟩
    | @cons iy ic iys2 ics2 h1 t1 ih =>
     cases p2 with
     | cons h2 t2 =>
      obtain⟨l,e1,e2,e3⟩:=ih (fun z hz=>hsub z (List.mem_cons_of_mem _ hz)) t2;obtain⟨a1,a2,oC,u',a3,a4,a5⟩:=one _ _ _ (hsub _ (.head _)) h1 h2;refine⟨(ic.2,oC)::l,by rw[List.map_cons,List.map_cons,e1],fun p hp=> ?_,fun H2 h=> .cons ⟨oC,u',h _ (.head _),a4,a5⟩ (e3 H2 fun p hp=>h p (List.mem_cons_of_mem _ hp))⟩;rcases List.mem_cons.mp hp with rfl|hp
      ·exact⟨a1,a2,a3⟩
      ·exact e2 p hp
   obtain⟨l,e1,e2,e3⟩:=all (fun _ h=>h) hic hi';have nl:(l.map (·.1)).Nodup:=by rw[e1];exact ncs
   have hnone:∀ic∈ics,H' ic.2=none:=fun ic hic'=>by
    have:ic.2∈l.map (·.1):=by rw[e1];exact List.mem_map.mpr ⟨ic,hic',rfl⟩
    obtain⟨p,hp,e⟩:=List.mem_map.mp this;rw[←e];exact(e2 p hp).1
   exact⟨v,ons H' l,J.os,J.bare,P3 nl (fun p hp=>⟨(e2 p hp).1,(e2 p hp).2.1⟩) J.base,CW nl (fun p hp=>⟨(e2 p hp).1,(e2 p hp).2.2⟩) J.hok,rv,q _ (T9 fun p hp=>(e2 p hp).1) hnone (e3 _ fun p hp=>aBD nl hp)⟩
 | next =>
  obtain⟨σ',H',J,q⟩:=hs;exact fin (v:=V.non) (u:=Value.none) J rfl q
 | brk =>
  obtain⟨_,_,_,q⟩:=hs;exact False.elim q
 | cont =>
  obtain⟨_,_,_,q⟩:=hs;exact False.elim q
end
end L2
namespace L2
open PySem PySem.W PyProof.Rows
section
variable {P:Program}{w:World}{K:PySem.W.Frag}{mg:Str->Option Value}{base:Heap}
def LO (F:Addr)(fd:FuncData)(qual:Str)(args:Arguments)(body:Expr)(sc:Scope)(ys:List Str)(cs:List Addr)(vs:List V)(val:Int->Int):Sp:=fun ws H Q _ =>
 ∃t:Int,ws=[.int t]/\0<=t/\LamL H F fd qual args body sc (ys.zip cs)/\oA H cs vs/\Q (.int (val t)) H
theorem Y0 {k:Nat}{F:Addr}{fd:FuncData}{qual:Str}{args:Arguments}{body:Expr}{sc:Scope}{x:Str}{ys:List Str}{cs:List Addr}{vs:List V}{val:Int->Int}
  (hk:sc.kind= .function)(hco:sc.isCoroutine=false)(hgen:sc.isGenerator=false)(hcell:∀z∈sc.names,z.2≠ .cell)(hx:sc.names.lookup x=some .local)(hfree:∀z∈sc.names,z.2= .free->z.1∈ys)(hy:∀y∈ys,sc.names.lookup y=some .free)(ny:ys.Nodup)(ncs:cs.Nodup)(hlen:ys.length=cs.length)
  (hb:∀(cdv:Value) (A:Around) (outer:List Env) (s:Shared) (H:Hp) (E:XK),Room k (A.deeper (PySem.W.envX qual sc s.heap.objs.size F cdv (ys.zip cs))) →
   ∃t,PE (cxL CX0 P w K mg base (x::ys) qual sc F cdv (ys.zip cs) A outer s H E).nox body t/\∀(i:Int) (Q:VK),0<=i->Q (.int (val i)) H->t (some (.int i)::vs.map some) H Q) :
  FnOk P w K mg base CX0 (k+1) F fd [x] (LO F fd qual args body sc ys cs vs val):=by
 refine X9 (qual:=qual) (args:=args) (body:=body) (vs:=vs) hk hco hgen hcell hx (fun z e=>hfree (z,.free) (PySem.mem_of_lookup e) rfl) hy ny ncs hlen (fun ws H Q E h=> ?_) fun cdv A outer s H a Q E hr h=> ?_
 ·obtain⟨t,e,t0,L,kc,_⟩:=h;exact⟨.int t,e,L,kc⟩
 ·obtain⟨i,e,t0,L,kc,k⟩:=h;cases e;obtain⟨t,ht,hq⟩:=hb cdv A outer s (iC H cs) E hr;refine⟨t,ht,fun l el hl=>hq _ _ t0 ?_⟩;subst el;show Q _ (ons (iC H _) l);rw[I0 ncs hl];exact k
theorem aBr {l:List (Str×Addr)}{iys:List (Nat×Str)}{ics js:List (Nat×Addr)} (h:Paired (fun (iy:Nat×Str) (ic:Nat×Addr)=>ic.1=iy.1/\l.lookup iy.2=some ic.2) iys ics) (hj:Paired (fun (iy:Nat×Str) (ic:Nat×Addr)=>ic.1=iy.1/\l.lookup iy.2=some ic.2) iys js):ics=js:=by
 induction h generalizing js with
 | nil=>cases hj;rfl
 | @cons iy ic _ _ h1 t1 ih =>
  cases hj with
  | @cons _ jc _ _ h2 t2 =>
   rw[ih t2];have e1:ic.1=jc.1:=h1.1.trans h2.1.symm;have e2:ic.2=jc.2:=Option.some.inj (h1.2.symm.trans h2.2);rw[Prod.ext e1 e2]
end
end L2
namespace L2
open PySem PySem.W PyProof.Rows
end L2
namespace L2
open PySem PySem.W PyProof.Rows PySem.Calls
section
variable {X:Cx}
variable {H:Hp}{Q:VK}
end
end L2
namespace L2
open PySem PySem.W PyProof.Rows
def aAc (tc:TT)(u v:d4->(St->V->Hp->Prop)->St->Hp->Prop):d4->(St->V->Hp->Prop)->St->Hp->Prop:=fun D R σ H=>tc σ H fun b H1=>if b=true then u { D with nx:=v D R } R σ H1 else v D R σ H1
section
variable {X:Cx}{rest a:List Stmt}{u v:d4->(St->V->Hp->Prop)->St->Hp->Prop}{c:Expr}{tc:TT}{pos:Pos}
theorem aBe {D:d4}{R:St->V->Hp->Prop}{σ:St}{H:Hp} (h:tc σ H fun b H1=>if b=true then u { D with nx:=v D R } R σ H1 else v D R σ H1):aAc tc u v D R σ H:=h
def aAY (t:TS):d4->(St->V->Hp->Prop)->St->Hp->Prop:=fun D _=>t D
theorem X3 {t:TS}{D:d4}{R:St->V->Hp->Prop}{σ:St}{H:Hp} (h:t D σ H):aAY t D R σ H:=h
theorem XL {t:TS}(h:PSs X a t):PRs X a (aAY t):=fun pins s σ H D R I q=>thn (h pins s σ H D I q) fun f s2 q=>SP.r q
theorem aAH (hc:PT X c tc)(ha:PRs X a u)(hb:PRs X rest v):PRs X (.If c a [] pos::rest) (aAc tc u v):=by
 intro pins s σ H D R I h;refine wpAny_execs_cons (wpAny_If (thn (hc pins s σ H _ I h) fun d s1 ⟨H1,I1,q1⟩=> ?_));cases d with
 | true =>
  refine thn (ha pins s1 σ H1 { D with nx:=v D R } R I1 q1) fun f s2 q=> ?_;cases f with
  | next =>
   obtain⟨σ',H',I',q⟩:=q;exact hb pins s2 σ' H' D R I' q
  | ret u=>exact q
  | brk=>exact q
  | cont=>exact q
 | false =>
  refine thn (bB pins s1 σ H1 { D with nx:=v D R } I1 q1) fun f s2 q=> ?_;cases f with
  | next =>
   obtain⟨σ',H',I',q⟩:=q;exact hb pins s2 σ' H' D R I' q
  | ret u=>obtain⟨v,σ',H',I,r,q⟩:=q;exact⟨v,σ',H',I,r,.inl q⟩
  | brk=>exact q
  | cont=>exact q
end
end L2
namespace L2
open PySem PySem.W PyProof PyProof.Rows
section
variable {X:Cx}{pins:List (Addr×Obj)}{σ:St}{H:Hp}{s:Shared}{a:Addr}{k:Option Str}{v:V}{u r:Value}{A:Around}{E:Value->Shared->Prop}{kvs:List (Option Str×V)}
end
section
variable {X:Cx}{o i value:Expr}{pos pos':Pos}{td ty tv:TE}
end
section
variable {X:Cx}
end
section
variable {P:Program}{w:World}{H:Hp}{Q:VK}{σ:St}{nx bk ct:St->Hp->Prop}{rt:VK}{R:It->Hp->Prop}{td ty tv:TE}{p:Addr}{kvs:List (Option Str×V)}{v:V}
end
end L2
namespace L2
open PySem PySem.W PyProof PyProof.Rows
end L2
namespace L2
open PySem PySem.W PyProof.Rows PySem.Calls
section
variable {prog:Program}{w:World}{A:Around}{E:Value->Shared->Prop}{s:Shared}
variable {R:Result->Shared->Prop}
end
end L2
namespace L2
open PySem PySem.W PyProof.Rows PySem.Calls
section
variable {prog:Program}{w:World}{A:Around}{E:Value->Shared->Prop}{s:Shared}
end
end L2
namespace L2
open PySem PySem.W PyProof.Rows PySem.Calls
section
variable {prog:Program}{w:World}{A:Around}{E:Value->Shared->Prop}{s:Shared}{r:Addr}
variable {it a:Addr}{f:Value}{i n ep:Nat}{o:Obj}{es:Array (Int×Value)}{t:SetTable}
variable {tp:Addr}{ot:Obj}{ps:List Nat}{ec:Nat}
end
end L2
namespace L2
open PySem PySem.W PyProof.Rows PySem.Calls
section
variable {prog:Program}{w:World}{A:Around}{E:Value->Shared->Prop}{s:Shared}{a:Addr}{o:Obj}
variable {es:Array (Int×Value)}{ep:Nat}{t:SetTable}
end
end L2
namespace L2
open PySem PySem.W PyProof.Rows PySem.Calls
section
variable {prog:Program}{w:World}{A:Around}{E:Value->Shared->Prop}{s:Shared}{a:Addr}{o:Obj}{ss:List Str}
end
end L2
namespace L2
open PySem PySem.W PyProof.Rows PySem.Calls
section
variable {X:Cx}
variable {H:Hp}{Q:VK}{w:World}
end
end L2
namespace L2
open PySem PySem.Spec PyProof.Rows
def bW (X:Cx)(scope:Scope)(cl:List (Str×Addr))(N:List Str)(y0:Str)(C:Addr)(s0:Shared)(H0:Hp)(fp:List Addr):Cx where
 prog:=X.prog
 w:=X.w
 K:=X.K
 mg:=X.mg
 base:=X.base
 A:=X.A
 N:=N
 s₀:=s0
 H₀:=H0
 env:=compEnvC scope ((y0,C+1)::cl) C X.env
 outer:=X.stack
 stack:=X.stack
 ex:=fp
 fn:=fun n=>n==y0
 calm:=X.calm
 pn:=[]
 xe:=fun _ _=>False
structure MU (X:Cx)(scope:Scope)(cl:List (Str×Addr))(N:List Str)(nl:Nat)(ci:List Nat)(y0:Str):Prop where
 kind:scope.kind= .function
 names:∀y∈scope.names,y.2= .local->scope.names.lookup y.1=some .local
 cf:∀n,cellsFrom n scope.names cl=(y0,n)::cl
 pc:∀h,pushCells h scope.names=h.push { cls:= .type "cell",data:= .cell none }
 clos:closureFor scope X.env=pure cl
 sub:∀n c,cl.lookup n=some c->X.env.cells.lookup n=some c
 ny:cl.lookup y0=none
 has:∀n,((relabel scope X.env).names.lookup n=some .cell∨(relabel scope X.env).names.lookup n=some .free)->n=y0∨∃c,cl.lookup n=some c
 len:N.length=nl+ci.length
 cap:∀(j i:Nat),ci[j]? =some i->∃n,N[nl+j]? =some n/\X.N[i]? =some n/\n≠y0/\(X.env.scope.names.lookup n=some .cell∨X.env.scope.names.lookup n=some .free) ∧
  ((relabel scope X.env).names.lookup n=some .cell∨(relabel scope X.env).names.lookup n=some .free)/\cl.lookup n=X.env.cells.lookup n
theorem lP {y0 x:Str}{c0 c:Addr}{cl:List (Str×Addr)} (h:((y0,c0)::cl).lookup x=some c):(x=y0/\c0=c)∨(x≠y0/\cl.lookup x=some c):=by
 by_cases hx:x=y0
 ·subst hx;rw[List.lookup_cons,beq_self_eq_true]at h;exact .inl ⟨rfl,Option.some.inj h⟩
 ·have hb:(x==y0)=false:=by simpa using hx
  rw[List.lookup_cons,hb]at h;exact .inr ⟨hx,h⟩
theorem ME {y0 x:Str}{c0:Addr}{cl:List (Str×Addr)} (h:x≠y0):((y0,c0)::cl).lookup x=cl.lookup x:=by
 have hb:(x==y0)=false:=by simpa using h
 rw[List.lookup_cons,hb]
section
variable {M:Model}{A:Around}{E:Value->Shared->Prop}{s:Shared}
theorem SF {scope:Scope}{globals:Addr}{cl:List (Str×Addr)}{qual y0:Str}{env:Env}{Q:Env->Shared->Prop} (cf:∀n,cellsFrom n scope.names cl=(y0,n)::cl) (pc:∀h,pushCells h scope.names=h.push { cls:= .type "cell",data:= .cell none })
  (k:Q ({ scope,locals:=s.heap.objs.size,globals,cells:=(y0,s.heap.objs.size+1)::cl,qual,func:=none,code:=env.code,frame:=env.frame,builtins:=env.builtins }:Env) ({ s with heap:=(s.heap.push { cls:= .type "dict",data:= .dict #[] }).push { cls:= .type "cell",data:= .cell none } }:Shared)):wpAny M A (newFunctionEnv scope globals cl [] qual none .none (some env)) Q E s:=by
 simp only[newFunctionEnv,Option.isSome_some,if_true];refine wpAny_bind (wpAny_alloc (wpAny_bind (wpAny_layCells _ (fun name kind cells=>by cases hkc:kind==NameKind.cell<;>simp[hkc]) _ _ _ _ ?_)));rw[cf,pc,show ({ s with heap:=s.heap.push { cls:= .type "dict",data:= .dict #[] } }:Shared).heap.objs.size=s.heap.objs.size+1 from Heap.size_push ..];rw[List.forIn_nil];exact wpAny_bind (wpAny_pure (wpAny_pure k))
end
section
variable {X:Cx}{scope:Scope}{cl:List (Str×Addr)}{N:List Str}{nl:Nat}{ci:List Nat}{y0:Str}{pins:List (Addr×Obj)}{σ:St}{H2:Hp}{s2:Shared}{fp:List Addr}
theorem HP (B:MU X scope cl N nl ci y0)(I:Inv X pins σ H2 s2)(f2:∀b∈fp,j8 X pins H2 b)(fo:∀b∈fp,∃o,s2.heap.get? b=some o){C:Addr}{h4:Heap}{t4:Nat}{m4:Str->Option Value} (hC:s2.heap.objs.size<=C) (hns:h4.Ns C m4) (hcc:h4.IsCell (C+1) none)
  (hk:∀b o,s2.heap.get? b=some o->h4.get? b=some o):Inv (bW X scope cl N y0 C s2 H2 fp) [] (bP nl ci σ) H2 { s2 with heap:=h4,toks:=t4 }:=by
 have lt2:∀b∈fp,b<s2.heap.objs.size:=fun b hb=>by obtain⟨o,e⟩:=fo b hb;exact Heap.lt_size e
 have ltc:∀x c,cl.lookup x=some c->c<s2.heap.objs.size:=fun x c e=>by obtain⟨v,o,ho,_⟩:=I.cell x c (B.sub x c e);exact Heap.lt_size ho
 have hC1:s2.heap.objs.size<=C+1:=Nat.le_succ_of_le hC;have ok:(bW X scope cl N y0 C s2 H2 fp).Ok:=by
  refine⟨I.ok.mod,B.kind,I.ok.glob,I.ok.blt,hC,fun x y c h1 h2=> ?_,fun x hx=> ?_,fun x c hf e=> ?_,I.ok.hd,I.ok.frames,.inl rfl,fun b hb=>⟨?_,?_⟩,I.bs,?_,fun b o e hb=> ?_,fun b hb z=> ?_,I.stack,I.stkFree⟩
  ·rcases lP h1 with⟨e1,e2⟩|⟨e1,e2⟩<;>rcases lP h2 with⟨e3,e4⟩|⟨e3,e4⟩
   ·rw[e1,e3]
   ·have:=ltc _ _ e4;exact absurd (Nat.lt_of_lt_of_le (e2▸this) hC1) (Nat.lt_irrefl _)
   ·have:=ltc _ _ e2;exact absurd (Nat.lt_of_lt_of_le (e4▸this) hC1) (Nat.lt_irrefl _)
   ·exact I.ok.inj x y c (B.sub x c e2) (B.sub y c e4)
  ·by_cases hy:x=y0
   ·subst hy;exact⟨C+1,by show List.lookup x ((x,C+1)::cl)=_;rw[List.lookup_cons,beq_self_eq_true]⟩
   ·obtain⟨c,e⟩:=(B.has x hx).resolve_left hy;exact⟨c,(ME hy).trans e⟩
  ·have hy:x=y0:=beq_iff_eq.mp (show (x==y0)=true from hf);rcases lP e with⟨_,e2⟩|⟨e1,_⟩
   ·rw[←e2];exact hC1
   ·exact absurd hy e1
  ·exact Nat.ne_of_lt (Nat.lt_of_lt_of_le (lt2 b hb) hC)
  ·intro x c h;rcases lP h with⟨_,e2⟩|⟨_,e2⟩
   ·rw[←e2];exact Nat.ne_of_gt (Nat.lt_of_lt_of_le (lt2 b hb) hC1)
   ·exact(f2 b hb).2.2.2.2.1 x c (B.sub x c e2)
  ·exact Nat.le_trans I.ok.bsz I.sz
  ·rcases (f2 b hb).2.2.2.1 with z|z
   ·exact I.ok.noex b o e z
   ·exact absurd (Nat.lt_of_lt_of_le (Heap.lt_size e) (Nat.le_trans I.ok.bsz z)) (Nat.lt_irrefl _)
  ·rcases List.mem_cons.mp (I.stkSub b z) with q|q
   ·exact(f2 b hb).2.1 q
   ·exact(f2 b hb).2.2.1 q
 refine⟨ok,rfl,I.bare,Un.kept hk,⟨m4,hns,fun k x v e1 e2 e3=> ?_⟩,fun x c e=> ?_,I.hok.fresh hC,fun x c e=> ?_,fun p hp=>(by cases hp),I.hok.kept hk,?_⟩
 ·obtain⟨j,i,rfl,hj,hσ⟩:=EE e2;obtain⟨n,hn1,hn2,hny,hk1,hk2,hl⟩:=B.cap j i hj;have en:x=n:=by
   have e1':N[nl+j]? =some x:=e1;rw[hn1]at e1';exact(Option.some.inj e1').symm
  subst en;obtain⟨m,hm,hloc⟩:=I.loc;have vis:Vis X.env.scope x:= .inr hk1;obtain⟨u,ru,lk⟩:=hloc i x v hn2 hσ vis;refine⟨u,ru,.inr ⟨hk2,?_⟩⟩;rcases lk with⟨kl,_⟩|⟨_,c,ec,hc⟩
  ·have kl':X.env.scope.names.lookup x=some .local:=kl;rcases hk1 with z|z<;>· rw[z]at kl';cases kl'
  ·refine⟨c,(ME hny).trans (hl.trans ec),?_⟩;obtain⟨o,ho,hd⟩:=hc;exact⟨o,hk _ _ ho,hd⟩
 ·rcases lP e with⟨_,e2⟩|⟨_,e2⟩
  ·rw[←e2];exact⟨none,hcc⟩
  ·obtain⟨v,o,ho,hd⟩:=I.cell x c (B.sub x c e2);exact⟨v,o,hk _ _ ho,hd⟩
 ·rcases lP e with⟨_,e2⟩|⟨_,e2⟩
  ·rw[←e2];exact I.hok.fresh hC1
  ·exact I.freeC x c (B.sub x c e2)
 ·show (bP nl ci σ).length=N.length;rw[vX,B.len]
theorem NX {C:Addr}{σ':St}{H':Hp}{s':Shared}{pb:List (Addr×Obj)} (I:Inv X pins σ H2 s2) (f2:∀b∈fp,j8 X pins H2 b) (J:Inv (bW X scope cl N y0 C s2 H2 fp) pb σ' H' s'):Inv X pins σ H' s' :=
 I.call' J.os J.base J.hok J.bare fun b hb=>⟨(f2 b hb).2.2.2.1,(f2 b hb).2.1,(f2 b hb).2.2.2.2.1,(f2 b hb).2.2.2.2.2⟩
end
section
variable {X:Cx}{scope:Scope}{cl:List (Str×Addr)}{N:List Str}{nl:Nat}{ci:List Nat}{y0:Str}{tg elt iter:Expr}{ifs:List Expr}{pos:Pos}{wi:TI}{g:TG}{ti:TT}{te:TE}
theorem NJ {pins:List (Addr×Obj)}{σ:St}{H2:Hp}{s2:Shared}{fp:List Addr}{it:Addr}{J:It}{tn:Nat->Heap->Prop}{E:Value->Shared->Prop}{RR:Value->Addr->Result->Shared->Prop}{fin:List V->Hp->Prop}
  (hc:X.calm=true)(B:MU X scope cl N nl ci y0)(hg:∀C s0 H0 fp,PG (bW X scope cl N y0 C s0 H0 fp) tg g)(hi:∀C s0 H0 fp,PF (bW X scope cl N y0 C s0 H0 fp) ifs ti)(he:∀C s0 H0 fp,PE (bW X scope cl N y0 C s0 H0 fp) elt te)
  (I2:Inv X pins σ H2 s2)(T:v8 X.prog X.w X.K tg J fp it tn)(st2:tn 0 s2.heap)(f2:∀b∈fp,j8 X pins H2 b)(hW:fE J g ti te (bP nl ci σ) fin H2)
  (hfin:∀(D C:Addr) (s':Shared) (H':Hp) (ys:List V) (oC:Obj) (m:Str->Option Value),H' D=none->Inv X (pins++[(C,oC)]) σ (upd H' D (.lst ys)) s'->s'.heap.Ns C m->s2.heap.objs.size<=C->fin ys H'->RR (.ref D) C (.ok .next) s') :
  wpAny (model X.prog X.w) X.A (newList []) (fun acc s₃=>wpAny (model X.prog X.w) X.A (newFunctionEnv scope X.env.globals cl [] X.env.qual none .none (some X.env)) (fun cenv s₄ =>
   codeAny (model X.prog X.w) X.A (.compStart (.ListComp elt [⟨tg,iter,ifs,0⟩] scope pos) 0 (.ref it) acc { cenv with scope:=relabel scope X.env }) (RR acc cenv.locals) s₄) E s₃) E s2:=by
 obtain⟨W,⟨m0,w0⟩,turn⟩:=hW;refine wpAny_newObj_type (SF B.cf B.pc ?_)
 dsimp only
 generalize hH2:s2.heap.push { cls:= .type "list",dict:=none,data:= .seq ([]:List Value).toArray }=G2;have hCs:G2.objs.size=s2.heap.objs.size+1:=by rw[←hH2,Heap.size_push]
 generalize hh1:(G2.push { cls:= .type "dict",data:= .dict #[] }).push { cls:= .type "cell",data:= .cell none }=h1;have hns1:h1.Ns G2.objs.size fun _=>none:=by rw[←hh1];exact(Heap.Ns.new G2 (.type "dict")).keeps fun b o e=>Heap.get?_push_of_some _ e
 have hcl1:h1.IsCell (G2.objs.size+1) none:=by
  have:=Heap.get?_push_size (G2.push { cls:= .type "dict",data:= .dict #[] }) (o:={ cls:= .type "cell",data:= .cell none }) rfl;rw[Heap.size_push]at this;rw[←hh1];exact⟨_,this,rfl⟩
 generalize hCe:G2.objs.size=C at hns1 hcl1 hCs ⊢;have hDC:s2.heap.objs.size≠C:=by rw[hCs];exact Nat.ne_of_lt (Nat.lt_succ_self _)
 have hCle:s2.heap.objs.size<=C:=by rw[hCs];exact Nat.le_succ _
 have old:∀b o,s2.heap.get? b=some o->h1.get? b=some o:=fun b o e=>by rw[←hh1,←hH2];exact Heap.get?_push_of_some _ (Heap.get?_push_of_some _ (Heap.get?_push_of_some _ e))
 have hacc:h1.get? s2.heap.objs.size=some { cls:= .type "list",data:= .seq ([]:List Value).toArray 0 }:=by rw[←hh1,←hH2];exact Heap.get?_push_of_some _ (Heap.get?_push_of_some _ (Heap.get?_push_size _ rfl))
 have fo:∀b∈fp,∃o,s2.heap.get? b=some o:=fun b hb=>let ⟨o,e,_⟩:=T.obj 0 _ st2 b hb;⟨o,e⟩;have lt2:∀b∈fp,b<s2.heap.objs.size:=fun b hb=>let ⟨o,e⟩:=fo b hb;Heap.lt_size e;have hDfp:s2.heap.objs.size∉fp:=fun z=>Nat.lt_irrefl _ (lt2 _ z);have hCfp:C∉fp:=fun z=>Nat.lt_irrefl _ (Nat.lt_of_lt_of_le (lt2 _ z) hCle);generalize hDe:s2.heap.objs.size=D at hCs hDC hCle hacc hDfp lt2;have loop:∀s3:Shared,s3={ s2 with heap:=h1 } →
   codeAny (model X.prog X.w) X.A (.compLoop (.ListComp elt [⟨tg,iter,ifs,0⟩] scope pos) 0 (.ref it) (.ref D) (compEnvC scope ((y0,C+1)::cl) C X.env)) (RR (.ref D) C) s3:=by
  rintro s3 rfl;have I4:Inv (bW X scope cl N y0 C s2 H2 fp) [] (bP nl ci σ) H2 { s2 with heap:=h1 }:=HP B I2 f2 fo (by rw[hDe];exact hCle) hns1 hcl1 old;have fpk:∀{H':Hp},(∀b∈fp,H' b=none)->∀b∈fp,j8 (bW X scope cl N y0 C s2 H2 fp) [] H' b:=fun hn b hb =>
   ⟨hn b hb,(I4.ok.exf b hb).1,I4.ok.exfs b hb,.inl hb,(I4.ok.exf b hb).2,fun p hp=>by cases hp⟩
  have hDX:∀x c,(bW X scope cl N y0 C s2 H2 fp).env.cells.lookup x=some c->c≠D:=fun x c e=>by
   rcases lP e with⟨_,rfl⟩|⟨_,e⟩
   ·intro z;rw[←z]at hCs;lia
   ·obtain⟨v,o,ho,_⟩:=I2.cell x c (B.sub x c e);rw[←hDe];exact Nat.ne_of_lt (Heap.lt_size ho)
  have hDL:D≠(bW X scope cl N y0 C s2 H2 fp).env.locals:=hDC;have hDf:D∉(bW X scope cl N y0 C s2 H2 fp).fs:=fun z=>by
   rcases List.mem_cons.mp (I2.stkSub D z) with q|q
   ·exact Nat.lt_irrefl _ (by have:=I2.lt;rw[hDe,←q]at this;exact this)
   ·exact I2.nofs (by rw[hDe];exact Nat.le_refl _) q
  refine yF (fun n s'=>∃i ys its k H',W i n ys H'/\Inv (bW X scope cl N y0 C s2 H2 fp) [] (bP nl ci σ) H' s'/\tn i s'.heap/\(∀b∈fp,H' b=none)/\H' D=none ∧
   s'.heap.get? D=some { cls:= .type "list",data:= .seq its.toArray k }/\Vals ys its/\ys.length<=sizeLine) ?_ m0 ?_
  ·rintro n s' ⟨i,ys,its,k,H',w',I',st',fr',hD',eD,rv,hz⟩;have IP:Inv (bW X scope cl N y0 C s2 H2 fp) [(D,{ cls:= .type "list",data:= .seq its.toArray k })] (bP nl ci σ) H' s':=I'.pins_of fun p hp=>by
    obtain rfl:p=_:=by simpa using hp
    exact⟨eD,hD',hDL,hDf,fun v z=>by cases z⟩
   have fpD:∀{H'':Hp},(∀b∈fp,H'' b=none)->∀b∈fp,j8 (bW X scope cl N y0 C s2 H2 fp) [(D,{ cls:= .type "list",data:= .seq its.toArray k })] H'' b:=fun hn b hb =>
    ⟨hn b hb,(I4.ok.exf b hb).1,I4.ok.exfs b hb,.inl hb,(I4.ok.exf b hb).2,fun p hp=>by
     obtain rfl:p=_:=by simpa [bW] using hp
     exact fun z=>hDfp ((show D=b from z)▸hb)⟩
   rcases turn i n ys H' w' with⟨stop,q⟩|⟨go,step⟩
   ·refine thn (T.done (bW X scope cl N y0 C s2 H2 fp) rfl rfl rfl hc i _ s' (bP nl ci σ) H' _ IP (fpD fr') st' stop) fun r s'' ⟨hr,I''⟩=> ?_;subst hr;have eD2:=(I''.pin (D,_) (List.mem_append_right _ List.mem_cons_self)).1;have J1:Inv (bW X scope cl N y0 C s2 H2 fp) [] (bP nl ci σ) (upd H' D (.lst ys)) s'' :=
     (I''.pins_of (pins':=[]) fun p hp=>by cases hp).track hD' eD2 rv hz (by show s2.heap.objs.size<=D;rw[hDe];exact Nat.le_refl _) hDL hDX fun p hp=>by cases hp
    have K1:Inv X pins σ (upd H' D (.lst ys)) s'':=NX I2 f2 J1;obtain⟨mC,nsC,_⟩:=J1.loc;obtain⟨oC,es,ep,hoC,hdC,rC⟩:=id nsC;refine hfin D C s'' H' ys oC mC hD' (K1.pins_of fun p hp=> ?_) nsC (by rw[hDe];exact hCle) q;rcases List.mem_append.mp hp with hp|hp
    ·exact K1.pin p (List.mem_append_right _ hp)
    ·obtain rfl:p=(C,oC):=by simpa using hp
     refine⟨hoC,J1.free,Nat.ne_of_gt (Nat.lt_of_lt_of_le I2.lt (by rw[hDe];exact hCle)),I2.nofs (by rw[hDe];exact hCle),fun v z=> ?_⟩;rw[hdC]at z;cases z
   ·refine thn (T.item (bW X scope cl N y0 C s2 H2 fp) rfl rfl rfl hc i _ s' (bP nl ci σ) H' _ IP (fpD fr') st' go) fun r s4 ⟨u,hr,h4⟩=> ?_;subst hr;refine thn h4 fun _ s5 ⟨x,H5,I5,r5,y5,st5,fr5⟩=> ?_;have I5':=I5.pinned (fpD fr5) (T.obj _ _ st5);refine wpAny_mono (hg C s2 H2 fp _ s5 (bP nl ci σ) H5 x u _ I5' r5 (step x H5 y5)) (fun _ s6 ⟨σ6,H6,I6,⟨hl6,hk6⟩,q6⟩=> ?_) fun _ _ f=>f.elim;refine wpAny_mono (hi C s2 H2 fp _ s6 σ6 H6 _ I6 q6) (fun b s7 ⟨H7,I7,q7⟩=> ?_) fun _ _ f=>f.elim;have pinD:∀{pp:List (Addr×Obj)}{σx:St}{Hx:Hp}{sx:Shared},Inv (bW X scope cl N y0 C s2 H2 fp) ([(D,({ cls:= .type "list",data:= .seq its.toArray k }:Obj))]++i4 fp s5.heap) σx Hx sx →
      sx.heap.get? D=some { cls:= .type "list",data:= .seq its.toArray k }/\Hx D=none/\tn (i+1) sx.heap/\(∀b∈fp,Hx b=none):=fun {pp σx Hx sx} Ix=>by
     refine⟨(Ix.pin (D,_) (List.mem_append_right _ (List.mem_append_left _ List.mem_cons_self))).1,(Ix.pin (D,_) (List.mem_append_right _ (List.mem_append_left _ List.mem_cons_self))).2.1,T.keep _ _ _ st5 fun b hb o e=>(Ix.pin (b,o) (List.mem_append_right _ (List.mem_append_right _ (gI hb e)))).1,fun b hb=> ?_⟩;obtain⟨o,e,d⟩:=T.obj _ _ st5 b hb;exact(Ix.pin (b,o) (List.mem_append_right _ (List.mem_append_right _ (gI hb e)))).2.1
    cases b with
    | false =>
     rw[if_neg Bool.false_ne_true]at q7 ⊢;obtain⟨m',hm',w7⟩:=q7;obtain⟨e7,n7,st7,fr7⟩:=pinD (pp:=[]) I7;exact⟨m',hm',i+1,ys,its,k,H7,w7,(I7.pins_of (pins':=[]) fun p hp=>by cases hp).weak hl6.symm hk6,st7,fr7,n7,e7,rv,hz⟩
    | true =>
     rw[if_pos rfl]at q7 ⊢;refine wpAny_mono (he C s2 H2 fp _ s7 σ6 H7 _ I7 q7) (fun y' s8 ⟨y,H8,I8,r8,hlt,m',hm',w8⟩=> ?_) fun _ _ f=>f.elim;obtain⟨e8,n8,st8,fr8⟩:=pinD (pp:=[]) I8;have I8f:Inv (bW X scope cl N y0 C s2 H2 fp) (i4 fp s5.heap) σ6 H8 s8:=I8.pins_of fun p hp=>I8.pin p (List.mem_append_right _ (List.mem_append_right _ hp));have I8t:=I8f.track n8 e8 rv hz (by show s2.heap.objs.size<=D;rw[hDe];exact Nat.le_refl _) hDL hDX fun p hp=>by
      have hp':p∈i4 fp s5.heap:=by simpa [bW] using hp
      exact fun z=>hDfp (z▸(wB hp').1)
     refine wpAny_mono (jS (X:=bW X scope cl N y0 C s2 H2 fp) (i4 fp s5.heap) s8 σ6 _ (.ref D) [y] (.ref D) [y'] (fun _ H9=>H9=upd H8 D (.lst (ys++[y]))) I8t rfl (.cons r8 .nil)
      ⟨D,ys,y,rfl,rfl,aZ,hlt,L3⟩) (fun _ s9 ⟨_,H9,I9,_,e9⟩=> ?_) fun _ _ f=>f.elim
     subst e9;obtain⟨hz9,its9,k9,rv9,e9⟩:=I9.hok D _ aZ;have I9u:=I9.untrack n8;refine⟨m',hm',i+1,ys++[y],its9,k9,H8,w8,(I9u.pins_of (pins':=[]) fun p hp=>by cases hp).weak hl6.symm hk6,?_,fr8,n8,e9,rv9,hz9⟩;exact T.keep _ _ _ st5 fun b hb o e=>(I9u.pin (b,o) (List.mem_append_right _ (gI hb e))).1
  ·exact⟨0,[],[],0,H2,w0,I4,T.keep _ _ _ st2 fun b hb o e=>old b o e,fun b hb=>(f2 b hb).1,I2.hok.fresh (by rw[hDe];exact Nat.le_refl _),hacc,.nil,Nat.zero_le _⟩
 exact codeAny_compStart_list (loop _ rfl) (T.self _ 0 _ _ _ (T.keep _ _ _ st2 fun b hb o e=>old b o e) (loop _ rfl))
end
end L2
namespace L2
open PySem PySem.Spec PyProof.Rows
theorem ES {cs:List (Str×Addr)}:∀(ns:List (Str×NameKind)) (acc:List (Str×Addr)) (n:Str) (c:Addr),(jQ ns cs acc).lookup n=some c->(n,NameKind.free)∈ns∨acc.lookup n=some c
 | [],acc,n,c,h=> .inr h
 | (m,k)::r,acc,n,c,h=>by
  have h':(jQ r cs (if k== .free then (m,(cs.lookup m).getD 0)::acc else acc)).lookup n=some c:=h;rcases ES r _ n c h' with z|z
  ·exact .inl (List.mem_cons_of_mem _ z)
  ·by_cases hk:k= .free
   ·subst hk;rw[if_pos (beq_self_eq_true _)]at z;rcases lP z with⟨e,_⟩|⟨_,e⟩
    ·rw[e];exact .inl List.mem_cons_self
    ·exact .inr e
   ·rw[if_neg (by simpa using hk)]at z;exact .inr z
theorem oJ {env:Env}{y0:Str}:∀{names:List (Str×NameKind)}{x:Str}{k':NameKind},(∀y∈names,y.2= .cell->y.1=y0)->(k'= .cell∨k'= .free) →
  (names.map fun (n,k)=>if (k==NameKind.free&&env.scope.kind== .function&&env.kindOf n==some .cell) then (n,NameKind.cell) else (n,k)).lookup x=some k'->x=y0∨(x,NameKind.free)∈names
 | [],_,_,_,_,h=>by simp at h
 | (n,k)::r,x,k',hn,hk',h=>by
  have h':List.lookup x ((if (k==NameKind.free&&env.scope.kind== .function&&env.kindOf n==some .cell)=true then (n,NameKind.cell) else (n,k))::r.map _)=some k':=h;cases hx:x==n with
  | true =>
   have e:x=n:=by simpa using hx
   subst e
   by_cases hf:k= .free
   ·subst hf;exact .inr List.mem_cons_self
   ·have hb:(k==NameKind.free)=false:=by simpa using hf
    simp only[hb,Bool.false_and,Bool.false_eq_true,if_false,List.lookup_cons,hx]at h';cases h';rcases hk' with z|z
    ·exact .inl (hn (x,k) List.mem_cons_self z)
    ·exact absurd z hf
  | false =>
   have h2:List.lookup x (r.map fun (n,k)=>if (k==NameKind.free&&env.scope.kind== .function&&env.kindOf n==some .cell) then (n,NameKind.cell) else (n,k))=some k':=by
    split at h'
    ·simp only[List.lookup_cons,hx]at h';exact h'
    ·simp only[List.lookup_cons,hx]at h';exact h'
   exact(oJ (fun y hy=>hn y (List.mem_cons_of_mem _ hy)) hk' h2).imp id (List.mem_cons_of_mem _)
def Q3 (xs:List (Str×NameKind))(XN:List Str)(ns:List (Str×NameKind))(N:List Str)(nl:Nat)(ci:List Nat)(y0:Str):Bool :=
 (ns.all fun y=>(y.2 != .cell||y.1==y0)&&(y.2 != .local||ns.lookup y.1==some .local)&&(y.2 != .free||(xs.lookup y.1==some .cell&&ns.lookup y.1==some .free&&y.1 !=y0))) &&
 (N.length==nl+ci.length) &&
 (List.range ci.length).all fun j=>match ci[j]?,N[nl+j]? with
  | some i,some n=>XN[i]? ==some n&&xs.lookup n==some .cell&&ns.lookup n==some .free&&n !=y0
  | _,_=>false
theorem aBo {X:Cx}{scope:Scope}{N:List Str}{nl:Nat}{ci:List Nat} (y0:Str) (n0:Nat) (hX:X.env.cells=cellsFrom n0 X.env.scope.names []) (hkf:X.env.scope.kind= .function) (hk:scope.kind= .function)
  (h:Q3 X.env.scope.names X.N scope.names N nl ci y0=true)(cf:∀n,cellsFrom n scope.names (jQ scope.names X.env.cells [])=(y0,n)::jQ scope.names X.env.cells []:=by intro _;rfl)(pc:∀h,pushCells h scope.names=h.push { cls:= .type "cell",data:= .cell none }:=by intro _;rfl):MU X scope (jQ scope.names X.env.cells []) N nl ci y0:=by
 unfold Q3 at h;rw[Bool.and_eq_true,Bool.and_eq_true]at h;obtain⟨⟨h1,h2⟩,h3⟩:=h;rw[List.all_eq_true]at h1;have h1':∀y∈scope.names,(y.2= .cell->y.1=y0)/\(y.2= .local->scope.names.lookup y.1=some .local)/\(y.2= .free->X.env.scope.names.lookup y.1=some .cell/\scope.names.lookup y.1=some .free/\y.1≠y0):=fun y hy=>by
  have q:=h1 y hy;simp only[Bool.and_eq_true,Bool.or_eq_true,bne_iff_ne,ne_eq,beq_iff_eq]at q;obtain⟨⟨q1,q2⟩,q3⟩:=q;exact⟨fun e=>q1.resolve_left fun z=>z e,fun e=>q2.resolve_left fun z=>z e,fun e=>let ⟨⟨a,b⟩,c⟩:=q3.resolve_left fun z=>z e;⟨a,b,c⟩⟩
 have hcs:∀y∈scope.names,y.2= .free->∃c,X.env.cells.lookup y.1=some c:=fun y hy e=>by
  rw[hX];exact qI ((h1' y hy).2.2 e).1
 refine⟨hk,fun y hy=>(h1' y hy).2.1,cf,pc,?_,?_,?_,?_,by simpa using h2,?_⟩
 ·unfold closureFor;refine(congrArg (fun m:Sem (List (Str×Addr))=>m >>= fun cs=>pure cs) (kU scope.names [] hcs)).trans ?_;rfl
 ·exact uT scope.names [] hcs fun n c z=>by cases z
 ·cases e:(jQ scope.names X.env.cells []).lookup y0 with
  | none=>rfl
  | some c =>
   rcases ES scope.names [] y0 c e with z|z
   ·exact absurd rfl ((h1' _ z).2.2 rfl).2.2
   ·cases z
 ·intro n hn;have hm:n=y0∨(n,NameKind.free)∈scope.names:=by
   rcases hn with z|z
   ·exact oJ (fun y hy=>(h1' y hy).1) (.inl rfl) z
   ·exact oJ (fun y hy=>(h1' y hy).1) (.inr rfl) z
  refine hm.imp id fun hm=> ?_;obtain⟨c,e⟩:=hcs _ hm rfl;exact⟨c,(dY scope.names [] n hcs (.inl hm) fun c z=>by cases z).trans e⟩
 ·intro j i hj;have hjl:j<ci.length:=(List.getElem?_eq_some_iff.mp hj).1;rw[List.all_eq_true]at h3;have q:=h3 j (List.mem_range.mpr hjl);rw[hj]at q;cases e:N[nl+j]? with
  | none=>rw[e]at q;cases q
  | some n =>
   rw[e]at q;simp only[Bool.and_eq_true,beq_iff_eq,bne_iff_ne,ne_eq]at q;obtain⟨⟨⟨q1,q2⟩,q3⟩,q4⟩:=q;refine⟨n,rfl,q1,q4,.inl q2,.inl (fX hkf q3 q2),?_⟩;exact dY scope.names [] n hcs (.inl (PySem.mem_of_lookup q3)) fun c z=>by cases z
theorem aC2 {X:Cx}{scope:Scope}{N:List Str}{nl:Nat}{ci:List Nat} (hcs:∀y∈scope.names,y.2= .free->∃c,X.env.cells.lookup y.1=some c) (hkf:X.env.scope.kind= .function) (hk:scope.kind= .function)
  (h:AB X.env.scope.names X.N scope.names N nl ci=true):Blk X scope (jQ scope.names X.env.cells []) N nl ci:=by
 unfold AB at h;rw[Bool.and_eq_true,Bool.and_eq_true]at h;obtain⟨⟨h1,h2⟩,h3⟩:=h;rw[List.all_eq_true]at h1;have h1':∀y∈scope.names,y.2≠ .cell/\(y.2= .local->scope.names.lookup y.1=some .local)/\(y.2= .free->X.env.scope.names.lookup y.1=some .cell/\scope.names.lookup y.1=some .free):=fun y hy=>by
  have q:=h1 y hy;simp only[Bool.and_eq_true,Bool.or_eq_true,bne_iff_ne,ne_eq,beq_iff_eq]at q;obtain⟨⟨q1,q2⟩,q3⟩:=q;exact⟨q1,fun e=>q2.resolve_left fun z=>z e,fun e=>q3.resolve_left fun z=>z e⟩
 refine⟨hk,fun y hy=>(h1' y hy).2.1,fun y hy=>(h1' y hy).1,?_,?_,?_,by simpa using h2,?_⟩
 ·unfold closureFor;refine(congrArg (fun m:Sem (List (Str×Addr))=>m >>= fun cs=>pure cs) (kU scope.names [] hcs)).trans ?_;rfl
 ·exact uT scope.names [] hcs fun n c z=>by cases z
 ·intro n hn;have hm:(n,NameKind.free)∈scope.names:=by
   rcases hn with z|z
   ·exact dL (fun y hy=>(h1' y hy).1) (.inl rfl) z
   ·exact dL (fun y hy=>(h1' y hy).1) (.inr rfl) z
  obtain⟨c,e⟩:=hcs _ hm rfl;exact⟨c,(dY scope.names [] n hcs (.inl hm) fun c z=>by cases z).trans e⟩
 ·intro j i hj;have hjl:j<ci.length:=(List.getElem?_eq_some_iff.mp hj).1;rw[List.all_eq_true]at h3;have q:=h3 j (List.mem_range.mpr hjl);rw[hj]at q;cases e:N[nl+j]? with
  | none=>rw[e]at q;cases q
  | some n =>
   rw[e]at q;simp only[Bool.and_eq_true,beq_iff_eq]at q;obtain⟨⟨q1,q2⟩,q3⟩:=q;refine⟨n,rfl,q1,.inl q2,.inl (fX hkf q3 q2),?_⟩;exact dY scope.names [] n hcs (.inl (PySem.mem_of_lookup q3)) fun c z=>by cases z
theorem aAb {X:Cx}{scope sc2:Scope}{cl:List (Str×Addr)}{N N2:List Str}{y0:Str}{C:Addr}{s0:Shared}{H0:Hp}{fp:List Addr}{nl:Nat}{ci:List Nat} (hf:sc2.names.all (fun y=>y.2 != .free||y.1==y0)=true) (hkf:scope.kind= .function) (hk:sc2.kind= .function)
  (h:AB (relabel scope X.env).names N sc2.names N2 nl ci=true):Blk (bW X scope cl N y0 C s0 H0 fp) sc2 (jQ sc2.names ((y0,C+1)::cl) []) N2 nl ci :=
 aC2 (X:=bW X scope cl N y0 C s0 H0 fp) (fun y hy e=>by
  have q:=List.all_eq_true.mp hf y hy;simp only[Bool.or_eq_true,bne_iff_ne,ne_eq,beq_iff_eq]at q;have e1:=q.resolve_left fun z=>z e;rw[e1];exact⟨C+1,by show List.lookup y0 ((y0,C+1)::cl)=_;rw[List.lookup_cons,beq_self_eq_true]⟩) hkf hk h
end L2
namespace L2
open PySem PySem.W PyProof.Rows
section
variable {X:Cx}
def aBp:V->List V->Hp->VK->Prop:=fun x vs H Q=>∃(p:Addr) (z:Str) (ss:List Str) (j:Nat),x= .ref p/\vs=[.str z]/\H p=some (.lst (ss.map V.str))/\ss[j]? =some z/\z∉ss.take j/\ss.length<=1000000/\Q (.int j) H
theorem UL:MtR X "list.index" aBp:=by
 intro pins s σ H x xs v us Q I rx rs h;obtain⟨p,z,ss,j,rfl,rfl,hH,hj,hn,hl,q⟩:=h;obtain⟨u,rfl,ru⟩:=lU rs;cases rx;obtain⟨zz,its,n,r,hll,e⟩:=I.lstM hH;have hjs:j<ss.length:=(List.getElem?_eq_some_iff.mp hj).1;have hlen:its.length=ss.length:=by rw[←r.length,List.length_map]
 have hall:∀y∈ss.map V.str,jX y=true:=fun y hy=>by
  obtain⟨t,_,rfl⟩:=List.mem_map.mp hy;rfl
 have hg:∀i (hi:i<its.length),MeetsSeq.EqGives its[i] u (eqV (unV its[i]) (.str z)):=fun i hi=>by
  obtain⟨y',e1,e2⟩:=r.get (List.getElem?_eq_getElem (show i<(ss.map V.str).length by rw[List.length_map];lia));rw[List.getElem?_eq_getElem hi]at e1;cases e1;have hf:=hall _ (List.getElem_mem (show i<(ss.map V.str).length by rw[List.length_map];lia));rw[LK hf e2];exact fun prog w' A E s Q hQ=>JA e2 ru hf rfl prog w' E Q hQ
 have hun:∀i (hi:i<its.length) (hs:i<ss.length),unV its[i]= .str ss[i]:=fun i hi hs=>by
  obtain⟨y',e1,e2⟩:=r.get (List.getElem?_eq_getElem (show i<(ss.map V.str).length by rw[List.length_map];lia));rw[List.getElem?_eq_getElem hi]at e1;cases e1;rw[List.getElem_map]at e2;exact LK rfl e2
 have hz:ss[j]=z:=(List.getElem?_eq_some_iff.mp hj).2;refine call_meets F.slot_list_index ⟨_,e,rfl⟩ F.entry_list_index (F.args_list_index_2 _ _) (MeetsSeq.list_index p its.toArray n u (fun y=>eqV (unV y) (.str z)) (fun y hy=> ?_) j (by simpa using (by lia:j<its.length)) (by lia) ?_ ?_) ⟨e,⟨.int j,H,I.tok _,⟨_,rfl⟩,q⟩⟩
 ·obtain⟨i,hi,rfl⟩:=List.getElem_of_mem (show y∈its by simpa using hy);exact hg i hi
 ·show eqV (unV its[j]) (.str z)=true;rw[hun j (by lia) hjs,hz];show (z==z)=true;simp
 ·intro m hm hmj;have hm':m<its.length:=by simpa using hm
  show eqV (unV its[m]) (.str z)=false;rw[hun m hm' (by lia)];show (ss[m]==z)=false;have hne:ss[m]≠z:=fun c=>hn (by
   rw[←c];exact List.mem_take_iff_getElem.mpr ⟨m,by lia,rfl⟩)
  simpa using hne
end
end L2
namespace L2
open PySem PySem.W PyProof.Rows PySem.Calls
section
variable {X:Cx}{pins:List (Addr×Obj)}{σ:List (Option V)}{H H':Hp}{s:Shared}{h':Heap}
theorem Inv.laidM {t':Nat}(I:Inv X pins σ H s)(k:∀b u,s.heap.get? b=some u->h'.get? b=some u)(hs:∀b,b<s.heap.objs.size->H' b=H b)
  (new:∀a o,s.heap.objs.size<=a->H' a=some o->ObjOk X.prog X.w H' h' a o):Inv X pins σ H' { s with heap:=h',toks:=t' }:=by
 have up:∀b o,H b=some o->H' b=some o:=fun b o e=>(hs b (I.hok.lt e)).trans e;refine I.un ⟨fun b u q _ _ _=>k b u q,fun b u q _ _ _=>⟨u.slots,k b u q⟩,fun b u q n _=>(hs b (Heap.lt_size q)).trans n,fun b u q _=>⟨u,k b u q⟩,fun b xs q=>up _ _ q,fun b u xs q=>up _ _ q,fun b ps q=>⟨#[],by rw[up _ _ q];simp⟩⟩ fun b u e=> ?_
 by_cases hb:b<s.heap.objs.size
 ·rw[hs b hb]at e;exact(I.hok b u e).stay (fun c v _ q=>k c v q) (fun c q=>up _ _ q) fun c xs q=>up _ _ q
 ·exact new b u (Nat.le_of_not_lt hb) e
end
def itO (v d:Addr):HO:= .ext fun h=>h.IsItemsView v d
def aAj (Q:VK):VK:=fun x H1=>∃a kvs,x= .ref a/\H1 a=some (.dK kvs)/\∀v,H1 v=none->Q (.ref v) (upd H1 v (itO v a))
def XT (td:TE):TE:=fun σ H Q=>td σ H (aAj Q)
def l6 (H:Hp)(n:Nat):List Addr->List (List Key)->Hp
 | a::as,r::rs=>fun b=>if b=a/\n<=a then some (.tup (r.map kV)) else l6 H n as rs b
 | _,_=>H
theorem zK {H:Hp}{n:Nat}{b:Addr} (hb:b<n):∀{as:List Addr}{rs:List (List Key)},l6 H n as rs b=H b
 | [],_=>by cases ‹List (List Key)›<;>rfl
 | _::_,[]=>rfl
 | a::as,r::rs=>by
  unfold l6;rw[if_neg (fun z:b=a/\n<=a=>absurd (z.1▸hb:a<n) (Nat.not_lt.mpr z.2))];exact zK hb
theorem DV {H:Hp}{n:Nat}:∀{as:List Addr}{rs:List (List Key)},as.length=rs.length->as.Pairwise (·<·)->(∀a∈as,n<=a)->KRows (l6 H n as rs) (as.map V.ref) rs
 | [],[],_,_,_=> .nil
 | [],_::_,h,_,_=>by cases h
 | _::_,[],h,_,_=>by cases h
 | a::as,r::rs,h,p,q=>by
  obtain⟨p1,p2⟩:=List.pairwise_cons.mp p;have ih:=DV (H:=H) (by simpa using h) p2 fun a ha=>q a (List.mem_cons_of_mem _ ha);refine .cons ⟨a,rfl,by unfold l6;exact if_pos ⟨rfl,q a (.head _)⟩⟩ ?_;have go:∀{bs:List Addr}{ss:List (List Key)},(∀b∈bs,a<b)->KRows (l6 H n as rs) (bs.map V.ref) ss->KRows (l6 H n (a::as) (r::rs)) (bs.map V.ref) ss:=fun {bs}=>by
   induction bs with
   | nil=>intro ss _ x;cases x;exact .nil
   | cons b bs ih =>
    intro ss hb x;cases x with
    | cons x1 x2 =>
     obtain⟨p,e,e2⟩:=x1;cases e;refine .cons ⟨b,rfl,?_⟩ (ih (fun c hc=>hb c (List.mem_cons_of_mem _ hc)) x2);unfold l6;rw[if_neg (fun z=>Nat.ne_of_gt (hb b (.head _)) z.1)];exact e2
  exact go p1 ih
theorem GR {H:Hp}{n:Nat}{b:Addr}{o:HO} (hb:n<=b) (hn:H b=none):∀{as:List Addr}{rs:List (List Key)},l6 H n as rs b=some o->∃(j:Nat) (r:List Key),as[j]? =some b/\rs[j]? =some r/\o= .tup (r.map kV)
 | [],_,e=>by
  have e2:l6 H n [] ‹_› b=H b:=by cases ‹List (List Key)›<;>rfl
  rw[e2,hn]at e;cases e
 | _::_,[],e=>by
  rw[show l6 H n (_::_) [] b=H b from rfl,hn]at e;cases e
 | a::as,r::rs,e=>by
  unfold l6 at e
  by_cases z:b=a/\n<=a
  ·rw[if_pos z]at e;obtain⟨rfl,_⟩:=z;exact⟨0,r,rfl,rfl,(Option.some.inj e).symm⟩
  ·rw[if_neg z]at e;obtain⟨j,r',e1,e2,e3⟩:=GR hb hn e;exact⟨j+1,r',by simpa using e1,by simpa using e2,e3⟩
def iO (p:Str×Int):List Key:=[.inr p.1,.inl p.2]
section
variable {X:Cx}
theorem NM {l:Expr}{td:TE}{apos cpos:Pos} (hl:PE X l td) (hbase:attributeBase l "items" X.env (eval l X.env)=eval l X.env:=by rfl) (hline:(apos.endLine==cpos.line)=true:=by rfl) :
  PE X (.Call (.Attribute l "items" apos) [] [] cpos) (XT td):=by
 intro pins s σ H Q I h;refine wpAny_Call_method0_late hbase hline (thn (hl pins s σ H _ I h) fun v s1 ⟨x,H1,I1,r1,q1⟩=> ?_);obtain⟨a,kvs,rfl,hq,q⟩:=q1;cases r1;obtain⟨t1,t2,_⟩:=HX I1 (.inl ⟨kvs,.inl hq⟩);refine⟨"dict","dict.items",F.plainAttrs_dict,F.slot_dict_items,F.type_dict_items,t1,t2,Calls.callWith_builtin rfl (PySem.evalArgs_none ?_)⟩;obtain⟨z,y,vs,r,o,es,ep,h1,h2,h3,h4,h5,h6⟩:=(show ObjOk X.prog X.w H1 s1.heap a (.dK kvs) from I1.hok a _ hq)
 refine call_meetsIn F.slot_dict_items t1 F.entry_dict_items (F.args_dict_items_1 _) (meets_dict_items (bZ X.prog X.w) a y) ⟨⟨vs,o,es,ep,h1,h2,h3,h4,h5,h6⟩,?_⟩;refine⟨.ref s1.heap.objs.size,_,I1.laid (t':=s1.toks) (fun b u e=>Heap.get?_push_of_some _ e) (Nat.le_refl _) (show ObjOk X.prog X.w _ _ _ (itO s1.heap.objs.size a) from⟨⟨_,Heap.get?_push_size _ rfl,rfl,rfl⟩,⟨_,Heap.get?_push_size _ rfl⟩,fun g1 g2 p k=> ?_⟩),rfl,q _ (I1.hok.fresh (Nat.le_refl _))⟩;obtain⟨o,e,c⟩:=p;exact⟨o,k o e,c⟩
def LV:List V->Hp->VK->Prop:=fun xs H Q=>∃(v d:Addr) (rs:List (Str×Int)),xs=[.ref v]/\H v=some (itO v d)/\H d=some (.dK (rs.map fun p:Str×Int=>(Sum.inr p.1,V.int p.2)))/\rs.length<64 ∧
 ∀l H' ys,H l=none->Same H H'->KRows H' ys (rs.map iO)->H' l=some (.lst (t7 (rs.map iO) ys))->Q (.ref l) H'
theorem E4 (hc:X.calm=true):dC X (.builtin "sorted") LV:=by
 intro pins s σ H xs us Q I r h;obtain⟨v,d,rs,rfl,hv,hd,h64,q⟩:=h;obtain⟨u,rfl,rx⟩:=lU r;cases rx;obtain⟨hview,_,_⟩:=(show ObjOk X.prog X.w H s.heap v (itO v d) from I.hok v _ hv)
 have hview:s.heap.IsItemsView v d:=hview;obtain⟨hz,lo,ws,kv,dd⟩:=V0 I.hok hd;obtain⟨o,es,ep,g1,g2,g3,g4,g5,g6⟩:=dd;have hwl:ws.length=rs.length:=by
  have h1:=Paired.length kv;rw[List.length_map]at h1
  lia
 refine Calls.call_function_entry kind_sorted plain_sorted entry_sorted (args_sorted1 _) ?_;unfold Builtin.«sorted»;refine wpAny_bind (m:=checkCount "sorted" 1 1 _) (wpAny_pure (wpAny_bind (kdx_collect (knd:=bZ X.prog X.w) (kvs:=ws) (ep:=ep) (I.ok.hd hc) hview ⟨o,es,g1,g2,g3,g4,g5,g6⟩ (by rw[sizeLine_eq];lia) fun h1 tk as kp1 al G=> ?_)));have hR:(rs.map iO).length=as.length:=by rw[List.length_map];lia
 have hfr:∀b,s.heap.objs.size<=b->H b=none:=fun b hb=>I.hok.fresh hb;have I2:Inv X pins σ (l6 H s.heap.objs.size as (rs.map iO)) { s with heap:=h1,toks:=tk }:=by
  refine I.laidM kp1 (fun b hb=>zK hb) fun a o ha e=> ?_;obtain⟨j,r,e1,e2,rfl⟩:=GR ha (hfr a ha) e;obtain⟨key,k,x,f1,f2,f3⟩:=G.pairs j a e1;rw[List.getElem?_map]at e2;cases e3:rs[j]? with
  | none=>rw[e3]at e2;cases e2
  | some p =>
   rw[e3]at e2;cases e2;have f4:=Paired.at2 kv (i:=j) (by rw[List.getElem?_map,e3];rfl) f1;have f5:=CU f2;rw[show k=(Sum.inr p.1:Key) from f4.1.symm]at f5;exact⟨by rw[sizeLine_eq];exact(by decide:2<=16777216),[key,x],.cons f5 (.cons f4.2 .nil),_,f3,rfl,_,rfl⟩
 have kr:=DV (H:=H) hR.symm G.rise fun a ha=>Nat.le_of_lt (G.above a ha);have sm:Same H (l6 H s.heap.objs.size as (rs.map iO)):=fun b o e=>(zK (I.hok.lt e)).trans e;have rv:Vals (as.map V.ref) (as.map Value.ref):=by
  clear kr sm I2 hR al G
  induction as with
  | nil=>exact .nil
  | cons a as ih=>exact .cons rfl ih
 have hs:∀r∈rs.map iO,r.map gY=[false,true]:=fun r hr=>by obtain⟨e,he,rfl⟩:=List.mem_map.mp hr;rfl
 have hl:(as.map Value.ref).length<64:=by rw[List.length_map];lia
 generalize as.map Value.ref=vs at rv hl;generalize as.map V.ref=ys at rv kr;have hlv:=rv.length;refine wpAny_bind (wpAny_newList ?_ (by rw[sizeLine_eq];lia));have oD:(h1.push (seqObj "list" vs.toArray 0)).get? h1.objs.size=some (seqObj "list" vs.toArray 0):=Heap.get?_push_size _ rfl;have kD:∀h',p9 h1.objs.size (h1.push (seqObj "list" vs.toArray 0)) h'->∀b o,h1.get? b=some o->h'.get? b=some o:=fun h' k b o e =>
  k b o (Nat.ne_of_lt (Heap.lt_size e)) (Heap.get?_push_of_some _ e)
 refine wpAny_bind (wpAny_holding (wpAny_call_entry slot_list_sort ⟨_,oD,rfl⟩ entry_list_sort ?body (args_list_sort _)))
 case body =>
  refine L5 (s:={ s with heap:=h1.push (seqObj "list" vs.toArray 0),toks:=tk }) (l9 (rs.map iO)) (tuples' true) oD (by lia) (fun h2 h' kp R hR=> ?_) (fun h2 h' kp i j hi hj C hC=> ?_) fun h' e kp o'=> ?_
  ·obtain⟨fs,f1,f2,f3⟩:=wE (h':=h') (T:= .type "str") I2 (kD h' kp) (fun k u hk ru=>by
    cases k with
    | inl i=>cases hk
    | inr x=>obtain⟨t,rfl⟩:=ru;exact Looks.of_pure rfl) kr rv hs (by decide)
   exact kat_kind (s:={ s with heap:=h',toks:=tk }) f1 (by lia) f3 rfl hR
  ·obtain⟨p1,r1,x1,y1,z1⟩:=kr.get (i:=i) (List.getElem?_eq_getElem (by lia));obtain⟨p2,r2,x2,y2,z2⟩:=kr.get (i:=j) (List.getElem?_eq_getElem (by lia));obtain⟨u1,v1,w1⟩:=rv.get (List.getElem?_eq_getElem (show i<ys.length by lia));obtain⟨u2,v2,w2⟩:=rv.get (List.getElem?_eq_getElem (show j<ys.length by lia));rw[x1]at w1;rw[x2]at w2;cases w1;cases w2;obtain⟨o1,us1,n1,g1,c1,d1,l1⟩:=tT I2 z1;obtain⟨o2,us2,n2,g2,c2,d2,l2⟩:=tT I2 z2;have s1:=hs r1 (List.mem_of_getElem? y1);have s2:=hs r2 (List.mem_of_getElem? y2);have e1:=l1.length;have e2:=l2.length;rw[List.length_map]at e1 e2;have e3:r1.length=r2.length:=by rw[←List.length_map (f:=gY),s1,←s2,List.length_map]
   unfold kas_ask;rw[List.getD_eq_getElem?_getD,List.getD_eq_getElem?_getD,v1,v2];refine kat_lt (s:={ s with heap:=h',toks:=tk }) (kD h' kp _ _ g1) d1 (kD h' kp _ _ g2) d2 ?_;rw[show decide (us1.toArray.size<us2.toArray.size)=false from decide_eq_false (by rw[List.size_toArray,List.size_toArray];lia)];refine II 0 (s1.trans s2.symm) l1 l2 ?_;have ec:l9 (rs.map iO) i j=BT r1 r2:=by
    unfold l9;rw[List.getD_eq_getElem?_getD,List.getD_eq_getElem?_getD,y1,y2];rfl
   rw[ec]at hC;exact hC
  ·have hD:H h1.objs.size=none:=Same.free sm (I2.hok.fresh (Nat.le_refl _));have hn:=I2.hok.fresh (a:=h1.objs.size) (Nat.le_refl _);refine⟨_,rfl,wpAny_pure ⟨_,rfl,.ref h1.objs.size,_,I2.laid (t':=tk) (kD h' kp) (Nat.le_refl _) (show ObjOk X.prog X.w _ h' _ (.lst (t7 (rs.map iO) ys)) from⟨by unfold t7;rw[tD,sizeLine_eq];lia,_,e,vK _ rv,o'⟩),rfl,q _ _ ys hD (sm.trans (u3 hn)) (kr.same (u3 hn)) aZ⟩⟩
variable {H:Hp}{Q:VK}
theorem PB {v d:Addr}{rs:List (Str×Int)} (e:H v=some (itO v d)) (e2:H d=some (.dK (rs.map fun p:Str×Int=>(Sum.inr p.1,V.int p.2)))) (nd:rs.length<64)
  (h:∀l H' ys,H l=none->Same H H'->KRows H' ys (rs.map iO)->H' l=some (.lst (t7 (rs.map iO) ys))->Q (.ref l) H'):LV [.ref v] H Q :=
 ⟨v,d,rs,rfl,e,e2,nd,h⟩
end
end L2
namespace L2
open PySem PySem.Spec PyProof.Rows
section
variable {X:Cx}{scope:Scope}{cl:List (Str×Addr)}{N:List Str}{nl:Nat}{ci:List Nat}{y0:Str}{tg elt iter:Expr}{ifs:List Expr}{pos:Pos}{wi:TI}{g:TG}{ti:TT}{te:TE}
theorem yH {i:Nat}{x:Str}{pos' spos:Pos} (hN:X.N.Nodup) (hix:X.N[i]? =some x) (hx:Loc X.env.scope x) (hc:X.calm=true) (B:MU X scope cl N nl ci y0) (hp:PI X tg iter wi) (hg:∀C s0 H0 fp,PG (bW X scope cl N y0 C s0 H0 fp) tg g)
  (hi:∀C s0 H0 fp,PF (bW X scope cl N y0 C s0 H0 fp) ifs ti)(he:∀C s0 H0 fp,PE (bW X scope cl N y0 C s0 H0 fp) elt te)
  (hsw:swapsWith (.ListComp elt [⟨tg,iter,ifs,0⟩] scope pos) (some (.Name x pos')) spos.line X.env=pure true:=by rfl)(hs:∀x,foldedSetIterable iter X.env x=pure x:=by intro _;rfl)
  (hf:X.fn x=true∨X.env.scope.names.lookup x=some .local:=by first|exact .inl rfl|exact .inr rfl|assumption) :
  PS X (.Assign [.Name x pos'] (.ListComp elt [⟨tg,iter,ifs,0⟩] scope pos) spos) (G8 (F9 wi nl ci g ti te) (cJ i)):=by
 intro pins s σ H D I h;rw[exec_Assign_Name_used _ _ _ _ hsw];refine wpAny_bind (wpAny_standAt (wpAny_bind ?_));show wpAny _ X.A (do let _ ←comprehension (.ListComp elt [⟨tg,iter,ifs,0⟩] scope pos) scope X.env _ (newList []) false (eval iter X.env) (some (assign (.Name x pos') X.env))) _ _ s;refine wpAny_bind (wpAny_mono (wpAny_comprehension_free (use:=some (assign (.Name x pos') X.env)) (Q:=fun _ s'=>SP X pins D .next s') rfl hs B.clos B.kind B.names
  (thn (hp pins s σ H _ I h) fun v s1 h1=>thn h1 fun itv s2 h2=> ?_)) (fun _ s' hq=>wpAny_pure (wpAny_pure hq)) fun _ _ e=>e)
 obtain⟨it,fp,tn,J,H2,e,I2,T,st2,f2,hW⟩:=h2;subst e;refine NJ (RR:=fun acc C=>compPost (model X.prog X.w) X.A X.xe (some (assign (.Name x pos') X.env)) (fun _ s'=>SP X pins D .next s') acc C) hc B hg hi he I2 T st2 f2 hW ?_;intro Dd C s' H' ys oC m hD K1 hn hC q;show wpAny _ X.A (assign (.Name x pos') X.env (.ref Dd)) _ _ _;refine thn (aG (i:=i) hN hix hx hf (pins++[(C,oC)]) s' σ (upd H' Dd (.lst ys)) (.ref Dd) (.ref Dd) (fun σ' H''=>D.nx σ' H'') K1 rfl (q Dd hD)) fun _ s'' ⟨σ',H'',K2,q2⟩=> ?_;have eC:=K2.pin (C,oC) (by simp);obtain⟨oC',es,ep,hoC,hdC,rC⟩:=id hn;have eo:oC'=oC:=by
  have:=(K1.pin (C,oC) (by simp)).1;rw[hoC]at this;exact Option.some.inj this
 subst eo;refine⟨m,⟨oC',es,ep,eC.1,hdC,rC⟩,fun h' hs'=> ?_⟩;have hL:C≠X.env.locals:=eC.2.2.1;have I9:Inv X pins σ' H'' { s'' with heap:=h',toks:=s''.toks }:=K2.unpinned.turned (t':=s''.toks) (it:=C) (fun b o hb e=>hs'.extBut b o hb e) eC.2.1 hL (.inr (Nat.le_trans I2.sz hC)) (fun x c e z=> ?_) fun p hp z=> ?_
 ·exact⟨σ',H'',I9,q2⟩
 ·obtain⟨v,o,ho,_⟩:=I2.cell x c e;exact absurd (Nat.lt_of_lt_of_le (Heap.lt_size ho) (z▸hC)) (Nat.lt_irrefl _)
 ·exact absurd (Nat.lt_of_lt_of_le (Heap.lt_size (I2.pin p hp).1) (z▸hC)) (Nat.lt_irrefl _)
end
end L2
namespace L2
def aAS {α:Type}:Nat->(List α->Prop)->Prop
 | 0,p=>p []
 | n+1,p=>∀a,aAS n (fun l=>p (a::l))
theorem aM {α:Type}:∀(n:Nat) (p:List α->Prop),aAS n p->∀us:List α,us.length=n->p us
 | 0,_,h,[],_=>h
 | n+1,_,h,a::us,e=>aM n _ (h a) us (by simpa using e)
 | 0,_,_,_::_,e=>by simp at e
 | _+1,_,_,[],e=>by simp at e
end L2
namespace Prf
open PySem L2
set_option hygiene false
local macro_rules| `(tactic| walk_at"fs")=> `(tactic| exact⟨rfl,rfl,rfl,by decide +kernel,rfl,by decide +kernel,by decide +kernel⟩)
local macro_rules| `(tactic| walk_at"hu")=> `(tactic| (have hu0:=Room.units0 hr;have hu1:=Room.units1 hr;have hu9:=Room.units9 hr))
set_option hygiene true
def top (i:Nat):Stmt:=PySem.Challenge.pw_firstout_k62_what_happened.main.body.getD i (.Pass ⟨0,0,0,0⟩)
abbrev p8:Stmt:=top 0
abbrev iL:Stmt:=top 11
theorem sc_is_whole:aS ["thing"] ["thing"] (aC iL):=by walk_at"fs"
abbrev jM:Stmt:=top 14
theorem sc_is_name:aS ["thing"] ["thing"] (aC jM):=by walk_at"fs"
abbrev gU:Stmt:=top 15
theorem sc_need_name:aS ["part","thing"] ["part","thing"] (aC gU):=by walk_at"fs"
abbrev fO:Stmt:=top 16
theorem sc_need_whole:aS ["part","thing","least"] ["part","thing","least"] (aC fO):=by walk_at"fs"
abbrev cK:Stmt:=bS (top 17) 0
theorem sc_Door___init__:aS ["self","name","start","end","wide"] ["self","name","start","end","wide"] (aC cK):=by walk_at"fs"
abbrev gT:Stmt:=bS (top 17) 1
theorem sc_Door_lets:aS ["self","turn"] ["self","turn"] (aC gT):=by walk_at"fs"
abbrev dS:Stmt:=bS (top 17) 2
theorem sc_Door_is_exit:aS ["self"] ["self"] (aC dS):=by walk_at"fs"
abbrev iA:Stmt:=bS (top 17) 3
abbrev cW:Stmt:=bS (top 18) 0
theorem sc_Since___init__:aS ["self","name","start","end","wide","since"] ["self","name","start","end","wide","since"] (aC cW):=by walk_at"fs"
abbrev fR:Stmt:=bS (top 18) 1
theorem sc_Since_lets:aS ["self","turn"] ["self","turn"] (aC fR):=by walk_at"fs"
abbrev gA:Stmt:=bS (top 18) 2
abbrev c9:Stmt:=bS (top 19) 0
theorem sc_Told___init__:aS ["self","name","start","end","letting"] ["self","name","start","end","letting"] (aC c9):=by walk_at"fs"
abbrev gW:Stmt:=bS (top 19) 1
theorem sc_Told_lets:aS ["self","turn","letting"] ["self","turn"] (aC gW):=by walk_at"fs"
abbrev hV:Stmt:=bS (top 19) 2
abbrev dA:Stmt:=bS (top 20) 0
theorem sc_Shut___init__:aS ["self","door","turn"] ["self","door","turn"] (aC dA):=by walk_at"fs"
abbrev gR:Stmt:=bS (top 20) 1
theorem sc_Shut_lets:aS ["self","turn"] ["self","turn"] (aC gR):=by walk_at"fs"
abbrev hJ:Stmt:=bS (top 20) 2
abbrev cY:Stmt:=bS (top 21) 0
theorem sc_Wider___init__:aS ["self","door","turn","more"] ["self","door","turn","more"] (aC cY):=by walk_at"fs"
abbrev fL:Stmt:=bS (top 21) 1
theorem sc_Wider_lets:aS ["self","turn","number"] ["self","turn"] (aC fL):=by walk_at"fs"
abbrev f9:Stmt:=bS (top 21) 2
abbrev fP:Stmt:=top 23
theorem sc_need_turns:aS ["first","last"] ["first","last"] (aC fP):=by walk_at"fs"
abbrev cZ:Stmt:=top 24
theorem sc_need_each_once:aS ["names","seen","name"] ["names"] (aC cZ):=by walk_at"fs"
abbrev cT:Stmt:=top 25
theorem sc_rooms_spoken_of:aS ["doors","people","names","door"] ["doors","people"] (aC cT):=by walk_at"fs"
abbrev fS:Stmt:=top 26
theorem sc_need_rooms:aS ["names","sizes","name"] ["names","sizes"] (aC fS):=by walk_at"fs"
abbrev dU:Stmt:=top 27
theorem sc_added_people:aS ["sizes","people","inside","room","number"] ["sizes","people"] (aC dU):=by walk_at"fs"
abbrev fK:Stmt:=top 28
theorem sc_need_space:aS ["sizes","people","inside"] ["sizes","people"] (aC fK):=by walk_at"fs"
abbrev cN:Stmt:=bS (top 29) 0
theorem sc_House___init__:aS ["self","rooms","doors","people","last","first","sizes","door"] ["self","rooms","doors","people","last","first"] (aC cN):=by walk_at"fs"
abbrev fA:Stmt:=bS (top 29) 1
theorem sc_House_rooms:aS ["self"] ["self"] (aC fA):=by walk_at"fs"
abbrev eU:Stmt:=bS (top 29) 2
theorem sc_House_doors:aS ["self"] ["self"] (aC eU):=by walk_at"fs"
abbrev cS:Stmt:=bS (top 29) 3
theorem sc_House_need_room:aS ["self","room"] ["self","room"] (aC cS):=by walk_at"fs"
abbrev eS:Stmt:=bS (top 29) 4
theorem sc_House_holds:aS ["self","room"] ["self","room"] (aC eS):=by walk_at"fs"
abbrev eX:Stmt:=bS (top 29) 5
theorem sc_House_found:aS ["self","room"] ["self","room"] (aC eX):=by walk_at"fs"
abbrev hZ:Stmt:=bS (top 29) 6
abbrev dD:Stmt:=bS (top 29) 7
abbrev fM:Stmt:=bS (top 29) 8
theorem sc_House_door:aS ["self","name"] ["self","name"] (aC fM):=by walk_at"fs"
abbrev fN:Stmt:=bS (top 29) 9
theorem sc_House_lets:aS ["self","name","turn","door"] ["self","name","turn"] (aC fN):=by walk_at"fs"
abbrev eQ:Stmt:=bS (top 29) 10
theorem sc_House_total:aS ["self"] ["self"] (aC eQ):=by walk_at"fs"
abbrev eT:Stmt:=bS (top 29) 11
theorem sc_House_pairs:aS ["self","pairs","turn"] ["self"] (aC eT):=by walk_at"fs"
abbrev iM:Stmt:=top 31
theorem sc_added_up:aS ["plan","going","turn","name","number"] ["plan"] (aC iM):=by walk_at"fs"
abbrev cQ:Stmt:=top 32
theorem sc_rows_that_count:aS ["house","plan","doors"] ["house","plan"] (aC cQ):=by walk_at"fs"
abbrev jT:Stmt:=top 33
theorem sc_leaving:aS ["house","plan","numbers","turn","name","number","pair"] ["house","plan"] (aC jT):=by walk_at"fs"
abbrev lC:Stmt:=top 34
theorem sc_coming:aS ["house","plan","numbers","turn","name","number","door","pair"] ["house","plan"] (aC lC):=by walk_at"fs"
abbrev mM:Stmt:=top 35
theorem sc_there:aS ["house","plan","leave","come","inside","room","turn","before"] ["house","plan"] (aC mM):=by walk_at"fs"
abbrev dQ:Stmt:=top 36
theorem sc_most_through:aS ["house","turn","name"] ["house","turn","name"] (aC dQ):=by walk_at"fs"
abbrev eV:Stmt:=top 37
theorem sc_door_faults:aS ["house","plan","going"] ["house","plan"] (aC eV):=by walk_at"fs"
abbrev dM:Stmt:=top 38
theorem sc_leave_faults:aS ["house","plan","inside","leave","below_last"] ["house","plan","inside"] (aC dM):=by walk_at"fs"
abbrev fC:Stmt:=top 39
theorem sc_full_faults:aS ["house","inside"] ["house","inside"] (aC fC):=by walk_at"fs"
abbrev lD:Stmt:=top 40
theorem sc_faults:aS ["house","plan","inside"] ["house","plan"] (aC lD):=by walk_at"fs"
abbrev fB:Stmt:=top 41
theorem sc_need_lawful:aS ["house","plan"] ["house","plan"] (aC fB):=by walk_at"fs"
abbrev iK:Stmt:=top 43
theorem sc_place_of:aS ["doors","name","names"] ["doors","name"] (aC iK):=by walk_at"fs"
abbrev dN:Stmt:=top 44
theorem sc_changed_door:aS ["door","happening"] ["door","happening"] (aC dN):=by walk_at"fs"
abbrev eZ:Stmt:=top 45
theorem sc_doors_after:aS ["doors","happening","place"] ["doors","happening"] (aC eZ):=by walk_at"fs"
abbrev oB:Stmt:=top 46
theorem sc_anew:aS ["house","plan","turn","happenings","happened","doors","happening","inside","people"] ["house","plan","turn","happenings"] (aC oB):=by walk_at"fs"
abbrev dP:Stmt:=top 48
theorem sc__law_cell_at:aS ["_law_script","_law_k"] ["_law_script","_law_k"] (aC dP):=by walk_at"fs"
abbrev fT:Stmt:=top 49
theorem sc__law_drawn:aS ["_law_cell","_law_k","_law_number"] ["_law_cell","_law_k"] (aC fT):=by walk_at"fs"
abbrev gO:Stmt:=top 50
theorem sc__law_name:aS ["_law_cell","_law_k","_law_some","_law_rest","_law_place"] ["_law_cell","_law_k"] (aC gO):=by walk_at"fs"
abbrev c6:Stmt:=top 51
theorem sc__law_door:aS ["_law_number","_law_name_here","_law_rooms","_law_start","_law_end"] ["_law_number","_law_name_here","_law_rooms"] (aC c6):=by walk_at"fs"
abbrev cX:Stmt:=top 52
theorem sc__law_happening:aS ["_law_cell","_law_doors","_law_rooms","_law_space","_law_house","_law_k","_law_way","_law_turn","_law_name_here","_law_room"] ["_law_cell","_law_doors","_law_rooms","_law_space","_law_house","_law_k"] (aC cX):=by walk_at"fs"
abbrev eN:Stmt:=top 53
theorem sc__law_befall:aS ["_law_happening_here","_law_doors","_law_space","_law_more","_law_door_here","_law_k","_law_name_here","_law_start","_law_end","_law_lets","_law_turn"] ["_law_happening_here","_law_doors","_law_space","_law_more"] (aC eN):=by walk_at"fs"
abbrev fQ:Stmt:=top 54
theorem sc__law_right:aS ["_law_later","_law_house","_law_turn","_law_rooms","_law_people","_law_doors","_law_more","_law_name_here","_law_holds","_law_start","_law_end","_law_lets","_law_door_here"] ["_law_later","_law_house","_law_turn","_law_rooms","_law_people","_law_doors","_law_more"] (aC fQ):=by walk_at"fs"
abbrev cU:Stmt:=top 55
theorem sc__law_happenings:aS ["_law_cells","_law_doors","_law_rooms","_law_space","_law_more","_law_house","_law_found","_law_k","_law_happening_here","_law_names","_law_good"] ["_law_cells","_law_doors","_law_rooms","_law_space","_law_more","_law_house"] (aC cU):=by walk_at"fs"
abbrev nW:Stmt:=top 56
theorem sc_law:aS ["_law_script","_law_cell","_law_first","_law_rooms","_law_made","_law_k","_law_people","_law_house","_law_doors","_law_before","_law_turn","_law_space","_law_more","_law_happenings_here","_law_handed","_law_after"] ["_law_script"] (aC nW):=by walk_at"fs"
theorem UO:("abcdefghijklmnopqrstuvwxyz" :Str).length=26:=by rw[bX];rfl
theorem UW:("shut" :Str).length=4:=by rw[bX];rfl
theorem R4:("found" :Str).length=5:=by rw[bX];rfl
theorem U0:("door" :Str).length=4:=by rw[bX];rfl
theorem UZ:("wider" :Str).length=5:=by rw[bX];rfl
theorem UR:("name" :Str).length=4:=by rw[bX];rfl
theorem UU:("start" :Str).length=5:=by rw[bX];rfl
theorem TB:("wide" :Str).length=4:=by rw[bX];rfl
theorem TV:("since" :Str).length=5:=by rw[bX];rfl
theorem TK:("turn" :Str).length=4:=by rw[bX];rfl
theorem OB:("more" :Str).length=4:=by rw[bX];rfl
theorem M4:("the first turn is below 0" :Str).length=25:=by rw[bX];rfl
theorem NE:("the last turn is below the first one" :Str).length=36:=by rw[bX];rfl
theorem NW:("a row of people is below 0" :Str).length=26:=by rw[bX];rfl
theorem NF:("more are in a room than it holds" :Str).length=32:=by rw[bX];rfl
theorem M1:("leave" :Str).length=5:=by rw[bX];rfl
theorem M3:("full" :Str).length=4:=by rw[bX];rfl
theorem NB:("the plan has faults" :Str).length=19:=by rw[bX];rfl
theorem MY:("the house has no such turn" :Str).length=26:=by rw[bX];rfl
theorem OG:(" is no name" :Str).length=11:=by rw[bX];rfl
theorem NA:(" is no whole number from " :Str).length=25:=by rw[bX];rfl
theorem N0:(" on" :Str).length=3:=by rw[bX];rfl
theorem NO:("end" :Str).length=3:=by rw[bX];rfl
theorem NP:("xyz" :Str).length=3:=by rw[bX];rfl
theorem NY:("a" :Str).length=1:=by rw[bX];rfl
theorem NQ:("z" :Str).length=1:=by rw[bX];rfl
structure DCls (K:W.Frag)(C:Addr):Prop where
 ic:ICls K C
 n_name:NoAttr K C "name"
 n_start:NoAttr K C "start"
 n_end:NoAttr K C "end"
 n_wide:NoAttr K C "wide"
 n_since:NoAttr K C "since"
 n_letting:NoAttr K C "letting"
 n_inner:NoAttr K C "inner"
 n_turn:NoAttr K C "turn"
 n_more:NoAttr K C "more"
 n_first:NoAttr K C "first"
 n_last:NoAttr K C "last"
 n_sizes:NoAttr K C "sizes"
 n_people:NoAttr K C "people"
 n_named_doors:NoAttr K C "named_doors"
set_option genInjectivity false in
set_option genSizeOfSpec false in
structure M (K:W.Frag)(mg:Str->Option Value) where
 MP:Addr
 MO:FuncData
 aDb:FunV K "_wall" "_wall" p8 MP MO
 aDc:Binds K MO ["k"] []
 u6:Addr
 u9:FuncData
 pU:FunV K "is_whole" "is_whole" iL u6 u9
 OK:Binds K u9 ["thing"] []
 wO:Addr
 wX:FuncData
 rY:FunV K "is_name" "is_name" jM wO wX
 RI:Binds K wX ["thing"] []
 sL:Addr
 sN:FuncData
 i8:FunV K "need_name" "need_name" gU sL sN
 LD:Binds K sN ["part","thing"] []
 rE:Addr
 rD:FuncData
 cO:FunV K "need_whole" "need_whole" fO rE rD
 JO:Binds K rD ["part","thing","least"] []
 rL:Addr
 qU:FuncData
 mG:FunV K "need_turns" "need_turns" fP rL qU
 JL:Binds K qU ["first","last"] []
 lL:Addr
 lH:FuncData
 fW:FunV K "need_each_once" "need_each_once" cZ lL lH
 zN:Binds K lH ["names"] []
 kA:Addr
 kB:FuncData
 g8:FunV K "rooms_spoken_of" "rooms_spoken_of" cT kA kB
 xY:Binds K kB ["doors","people"] []
 qY:Addr
 rO:FuncData
 iG:FunV K "need_rooms" "need_rooms" fS qY rO
 J8:Binds K rO ["names","sizes"] []
 mZ:Addr
 nN:FuncData
 fI:FunV K "added_people" "added_people" dU mZ nN
 DS:Binds K nN ["sizes","people"] []
 qS:Addr
 rF:FuncData
 mJ:FunV K "need_space" "need_space" fK qS rF
 JU:Binds K rF ["sizes","people"] []
 u8:Addr
 vC:FuncData
 pT:FunV K "added_up" "added_up" iM u8 vC
 ON:Binds K vC ["plan"] []
 kC:Addr
 kH:FuncData
 dI:FunV K "rows_that_count" "rows_that_count" cQ kC kH
 xZ:Binds K kH ["house","plan"] []
 wR:Addr
 wY:FuncData
 lR:FunV K "leaving" "leaving" jT wR wY
 RM:Binds K wY ["house","plan"] []
 zZ:Addr
 zU:FuncData
 vA:FunV K "coming" "coming" lC zZ zU
 U5:Binds K zU ["house","plan"] []
 DI:Addr
 DN:FuncData
 qA:FunV K "there" "there" mM DI DN
 Y8:Binds K DN ["house","plan"] []
 m3:Addr
 nQ:FuncData
 j5:FunV K "most_through" "most_through" dQ m3 nQ
 DM:Binds K nQ ["house","turn","name"] []
 o7:Addr
 oV:FuncData
 kY:FunV K "door_faults" "door_faults" eV o7 oV
 FI:Binds K oV ["house","plan"] []
 m5:Addr
 m9:FuncData
 j7:FunV K "leave_faults" "leave_faults" dM m5 m9
 DH:Binds K m9 ["house","plan","inside"] []
 pH:Addr
 o8:FuncData
 k5:FunV K "full_faults" "full_faults" fC pH o8
 FP:Binds K o8 ["house","inside"] []
 zY:Addr
 zO:FuncData
 u5:FunV K "faults" "faults" lD zY zO
 U1:Binds K zO ["house","plan"] []
 oX:Addr
 o0:FuncData
 kZ:FunV K "need_lawful" "need_lawful" fB oX o0
 F0:Binds K o0 ["house","plan"] []
 u7:Addr
 vB:FuncData
 pV:FunV K "place_of" "place_of" iK u7 vB
 OJ:Binds K vB ["doors","name"] []
 m7:Addr
 nJ:FuncData
 j6:FunV K "changed_door" "changed_door" dN m7 nJ
 DC:Binds K nJ ["door","happening"] []
 oZ:Addr
 oT:FuncData
 kX:FunV K "doors_after" "doors_after" eZ oZ oT
 FH:Binds K oT ["doors","happening"] []
 JR:Addr
 BF:FuncData
 BL:FunV K "anew" "anew" oB JR BF
 aBR:Binds K BF ["house","plan","turn","happenings"] []
 m6:Addr
 m8:FuncData
 cP:FunV K "_law_cell_at" "_law_cell_at" dP m6 m8
 DE:Binds K m8 ["_law_script","_law_k"] []
 rJ:Addr
 qX:FuncData
 bF:FunV K "_law_drawn" "_law_drawn" fT rJ qX
 J4:Binds K qX ["_law_cell","_law_k"] []
 sT:Addr
 sR:FuncData
 gX:FunV K "_law_name" "_law_name" gO sT sR
 LC:Binds K sR ["_law_cell","_law_k"] []
 sP:Addr
 c8:FuncData
 i9:FunV K "_law_door" "_law_door" c6 sP c8
 K8:Binds K c8 ["_law_number","_law_name_here","_law_rooms"] []
 lK:Addr
 lI:FuncData
 iR:FunV K "_law_happening" "_law_happening" cX lK lI
 z3:Binds K lI ["_law_cell","_law_doors","_law_rooms","_law_space","_law_house","_law_k"] []
 oR:Addr
 oQ:FuncData
 k6:FunV K "_law_befall" "_law_befall" eN oR oQ
 F1:Binds K oQ ["_law_happening_here","_law_doors","_law_space","_law_more"] []
 rH:Addr
 rB:FuncData
 mF:FunV K "_law_right" "_law_right" fQ rH rB
 JM:Binds K rB ["_law_later","_law_house","_law_turn","_law_rooms","_law_people","_law_doors","_law_more"] []
 kG:Addr
 kE:FuncData
 g7:FunV K "_law_happenings" "_law_happenings" cU kG kE
 yA:Binds K kE ["_law_cells","_law_doors","_law_rooms","_law_space","_law_more","_law_house"] []
 OO:Addr
 OI:FuncData
 aCN:FunV K "law" "law" nW OO OI
 aDg:Binds K OI ["_law_script"] []
 jI:Addr
 gL:FuncData
 mI:FunV K "__init__" "Door.__init__" cK jI gL
 rX:Binds K gL ["self","name","start","end","wide"] []
 sS:Addr
 sU:FuncData
 K4:FunV K "lets" "Door.lets" gT sS sU
 K6:Binds K sU ["self","turn"] []
 dX:Addr
 nF:FuncData
 DO:FunV K "is_exit" "Door.is_exit" dS dX nF
 iH:Binds K nF ["self"] []
 wZ:Addr
 wT:FuncData
 aBQ:FunV K "words" "Door.words" iA wZ wT
 aBO:Binds K wT ["self"] []
 lM:Addr
 lG:FuncData
 zR:FunV K "__init__" "Since.__init__" cW lM lG
 zW:Binds K lG ["self","name","start","end","wide","since"] []
 rM:Addr
 rN:FuncData
 J5:FunV K "lets" "Since.lets" fR rM rN
 JJ:Binds K rN ["self","turn"] []
 vG:Addr
 vI:FuncData
 ZH:FunV K "words" "Since.words" gA vG vI
 ZK:Binds K vI ["self"] []
 mK:Addr
 mE:FuncData
 BJ:FunV K "__init__" "Told.__init__" c9 mK mE
 BN:Binds K mE ["self","name","start","end","letting"] []
 sQ:Addr
 sV:FuncData
 LB:FunV K "lets" "Told.lets" gW sQ sV
 K7:Binds K sV ["self","turn"] []
 wS:Addr
 wV:FuncData
 aBU:FunV K "words" "Told.words" hV wS wV
 aBP:Binds K wV ["self"] []
 mL:Addr
 mH:FuncData
 BM:FunV K "__init__" "Shut.__init__" dA mL mH
 BO:Binds K mH ["self","door","turn"] []
 sM:Addr
 sO:FuncData
 K9:FunV K "lets" "Shut.lets" gR sM sO
 K0:Binds K sO ["self","turn"] []
 wN:Addr
 wP:FuncData
 aBX:FunV K "words" "Shut.words" hJ wN wP
 aBN:Binds K wP ["self"] []
 lE:Addr
 lF:FuncData
 zP:FunV K "__init__" "Wider.__init__" cY lE lF
 zX:Binds K lF ["self","door","turn","more"] []
 qT:Addr
 qW:FuncData
 J0:FunV K "lets" "Wider.lets" fL qT qW
 JK:Binds K qW ["self","turn"] []
 vF:Addr
 vH:FuncData
 ZM:FunV K "words" "Wider.words" f9 vF vH
 ZJ:Binds K vH ["self"] []
 lJ:Addr
 iS:FuncData
 zM:FunV K "__init__" "House.__init__" cN lJ iS
 zT:Binds K iS ["self","rooms","doors","people","last","first"] []
 oN:Addr
 oK:FuncData
 FM:FunV K "rooms" "House.rooms" fA oN oK
 FO:Binds K oK ["self"] []
 o6:Addr
 oY:FuncData
 FY:FunV K "doors" "House.doors" eU o6 oY
 F6:Binds K oY ["self"] []
 kF:Addr
 j9:FuncData
 xW:FunV K "need_room" "House.need_room" cS kF j9
 xT:Binds K j9 ["self","room"] []
 oP:Addr
 o9:FuncData
 FV:FunV K "holds" "House.holds" eS oP o9
 FS:Binds K o9 ["self","room"] []
 oM:Addr
 oS:FuncData
 FQ:FunV K "found" "House.found" eX oM oS
 FW:Binds K oS ["self","room"] []
 wW:Addr
 wQ:FuncData
 aBZ:FunV K "into" "House.into" hZ wW wQ
 aBY:Binds K wQ ["self","room"] []
 pJ:Addr
 pK:FuncData
 RN:FunV K "from_room" "House.from_room" dD pJ pK
 RO:Binds K pK ["self","room"] []
 rK:Addr
 rP:FuncData
 JT:FunV K "door" "House.door" fM rK rP
 JQ:Binds K rP ["self","name"] []
 rA:Addr
 qZ:FuncData
 J6:FunV K "lets" "House.lets" fN rA qZ
 JX:Binds K qZ ["self","name","turn"] []
 pG:Addr
 oW:FuncData
 FG:FunV K "total" "House.total" eQ pG oW
 FK:Binds K oW ["self"] []
 oU:Addr
 oO:FuncData
 FT:FunV K "pairs" "House.pairs" eT oU oO
 FU:Binds K oO ["self"] []
 aDd:mg "_wall" =some (.ref MP)
 OP:mg "is_whole" =some (.ref u6)
 RK:mg "is_name" =some (.ref wO)
 K3:mg "need_name" =some (.ref sL)
 J9:mg "need_whole" =some (.ref rE)
 J2:mg "need_turns" =some (.ref rL)
 zV:mg "need_each_once" =some (.ref lL)
 xV:mg "rooms_spoken_of" =some (.ref kA)
 JI:mg "need_rooms" =some (.ref qY)
 DT:mg "added_people" =some (.ref mZ)
 JW:mg "need_space" =some (.ref qS)
 OL:mg "added_up" =some (.ref u8)
 xX:mg "rows_that_count" =some (.ref kC)
 RJ:mg "leaving" =some (.ref wR)
 U7:mg "coming" =some (.ref zZ)
 Y6:mg "there" =some (.ref DI)
 DQ:mg "most_through" =some (.ref m3)
 FN:mg "door_faults" =some (.ref o7)
 DU:mg "leave_faults" =some (.ref m5)
 FZ:mg "full_faults" =some (.ref pH)
 U9:mg "faults" =some (.ref zY)
 F5:mg "need_lawful" =some (.ref oX)
 OH:mg "place_of" =some (.ref u7)
 DG:mg "changed_door" =some (.ref m7)
 F3:mg "doors_after" =some (.ref oZ)
 aBT:mg "anew" =some (.ref JR)
 DF:mg "_law_cell_at" =some (.ref m6)
 J3:mg "_law_drawn" =some (.ref rJ)
 K5:mg "_law_name" =some (.ref sT)
 LA:mg "_law_door" =some (.ref sP)
 zS:mg "_law_happening" =some (.ref lK)
 FJ:mg "_law_befall" =some (.ref oR)
 JP:mg "_law_right" =some (.ref rH)
 xU:mg "_law_happenings" =some (.ref kG)
 aDf:mg "law" =some (.ref OO)
 aCQ:∃ds,Vals [.non] ds/\Binds K BF ["house","plan","turn","happenings"] ds
 wU:∃ds,Vals [.int 1] ds/\Binds K gL ["self","name","start","end","wide"] ds
 RF:∃ds,Vals [.non,.int 1] ds/\Binds K gL ["self","name","start","end","wide"] ds
 OQ:∃ds,Vals [.int 0] ds/\Binds K iS ["self","rooms","doors","people","last","first"] ds
 iF:Addr
 JZ:mg "Door" =some (.ref iF)
 jB:Addr
 ZE:mg "Since" =some (.ref jB)
 kN:Addr
 aBS:mg "Told" =some (.ref kN)
 kO:Addr
 aBM:mg "Shut" =some (.ref kO)
 jA:Addr
 Y7:mg "Wider" =some (.ref jA)
 aO:Addr
 ZF:mg "House" =some (.ref aO)
 OM:Addr
 aCP:mg "OutError" =some (.ref OM)
 U6:Addr
 aC8:mg "NoDoor" =some (.ref U6)
 RG:Addr
 aCR:mg "NoHouse" =some (.ref RG)
 U3:Addr
 aC7:mg "NoPlan" =some (.ref U3)
 VA:Addr
 aDa:mg "NoTurn" =some (.ref VA)
 Y5:Addr
 aDe:mg "Twice" =some (.ref Y5)
 U2:Addr
 aC9:mg "NoRoom" =some (.ref U2)
 RH:Addr
 aCS:mg "Unknown" =some (.ref RH)
 tV:DCls K iF
 ZB:Mk K iF jI
 J7:dJ K iF "lets" sS
 BI:dJ K iF "is_exit" dX
 ZL:dJ K iF "words" wZ
 qV:DCls K jB
 VB:Mk K jB lM
 FR:dJ K jB "lets" rM
 Y9:dJ K jB "words" vG
 zL:dJ K jB "is_exit" dX
 tW:DCls K kN
 ZC:Mk K kN mK
 JV:dJ K kN "lets" sQ
 ZI:dJ K kN "words" wS
 BG:dJ K kN "is_exit" dX
 tU:DCls K kO
 ZD:Mk K kO mL
 JS:dJ K kO "lets" sM
 ZN:dJ K kO "words" wN
 BK:dJ K kO "is_exit" dX
 q0:DCls K jA
 U4:Mk K jA lE
 FX:dJ K jA "lets" qT
 ZA:dJ K jA "words" vF
 zQ:dJ K jA "is_exit" dX
 bK:DCls K aO
 U8:Mk K aO lJ
 DR:dJ K aO "rooms" oN
 DD:dJ K aO "doors" o6
 wM:dJ K aO "need_room" kF
 DL:dJ K aO "holds" oP
 DK:dJ K aO "found" oM
 ZG:dJ K aO "into" wW
 RL:dJ K aO "from_room" pJ
 F2:dJ K aO "door" rK
 F4:dJ K aO "lets" rA
 DP:dJ K aO "total" pG
 DJ:dJ K aO "pairs" oU
 dW:W.specialIn K (.ref iF) "__getattribute__" =some (some (.builtin "type.__getattribute__"))/\W.readsIn K iF (.type "type")=true/\W.findCls K (.ref iF) (.type "type") "__init__" =some (.val (.ref jI))
 aBV:mg "ValueError" =none
 WB:mg "any" =none
 JY:mg "sorted" =none
 aCK:mg "max" =none
 gD:mg "range" =none
 JN:mg "dict" =none
 BH:mg "list" =none
 rG:mg "isinstance" =none
 aCL:mg "int" =none
 aCM:mg "str" =none
 aCO:mg "all" =none
 WC:mg "sum" =none
 k4:mg "len" =none
 aBW:mg "bool" =none
 aCJ:mg "min" =none
 nH:∃t:Tok,mg "LONGEST_NAME" =some (.int 8 t)
theorem gl_ {G:Prop}(h:∀G':Prop,G'=G->G'):G:=h G rfl
set_option hygiene false
local macro_rules| `(tactic| walk_at"g1")=> `(tactic| (refine gl_ ?_;intro G_ hG_))
local macro_rules| `(tactic| walk_at"g2")=> `(tactic| subst hG_)
local macro_rules| `(tactic| walk_at"cx")=> `(tactic| try dsimp only[cxK,cxP,cxW,cxM,cxB])
set_option hygiene true
local macro_rules| `(tactic| walk_at"hp")=> `(tactic| first|assumption|(refine' Same.at ?s ?h;(case s=>assumption);(case h=>walk_at"hp"))|(refine' SqL.of ?h;(case h=>walk_at"hp"))|(refine' SqT.of ?h;(case h=>walk_at"hp"))|(refine' Same.seq ?s ?h;(case s=>assumption);(case h=>walk_at"hp"))|(refine' Same.sqT ?s ?h;(case s=>assumption);(case h=>walk_at"hp")))
local macro_rules| `(tactic| walk_at"sm")=> `(tactic| first|assumption|exact Same.refl _|(refine' Same.snoc ?s ?h;(case s=>assumption);(case h=>walk_at"sm")))
local macro_rules| `(tactic| walk_at"sb")=> `(tactic| first|assumption|exact SameBut.refl|(refine' SameBut.snoc ?s ?h;(case s=>assumption);(case h=>walk_at"sb"))|(refine' SameBut.snocS ?s ?h;(case s=>assumption);(case h=>walk_at"sb")))
local macro_rules| `(tactic| walk_at"lk")=> `(tactic| first|assumption|exact aBi|(with_reducible exact YX)|(refine' aCb ?d ?h;(case d=>decide +kernel);(case h=>walk_at"lk")))
local macro_rules| `(tactic| walk_at"sz")=> `(tactic| first|with_reducible assumption|lia|omega|(simp only[dZ,CL,UO,UW,R4,U0,UZ,UR,UU,TB,TV,TK,OB,M4,NE,NW,NF,M1,M3,NB,MY,OG,NA,N0,NO,NP,NY,NQ,sizeLine_eq,List.length_cons,List.length_nil,List.length_append,List.length_map];done)|(simp only[dZ,CL,UO,UW,R4,U0,UZ,UR,UU,TB,TV,TK,OB,M4,NE,NW,NF,M1,M3,NB,MY,OG,NA,N0,NO,NP,NY,NQ,sizeLine_eq,List.length_cons,List.length_nil,List.length_append,List.length_map];omega)|(simp only[dZ,CL,UO,UW,R4,U0,UZ,UR,UU,TB,TV,TK,OB,M4,NE,NW,NF,M1,M3,NB,MY,OG,NA,N0,NO,NP,NY,NQ,sizeLine_eq,List.length_cons,List.length_nil,List.length_append,List.length_map]at *;omega))
local macro_rules| `(tactic| walk_at"sd")=> `(tactic| first|with_reducible assumption|lia|omega|decide)
local macro_rules| `(tactic| walk_at"dc")=> `(tactic| first|((with_reducible refine ICls.cl (DCls.ic ?_));assumption)|((with_reducible refine DCls.ic ?_);assumption)|((with_reducible refine DCls.n_name ?_);assumption)|((with_reducible refine DCls.n_start ?_);assumption)|((with_reducible refine DCls.n_end ?_);assumption)|((with_reducible refine DCls.n_wide ?_);assumption)|((with_reducible refine DCls.n_since ?_);assumption)|((with_reducible refine DCls.n_letting ?_);assumption)|((with_reducible refine DCls.n_inner ?_);assumption)|((with_reducible refine DCls.n_turn ?_);assumption)|((with_reducible refine DCls.n_more ?_);assumption)|((with_reducible refine DCls.n_first ?_);assumption)|((with_reducible refine DCls.n_last ?_);assumption)|((with_reducible refine DCls.n_sizes ?_);assumption)|((with_reducible refine DCls.n_people ?_);assumption)|((with_reducible refine DCls.n_named_doors ?_);assumption))
local macro_rules| `(tactic| walk_at"rd1")=> `(tactic| first|(with_reducible first|refine aAR ?_|refine aBs ?_|refine aCW ?_|refine aCu ?_|refine aCH ?_|refine aCn ?_|refine aB9 ?_|refine aB8 ?_|refine aB5 ?_|refine aCm ?_|refine aCi ?_|refine aCe ?_|refine aCk ?_|refine aB7 ?_|refine aBw ?_|refine aAf ?_|refine aAM ?_|refine W3 ?_|refine ZX ?_|refine aCD ?_|refine aCd ?_|refine YD ?_|refine aB3 ?_|refine aAA ?_|refine X6 ?_|refine aCI ?_|refine aAT ?_|refine aCq ?_|refine OT ?_|refine IO ?_|refine WQ ?_|refine W1 ?_|refine rd_s0 ?_|refine aCF ?_|refine aCa ?_|refine aCB ?_|refine aCE ?_|refine aB0 ?_|refine aB4 ?_|refine aCC ?_|refine aB1 ?_|refine aCw ?_|refine Z1 ?_|refine aAe ?_|refine aBl ?_|refine aAP ?_|refine W9 ?_|refine XB ?_|refine rd_retN ?_|refine aAG ?_|refine aAx ?_|refine aCr ?_|refine YS ?_|refine rd_orV ?_|refine rd_notV ?_|refine aAm ?_|refine rd_chain ?_|refine rd_un ?_|refine rd_U ?_|refine aBc ?_|refine rd_eqB ?_|refine aBH ?_|refine rd_eqSN ?_|refine rd_eqNS ?_|refine rd_eqNN ?_|refine aAF ?_|refine aAi ?_|refine rd_neS ?_|refine rd_neNN ?_|refine rd_isNN ?_|refine rd_isNS ?_|refine rd_isNI ?_|refine WZ ?_|refine WT ?_|refine W5 ?_|refine rd_ntNI ?_|refine YZ ?_|refine Y3 ?_|refine rd_ntNV ?_|refine Z4 ?_|refine aBk ?_|refine X7 ?_|refine X5 ?_|refine XW ?_|refine aCf ?_|refine aCs ?_|refine rd_bm0 ?_|refine rd_bmS ?_|refine rd_bm0I ?_|refine rd_isiII ?_|refine rd_isiIB ?_|refine rd_isiBB ?_|refine rd_isiBI ?_|refine rd_isiSS ?_|refine rd_isiNS ?_|refine YM ?_|refine WL ?_|refine rd_intB ?_|refine rd_intI ?_|refine RB ?_|refine YK ?_|refine aAw ?_|refine W6 ?_|refine WD ?_|refine US ?_|refine aAr ?_|refine UB ?_|refine rd_iTup ?_|refine RZ ?_|refine UH ?_|refine rd_iStr ?_|refine rd_iStrV ?_|refine rd_break ?_|refine rd_cont ?_|refine rd_aug ?_)|((with_reducible refine' Z9 ?s ?_);(case s=>decide))|((with_reducible refine' YI ?s ?_);(case s=>walk_at"sd");intro h0' h1')|((with_reducible refine' rd_repL ?e ?a ?b ?s ?_);(case e=>walk_at"hp");(case a=>decide);(case b=>decide);(case s=>first|(simp;done)|(simp[sizeLine_eq];done)|walk_at"sz");intro p' H' n' S' e')|((with_reducible refine' aA7 ?s ?r ?_);(case s=>walk_at"sd");(case r=>walk_at"sd"))|((with_reducible refine' Y4 ?s ?r ?_);(case s=>walk_at"sd");(case r=>walk_at"sd"))|((with_reducible refine' WH ?s ?r ?_);(case s=>walk_at"sd");(case r=>walk_at"sd"))|((with_reducible refine' Y1 ?s ?_);(case s=>walk_at"sz");intro p' H' n' S' e')|((with_reducible refine' XZ ?s ?_);(case s=>walk_at"sz");intro p' H' n' S' e')|((with_reducible refine YJ ?_);intro p' H' n' S' e')|((with_reducible refine' X4 ?e ?c ?n ?l ?_);(case e=>walk_at"hp");(case c=>walk_at"dc");(case n=>walk_at"dc");(case l=>walk_at"lk"))|((with_reducible refine' TW ?e ?c ?n ?l ?_);(case e=>walk_at"hp");(case c=>walk_at"dc");(case n=>walk_at"dc");(case l=>kernel_rfl);intro H' B' e')|((with_reducible refine' Z2 ?e ?l ?F ?_);(case e=>walk_at"hp");(case l=>walk_at"lk");(case F=>assumption))|((with_reducible refine' rd_isiC ?e ?i ?k ?_);(case e=>walk_at"hp");(case i=>walk_at"dc");(case k=>assumption))|((with_reducible refine' rd_ixL ?e ?l ?_);(case e=>walk_at"hp");(case l=>rfl))|((with_reducible refine' WP ?e ?s ?r ?_);(case e=>walk_at"hp");(case s=>walk_at"sd");(case r=>walk_at"sd");intro v' hv')|((with_reducible refine' rd_ix3i ?e ?s ?r ?_);(case e=>walk_at"hp");(case s=>walk_at"sd");(case r=>walk_at"sd");intro v' hv')|((with_reducible refine' yP ?e ?l ?_);(case e=>walk_at"hp");(case l=>rfl);intro H' B' e')|((with_reducible refine' YC ?e ?_);(case e=>walk_at"hp"))|((with_reducible refine' YU ?e ?_);(case e=>walk_at"sz"))|((with_reducible refine' XE ?e ?_);(case e=>walk_at"sz"))|((with_reducible refine' PP ?e ?_);(case e=>walk_at"sz");intro hl')|((with_reducible refine' aBA ?e ?_);(case e=>walk_at"hp");intro p' H' n' S' e')|((with_reducible refine' QQ ?e ?_);(case e=>walk_at"hp");intro p' H' n' S' e')|((with_reducible refine' pY ?e ?f ?s ?_);(case e=>walk_at"hp");(case f=>walk_at"hp");(case s=>walk_at"sz");intro p' H' n' S' e')|((with_reducible refine' QO ?e ?_);(case e=>walk_at"hp");intro p' H' n' S' e')|((with_reducible refine' aAo ?e ?_);(case e=>walk_at"hp"))|((with_reducible refine' D3 ?e ?_);(case e=>walk_at"hp"))|((with_reducible refine' QN ?s ?r ?_);(case s=>walk_at"sd");(case r=>walk_at"sd"))|((with_reducible refine' PM ?s ?r ?t ?u ?_);(case s=>walk_at"sd");(case r=>walk_at"sd");(case t=>walk_at"sd");(case u=>walk_at"sd"))|((with_reducible refine' rd_str ?s ?r ?_);(case s=>walk_at"sd");(case r=>walk_at"sd");intro hl')|((with_reducible refine' rd_gtupL ?e ?l ?_);(case e=>walk_at"hp");(case l=>rfl))|((with_reducible refine' WO ?e ?l ?_);(case e=>walk_at"hp");(case l=>rfl))|((with_reducible refine' aBz ?s ?_);(case s=>walk_at"sd"))|((with_reducible refine' aAN ?s ?_);(case s=>walk_at"sd"))|((with_reducible refine' XG ?s ?_);(case s=>walk_at"sd"))|((with_reducible refine' rd_ifnN ?s ?_);(case s=>walk_at"sd")))
local macro_rules| `(tactic| walk_at"go")=> `(tactic| repeat walk_at"rd1")
local macro_rules| `(tactic| walk_at"gs")=> `(tactic| repeat ((fail_if_success (with_reducible refine R8 ?_));walk_at"rd1"))
local macro_rules| `(tactic| walk_at"nn")=> `(tactic| repeat first|exact nn_nil|refine nn_app ?_ ?_|refine nn_cons (by omega) ?_|exact nn_map (fun n=>by omega))
section
variable {P:Program}{w:World}{K:W.Frag}{mg:Str->Option Value}{base:Heap}
def aAk:V->Bool
 | .int _=>true
 | _=>false
def yV (K:W.Frag):Sp:=fun vs H Q _=>∃x n,vs=[x]/\BTy K H x n/\Q (.bl (aAk x)) H
theorem UD {H:Hp}{Q:VK}{E:XK}{i:Int} (h:Q (.bl true) H):yV K [.int i] H Q E:=⟨_,_,rfl,.int i,h⟩
theorem KN (m:M K mg):FnOk P w K mg base CX0 1 m.u6 m.u9 ["thing"] (yV K):=by
 refine m.pU.ok sc_is_whole (fun vs H Q E h=> ?_) (fun cdv A outer s H vs Q E hr h=> ?_)
 ·walk_at"g1";obtain⟨x,n,rfl,b,k⟩:=h;walk_at"g2";rfl
 ·walk_at"g1";obtain⟨x,n,rfl,b,k⟩:=h;walk_at"g2";have nd:=sc_is_whole.nd;walk_at"hu";refine⟨_,(aF (aU (z5 (bT yW rfl m.rG oI (aA (pv 0) (aA (N6 rfl m.aCL ZQ) aB))) (AJ (aBv (bT yW rfl m.rG oI (aA (pv 0) (aA (N6 rfl m.aBW XM) aB)))))))),?_⟩;refine aQ (σ:=[some (x)]) rfl ?_;walk_at"cx";refine⟨_,rfl,_,_,_,_,_,rfl,b.ty,rfl,MX b "int" (.inl rfl),_,rfl,?_⟩;refine CK (fun h1=>⟨_,rfl,_,_,_,_,_,rfl,b.ty,rfl,MX b "bool" (.inr (.inl rfl)),_,rfl,?_⟩) (fun h1=> ?_)
  ·cases b<;>first|exact k|exact absurd h1 (by decide)
  ·cases b<;>first|exact k|exact absurd (by decide) h1
theorem KO (m:M K mg):Fc P w K mg base "is_whole" 1 ["thing"] (yV K):=⟨_,_,m.OP,m.pU.kp,m.OK,KN m⟩
def nmB:V->Bool
 | .str z=>bA z
 | _=>false
def CS (K:W.Frag):Sp:=fun vs H Q _=>∃x n,vs=[x]/\BTy K H x n/\(∀z,x= .str z->z.length<=1000)/\∀H',Same H H'->Q (.bl (nmB x)) H'
theorem XU {H:Hp}{Q:VK}{E:XK}{z:Str} (hz:bA z=true) (h:∀H',Same H H'->Q (.bl true) H'):CS K [.str z] H Q E :=
 ⟨_,_,rfl,.str z,fun y e=>by cases e;exact Nat.le_trans (DZ hz) (by decide),fun H' s=>by rw[show nmB (.str z)=true from hz];exact h H' s⟩
theorem le1 (a c:Nat):(!decide ([c]<[a]))=decide (a<=c):=by
 have:([c]<[a])↔c<a:=by
  constructor
  ·intro h;cases h with
   | rel h=>exact h
   | cons h=>cases h
  ·exact fun h=> .rel h
 by_cases h:c<a
 ·rw[decide_eq_true (this.mpr h),decide_eq_false (by lia)];rfl
 ·rw[decide_eq_false (fun z=>h (this.mp z)),decide_eq_true (by lia)];rfl
theorem aCl:("a" :Str).cps.toList=[97]:=by decide +kernel
theorem aB6:("z" :Str).cps.toList=[122]:=by decide +kernel
theorem EH {α:Type}(p:α->Bool)(d:α):∀l:List α,((List.range l.length).map fun i=>p (l.getD i d)).all id=l.all p
 | []=>rfl
 | a::l=>by
  rw[List.length_cons,List.range_succ_eq_map,List.map_cons,List.all_cons,List.map_map,List.all_cons,←EH p d l];rfl
theorem RV {H:Hp}{p:Addr}{o:HO} (h:H p=none):Same H (upd H p o):=fun b u e=>by rw[aK (bH e h)];exact e
theorem M5 (m:M K mg):FnOk P w K mg base CX0 1 m.wO m.wX ["thing"] (CS K):=by
 refine m.rY.ok sc_is_name (fun vs H Q E h=> ?_) (fun cdv A outer s H vs Q E hr h=> ?_)
 ·walk_at"g1";obtain⟨x,n,rfl,b,hz,k⟩:=h;walk_at"g2";rfl
 ·walk_at"g1";obtain⟨x,n,rfl,b,hz,k⟩:=h;walk_at"g2";have nd:=sc_is_name.nd;walk_at"hu";obtain⟨tok_LONGEST_NAME,nH⟩:=m.nH;refine⟨_,(aD (bO (tH (kJ (bT yW rfl m.rG oI (aA (pv 0) (aA (N6 rfl m.aCM aAa) aB))))) (aF (aU nT)) bB)
   (aF (aU (z5 (G3 NS NS aE (bT EG rfl m.k4 iX (aA (pv 0) aB)) (XD rfl nH)) (AJ (bT (UJ rfl) rfl m.aCO aA6 (aA (cF (N:=["sign"]) (nl:=1) (ci:=[]) rfl (blk (s.heap.objs.size+1) rfl rfl rfl (by kernel_rfl)) (aAL (pv 0)) (fun _ _ _ _=>(aG (i:=0) (show (["sign"]:List Str).Nodup by decide +kernel) rfl (by walk_at"oi"))) (fun _ _ _ _=>cI) (fun _ _ _ _=>(G3 QI QI cC (pv 0) cC))) aB))))))),?_⟩
  refine aQ (σ:=[some (x)]) rfl ?_;walk_at"cx";refine⟨_,rfl,_,_,_,_,_,rfl,b.ty,rfl,MX b "str" (.inr (.inr rfl)),_,rfl,?_⟩;refine CK (fun h1=> ?_) (fun h1=> ?_)
  ·show Q (.bl false) H;cases b<;>first|exact k H (Same.refl H)|exact absurd h1 (by decide)
  ·have hs:∃z,x= .str z:=by
    cases b<;>first|exact⟨_,rfl⟩|exact absurd (by decide) h1
   obtain⟨z,rfl⟩:=hs;have hl:=hz z rfl;have hl':z.length<=sizeLine:=Nat.le_of_lt (O1 hl);refine⟨_,rfl,z,rfl,hl',_,_,rfl,rfl,_,rfl,?_⟩;refine CK (fun h2=>⟨_,_,rfl,rfl,_,rfl,?_⟩) (fun h2=>⟨_,rfl,?_⟩)
   ·refine CK (fun h3=> ?_) (fun h3=> ?_)
    ·refine⟨_,rfl,z,rfl,?_⟩;refine YY z.cps.size (fun i=> .bl (sgB (z.cps.toList.getD i 0))) hl' (fun H'=>H'=H) rfl (fun _ _=>rfl) (fun i _ hi _=>hi) ?_ ?_ ?_ ?_ ?_
     ·rintro i _ x H' hi rfl hq_;walk_at"g1";obtain⟨rfl,c,hc,rfl⟩:=hq_;walk_at"g2";refine⟨⟨rfl,fun j v hv=> ?_⟩,rfl,?_⟩
      ·match j,hv with
       | 0,hv=>cases hv
       | j+1,hv=>cases hv
      ·have hc':z.cps.toList.getD i 0=c:=by
        rw[List.getD_eq_getElem?_getD,Array.getElem?_toList,hc];rfl
       refine⟨_,rfl,_,_,rfl,rfl,_,rfl,?_⟩;rw[aCl,hc'];refine CK (fun h4=>⟨_,_,rfl,rfl,?_,rfl⟩) (fun h4=>⟨?_,rfl⟩)
       ·have h4':97<=c:=by rw[show (⟨#[c]⟩:Str).cps.toList=[c] from rfl,le1]at h4;exact of_decide_eq_true h4
        rw[aB6,show (⟨#[c]⟩:Str).cps.toList=[c] from rfl,le1];unfold sgB;rw[decide_eq_true h4',Bool.true_and]
       ·have h4':¬97<=c:=by rw[show (⟨#[c]⟩:Str).cps.toList=[c] from rfl,le1]at h4;exact fun z=>h4 (decide_eq_true z)
        unfold sgB;rw[decide_eq_false h4',Bool.false_and]
     ·exact fun _ _ _ _ f q=>f _ _ q
     ·rintro σ H Q Q' f hq_;walk_at"g1";obtain⟨v,e,i,j,e1,e2,k,e3,q⟩:=hq_;walk_at"g2";refine⟨v,e,i,j,e1,e2,k,e3,?_⟩;revert q
      split
      ·rintro hq_;walk_at"g1";obtain⟨i,j,e1,e2,q⟩:=hq_;walk_at"g2";exact⟨i,j,e1,e2,f _ _ q⟩
      ·exact fun q=>f _ _ q
     ·exact fun _ _ _ _ _ f q=>f _ _ q
     ·rintro _ rfl p hp;refine⟨p,(List.range z.cps.size).map (fun i=>sgB (z.cps.toList.getD i 0)),rfl,SqL.of ?_,?_⟩
      ·rw[aZ,List.map_map];rfl
      ·have e:=EH sgB 0 z.cps.toList;rw[Array.length_toList]at e;rw[e];have e2:nmB (.str z)=z.cps.toList.all sgB:=by
        show bA z=_;unfold bA;rw[show decide (1<=(z.length:Int))=true from h2,show decide ((z.length:Int)<=8)=true from h3];rfl
       rw[←e2];exact k _ (RV hp)
    ·have e2:nmB (.str z)=false:=by
      show bA z=_;unfold bA;rw[show decide ((z.length:Int)<=8)=false from by simpa using h3];simp
     have:=k H (Same.refl H);rw[e2]at this;exact this
   ·have e2:nmB (.str z)=false:=by
     show bA z=_;unfold bA;rw[show decide (1<=(z.length:Int))=false from by simpa using h2];simp
    have:=k H (Same.refl H);rw[e2]at this;exact this
theorem MR (m:M K mg):Fc P w K mg base "is_name" 1 ["thing"] (CS K):=⟨_,_,m.RK,m.rY.kp,m.RI,M5 m⟩
local macro_rules| `(tactic| walk_at"rd1")=> `(tactic| first|(with_reducible refine UD ?_)|((with_reducible refine' XU ?s ?_);(case s=>assumption);intro H' S'))
inductive l0 (K:W.Frag)(vs:List V)(H:Hp)(Q:VK)(E:XK):Prop
 | mk (part z:Str) (_:vs=[.str part,.str z]) (_:bA z=true) (_:∀H',Same H H'->Q .non H'):l0 K vs H Q E
theorem KW {H:Hp}{Q:VK}{E:XK}{part z:Str} (hz:bA z=true) (h:∀H',Same H H'->Q .non H'):l0 K [.str part,.str z] H Q E:=⟨_,_,rfl,hz,h⟩
theorem GJ (m:M K mg):FnOk P w K mg base CX0 2 m.sL m.sN ["part","thing"] (l0 K):=by
 refine m.i8.ok sc_need_name (fun vs H Q E h=> ?_) (fun cdv A outer s H vs Q E hr h=> ?_)
 ·walk_at"g1";obtain⟨part,z,rfl,hz,k⟩:=h;walk_at"g2";rfl
 ·walk_at"g1";obtain⟨part,z,rfl,hz,k⟩:=h;walk_at"g2";have nd:=sc_need_name.nd;walk_at"hu";have rY:= @MR P w K mg base m;refine⟨_,(aF (bO (tH (kJ (bD rY hr (aA (pv 1) aB)))) (aF eJ) bB)),?_⟩;refine aQ (σ:=[some (.str part),some (.str z)]) rfl ?_;walk_at"cx";walk_at"go";exact k _ (by walk_at"sm")
theorem IX (m:M K mg):Fc P w K mg base "need_name" 2 ["part","thing"] (l0 K):=⟨_,_,m.K3,m.i8.kp,m.LD,GJ m⟩
inductive kT (K:W.Frag)(vs:List V)(H:Hp)(Q:VK)(E:XK):Prop
 | mk (part:Str) (i l:Int) (_:vs=[.str part,.int i,.int l]) (_:l<=i) (_:Q .non H):kT K vs H Q E
theorem IM {H:Hp}{Q:VK}{E:XK}{part:Str}{i l:Int} (hz:l<=i) (h:Q .non H):kT K [.str part,.int i,.int l] H Q E:=⟨_,_,_,rfl,hz,h⟩
theorem E7 (m:M K mg):FnOk P w K mg base CX0 2 m.rE m.rD ["part","thing","least"] (kT K):=by
 refine m.cO.ok sc_need_whole (fun vs H Q E h=> ?_) (fun cdv A outer s H vs Q E hr h=> ?_)
 ·walk_at"g1";obtain⟨part,i,l,rfl,hz,k⟩:=h;walk_at"g2";rfl
 ·walk_at"g1";obtain⟨part,i,l,rfl,hz,k⟩:=h;walk_at"g2";have nd:=sc_need_whole.nd;walk_at"hu";have pU:= @KO P w K mg base m;refine⟨_,(aF (bO (PW.pt (rU (tH (kJ (bD pU hr (aA (pv 1) aB)))) (qG (aT lW (pv 1) (pv 2) (aX _))))) (aF eJ) bB)),?_⟩;refine aQ (σ:=[some (.str part),some (.int i),some (.int l)]) rfl ?_;walk_at"cx";walk_at"go";exact k
theorem kQ (m:M K mg):Fc P w K mg base "need_whole" 2 ["part","thing","least"] (kT K):=⟨_,_,m.J9,m.cO.kp,m.JO,E7 m⟩
local macro_rules| `(tactic| walk_at"rd1")=> `(tactic| first|((with_reducible refine' KW ?s ?_);(case s=>assumption);intro H' S')|((with_reducible refine' IM ?s ?_);(case s=>walk_at"sd")))
abbrev oE (n s e w:V):List (Str×V):=cM "wide" w (cM "end" e (cM "start" s (cM "name" n [])))
def fY (e:V):Prop:=e= .non∨∃z,e= .str z/\bA z=true
inductive cV (K:W.Frag)(vs:List V)(H:Hp)(Q:VK)(E:XK):Prop
 | mk (p C dx:Addr) (n s:Str) (e:V) (wd:Int) (_:vs=[.ref p,.str n,.str s,e,.int wd]) (_:DCls K C) (_:H p=some (.ins C dx [])) (_:bA n=true) (_:bA s=true) (_:fY e) (_:0<=wd) (_:∀H',SameBut p H H'->H' p=some (.ins C dx (oE (.str n) (.str s) e (.int wd)))->Q .non H'):cV K vs H Q E
theorem rZ {H:Hp}{Q:VK}{E:XK}{p C dx:Addr}{n s:Str}{e:V}{wd:Int} (dc:DCls K C) (hp:H p=some (.ins C dx [])) (hn:bA n=true) (hs:bA s=true) (he:fY e) (hw:0<=wd)
  (k:∀H',SameBut p H H'->H' p=some (.ins C dx (oE (.str n) (.str s) e (.int wd)))->Q .non H'):cV K [.ref p,.str n,.str s,e,.int wd] H Q E:=⟨_,_,_,_,_,_,_,rfl,dc,hp,hn,hs,he,hw,k⟩
theorem k7 (m:M K mg):FnOk P w K mg base CX0 3 m.jI m.gL ["self","name","start","end","wide"] (cV K):=by
 refine m.mI.ok sc_Door___init__ (fun vs H Q E h=> ?_) (fun cdv A outer s H vs Q E hr h=> ?_)
 ·walk_at"g1";obtain⟨p,C,dx,n,st,e,wd,rfl,dc,hp,hn,hs,he,hw,k⟩:=h;walk_at"g2";rfl
 ·walk_at"g1";obtain⟨p,C,dx,n,st,e,wd,rfl,dc,hp,hn,hs,he,hw,k⟩:=h;walk_at"g2";have nd:=sc_Door___init__.nd;walk_at"hu";have i8:= @IX P w K mg base m;have cO:= @kQ P w K mg base m;refine⟨_,(aD (bR (bD i8 hr (aA cC (aA (pv 1) aB))))
   (aD (bR (bD i8 hr (aA cC (aA (pv 2) aB))))
   (aD (bO (aT MK (pv 3) oH (aX _)) (aF (bR (bD i8 hr (aA cC (aA (pv 3) aB))))) bB)
   (aD (bR (bD cO hr (aA cC (aA (pv 4) (aA aE aB)))))
   (aD (fD (pv 0) (pv 1) rfl)
   (aD (fD (pv 0) (pv 2) rfl)
   (aD (fD (pv 0) (pv 3) rfl)
   (aF (fD (pv 0) (pv 4) rfl))))))))),?_⟩
  refine aQ (σ:=[some (.ref p),some (.str n),some (.str st),some (e),some (.int wd)]) rfl ?_;walk_at"cx";rcases he with rfl|⟨z,rfl,hz⟩
  ·walk_at"go";exact k _ (by walk_at"sb") (by assumption)
  ·walk_at"go";exact k _ (by walk_at"sb") (by assumption)
theorem QG (m:M K mg):Kc P w K mg base "Door" m.iF 3 [] (cV K):=⟨_,_,_,_,m.JZ,m.ZB,.nil,m.rX,k7 m⟩
theorem vJ (m:M K mg):Dc P w K mg base "Door" "__init__" 3 (cV K):=⟨_,_,_,_,m.JZ,m.dW.1,m.dW.2.1,m.dW.2.2,m.mI.kp,m.rX,k7 m⟩
theorem gQ (m:M K mg):DcD P w K mg base "Door" "__init__" 3 [.int 1] (cV K):=by
 obtain⟨ds,h1,h2⟩:=m.wU;exact⟨_,_,_,_,_,m.JZ,m.dW.1,m.dW.2.1,m.dW.2.2,m.mI.kp,h1,h2,k7 m⟩
theorem SY {H:Hp}{Q:VK}{E:XK}{C:Addr}{vs dvs:List V}{n s:Str}{e:V}{wd:Int} (ev:vs++dvs=[.str n,.str s,e,.int wd]) (dc:DCls K C) (hn:bA n=true) (hs:bA s=true) (he:fY e) (hw:0<=wd)
  (k:∀p dx H',H p=none->Same H H'->H' p=some (.ins C dx (oE (.str n) (.str s) e (.int wd)))->Q (.ref p) H'):rR C (cV K) dvs E Q vs H :=
 qD (fun p dx H0 Q' h k' s0=>by rw[ev];exact rZ dc h hn hs he hw k') k
local macro_rules| `(tactic| walk_at"rd1")=> `(tactic| ((with_reducible refine' SY ?v ?d ?hn ?hs ?he ?hw ?_);(case v=>rfl);(case d=>assumption);(case hn=>assumption);(case hs=>assumption);(case he=>first|assumption|exact .inl rfl|exact .inr ⟨_,rfl,by assumption⟩);(case hw=>walk_at"sd");intro p' dx' H' n' S' e'))
inductive g9 (K:W.Frag)(vs:List V)(H:Hp)(Q:VK)(E:XK):Prop
 | mk (p C dx:Addr) (fs:List (Str×V)) (e:V) (_:vs=[.ref p]) (_:DCls K C) (_:H p=some (.ins C dx fs)) (_:fs.lookup ("end" :Str)=some e) (_:Q (.bl (decide (e= .non))) H):g9 K vs H Q E
theorem WE {H:Hp}{Q:VK}{E:XK}{p C dx:Addr}{fs:List (Str×V)} (hp:H p=some (.ins C dx fs)) (dc:DCls K C) (l:fs.lookup ("end" :Str)=some .non) (k:Q (.bl true) H):g9 K [.ref p] H Q E:=⟨_,_,_,_,_,rfl,dc,hp,l,k⟩
theorem WR {H:Hp}{Q:VK}{E:XK}{p C dx:Addr}{fs:List (Str×V)}{z:Str} (hp:H p=some (.ins C dx fs)) (dc:DCls K C) (l:fs.lookup ("end" :Str)=some (.str z)) (k:Q (.bl false) H):g9 K [.ref p] H Q E :=
 ⟨_,_,_,_,_,rfl,dc,hp,l,by rw[decide_eq_false (fun z=>by cases z)];exact k⟩
theorem gG (m:M K mg):FnOk P w K mg base CX0 1 m.dX m.nF ["self"] (g9 K):=by
 refine m.DO.ok sc_Door_is_exit (fun vs H Q E h=> ?_) (fun cdv A outer s H vs Q E hr h=> ?_)
 ·walk_at"g1";obtain⟨p,C,dx,fs,e,rfl,dc,hp,l,k⟩:=h;walk_at"g2";rfl
 ·walk_at"g1";obtain⟨p,C,dx,fs,e,rfl,dc,hp,l,k⟩:=h;walk_at"g2";have nd:=sc_Door_is_exit.nd;walk_at"hu";refine⟨_,(aF (aU (jZ G6 (aW (pv 0) rfl) oH (aX _)))),?_⟩;refine aQ (σ:=[some (.ref p)]) rfl ?_;walk_at"cx";walk_at"go";exact k
theorem AC (m:M K mg):Mc P w K mg base m.iF "is_exit" 1 (g9 K):=⟨_,_,_,m.tV.ic.cl,m.BI,m.iH,gG m⟩
theorem yL (m:M K mg):Mc P w K mg base m.jB "is_exit" 1 (g9 K):=⟨_,_,_,m.qV.ic.cl,m.zL,m.iH,gG m⟩
theorem AI (m:M K mg):Mc P w K mg base m.kN "is_exit" 1 (g9 K):=⟨_,_,_,m.tW.ic.cl,m.BG,m.iH,gG m⟩
theorem AF (m:M K mg):Mc P w K mg base m.kO "is_exit" 1 (g9 K):=⟨_,_,_,m.tU.ic.cl,m.BK,m.iH,gG m⟩
theorem yK (m:M K mg):Mc P w K mg base m.jA "is_exit" 1 (g9 K):=⟨_,_,_,m.q0.ic.cl,m.zQ,m.iH,gG m⟩
local macro_rules| `(tactic| walk_at"rd1")=> `(tactic| first|((with_reducible refine' WE ?e ?d ?l ?_);(case e=>walk_at"hp");(case d=>assumption);(case l=>walk_at"lk"))|((with_reducible refine' WR ?e ?d ?l ?_);(case e=>walk_at"hp");(case d=>assumption);(case l=>walk_at"lk")))
inductive lY (K:W.Frag)(vs:List V)(H:Hp)(Q:VK)(E:XK):Prop
 | mk (p C dx:Addr) (fs:List (Str×V)) (t wd:Int) (_:vs=[.ref p,.int t]) (_:DCls K C) (_:H p=some (.ins C dx fs)) (_:fs.lookup ("wide" :Str)=some (.int wd)) (_:Q (.int wd) H):lY K vs H Q E
theorem KK {H:Hp}{Q:VK}{E:XK}{p C dx:Addr}{fs:List (Str×V)}{t wd:Int} (hp:H p=some (.ins C dx fs)) (dc:DCls K C) (l:fs.lookup ("wide" :Str)=some (.int wd)) (k:Q (.int wd) H):lY K [.ref p,.int t] H Q E:=⟨_,_,_,_,_,_,rfl,dc,hp,l,k⟩
theorem IZ (m:M K mg):FnOk P w K mg base CX0 1 m.sS m.sU ["self","turn"] (lY K):=by
 refine m.K4.ok sc_Door_lets (fun vs H Q E h=> ?_) (fun cdv A outer s H vs Q E hr h=> ?_)
 ·walk_at"g1";obtain⟨p,C,dx,fs,t,wd,rfl,dc,hp,l,k⟩:=h;walk_at"g2";rfl
 ·walk_at"g1";obtain⟨p,C,dx,fs,t,wd,rfl,dc,hp,l,k⟩:=h;walk_at"g2";have nd:=sc_Door_lets.nd;walk_at"hu";refine⟨_,(aF (aU (aW (pv 0) rfl))),?_⟩;refine aQ (σ:=[some (.ref p),some (.int t)]) rfl ?_;walk_at"cx";walk_at"go";exact k
theorem GU (m:M K mg):Mc P w K mg base m.iF "lets" 1 (lY K):=⟨_,_,_,m.tV.ic.cl,m.J7,m.K6,IZ m⟩
local macro_rules| `(tactic| walk_at"rd1")=> `(tactic| ((with_reducible refine' rZ ?d ?e ?hn ?hs ?he ?hw ?_);(case d=>assumption);(case e=>walk_at"hp");(case hn=>assumption);(case hs=>assumption);(case he=>assumption);(case hw=>walk_at"sd");intro H' B' e'))
abbrev w5 (n s e w i0:V):List (Str×V):=cM "since" i0 (oE n s e w)
inductive iT (K:W.Frag)(vs:List V)(H:Hp)(Q:VK)(E:XK):Prop
 | mk (p C dx:Addr) (n s:Str) (e:V) (wd i0:Int) (_:vs=[.ref p,.str n,.str s,e,.int wd,.int i0]) (_:DCls K C) (_:H p=some (.ins C dx [])) (_:bA n=true) (_:bA s=true) (_:fY e) (_:0<=wd) (_:0<=i0) (_:∀H',SameBut p H H'->H' p=some (.ins C dx (w5 (.str n) (.str s) e (.int wd) (.int i0)))->Q .non H'):iT K vs H Q E
theorem GP {H:Hp}{Q:VK}{E:XK}{p C dx:Addr}{n s:Str}{e:V}{wd i0:Int} (dc:DCls K C) (hp:H p=some (.ins C dx [])) (hn:bA n=true) (hs:bA s=true) (he:fY e) (hw:0<=wd) (b0:0<=i0)
  (k:∀H',SameBut p H H'->H' p=some (.ins C dx (w5 (.str n) (.str s) e (.int wd) (.int i0)))->Q .non H'):iT K [.ref p,.str n,.str s,e,.int wd,.int i0] H Q E:=⟨_,_,_,_,_,_,_,_,rfl,dc,hp,hn,hs,he,hw,b0,k⟩
theorem xP (m:M K mg):FnOk P w K mg base CX0 4 m.lM m.lG ["self","name","start","end","wide","since"] (iT K):=by
 refine m.zR.ok sc_Since___init__ (fun vs H Q E h=> ?_) (fun cdv A outer s H vs Q E hr h=> ?_)
 ·walk_at"g1";obtain⟨p,C,dx,n,st,e,wd,i0,rfl,dc,hp,hn,hs,he,hw,b0,k⟩:=h;walk_at"g2";rfl
 ·walk_at"g1";obtain⟨p,C,dx,n,st,e,wd,i0,rfl,dc,hp,hn,hs,he,hw,b0,k⟩:=h;walk_at"g2";have nd:=sc_Since___init__.nd;walk_at"hu";have D_Door___init__:= @vJ P w K mg base m;have cO:= @kQ P w K mg base m;refine⟨_,(aD (bR (aCh D_Door___init__ hr (aA (pv 0) (aA (pv 1) (aA (pv 2) (aA (pv 3) (aA (pv 4) aB)))))))
   (aD (bR (bD cO hr (aA cC (aA (pv 5) (aA aE aB)))))
   (aF (fD (pv 0) (pv 5) rfl)))),?_⟩
  refine aQ (σ:=[some (.ref p),some (.str n),some (.str st),some (e),some (.int wd),some (.int i0)]) rfl ?_;walk_at"cx";walk_at"go";exact k _ (by walk_at"sb") (by assumption)
theorem NT (m:M K mg):Kc P w K mg base "Since" m.jB 4 [] (iT K):=⟨_,_,_,_,m.ZE,m.VB,.nil,m.zW,xP m⟩
theorem QX {H:Hp}{Q:VK}{E:XK}{C:Addr}{vs dvs:List V}{n s:Str}{e:V}{wd i0:Int} (ev:vs++dvs=[.str n,.str s,e,.int wd,.int i0]) (dc:DCls K C) (hn:bA n=true) (hs:bA s=true) (he:fY e) (hw:0<=wd) (b0:0<=i0)
  (k:∀p dx H',H p=none->Same H H'->H' p=some (.ins C dx (w5 (.str n) (.str s) e (.int wd) (.int i0)))->Q (.ref p) H'):rR C (iT K) dvs E Q vs H :=
 qD (fun p dx H0 Q' h k' s0=>by rw[ev];exact GP dc h hn hs he hw b0 k') k
local macro_rules| `(tactic| walk_at"rd1")=> `(tactic| ((with_reducible refine' QX ?v ?d ?hn ?hs ?he ?hw ?b0 ?_);(case v=>rfl);(case d=>assumption);(case hn=>assumption);(case hs=>assumption);(case he=>first|assumption|exact .inl rfl|exact .inr ⟨_,rfl,by assumption⟩);(case hw=>walk_at"sd");(case b0=>walk_at"sd");intro p' dx' H' n' S' e'))
def tL (wd i0 t:Int):Int:=if i0<=t then wd else 0
inductive kP (K:W.Frag)(vs:List V)(H:Hp)(Q:VK)(E:XK):Prop
 | mk (p C dx:Addr) (fs:List (Str×V)) (t wd i0:Int) (_:vs=[.ref p,.int t]) (_:DCls K C) (_:H p=some (.ins C dx fs)) (_:fs.lookup ("wide" :Str)=some (.int wd)) (_:fs.lookup ("since" :Str)=some (.int i0)) (_:0<=t) (_:0<=i0) (_:Q (.int (tL wd i0 t)) H):kP K vs H Q E
theorem vT {H:Hp}{Q:VK}{E:XK}{p C dx:Addr}{fs:List (Str×V)}{t wd i0:Int} (hp:H p=some (.ins C dx fs)) (dc:DCls K C) (l:fs.lookup ("wide" :Str)=some (.int wd)) (m0:fs.lookup ("since" :Str)=some (.int i0)) (ht:0<=t) (b0:0<=i0) (k:Q (.int (tL wd i0 t)) H):kP K [.ref p,.int t] H Q E:=⟨_,_,_,_,_,_,_,rfl,dc,hp,l,m0,ht,b0,k⟩
theorem E6 (m:M K mg):FnOk P w K mg base CX0 1 m.rM m.rN ["self","turn"] (kP K):=by
 refine m.J5.ok sc_Since_lets (fun vs H Q E h=> ?_) (fun cdv A outer s H vs Q E hr h=> ?_)
 ·walk_at"g1";obtain⟨p,C,dx,fs,t,wd,i0,rfl,dc,hp,l,m0,ht,b0,k⟩:=h;walk_at"g2";rfl
 ·walk_at"g1";obtain⟨p,C,dx,fs,t,wd,i0,rfl,dc,hp,l,m0,ht,b0,k⟩:=h;walk_at"g2";have nd:=sc_Since_lets.nd;walk_at"hu";refine⟨_,(aF (aU (uP (aT MV (pv 1) (aW (pv 0) rfl) (aX _)) (aW (pv 0) rfl) aE))),?_⟩;refine aQ (σ:=[some (.ref p),some (.int t)]) rfl ?_;walk_at"cx";unfold tL at k;walk_at"go";refine gK (fun hw=> ?_) (fun hw=> ?_)
  ·walk_at"go";rw[if_pos hw]at k;exact k
  ·walk_at"go";rw[if_neg hw]at k;exact k
theorem E1 (m:M K mg):Mc P w K mg base m.jB "lets" 1 (kP K):=⟨_,_,_,m.qV.ic.cl,m.FR,m.JJ,E6 m⟩
local macro_rules| `(tactic| walk_at"rd1")=> `(tactic| ((with_reducible refine' vT ?e ?d ?l ?m0 ?ht ?b0 ?_);(case e=>walk_at"hp");(case d=>assumption);(case l=>walk_at"lk");(case m0=>walk_at"lk");(case ht=>walk_at"sd");(case b0=>walk_at"sd")))
structure LT where
 f:Int->Int
 dep:Nat
abbrev aL:=Str×Str×V×LT
def yR:HO->Prop
 | .lst _=>True
 | .dK _=>True
 | .dT _=>True
 | .tbl _=>True
 | .ins _ _ fs=>fs=[]
 | _=>False
structure bL where
 at':Hp->V->aL->Prop
 same:∀{H H' v d},at' H v d->Same H H'->at' H' v d
 but:∀{H H' v d p o},at' H v d->H p=some o->yR o->SameBut p H H'->at' H' v d
def VH (P:Program)(w:World)(K:W.Frag)(mg:Str->Option Value)(base:Heap)(kL:Option Nat)(p C dx:Addr)(fs:List (Str×V))(fp:List (Addr×HO))(lt:LT):Prop:=∀kl,kL=some kl->lt.dep<=kl ∧
 ∃sp,Mc P w K mg base C "lets" lt.dep sp/\∀(H':Hp) (t:Int) (Q:VK),H' p=some (.ins C dx fs)->(∀x∈fp,H' x.1=some x.2)->0<=t->Q (.int (lt.f t)) H'->sp [.ref p,.int t] H' Q E0
inductive DoorAt (P:Program)(w:World)(K:W.Frag)(mg:Str->Option Value)(base:Heap)(kL:Option Nat)(H:Hp)(v:V)(d:aL):Prop
 | mk (p C dx:Addr) (fs:List (Str×V)) (fp:List (Addr×HO)) (_:v= .ref p) (_:H p=some (.ins C dx fs)) (_:DCls K C) (_:fs.lookup ("name" :Str)=some (.str d.1)) (_:fs.lookup ("start" :Str)=some (.str d.2.1)) (_:fs.lookup ("end" :Str)=some d.2.2.1) (_:fs.lookup ("is_exit" :Str)=none) (_:fs.lookup ("lets" :Str)=none) (_:Mc P w K mg base C "is_exit" 1 (g9 K)) (_:∀x∈fp,H x.1=some x.2/\¬yR x.2) (_:VH P w K mg base kL p C dx fs fp d.2.2.2):DoorAt P w K mg base kL H v d
inductive V1 (P:Program)(w:World)(K:W.Frag)(mg:Str->Option Value)(base:Heap)(kL:Option Nat)(H:Hp)(v:V)(n st:Str)(e:V)(lt:LT):Prop
 | mk (p C dx:Addr) (fs:List (Str×V)) (fp:List (Addr×HO)) (_:v= .ref p) (_:H p=some (.ins C dx fs)) (_:DCls K C) (_:fs.lookup ("name" :Str)=some (.str n)) (_:fs.lookup ("start" :Str)=some (.str st)) (_:fs.lookup ("end" :Str)=some e) (_:fs.lookup ("is_exit" :Str)=none) (_:fs.lookup ("lets" :Str)=none) (_:Mc P w K mg base C "is_exit" 1 (g9 K)) (_:∀x∈fp,H x.1=some x.2/\¬yR x.2) (_:VH P w K mg base kL p C dx fs fp lt):V1 P w K mg base kL H v n st e lt
theorem DoorAt.ex {kL:Option Nat}{H:Hp}{v:V}{n st:Str}{e:V}{lt:LT} (h:DoorAt P w K mg base kL H v (n,st,e,lt)):V1 P w K mg base kL H v n st e lt:=by
 walk_at"g1";obtain⟨p,C,dx,fs,fp,h1,h2,h3,h4,h5,h6,h7,h8,h9,h10,h11⟩:=h;walk_at"g2";exact⟨p,C,dx,fs,fp,h1,h2,h3,h4,h5,h6,h7,h8,h9,h10,h11⟩
def aI (P:Program)(w:World)(K:W.Frag)(mg:Str->Option Value)(base:Heap)(kL:Option Nat):bL where
 at':=DoorAt P w K mg base kL
 same:=fun⟨p,C,dx,fs,fp,e,hp,dc,l1,l2,l3,l4,l5,mc,hf,lt⟩ s=>⟨p,C,dx,fs,fp,e,s _ _ hp,dc,l1,l2,l3,l4,l5,mc,fun x hx=>⟨s _ _ (hf x hx).1,(hf x hx).2⟩,lt⟩
 but:=fun {H H' v d q o} ⟨p,C,dx,fs,fp,e,hp,dc,l1,l2,l3,l4,l5,mc,hf,lt⟩ ho so sb=>⟨p,C,dx,fs,fp,e,sb _ _ hp (fun z=>by
   rw[z,ho]at hp;cases hp;have h:fs=[]:=so;rw[h]at l1;cases l1),dc,l1,l2,l3,l4,l5,mc,fun x hx=>⟨sb _ _ (hf x hx).1 (fun z=>by
   have h:=(hf x hx).1;rw[z,ho]at h;cases h;exact(hf x hx).2 so),(hf x hx).2⟩,lt⟩
theorem Mc.mono {C:Addr}{nm:Str}{j k:Nat}{sp:Sp} (F:Mc P w K mg base C nm j sp) (h:j<=k):Mc P w K mg base C nm k sp:=by
 walk_at"g1";obtain⟨f,fd,ps,h1,h2,h3,h4⟩:=F.ex;walk_at"g2";exact⟨f,fd,ps,h1,h2,h3,h4.mono h⟩
local macro_rules| `(tactic| walk_at"rd1")=> `(tactic| first|(with_reducible refine W4 ?_)|(with_reducible refine XR ?_)|(with_reducible refine aAC ?_)|(with_reducible refine P1 ?_)|(with_reducible refine O0 ?_)|(with_reducible refine rd_iItemsK ?_)|(with_reducible refine rd_iItemsT ?_)|(with_reducible refine T5 ?_)|((with_reducible refine SN ?_);intro p' H' n' S' e')|((with_reducible refine SH ?_);intro p' H' n' S' e'))
theorem lO {H:Hp}{Q:VK}{l:Addr}{xs:List V}{y:V} (e:H l=some (.lst xs)) (hz:xs.length<sizeLine) (h:∀H',SameBut l H H'->H' l=some (.lst (xs++[y]))->Q .non H'):LU (.ref l) [y] H Q :=
 ⟨l,xs,y,rfl,rfl,e,hz,h _ SameBut.upd aZ⟩
inductive uD (vs:List V)(H:Hp)(Q:VK)(E:XK):Prop
 | mk (f l:Int) (_:vs=[.int f,.int l]) (_:0<=f) (_:f<=l) (_:Q .non H):uD vs H Q E
theorem WI {H:Hp}{Q:VK}{E:XK}{f l:Int} (h0:0<=f) (h1:f<=l) (h:Q .non H):uD [.int f,.int l] H Q E:=⟨_,_,rfl,h0,h1,h⟩
theorem E8 (m:M K mg):FnOk P w K mg base CX0 1 m.rL m.qU ["first","last"] (uD):=by
 refine m.mG.ok sc_need_turns (fun vs H Q E h=> ?_) (fun cdv A outer s H vs Q E hr h=> ?_)
 ·walk_at"g1";obtain⟨f,l,rfl,h0,h1,k⟩:=h;walk_at"g2";rfl
 ·walk_at"g1";obtain⟨f,l,rfl,h0,h1,k⟩:=h;walk_at"g2";have nd:=sc_need_turns.nd;walk_at"hu";refine⟨_,(aD (bO (aT lW (pv 0) aE (aX _)) (aF eJ) bB)
   (aF (bO (aT lW (pv 1) (pv 0) (aX _)) (aF eJ) bB))),?_⟩
  refine aQ (σ:=[some (.int f),some (.int l)]) rfl ?_;walk_at"cx";walk_at"go";exact k
theorem FB (m:M K mg):Fc P w K mg base "need_turns" 1 ["first","last"] (uD):=⟨_,_,m.J2,m.mG.kp,m.JL,E8 m⟩
inductive xE (K:W.Frag)(vs:List V)(H:Hp)(Q:VK)(E:XK):Prop
 | mk (a:Addr) (ss:List Str) (_:vs=[.ref a]) (_:SqL K H a (ss.map V.str)) (_:ss.Nodup) (_:ss.length<=100) (_:∀H',Same H H'->Q .non H'):xE K vs H Q E
theorem O8 {H:Hp}{Q:VK}{E:XK}{a:Addr}{ss:List Str} (hS:SqL K H a (ss.map V.str)) (nd:ss.Nodup) (hl:ss.length<=100) (h:∀H',Same H H'->Q .non H'):xE K [.ref a] H Q E:=⟨_,_,rfl,hS,nd,hl,h⟩
theorem qK {α:Type}{ss:List α} (nd:ss.Nodup) {i:Nat}{z:α} (hz:ss[i]? =some z):z∉ss.take i:=fun h=>by
 obtain⟨hi,e⟩:=List.getElem?_eq_some_iff.mp hz;obtain⟨j,hj,ej⟩:=List.getElem_of_mem h;rw[List.length_take]at hj;rw[List.getElem_take]at ej;exact(List.pairwise_iff_getElem.mp nd) j i (by lia) hi (by lia) (ej.trans e.symm)
theorem gJ {α:Type}{ss:List α}{i:Nat}{z:α} (hz:ss[i]? =some z):ss.take (i+1)=ss.take i++[z]:=by rw[List.take_succ,hz];rfl
theorem xR (m:M K mg):FnOk P w K mg base CX0 1 m.lL m.lH ["names"] (xE K):=by
 refine m.fW.ok sc_need_each_once (fun vs H Q E h=> ?_) (fun cdv A outer s H vs Q E hr h=> ?_)
 ·walk_at"g1";obtain⟨a,ss,rfl,hS,hnd,hlen,k⟩:=h;walk_at"g2";rfl
 ·walk_at"g1";obtain⟨a,ss,rfl,hS,hnd,hlen,k⟩:=h;walk_at"g2";have nd:=sc_need_each_once.nd;walk_at"hu";refine⟨_,(aD (aV (i:=1) nd rfl (by walk_at"oi") uM)
   (aF (c4 PassesOwn.never rfl (bJ (pv 0)) (aG (i:=2) nd rfl (by walk_at"oi")) (aD (bO (GN (aBd hu1 (pv 2) (pv 1)) (by with_unfolding_all rfl)) (aF eJ) bB)
   (aF (hU hu1 (pv 1) (pv 2) nT rfl)))))),?_⟩
  refine aQ (σ:=[some (.ref a),none,none]) rfl ?_;walk_at"cx";walk_at"go";rename_i p H1 n1 S1 e1;let Pv1:Nat->St->Hp->Prop:=fun i σ' H'=>SameBut p H1 H'/\∃kvs,H' p=some (.dK kvs)/\kvs.length<=i/\(∀z,(bM kvs (.inr z)).isSome=true->z∈ss.take i)/\∃x,σ'=[some (.ref a),some (.ref p),x];refine gB (ss.map V.str) Pv1 ⟨SameBut.refl,[],e1,Nat.le_refl _,(fun z h=>by cases h),_,rfl⟩ (fun i σ' H' _ q=>(SameBut.same n1 S1 q.1).seq hS) ?_ ?_
  ·rintro i x _ H' hx hq_;walk_at"g1";obtain⟨sb,kvs,ek,hk,hin,y,rfl⟩:=hq_;walk_at"g2";rw[List.getElem?_map]at hx;obtain⟨z,hz,rfl⟩:=Option.map_eq_some_iff.mp hx;have hi:i<ss.length:=(List.getElem?_eq_some_iff.mp hz).1;have hno:(bM kvs (.inr z)).isSome=false:=by
    cases e:(bM kvs (.inr z)).isSome with
    | false=>rfl
    | true=>exact absurd (hin z e) (qK hnd hz)
   walk_at"go";refine YR (.inl ek) ?_;rw[hno];walk_at"go";refine mR ek (by rw[sizeLine_eq];lia) fun H9 B9 e9=> ?_;refine⟨by walk_at"sb",_,e9,Nat.le_trans (nR _ _ _) (by lia),fun y hy=> ?_,_,rfl⟩;rw[yM]at hy;rw[gJ hz]
   by_cases e:(Sum.inr y:Key)= .inr z
   ·cases e;exact List.mem_append_right _ (.head _)
   ·rw[if_neg e]at hy;exact List.mem_append_left _ (hin y hy)
  ·rintro _ H' hq_;walk_at"g1";obtain⟨sb,kvs,ek,hk,hin,y,rfl⟩:=hq_;walk_at"g2";exact k _ (SameBut.same n1 S1 sb)
theorem xM (m:M K mg):Fc P w K mg base "need_each_once" 1 ["names"] (xE K):=⟨_,_,m.zV,m.fW.kp,m.zN,xR m⟩
def qO (rs:List Str)(d:aL):Prop:=d.2.1∈rs/\(d.2.2.1= .non∨∃z,d.2.2.1= .str z/\z∈rs)
def bY (H:Hp)(v:V)(p:Str×Int):Prop:=∃q,v= .ref q/\H q=some (.tup [.str p.1,.int p.2])
theorem kI {H H':Hp}{vs:List V}{ps:List (Str×Int)} (h:Paired (bY H) vs ps) (s:Same H H'):Paired (bY H') vs ps:=Paired.imp' (fun v z ⟨q,e,h⟩=>⟨q,e,s _ _ h⟩) h
inductive rS (K:W.Frag)(D:bL)(vs:List V)(H:Hp)(Q:VK)(E:XK):Prop
 | mk (a b:Addr) (us:List V) (ds:List aL) (rs:List Str) (ws:List V) (ps:List (Str×Int)) (_:vs=[.ref a,.ref b]) (_:SqL K H a us) (_:Paired (D.at' H) us ds) (_:(∀d∈ds,qO rs d)) (_:ds.length<=20) (_:SqL K H b ws) (_:Paired (bY H) ws ps) (_:(∀p∈ps,p.1∈rs)) (_:ps.length<=40) (_:∀p (ss:List Str) H',Same H H'->H' p=some (.lst (ss.map V.str))->(∀z∈ss,z∈rs)->ss.length<=80->Q (.ref p) H'):rS K D vs H Q E
theorem S0 {D:bL}{H:Hp}{Q:VK}{E:XK}{a b:Addr}{us:List V}{ds:List aL}{rs:List Str}{ws:List V}{ps:List (Str×Int)} (hS:SqL K H a us) (hd:Paired (D.at' H) us ds) (hr:∀d∈ds,qO rs d) (hl:ds.length<=20) (hb:SqL K H b ws) (hw:Paired (bY H) ws ps) (hwr:∀p∈ps,p.1∈rs) (hwl:ps.length<=40) (h:∀p (ss:List Str) H',Same H H'->H' p=some (.lst (ss.map V.str))->(∀z∈ss,z∈rs)->ss.length<=80->Q (.ref p) H'):rS K D [.ref a,.ref b] H Q E:=⟨_,_,_,_,_,_,_,rfl,hS,hd,hr,hl,hb,hw,hwr,hwl,h⟩
theorem wF (m:M K mg):FnOk P w K mg base CX0 2 m.kA m.kB ["doors","people"] (rS K (aI P w K mg base (some 20))):=by
 refine m.g8.ok sc_rooms_spoken_of (fun vs H Q E h=> ?_) (fun cdv A outer s H vs Q E hr h=> ?_)
 ·walk_at"g1";obtain⟨a,b,us,ds,rs,ws,ps,rfl,hS,hd,hr',hlen,hb,hw,hwr,hwl,k⟩:=h;walk_at"g2";rfl
 ·walk_at"g1";obtain⟨a,b,us,ds,rs,ws,ps,rfl,hS,hd,hr',hlen,hb,hw,hwr,hwl,k⟩:=h;walk_at"g2";have nd:=sc_rooms_spoken_of.nd;walk_at"hu";refine⟨_,(aD (aV (i:=2) nd rfl (by walk_at"oi") (fU aB))
   (aD (c4 PassesOwn.never rfl (bJ (pv 0)) (aG (i:=3) nd rfl (by walk_at"oi")) (aD (bR (uH PySem.F.plainAttrs_list PySem.F.slot_list_append PySem.F.type_list_append jS (pv 2) (aA (aW (pv 3) rfl) aB)))
   (aF (bO (tH (kJ (fJ 1 hr (pv 3)))) (aF (bR (uH PySem.F.plainAttrs_list PySem.F.slot_list_append PySem.F.type_list_append jS (pv 2) (aA (aW (pv 3) rfl) aB)))) bB))))
   (aF (aU (aN nZ (pv 2) (cF (N:=["room","number"]) (nl:=2) (ci:=[]) rfl (blk (s.heap.objs.size+1) rfl rfl rfl (by kernel_rfl)) (bJ (pv 1)) (fun _ _ _ _=>(lN (K:=K) (n:=2) rfl (aY (aG (i:=0) (show (["room","number"]:List Str).Nodup by decide +kernel) rfl (by walk_at"oi")) (aY (aG (i:=1) (show (["room","number"]:List Str).Nodup by decide +kernel) rfl (by walk_at"oi")) dG)))) (fun _ _ _ _=>cI) (fun _ _ _ _=>(pv 0)))))))),?_⟩
  refine aQ (σ:=[some (.ref a),some (.ref b),none,none]) rfl ?_;walk_at"cx";have hul:us.length=ds.length:=Paired.length hd;walk_at"go";rename_i p H1 n1 S1 e1;let Pv2:Nat->St->Hp->Prop:=fun i σ' H'=>SameBut p H1 H'/\(∃ss:List Str,H' p=some (.lst (ss.map V.str))/\(∀z∈ss,z∈rs)/\ss.length<=2 * i)/\∃x,σ'=[some (.ref a),some (.ref b),some (.ref p),x];refine gB us Pv2 ⟨SameBut.refl,⟨[],e1,(fun _ z=>nomatch z),Nat.le_refl _⟩,_,rfl⟩ (fun i σ' H' _ q=>(SameBut.same n1 S1 q.1).seq hS) ?_ ?_
  ·rintro i x _ H' hx hq_;walk_at"g1";obtain⟨sb,⟨ss,es,hin,hsl⟩,y,rfl⟩:=hq_;walk_at"g2";have hi:i<us.length:=(List.getElem?_eq_some_iff.mp hx).1;obtain⟨d,hdx⟩:∃d,ds[i]? =some d:=⟨_,List.getElem?_eq_getElem (by lia)⟩
   walk_at"g1";obtain⟨n,st,e,lt⟩:=d;walk_at"g2";walk_at"g1";obtain⟨q,C9,dx,fs,fp,rfl,hq,dcC,l1,l2,l3,l4,l5,mcE,hfp,hlt⟩:=DoorAt.ex (Paired.at2 hd hx hdx);walk_at"g2";obtain⟨r1,r2⟩:=hr' _ (List.mem_of_getElem? hdx);have hqp:q≠p:=fun z=>by rw[z,n1]at hq;cases hq
   have hq':H' q=some (.ins C9 dx fs):=sb _ _ (S1 _ _ hq) hqp;rcases r2 with r2|⟨z,r2,r3⟩
   ·have r2:e= .non:=r2;subst r2;walk_at"go";refine lO es (by rw[sizeLine_eq,List.length_map];lia) fun H8 B8 e8=> ?_;have hq8:=B8 _ _ hq' hqp;walk_at"go";exact⟨by walk_at"sb",⟨ss++[st],by rw[e8,List.map_append];rfl,fun z hz=>(List.mem_append.mp hz).elim (hin z) (fun w=>by cases List.mem_singleton.mp w;exact r1),by rw[List.length_append];show ss.length+1<=_;lia⟩,_,rfl⟩
   ·have r2:e= .str z:=r2;subst r2;walk_at"go";refine lO es (by rw[sizeLine_eq,List.length_map];lia) fun H8 B8 e8=> ?_;have hq8:=B8 _ _ hq' hqp;walk_at"go";refine lO e8 (by rw[sizeLine_eq,List.length_append,List.length_map];show ss.length+1<_;lia) fun H9 B9 e9=> ?_;walk_at"go";refine⟨by walk_at"sb",⟨ss++[st]++[z],by rw[e9,List.map_append,List.map_append];rfl,fun z hz=> ?_,by rw[List.length_append,List.length_append];show ss.length+1+1<=_;lia⟩,_,rfl⟩;rcases List.mem_append.mp hz with hz|hz
    ·exact(List.mem_append.mp hz).elim (hin z) (fun w=>by cases List.mem_singleton.mp w;exact r1)
    ·cases List.mem_singleton.mp hz;exact r3
  ·rintro _ H' hq_;walk_at"g1";obtain⟨sb,⟨ss,es,hin,hsl⟩,y,rfl⟩:=hq_;walk_at"g2";have sH:Same H H':=SameBut.same n1 S1 sb;have hb':=sH.seq hb;walk_at"go";refine mS (α:=Str×Int) (xs:=ps) (vs:=ws) (fun p=> .str p.1) (fun p=> .int p.2) (fun _=>true) (fun p y _=>y= .str p.1) (fun _ _ _ _ h _=>h) (by rw[sizeLine_eq];lia) (rest:=[]) (by rfl) hb' (kI hw sH) (fun x H1 hx s1 R hR=>hR _ (Same.refl _)) (fun x H1 hx _ s1 R hR=> ?_) ?_
   ·walk_at"go";exact hR _ _ rfl (Same.refl _)
   intro ys H2 s2 hys;rw[eY]at hys;obtain rfl:=d3 hys;walk_at"go";rename_i q3 H3 n3 S3 e3 q4 H4 n4 S4 e4;refine k _ (ss++ps.map (·.1)) _ (by walk_at"sm") (by rw[e4,List.map_append,List.map_map];rfl) (fun z hz=> ?_) (by rw[List.length_append,List.length_map];lia);rcases List.mem_append.mp hz with hz|hz
   ·exact hin z hz
   ·obtain⟨p,hp,rfl⟩:=List.mem_map.mp hz;exact hwr p hp
theorem vQ (m:M K mg):Fc P w K mg base "rooms_spoken_of" 2 ["doors","people"] (rS K (aI P w K mg base (some 20))):=⟨_,_,m.xV,m.g8.kp,m.xY,wF m⟩
inductive uL (K:W.Frag)(vs:List V)(H:Hp)(Q:VK)(E:XK):Prop
 | mk (a b:Addr) (ss:List Str) (kvs:List (Key×V)) (_:vs=[.ref a,.ref b]) (_:SqL K H a (ss.map V.str)) (_:Rd H b (.dK kvs)) (_:(∀z∈ss,(bM kvs (.inr z)).isSome=true)) (_:∀H',Same H H'->Q .non H'):uL K vs H Q E
theorem L7 {H:Hp}{Q:VK}{E:XK}{a b:Addr}{ss:List Str}{kvs:List (Key×V)} (hS:SqL K H a (ss.map V.str)) (hb:Rd H b (.dK kvs)) (hk:∀z∈ss,(bM kvs (.inr z)).isSome=true) (h:∀H',Same H H'->Q .non H'):uL K [.ref a,.ref b] H Q E:=⟨_,_,_,_,rfl,hS,hb,hk,h⟩
theorem WV {H H':Hp}{a:Addr}{u:HO} (s:Same H H') (r:Rd H a u):Rd H' a u:=r.elim (fun e=> .inl (s _ _ e)) fun⟨o,e⟩=> .inr ⟨o,s _ _ e⟩
theorem FC (m:M K mg):FnOk P w K mg base CX0 1 m.qY m.rO ["names","sizes"] (uL K):=by
 refine m.iG.ok sc_need_rooms (fun vs H Q E h=> ?_) (fun cdv A outer s H vs Q E hr h=> ?_)
 ·walk_at"g1";obtain⟨a,b,ss,kvs,rfl,hS,hb,hk,k⟩:=h;walk_at"g2";rfl
 ·walk_at"g1";obtain⟨a,b,ss,kvs,rfl,hS,hb,hk,k⟩:=h;walk_at"g2";have nd:=sc_need_rooms.nd;walk_at"hu";refine⟨_,(aF (c4 PassesOwn.never rfl (bJ (pv 0)) (aG (i:=2) nd rfl (by walk_at"oi")) (aF (bO (GN (D6 hu1 (pv 2) (pv 1)) (by with_unfolding_all rfl)) (aF eJ) bB)))),?_⟩;refine aQ (σ:=[some (.ref a),some (.ref b),none]) rfl ?_;walk_at"cx";walk_at"go";let Pv3:Nat->St->Hp->Prop:=fun i σ' H'=>Same H H'/\∃x,σ'=[some (.ref a),some (.ref b),x];refine gB (ss.map V.str) Pv3 ⟨Same.refl _,_,rfl⟩ (fun i σ' H' _ q=>q.1.seq hS) ?_ ?_
  ·rintro i x _ H' hx ⟨s1,y,rfl⟩;rw[List.getElem?_map]at hx;obtain⟨z,hz,rfl⟩:=Option.map_eq_some_iff.mp hx;have hz':=hk z (List.mem_of_getElem? hz);walk_at"go";refine AL (WV s1 hb) ?_;rw[hz'];walk_at"go";exact⟨s1,_,rfl⟩
  ·rintro _ H' ⟨s1,y,rfl⟩;exact k _ s1
theorem vD (m:M K mg):Fc P w K mg base "need_rooms" 1 ["names","sizes"] (uL K):=⟨_,_,m.JI,m.iG.kp,m.J8,FC m⟩
theorem ST {H:Hp}{Q:VK}{i j:Int} (h:Q (.int (i+j)) H):ZZ (.int i) (.int j) H Q:=by
 first|exact h|exact⟨_,_,rfl,rfl,h⟩|exact .inl ⟨_,_,rfl,rfl,h⟩
theorem IC {H H':Hp}{p c:Addr}{kvs:List (Key×V)}{xs:List V} (h:SqL K H c xs) (hp:H p=some (.dK kvs)) (sb:SameBut p H H'):SqL K H' c xs:=by
 rcases h with (h|⟨o,h⟩)|h
 ·exact .inl (.inl (sb _ _ h fun z=>by rw[z,hp]at h;cases h))
 ·exact .inl (.inr ⟨o,sb _ _ h fun z=>by rw[z,hp]at h;cases h⟩)
 ·exact .inr h
def szK (rz:List (Str×Int)):List (Key×V):=rz.map fun e=>((.inr e.1:Key),V.int e.2)
theorem LN (rz:List (Str×Int)):(szK rz).map (·.1)=(rz.map (·.1)).map (Sum.inr:Str->Key):=by unfold szK;rw[List.map_map,List.map_map];rfl
theorem vP {rs:List Str}(nd:rs.Nodup):(rs.map (Sum.inr:Str->Key)).Nodup:=by
 rw[List.Nodup,List.pairwise_map];exact List.Pairwise.imp (fun h z=>h (Sum.inr.inj z)) nd
theorem yT {rz:List (Str×Int)}(nd:(rz.map (·.1)).Nodup):((szK rz).map (·.1)).Nodup:=by rw[LN];exact vP nd
theorem CT {rz:List (Str×Int)}(nd:(rz.map (·.1)).Nodup){e:Str×Int}(h:e∈rz):bM (szK rz) (.inr e.1)=some (.int e.2) :=
 pX (e:=((.inr e.1:Key),V.int e.2)) (yT nd) (List.mem_map.mpr ⟨e,h,rfl⟩)
theorem IT {rz:List (Str×Int)}(nd:(rz.map (·.1)).Nodup){z:Str}(h:z∈rz.map (·.1)):∃i,(z,i)∈rz/\bM (szK rz) (.inr z)=some (.int i):=by
 obtain⟨e,he,rfl⟩:=List.mem_map.mp h;exact⟨e.2,he,CT nd he⟩
theorem v7 {kvs:List (Key×V)}{k:Key} (h:∀e∈kvs,e.1≠k):bM kvs k=none:=by
 induction kvs with
 | nil=>rfl
 | cons a l ih =>
  rw[cR (h a (.head _))];exact ih fun e he=>h e (List.mem_cons_of_mem _ he)
theorem ET:∀(ps kvs:List (Key×V)),(ps.map (·.1)).Nodup->(∀e∈kvs,∀q∈ps,e.1≠q.1)->lX kvs ps=kvs++ps
 | [],kvs,_,_=>(List.append_nil _).symm
 | (k,v)::ps,kvs,nd,h=>by
  have nd':=List.pairwise_cons.mp nd;show lX (c5 kvs k v) ps=_;rw[qJ v (v7 fun e he=>h e he _ (.head _)),ET ps _ nd'.2,List.append_assoc]
  ·rfl
  ·intro e he q hq;rcases List.mem_append.mp he with he|he
   ·exact h e he q (List.mem_cons_of_mem _ hq)
   ·cases List.mem_singleton.mp he;exact nd'.1 q.1 (List.mem_map.mpr ⟨q,hq,rfl⟩)
theorem y3 {rz:List (Str×Int)}(nd:(rz.map (·.1)).Nodup):lX [] (szK rz)=szK rz:=by
 rw[ET _ _ (yT nd) (fun e he=>absurd he (List.not_mem_nil))];rfl
theorem N9 {kvs:List (Key×V)}:∀(o:Obj) (x:HO),HO.dK kvs≠ .frz o x:=fun _ _ z=>by cases z
def BC (rz:List (Str×Int))(ps:List (Str×Int))(kvs:List (Key×V)):Prop:=∀z∈rz.map (·.1),bM kvs (.inr z)=some (.int (bE ps z))
inductive uV (K:W.Frag)(vs:List V)(H:Hp)(Q:VK)(E:XK):Prop
 | mk (a b:Addr) (rz:List (Str×Int)) (ws:List V) (ps:List (Str×Int)) (_:vs=[.ref a,.ref b]) (_:H a=some (.dK (szK rz))) (_:SqL K H b ws) (_:Paired (bY H) ws ps) (_:(∀p∈ps,p.1∈rz.map (·.1))) (_:(rz.map (·.1)).Nodup) (_:rz.length<=100) (_:∀p H' kvs,H p=none->Same H H'->H' p=some (.dK kvs)->kvs.map (·.1)=(szK rz).map (·.1)->BC rz ps kvs->Q (.ref p) H'):uV K vs H Q E
theorem L6 {H:Hp}{Q:VK}{E:XK}{a b:Addr}{rz:List (Str×Int)}{ws:List V}{ps:List (Str×Int)} (ha:H a=some (.dK (szK rz))) (hb:SqL K H b ws) (hw:Paired (bY H) ws ps) (hwr:∀p∈ps,p.1∈rz.map (·.1)) (nd:(rz.map (·.1)).Nodup) (hl:rz.length<=100) (h:∀p H' kvs,H p=none->Same H H'->H' p=some (.dK kvs)->kvs.map (·.1)=(szK rz).map (·.1)->BC rz ps kvs->Q (.ref p) H'):uV K [.ref a,.ref b] H Q E:=⟨_,_,_,_,_,rfl,ha,hb,hw,hwr,nd,hl,h⟩
theorem TU {kvs:List (Key×V)}{k:Key}{v:V} (h:(bM kvs k).isSome=true):(c5 kvs k v).map (·.1)=kvs.map (·.1):=by
 unfold c5;rw[mU,if_pos h,List.map_map]
 apply List.map_congr_left
 intro x _;show (if x.1=k then (x.1,v) else x).1=x.1
 split<;>rfl
theorem AR (m:M K mg):FnOk P w K mg base CX0 1 m.mZ m.nN ["sizes","people"] (uV K):=by
 refine m.fI.ok sc_added_people (fun vs H Q E h=> ?_) (fun cdv A outer s H vs Q E hr h=> ?_)
 ·walk_at"g1";obtain⟨a,b,rz,ws,ps,rfl,ha,hb,hw,hwr,ndz,hlen,k⟩:=h;walk_at"g2";rfl
 ·walk_at"g1";obtain⟨a,b,rz,ws,ps,rfl,ha,hb,hw,hwr,ndz,hlen,k⟩:=h;walk_at"g2";have nd:=sc_added_people.nd;walk_at"hu";refine⟨_,(aD (aV (i:=2) nd rfl (by walk_at"oi") uM)
   (aD (YO (c4 PassesOwn.never rfl (zF (pv 0)) (aG (i:=3) nd rfl (by walk_at"oi")) (aF (hU hu1 (pv 2) (pv 3) aE rfl))))
   (aD (c4 PassesOwn.never rfl (bJ (pv 1)) (l7 (n:=2) rfl (aY (aG (i:=3) nd rfl (by walk_at"oi")) (aY (aG (i:=4) nd rfl (by walk_at"oi")) dG))) (aF (X0 hu1 (pv 2) (pv 3) (pv 4) aBC (fun _ _ _=>rfl))))
   (aF (aU (pv 2)))))),?_⟩
  refine aQ (σ:=[some (.ref a),some (.ref b),none,none,none]) rfl ?_;walk_at"cx";walk_at"go";rename_i p H1 n1 S1 e1;have hap:a≠p:=fun z=>by rw[z,n1]at ha;cases ha
  have ha1:=S1 _ _ ha;have hl2:(szK rz).length=rz.length:=by unfold szK;rw[List.length_map]
  refine UI ha1 N9 ?_;walk_at"go";refine yY ha1 fun o H2 B2 e2=> ?_;have ep2:H2 p=some (.dK []):=B2 _ _ e1 (Ne.symm hap);have hwl:ws.length=ps.length:=Paired.length hw;let Pv1:Nat->St->Hp->Prop:=fun i σ' H'=>SameBut p H2 H'/\H' p=some (.dK ((rz.take i).map fun e=>((.inr e.1:Key),V.int 0)))/\∃x,σ'=[some (.ref a),some (.ref b),some (.ref p),x,none];refine TH (szK rz) Pv1 ⟨SameBut.refl,ep2,_,rfl⟩ (fun i σ' H' q=>q.1 _ _ e2 hap) ?_ ?_
  ·rintro i kk v _ H' hx hq_;walk_at"g1";obtain⟨sb,ek,y,rfl⟩:=hq_;walk_at"g2";unfold szK at hx;rw[List.getElem?_map]at hx;walk_at"g1";obtain⟨⟨z,sz⟩,hz,ez⟩:=Option.map_eq_some_iff.mp hx;walk_at"g2";cases ez;have hi:i<rz.length:=(List.getElem?_eq_some_iff.mp hz).1;have hnone:bM ((rz.take i).map fun e=>((.inr e.1:Key),V.int 0)) (.inr z)=none:=v7 fun e he=>by
    obtain⟨d,hd,rfl⟩:=List.mem_map.mp he;intro zz;have hn:z∉(rz.map (·.1)).take i:=qK ndz (by rw[List.getElem?_map,hz];rfl)
    apply hn
    rw[←List.map_take];exact List.mem_map.mpr ⟨d,hd,Sum.inr.inj zz⟩
   show (_:TG) (.str z) _ _ _;walk_at"go";refine mR ek (by rw[sizeLine_eq,List.length_map,List.length_take];lia) fun H9 B9 e9=> ?_;refine⟨by walk_at"sb",?_,_,rfl⟩;rw[e9,qJ _ hnone,gJ hz,List.map_append];rfl
  ·rintro _ H' hq_;walk_at"g1";obtain⟨sb,ek,y,rfl⟩:=hq_;walk_at"g2";rw[hl2,List.take_length]at ek;refine rQ (sb _ _ e2 hap) fun H3 B3 e3=> ?_;have ep3:=B3 _ _ ek (Ne.symm hap);have sH:Same H H3:=fun x u hx=>by
    by_cases ex:x=a
    ·subst ex;rw[ha]at hx;cases hx;exact e3
    ·have hxp:x≠p:=fun z=>by rw[z,n1]at hx;cases hx
     exact B3 _ _ (sb _ _ (B2 _ _ (S1 _ _ hx) ex) hxp) ex
   have hb3:=sH.seq hb;have hw3:=kI hw sH;have hnb:∀{H':Hp}{v:V}{r:Str×Int},SameBut p H3 H'->bY H3 v r->bY H' v r:=fun sb ⟨q,e,hq⟩=>⟨q,e,sb _ _ hq fun z=>by rw[z,ep3]at hq;cases hq⟩
   walk_at"go";let Pv2:Nat->St->Hp->Prop:=fun i σ' H'=>SameBut p H3 H'/\(∃kvs,H' p=some (.dK kvs)/\kvs.map (·.1)=(szK rz).map (·.1)/\BC rz (ps.take i) kvs)/\∃x y,σ'=[some (.ref a),some (.ref b),some (.ref p),x,y];refine gB ws Pv2 ⟨SameBut.refl,⟨_,ep3,?_,?_⟩,_,_,rfl⟩ (fun i σ' H' _ q=>IC hb3 ep3 q.1) ?_ ?_
   ·unfold szK;rw[List.map_map,List.map_map];rfl
   ·intro z hz;obtain⟨e,he,rfl⟩:=List.mem_map.mp hz;exact pX (e:=((.inr e.1:Key),V.int 0)) (by rw[show (rz.map fun e=>((.inr e.1:Key),V.int 0)).map (·.1)=(szK rz).map (·.1) from by unfold szK;rw[List.map_map,List.map_map];rfl];exact yT ndz) (List.mem_map.mpr ⟨e,he,rfl⟩)
   ·rintro i x _ H' hx hq_;walk_at"g1";obtain⟨sb',⟨kvs,ek',hkk,hin⟩,x1,x2,rfl⟩:=hq_;walk_at"g2";have hi:i<ws.length:=(List.getElem?_eq_some_iff.mp hx).1;obtain⟨⟨z,nn⟩,hpx⟩:∃d,ps[i]? =some d:=⟨_,List.getElem?_eq_getElem (by lia)⟩
    obtain⟨q,rfl,hq⟩:=Paired.at2 hw3 hx hpx;have hq':H' q=some (.tup [.str z,.int nn]):=sb' _ _ hq fun zz=>by rw[zz,ep3]at hq;cases hq
    have hzr:z∈rz.map (·.1):=hwr _ (List.mem_of_getElem? hpx);have hkl:kvs.length=rz.length:=by rw[←List.length_map (f:=fun e:Key×V=>e.1),hkk,List.length_map,hl2]
    walk_at"go";refine XY ?_;walk_at"go";refine TZ (.inl ek') (hin z hzr) ?_;walk_at"go";refine ST ?_;refine XF ek' (by rw[sizeLine_eq];lia) fun H9 B9 e9=> ?_;refine⟨by walk_at"sb",⟨_,e9,?_,fun y hy=> ?_⟩,_,_,rfl⟩
    ·rw[TU (by rw[hin z hzr];rfl)];exact hkk
    ·rw[yM,gJ hpx,QK]
     by_cases e:(Sum.inr y:Key)= .inr z
     ·cases e;rw[if_pos rfl,if_pos rfl]
     ·rw[if_neg e,if_neg (fun zz=>e (by rw[show z=y from zz])),Int.add_zero];exact hin y hy
   ·rintro _ H' hq_;walk_at"g1";obtain⟨sb',⟨kvs,ek',hkk,hin⟩,x1,x2,rfl⟩:=hq_;walk_at"g2";rw[hwl,List.take_length]at hin;walk_at"go";exact k _ _ _ n1 (SameBut.same n1 (fun x u hx=>sH x u hx) sb') ek' hkk hin
theorem rV (m:M K mg):Fc P w K mg base "added_people" 1 ["sizes","people"] (uV K):=⟨_,_,m.DT,m.fI.kp,m.DS,AR m⟩
def sK (rz ps:List (Str×Int)):Prop:=(∀p∈ps,0<=p.2)/\∀e∈rz,bE ps e.1<=e.2
inductive tZ (K:W.Frag)(vs:List V)(H:Hp)(Q:VK)(E:XK):Prop
 | mk (a b:Addr) (rz:List (Str×Int)) (ws:List V) (ps:List (Str×Int)) (_:vs=[.ref a,.ref b]) (_:H a=some (.dK (szK rz))) (_:SqL K H b ws) (_:Paired (bY H) ws ps) (_:(∀p∈ps,p.1∈rz.map (·.1))) (_:(rz.map (·.1)).Nodup) (_:rz.length<=100) (_:ps.length<=100) (_:sK rz ps) (_:∀H',Same H H'->Q .non H'):tZ K vs H Q E
theorem WF {H:Hp}{Q:VK}{E:XK}{a b:Addr}{rz:List (Str×Int)}{ws:List V}{ps:List (Str×Int)} (ha:H a=some (.dK (szK rz))) (hb:SqL K H b ws) (hw:Paired (bY H) ws ps) (hwr:∀p∈ps,p.1∈rz.map (·.1)) (nd:(rz.map (·.1)).Nodup) (hl:rz.length<=100) (hpl:ps.length<=100) (hf:sK rz ps) (h:∀H',Same H H'->Q .non H'):tZ K [.ref a,.ref b] H Q E:=⟨_,_,_,_,_,rfl,ha,hb,hw,hwr,nd,hl,hpl,hf,h⟩
theorem wJ {α:Type}:∀{l:List α}{ys:List V},Paired (fun _ y=>y=V.bl false) l ys->ys=(l.map fun _=>false).map V.bl
 | _,_,.nil=>rfl
 | _,_,.cons h t=>by rw[h,wJ t];rfl
theorem EV {α:Type}(l:List α):(l.map fun _=>false).any id=false:=by simp
theorem EZ (m:M K mg):FnOk P w K mg base CX0 2 m.qS m.rF ["sizes","people"] (tZ K):=by
 refine m.mJ.ok sc_need_space (fun vs H Q E h=> ?_) (fun cdv A outer s H vs Q E hr h=> ?_)
 ·walk_at"g1";obtain⟨a,b,rz,ws,ps,rfl,ha,hb,hw,hwr,ndz,hlen,hpl,hf,k⟩:=h;walk_at"g2";rfl
 ·walk_at"g1";obtain⟨a,b,rz,ws,ps,rfl,ha,hb,hw,hwr,ndz,hlen,hpl,hf,k⟩:=h;walk_at"g2";have nd:=sc_need_space.nd;walk_at"hu";have fI:= @rV P w K mg base m;refine⟨_,(aD (bO (kJ (bT (EK rfl) rfl m.WB QR (aA (cF (N:=["room","number"]) (nl:=2) (ci:=[]) rfl (blk (s.heap.objs.size+1) rfl rfl rfl (by kernel_rfl)) (bJ (pv 1)) (fun _ _ _ _=>(lN (K:=K) (n:=2) rfl (aY (aG (i:=0) (show (["room","number"]:List Str).Nodup by decide +kernel) rfl (by walk_at"oi")) (aY (aG (i:=1) (show (["room","number"]:List Str).Nodup by decide +kernel) rfl (by walk_at"oi")) dG)))) (fun _ _ _ _=>cI) (fun _ _ _ _=>(jZ lW (pv 1) aE (aX _)))) aB))) (aF eJ) bB)
   (aD (aV (i:=2) nd rfl (by walk_at"oi") (bD fI hr (aA (pv 0) (aA (pv 1) aB))))
   (aF (bO (kJ (bT (EK rfl) rfl m.WB QR (aA (CQ (cF (N:=["room","inside","sizes"]) (nl:=1) (ci:=[2,0]) rfl (blk (s.heap.objs.size+1) rfl rfl rfl (by kernel_rfl)) (zF (pv 0)) (fun _ _ _ _=>(aG (i:=0) (show (["room","inside","sizes"]:List Str).Nodup by decide +kernel) rfl (by walk_at"oi"))) (fun _ _ _ _=>cI) (fun _ _ _ _=>(jZ rW (dF hu1 (pv 1) (pv 0) (fun _ _=>rfl)) (dF hu1 (pv 2) (pv 0) (fun _ _=>rfl)) (aX _))))) aB))) (aF eJ) bB)))),?_⟩
  refine aQ (σ:=[some (.ref a),some (.ref b),none]) rfl ?_;walk_at"cx";walk_at"go";refine mS (α:=Str×Int) (xs:=ps) (vs:=ws) (fun p=> .str p.1) (fun p=> .int p.2) (fun _=>true) (fun p y _=>y= .bl false) (fun _ _ _ _ h _=>h) (by rw[sizeLine_eq];lia) (rest:=[]) (by rfl) hb hw (fun x H1 hx s1 R hR=>hR _ (Same.refl _)) (fun x H1 hx _ s1 R hR=> ?_) ?_
  ·have h0:=hf.1 x hx;walk_at"go";exact hR _ _ (by rw[decide_eq_false (by lia)]) (Same.refl _)
  intro ys H2 s2 hys;rw[eY]at hys;obtain rfl:=wJ hys;walk_at"go";rename_i q H3 n3 S3 e3;refine QF (SqL.of e3) ?_;rw[EV];walk_at"go";have sA:Same H H3:=s2.trans S3;refine L6 (sA _ _ ha) (sA.seq hb) (kI hw sA) hwr ndz hlen fun p H4 kvs n4 S4 e4 hkk hv=> ?_;have ha4:=S4 _ _ (sA _ _ ha);walk_at"go";refine yX ha4 N9 ?_;walk_at"go";refine yY ha4 fun o H5 B5 e5=> ?_;have hpa:p≠a:=fun z=>by rw[z,sA _ _ ha]at n4;cases n4
  have ep5:=B5 _ _ e4 hpa;refine QC (fun _=>true) (fun _ y _=>y= .bl false) (fun _ _ _ _ h _=>h) (by rw[sizeLine_eq];unfold szK;rw[List.length_map];lia) (rest:=[some (.ref p),some (.ref a)]) (by rfl) e5 (fun x H6 hx s6 R hR=>hR _ (Same.refl _)) ?_ ?_
  ·rintro x H6 hx - s6 R hR;obtain⟨e,he,rfl⟩:=List.mem_map.mp hx;have hfe:=hf.2 e he;show (_:TE) (some (V.str e.1)::[some (.ref p),some (.ref a)]) H6 R;walk_at"go";refine fV (.inl (s6 _ _ ep5)) (hv e.1 (List.mem_map.mpr ⟨e,he,rfl⟩)) ?_;walk_at"go";refine fV (.inr ⟨o,s6 _ _ e5⟩) (CT ndz he) ?_;walk_at"go";exact hR _ _ (by rw[decide_eq_false (by lia)]) (Same.refl _)
  intro ys H6 s6 hys;rw[eY]at hys;obtain rfl:=wJ hys;walk_at"go";rename_i q7 H7 n7 S7 e7;refine rQ (S7 _ _ (s6 _ _ e5)) fun H8 B8 e8=> ?_;have hq7:q7≠a:=fun z=>by rw[z,s6 _ _ e5]at n7;cases n7
  have e78:=B8 _ _ e7 hq7;walk_at"go";refine QF (SqL.of e78) ?_;rw[EV];walk_at"go";exact k _ (DY (ha) (fun x u hx hxa=>B5 _ _ (S4 _ _ (sA _ _ hx)) hxa) (Same.but (s6.trans S7)) B8 e8)
theorem EX (m:M K mg):Fc P w K mg base "need_space" 2 ["sizes","people"] (tZ K):=⟨_,_,m.JW,m.mJ.kp,m.JU,EZ m⟩
def RoomsAt (H:Hp)(vs:List V)(rz:List (Str×Int)):Prop:=Paired (bY H) vs rz
theorem RoomsAt.sm {H H':Hp}{vs:List V}{rs:List (Str×Int)} (h:RoomsAt H vs rs) (s:Same H H'):RoomsAt H' vs rs:=Paired.imp' (fun v z ⟨q,e,h⟩=>⟨q,e,s _ _ h⟩) h
theorem yD {H:Hp}:∀{vs:List V}{rs:List (Str×Int)},RoomsAt H vs rs->A7 H vs (szK rs)
 | _,_,.nil=> .nil
 | _,_,.cons h t=> .cons h (yD t)
theorem jK {D:bL}{H H':Hp}{us:List V}{ds:List aL} (h:Paired (D.at' H) us ds) (s:Same H H'):Paired (D.at' H') us ds:=Paired.imp' (fun v d h=>D.same h s) h
abbrev LR (f l:Int)(qs qp qd:Addr):List (Str×V):=cM "named_doors" (.ref qd) (cM "people" (.ref qp) (cM "sizes" (.ref qs) (cM "last" (.int l) (cM "first" (.int f) []))))
def uK (D:bL)(H:Hp)(nk:List (Key×V))(ds:List aL):Prop:=Paired (fun e d=>e.1= .inr d.1/\D.at' H e.2 d) nk ds
theorem RU {D:bL}{H H':Hp}{nk:List (Key×V)}{ds:List aL} (h:uK D H nk ds) (s:Same H H'):uK D H' nk ds:=Paired.imp' (fun e d h=>⟨h.1,D.same h.2 s⟩) h
structure bG (C:Addr)(D:bL)(H:Hp)(h:Addr)(f l:Int)(rz ps:List (Str×Int))(ds:List aL):Prop where
 ex:∃dx qs qp qd nk kvs,H h=some (.ins C dx (LR f l qs qp qd))/\H qs=some (.dK (szK rz))/\H qp=some (.dK kvs)/\kvs.map (·.1)=(szK rz).map (·.1)/\BC rz ps kvs/\H qd=some (.dK nk)/\uK D H nk ds
theorem bN {C:Addr}{D:bL}{H H':Hp}{h:Addr}{f l:Int}{rz ps:List (Str×Int)}{ds:List aL} (x:bG C D H h f l rz ps ds) (s:Same H H'):bG C D H' h f l rz ps ds:=by
 walk_at"g1";obtain⟨dx,qs,qp,qd,nk,kvs,e1,e2,e3,e4,e5,e6,e7⟩:=x.ex;walk_at"g2";exact⟨dx,qs,qp,qd,nk,kvs,s _ _ e1,s _ _ e2,s _ _ e3,e4,e5,s _ _ e6,RU e7 s⟩
theorem LP {H H':Hp}{p c C dx:Addr}{fs:List (Str×V)}{xs:List V} (h:SqL K H c xs) (hp:H p=some (.ins C dx fs)) (sb:SameBut p H H'):SqL K H' c xs:=by
 rcases h with (h|⟨o,h⟩)|h
 ·exact .inl (.inl (sb _ _ h fun z=>by rw[z,hp]at h;cases h))
 ·exact .inl (.inr ⟨o,sb _ _ h fun z=>by rw[z,hp]at h;cases h⟩)
 ·exact .inr h
theorem lV {α β:Type}{F:α->β->Prop}:∀{l:List α}{m:List β}{x:α},Paired F l m->x∈l->∃y∈m,F x y
 | _,_,_,.cons r t,h=>by
  rcases List.mem_cons.mp h with rfl|h
  ·exact⟨_,.head _,r⟩
  ·obtain⟨y,hy,f⟩:=lV t h;exact⟨y,List.mem_cons_of_mem _ hy,f⟩
 | _,_,_,.nil,h=>nomatch h
inductive iV (K:W.Frag)(D:bL)(vs:List V)(H:Hp)(Q:VK)(E:XK):Prop
 | mk (p C dx a b c:Addr) (ws us cs:List V) (rz ps:List (Str×Int)) (ds:List aL) (f l:Int) (_:vs=[.ref p,.ref a,.ref b,.ref c,.int l,.int f]) (_:DCls K C) (_:H p=some (.ins C dx [])) (_:H a=some (.lst ws)) (_:RoomsAt H ws rz) (_:SqL K H b us) (_:Paired (D.at' H) us ds) (_:SqL K H c cs) (_:Paired (bY H) cs ps) (_:(rz.map (·.1)).Nodup) (_:(ds.map (·.1)).Nodup) (_:(∀d∈ds,qO (rz.map (·.1)) d)) (_:(∀p∈ps,p.1∈rz.map (·.1))) (_:sK rz ps) (_:rz.length<=20) (_:ds.length<=20) (_:ps.length<=40) (_:0<=f) (_:f<=l) (_:∀H',SameBut p H H'->bG C D H' p f l rz ps ds->Q .non H'):iV K D vs H Q E
theorem GQ {D:bL}{H:Hp}{Q:VK}{E:XK}{p C dx a b c:Addr}{ws us cs:List V}{rz ps:List (Str×Int)}{ds:List aL}{f l:Int} (dc:DCls K C) (hp:H p=some (.ins C dx [])) (ha:H a=some (.lst ws)) (hr:RoomsAt H ws rz) (hb:SqL K H b us) (hd:Paired (D.at' H) us ds) (hc:SqL K H c cs) (hcp:Paired (bY H) cs ps) (nr:(rz.map (·.1)).Nodup) (nd:(ds.map (·.1)).Nodup) (hin:∀d∈ds,qO (rz.map (·.1)) d) (hpr:∀p∈ps,p.1∈rz.map (·.1)) (hf:sK rz ps) (lr:rz.length<=20) (ld:ds.length<=20) (lp:ps.length<=40) (h0:0<=f) (h1:f<=l)
  (k:∀H',SameBut p H H'->bG C D H' p f l rz ps ds->Q .non H'):iV K D [.ref p,.ref a,.ref b,.ref c,.int l,.int f] H Q E:=⟨_,_,_,_,_,_,_,_,_,_,_,_,_,_,rfl,dc,hp,ha,hr,hb,hd,hc,hcp,nr,nd,hin,hpr,hf,lr,ld,lp,h0,h1,k⟩
theorem xQ (m:M K mg):FnOk P w K mg base CX0 4 m.lJ m.iS ["self","rooms","doors","people","last","first"] (iV K (aI P w K mg base (some 20))):=by
 refine m.zM.ok sc_House___init__ (fun vs H Q E h=> ?_) (fun cdv A outer s H vs Q E hr h=> ?_)
 ·walk_at"g1";obtain⟨p,C,dx,a,b,c,ws,us,cs,rz,ps,ds,f,l,rfl,dc,hp,ha,hra,hb,hd,hc,hcp,nr,nd',hin,hpr,hf,lr,ld,lp,h0,h1,k⟩:=h;walk_at"g2";rfl
 ·walk_at"g1";obtain⟨p,C,dx,a,b,c,ws,us,cs,rz,ps,ds,f,l,rfl,dc,hp,ha,hra,hb,hd,hc,hcp,nr,nd',hin,hpr,hf,lr,ld,lp,h0,h1,k⟩:=h;walk_at"g2";have nd:=sc_House___init__.nd;walk_at"hu";have fI:= @rV P w K mg base m;have fW:= @xM P w K mg base m;have iG:= @vD P w K mg base m;have mJ:= @EX P w K mg base m;have mG:= @FB P w K mg base m;have g8:= @vQ P w K mg base m;refine⟨_,(aD (bR (bD mG hr (aA (pv 5) (aA (pv 4) aB))))
   (aD (bR (bD fW hr (aA (cF (N:=["name","size"]) (nl:=2) (ci:=[]) rfl (blk (s.heap.objs.size+1) rfl rfl rfl (by kernel_rfl)) (bJ (pv 1)) (fun _ _ _ _=>(lN (K:=K) (n:=2) rfl (aY (aG (i:=0) (show (["name","size"]:List Str).Nodup by decide +kernel) rfl (by walk_at"oi")) (aY (aG (i:=1) (show (["name","size"]:List Str).Nodup by decide +kernel) rfl (by walk_at"oi")) dG)))) (fun _ _ _ _=>cI) (fun _ _ _ _=>(pv 0))) aB)))
   (aD (bR (bD fW hr (aA (cF (N:=["door"]) (nl:=1) (ci:=[]) rfl (blk (s.heap.objs.size+1) rfl rfl rfl (by kernel_rfl)) (bJ (pv 2)) (fun _ _ _ _=>(aG (i:=0) (show (["door"]:List Str).Nodup by decide +kernel) rfl (by walk_at"oi"))) (fun _ _ _ _=>cI) (fun _ _ _ _=>(i7 (K:=K) (pv 0) rfl))) aB)))
   (aD (aV (i:=6) nd rfl (by walk_at"oi") (jR (uW rfl) rfl m.JN CY (aA (pv 1) aB)))
   (aD (bR (bD iG hr (aA (bD g8 hr (aA (pv 2) (aA (pv 3) aB))) (aA (pv 6) aB))))
   (aD (bR (bD mJ hr (aA (pv 6) (aA (pv 3) aB))))
   (aD (fD (pv 0) (pv 5) rfl)
   (aD (fD (pv 0) (pv 4) rfl)
   (aD (fD (pv 0) (pv 6) rfl)
   (aD (fD (pv 0) (bD fI hr (aA (pv 6) (aA (pv 3) aB))) rfl)
   (aD (fD (pv 0) uM rfl)
   (aF (c4 PassesOwn.never rfl (bJ (pv 2)) (aG (i:=7) nd rfl (by walk_at"oi")) (aF (hU hu1 (aW (pv 0) rfl) (aW (pv 7) rfl) (pv 7) rfl))))))))))))))),?_⟩
  refine aQ (σ:=[some (.ref p),some (.ref a),some (.ref b),some (.ref c),some (.int l),some (.int f),none,none]) rfl ?_;walk_at"cx";have hul:us.length=ds.length:=Paired.length hd;have hwl:ws.length=rz.length:=Paired.length hra;walk_at"go";refine WI h0 h1 ?_;walk_at"go";refine mS (α:=Str×Int) (xs:=rz) (vs:=ws) (fun e=> .str e.1) (fun e=> .int e.2) (fun _=>true) (fun z y _=>y= .str z.1) (fun _ _ _ _ h _=>h) (by rw[sizeLine_eq];lia) (rest:=[]) (by rfl) (SqL.of ha) hra (fun x H1 hx s1 R hR=>hR _ (Same.refl _)) (fun x H1 hx _ s1 R hR=> ?_) ?_
  ·walk_at"go";exact hR _ _ rfl (Same.refl _)
  intro ys H1 s1 hys;rw[eY]at hys;obtain rfl:=d3 hys;walk_at"go";rename_i q1 H2 n2 S2 e2;refine O8 (ss:=rz.map (·.1)) (SqL.of (by rw[e2,List.map_map];rfl)) nr (by rw[List.length_map];lia) fun H3 S3=> ?_;have sA:Same H H3:=(s1.trans S2).trans S3;walk_at"go";refine dH (α:=aL) (xs:=ds) (vs:=us) ((aI P w K mg base (some 20)).at' H3) (fun _=>true) (fun d y _=>y= .str d.1) (fun _ _ _ _ h _=>h) (by rw[sizeLine_eq];lia) (rest:=[]) (by rfl) (sA.seq hb) (jK hd sA) (fun v x H1 _ hx s1 R hR=>hR _ (Same.refl _)) ?_ ?_
  ·rintro v ⟨n,st,e,lt⟩ H4 hv hm - s4 R hR;walk_at"g1";obtain⟨q,C9,dx',fs,fp,rfl,hq,dcC,l1,l2,l3,l4,l5,mcE,hfp,hlt⟩:=DoorAt.ex hv;walk_at"g2";have hq':=s4 _ _ hq;walk_at"go";exact hR _ _ rfl (Same.refl _)
  intro ys H4 s4 hys;rw[eY]at hys;obtain rfl:=d3 hys;walk_at"go";rename_i q5 H5 n5 S5 e5;refine O8 (ss:=ds.map (·.1)) (SqL.of (by rw[e5,List.map_map];rfl)) nd' (by rw[List.length_map];lia) fun H6 S6=> ?_;have sB:Same H H6:=((sA.trans s4).trans S5).trans S6;walk_at"go";refine zI (sB _ _ ha) (yD (hra.sm sB)) fun qs H7 n7 S7 e7=> ?_;rw[y3 nr]at e7;have sC:Same H H7:=sB.trans S7;walk_at"go";refine S0 (sC.seq hb) (jK hd sC) hin ld (sC.seq hc) (kI hcp sC) hpr lp fun q8 ss H8 S8 e8 hss lss=> ?_;walk_at"go";refine L7 (SqL.of e8) (.inl (S8 _ _ e7)) (fun z hz=>by obtain⟨i,_,e⟩:=IT nr (hss z hz);rw[e];rfl) fun H9 S9=> ?_;have sD:Same H7 H9:=S8.trans S9;walk_at"go";refine WF (sD _ _ e7) ((sC.trans sD).seq hc) (kI hcp (sC.trans sD)) hpr nr (by lia) (by lia) hf fun H10 S10=> ?_;have sE:Same H H10:=(sC.trans sD).trans S10;have es:H10 qs=some (.dK (szK rz)):=S10 _ _ (sD _ _ e7);have hp10:=sE _ _ hp;have hqp:qs≠p:=fun z=>by rw[z,hp10]at es;cases es
  walk_at"go";rename_i H11 B11 e11 H12 B12 e12 H13 B13 e13;have sb13:SameBut p H10 H13:=by walk_at"sb"
  have es13:=sb13 _ _ es hqp;have hc13:SqL K H13 c cs:=LP (sE.seq hc) hp10 sb13;have hcp13:Paired (bY H13) cs ps:=Paired.imp' (fun v r ⟨q,e,hq⟩=>⟨q,e,sb13 _ _ (sE _ _ hq) fun z=>by rw[z,hp]at hq;cases hq⟩) hcp;refine L6 es13 hc13 hcp13 hpr nr (by lia) fun qp H14 kvs n14 S14 e14 hkk hv14=> ?_;have hp14:=S14 _ _ e13;walk_at"go";rename_i H15 B15 e15 qd H16 n16 S16 e16 H17 B17 e17;have hqd:qd≠p:=fun z=>by rw[z,e15]at n16;cases n16
  have sb17:SameBut p H10 H17:=((((sb13.trans S14.but).trans B15).trans S16.but).trans B17)
  have es17:=sb17 _ _ es hqp;have ed17:=B17 _ _ e16 hqd;have hqpp:qp≠p:=fun z=>by rw[z,e13]at n14;cases n14
  have eq17:H17 qp=some (.dK kvs):=B17 _ _ (S16 _ _ (B15 _ _ e14 hqpp)) hqpp;have hqpd:qp≠qd:=fun z=>by rw[←z,B15 _ _ e14 hqpp]at n16;cases n16
  have fresh:∀x u,H10 x=some u->x≠p->x≠qd:=fun x u hx hxp z=>by
   have h15:H15 x=some u:=B15 _ _ (S14 _ _ (sb13 _ _ hx hxp)) hxp;rw[z,n16]at h15;cases h15
  have hb17:SqL K H17 b us:=LP (sE.seq hb) hp10 sb17;have hd17:Paired ((aI P w K mg base (some 20)).at' H17) us ds:=Paired.imp' (fun v d h=>(aI P w K mg base (some 20)).but ((aI P w K mg base (some 20)).same h sE) hp10 rfl sb17) hd;have ddq:∀{H':Hp}{v:V}{d:aL},SameBut qd H17 H'->(aI P w K mg base (some 20)).at' H17 v d->(aI P w K mg base (some 20)).at' H' v d:=fun sb h=>(aI P w K mg base (some 20)).but h ed17 trivial sb;refine D3 hb17 ?_;let Pv1:Nat->St->Hp->Prop:=fun i σ' H'=>SameBut qd H17 H'/\(∃nk,H' qd=some (.dK nk)/\nk.length<=i/\Paired (fun e d=>e.1= .inr d.1/\(aI P w K mg base (some 20)).at' H17 e.2 d) nk (ds.take i))/\∃x,σ'=[some (.ref p),some (.ref a),some (.ref b),some (.ref c),some (.int l),some (.int f),some (.ref qs),x];refine gB us Pv1 ⟨SameBut.refl,⟨[],ed17,Nat.le_refl _,.nil⟩,_,rfl⟩ (fun i σ' H' _ q=>IC hb17 ed17 q.1) ?_ ?_
  ·rintro i x _ H' hx hq_;walk_at"g1";obtain⟨sb,⟨nk,ek,hk,pr⟩,y,rfl⟩:=hq_;walk_at"g2";have hi:i<us.length:=(List.getElem?_eq_some_iff.mp hx).1;obtain⟨d,hdx⟩:∃d,ds[i]? =some d:=⟨_,List.getElem?_eq_getElem (by lia)⟩
   have hD:=Paired.at2 hd17 hx hdx;walk_at"g1";obtain⟨n,st,e,lt⟩:=d;walk_at"g2";have hD':=ddq sb hD;walk_at"g1";obtain⟨q,C9,dx',fs,fp,rfl,hq',dcC,l1,l2,l3,l4,l5,mcE,hfp,hlt⟩:=DoorAt.ex hD';walk_at"g2";have hpp:H' p=some (.ins C dx (LR f l qs qp qd)):=sb _ _ e17 (Ne.symm hqd);have hnone:bM nk (.inr n)=none:=v7 fun e he=>by
    walk_at"g1";obtain⟨d',hd',h1,_⟩:=lV pr he;walk_at"g2";rw[h1];intro z;have hn:n∉(ds.map (·.1)).take i:=qK nd' (by rw[List.getElem?_map,hdx];rfl)
    apply hn
    rw[←List.map_take];exact List.mem_map.mpr ⟨d',hd',Sum.inr.inj z⟩
   walk_at"go";refine mR ek (by rw[sizeLine_eq];lia) fun H9' B9' e9'=> ?_;rw[qJ _ hnone]at e9';refine⟨by walk_at"sb",⟨_,e9',by rw[List.length_append];show nk.length+1<=_;lia,?_⟩,_,rfl⟩;rw[gJ hdx];exact L2.Paired.snoc pr ⟨rfl,hD⟩
  ·rintro _ H' hq_;walk_at"g1";obtain⟨sb,⟨nk,ek,hk,pr⟩,y,rfl⟩:=hq_;walk_at"g2";rw[hul,List.take_length]at pr;refine k _ (fun x u hx hxp=>sb _ _ (sb17 _ _ (sE _ _ hx) hxp) (fresh x u (sE _ _ hx) hxp)) ⟨dx,qs,qp,qd,nk,kvs,sb _ _ e17 (Ne.symm hqd),sb _ _ es17 (fresh _ _ es hqp),sb _ _ eq17 hqpd,hkk,hv14,ek,?_⟩;exact Paired.imp' (fun e d h=>⟨h.1,ddq sb h.2⟩) pr
theorem A0 (m:M K mg):Kc P w K mg base "House" m.aO 4 [] (iV K (aI P w K mg base (some 20))):=⟨_,_,_,_,m.ZF,m.U8,.nil,m.zT,xQ m⟩
theorem EJ {C:Addr}{D:bL}{H:Hp}{Q:VK}{E:XK}{dvs vs:List V}{a b c:Addr}{ws us cs:List V}{rz ps:List (Str×Int)}{ds:List aL}{f l:Int} (ev:vs++dvs=[.ref a,.ref b,.ref c,.int l,.int f]) (dc:DCls K C) (ha:H a=some (.lst ws)) (hr:RoomsAt H ws rz) (hb:SqL K H b us) (hd:Paired (D.at' H) us ds) (hc:SqL K H c cs) (hcp:Paired (bY H) cs ps) (nr:(rz.map (·.1)).Nodup) (nd:(ds.map (·.1)).Nodup) (hin:∀d∈ds,qO (rz.map (·.1)) d) (hpr:∀p∈ps,p.1∈rz.map (·.1)) (hf:sK rz ps) (lr:rz.length<=20) (ld:ds.length<=20) (lp:ps.length<=40) (h0:0<=f) (h1:f<=l)
  (k:∀p H',H p=none->Same H H'->bG C D H' p f l rz ps ds->Q (.ref p) H'):rR C (iV K D) dvs E Q vs H:=by
 intro x dx nx nd0 ne;have s0:Same H (upd (upd H dx (.own x)) x (.ins C dx [])):=fun b o e=>by
  rw[aK (bH e nx),aK (bH e nd0)];exact e
 rw[ev];exact GQ dc aZ (s0 _ _ ha) (hr.sm s0) (s0.seq hb) (jK hd s0) (s0.seq hc) (kI hcp s0) nr nd hin hpr hf lr ld lp h0 h1 fun H' sb hh=>⟨rfl,k x H' nx (fun b o q=>sb b o (s0 b o q) (bH q nx)) hh⟩
theorem XV (rz:List (Str×Int)):((szK rz).map fun e=>kV e.1)=(rz.map (·.1)).map V.str:=by unfold szK;rw[List.map_map,List.map_map];rfl
theorem AS {D:bL}{H:Hp}:∀{nk:List (Key×V)}{ds:List aL},uK D H nk ds->(nk.map fun e=>kV e.1)=(ds.map (·.1)).map V.str
 | _,_,.nil=>rfl
 | (k,v)::_,_,.cons h t=>by
  rw[List.map_cons,AS t,List.map_cons,List.map_cons];have:k= .inr _:=h.1;rw[this];rfl
theorem z6 {D:bL}{H:Hp}:∀{nk:List (Key×V)}{ds:List aL},uK D H nk ds->nk.map (·.1)=(ds.map (·.1)).map (Sum.inr:Str->Key)
 | _,_,.nil=>rfl
 | (k,v)::_,_,.cons h t=>by
  rw[List.map_cons,z6 t,List.map_cons,List.map_cons];have:k= .inr _:=h.1;rw[this]
theorem QV {D:bL}{H:Hp}{nk:List (Key×V)}{ds:List aL} (h:uK D H nk ds):nk.length=ds.length:=Paired.length h
theorem R0 {D:bL}{H:Hp}{nk:List (Key×V)}{ds:List aL} (h:uK D H nk ds) (nd:(ds.map (·.1)).Nodup) {d:aL} (hd:d∈ds):∃v,bM nk (.inr d.1)=some v/\D.at' H v d:=by
 obtain⟨i,hi,e⟩:=List.getElem_of_mem hd;have hl:=QV h;have hx:nk[i]? =some nk[i]:=List.getElem?_eq_getElem (by lia);obtain⟨h1,h2⟩:=Paired.at2 h hx (show ds[i]? =some d by rw[List.getElem?_eq_getElem hi,e]);refine⟨_,?_,h2⟩;rw[←h1];exact pX (by rw[z6 h];exact vP nd) (List.mem_of_getElem? hx)
inductive mV (C:Addr)(D:bL)(g:List (Str×Int)->List aL->List Str)(vs:List V)(H:Hp)(Q:VK)(E:XK):Prop
 | mk (h:Addr) (f l:Int) (rz ps:List (Str×Int)) (ds:List aL) (_:vs=[.ref h]) (_:bG C D H h f l rz ps ds) (_:∀p H',H p=none->Same H H'->H' p=some (.lst ((g rz ds).map V.str))->Q (.ref p) H'):mV C D g vs H Q E
theorem mY {C:Addr}{D:bL}{g:List (Str×Int)->List aL->List Str}{H:Hp}{Q:VK}{E:XK}{h:Addr}{f l:Int}{rz ps:List (Str×Int)}{ds:List aL} (hh:bG C D H h f l rz ps ds) (k:∀p H',H p=none->Same H H'->H' p=some (.lst ((g rz ds).map V.str))->Q (.ref p) H'):mV C D g [.ref h] H Q E:=⟨_,_,_,_,_,_,rfl,hh,k⟩
theorem BV (m:M K mg):FnOk P w K mg base CX0 1 m.oN m.oK ["self"] (mV m.aO (aI P w K mg base (some 20)) fun rz _=>rz.map (·.1)):=by
 refine m.FM.ok sc_House_rooms (fun vs H Q E h=> ?_) (fun cdv A outer s H vs Q E hr h=> ?_)
 ·walk_at"g1";obtain⟨h,f,l,rz,ps,ds,rfl,hh,k⟩:=h;walk_at"g2";rfl
 ·walk_at"g1";obtain⟨h,f,l,rz,ps,ds,rfl,hh,k⟩:=h;walk_at"g2";have nd:=sc_House_rooms.nd;walk_at"hu";have w_dc_House:=m.bK;refine⟨_,(aF (aU (jR (AH rfl) rfl m.BH w4 (aA (aW (pv 0) rfl) aB)))),?_⟩;refine aQ (σ:=[some (.ref h)]) rfl ?_;walk_at"cx";walk_at"g1";obtain⟨dx,qs,qp,qd,nk,kvs,e1,e2,e3,e4,e5,e6,e7⟩:=hh.ex;walk_at"g2";walk_at"go";refine GD (.inl e2) fun p H1 n1 S1 e8=> ?_;rw[XV]at e8;walk_at"go";exact k _ _ n1 S1 e8
theorem tI (m:M K mg):Mc P w K mg base m.aO "rooms" 1 (mV m.aO (aI P w K mg base (some 20)) fun rz _=>rz.map (·.1)):=⟨_,_,_,m.bK.ic.cl,m.DR,m.FO,BV m⟩
theorem B0 (m:M K mg):FnOk P w K mg base CX0 1 m.o6 m.oY ["self"] (mV m.aO (aI P w K mg base (some 20)) fun _ ds=>ds.map (·.1)):=by
 refine m.FY.ok sc_House_doors (fun vs H Q E h=> ?_) (fun cdv A outer s H vs Q E hr h=> ?_)
 ·walk_at"g1";obtain⟨h,f,l,rz,ps,ds,rfl,hh,k⟩:=h;walk_at"g2";rfl
 ·walk_at"g1";obtain⟨h,f,l,rz,ps,ds,rfl,hh,k⟩:=h;walk_at"g2";have nd:=sc_House_doors.nd;walk_at"hu";have w_dc_House:=m.bK;refine⟨_,(aF (aU (jR (AH rfl) rfl m.BH w4 (aA (aW (pv 0) rfl) aB)))),?_⟩;refine aQ (σ:=[some (.ref h)]) rfl ?_;walk_at"cx";walk_at"g1";obtain⟨dx,qs,qp,qd,nk,kvs,e1,e2,e3,e4,e5,e6,e7⟩:=hh.ex;walk_at"g2";walk_at"go";refine GD (.inl e6) fun p H1 n1 S1 e8=> ?_;rw[AS e7]at e8;walk_at"go";exact k _ _ n1 S1 e8
theorem j3 (m:M K mg):Mc P w K mg base m.aO "doors" 1 (mV m.aO (aI P w K mg base (some 20)) fun _ ds=>ds.map (·.1)):=⟨_,_,_,m.bK.ic.cl,m.DD,m.F6,B0 m⟩
inductive l8 (C:Addr)(D:bL)(vs:List V)(H:Hp)(Q:VK)(E:XK):Prop
 | mk (h:Addr) (z:Str) (f l:Int) (rz ps:List (Str×Int)) (ds:List aL) (_:vs=[.ref h,.str z]) (_:bG C D H h f l rz ps ds) (_:(rz.map (·.1)).Nodup) (_:z∈rz.map (·.1)) (_:∀H',Same H H'->Q .non H'):l8 C D vs H Q E
theorem yG {C:Addr}{D:bL}{H:Hp}{Q:VK}{E:XK}{h:Addr}{z:Str}{f l:Int}{rz ps:List (Str×Int)}{ds:List aL} (hh:bG C D H h f l rz ps ds) (nr:(rz.map (·.1)).Nodup) (hz:z∈rz.map (·.1)) (k:∀H',Same H H'->Q .non H'):l8 C D [.ref h,.str z] H Q E:=⟨_,_,_,_,_,_,_,rfl,hh,nr,hz,k⟩
theorem vR (m:M K mg):FnOk P w K mg base CX0 2 m.kF m.j9 ["self","room"] (l8 m.aO (aI P w K mg base (some 20))):=by
 refine m.xW.ok sc_House_need_room (fun vs H Q E h=> ?_) (fun cdv A outer s H vs Q E hr h=> ?_)
 ·walk_at"g1";obtain⟨h,z,f,l,rz,ps,ds,rfl,hh,nr,hz,k⟩:=h;walk_at"g2";rfl
 ·walk_at"g1";obtain⟨h,z,f,l,rz,ps,ds,rfl,hh,nr,hz,k⟩:=h;walk_at"g2";have nd:=sc_House_need_room.nd;walk_at"hu";have iG:= @vD P w K mg base m;have w_dc_House:=m.bK;refine⟨_,(aF (bR (bD iG hr (aA (fU (aA (pv 1) aB)) (aA (aW (pv 0) rfl) aB))))),?_⟩;refine aQ (σ:=[some (.ref h),some (.str z)]) rfl ?_;walk_at"cx";walk_at"g1";obtain⟨dx,qs,qp,qd,nk,kvs,e1,e2,e3,e4,e5,e6,e7⟩:=hh.ex;walk_at"g2";obtain⟨i,hi,ev⟩:=IT nr hz;walk_at"go";rename_i p H1 n1 S1 e8;refine L7 (ss:=[z]) (SqL.of e8) (.inl (S1 _ _ e2)) (fun y hy=>by cases List.mem_singleton.mp hy;rw[ev];rfl) fun H2 S2=> ?_;walk_at"go";exact k _ (S1.trans S2)
theorem nY (m:M K mg):Mc P w K mg base m.aO "need_room" 2 (l8 m.aO (aI P w K mg base (some 20))):=⟨_,_,_,m.bK.ic.cl,m.wM,m.xT,vR m⟩
inductive uN (C:Addr)(D:bL)(vs:List V)(H:Hp)(Q:VK)(E:XK):Prop
 | mk (h:Addr) (z:Str) (i f l:Int) (rz ps:List (Str×Int)) (ds:List aL) (_:vs=[.ref h,.str z]) (_:bG C D H h f l rz ps ds) (_:(rz.map (·.1)).Nodup) (_:(z,i)∈rz) (_:∀H',Same H H'->Q (.int i) H'):uN C D vs H Q E
theorem C0 {C:Addr}{D:bL}{H:Hp}{Q:VK}{E:XK}{h:Addr}{z:Str}{i f l:Int}{rz ps:List (Str×Int)}{ds:List aL} (hh:bG C D H h f l rz ps ds) (nr:(rz.map (·.1)).Nodup) (hz:(z,i)∈rz) (k:∀H',Same H H'->Q (.int i) H'):uN C D [.ref h,.str z] H Q E:=⟨_,_,_,_,_,_,_,_,rfl,hh,nr,hz,k⟩
theorem CD (m:M K mg):FnOk P w K mg base CX0 3 m.oP m.o9 ["self","room"] (uN m.aO (aI P w K mg base (some 20))):=by
 refine m.FV.ok sc_House_holds (fun vs H Q E h=> ?_) (fun cdv A outer s H vs Q E hr h=> ?_)
 ·walk_at"g1";obtain⟨h,z,i,f,l,rz,ps,ds,rfl,hh,nr,hz,k⟩:=h;walk_at"g2";rfl
 ·walk_at"g1";obtain⟨h,z,i,f,l,rz,ps,ds,rfl,hh,nr,hz,k⟩:=h;walk_at"g2";have nd:=sc_House_holds.nd;walk_at"hu";have w_dc_House:=m.bK;have w_mc_House_need_room:= @nY P w K mg base m;refine⟨_,(aD (bR (jH 2 hr (pv 0) (aA (pv 1) aB)))
   (aF (aU (dF hu1 (aW (pv 0) rfl) (pv 1) (fun _ _=>rfl))))),?_⟩
  refine aQ (σ:=[some (.ref h),some (.str z)]) rfl ?_;walk_at"cx";walk_at"g1";obtain⟨dx,qs,qp,qd,nk,kvs,e1,e2,e3,e4,e5,e6,e7⟩:=hh.ex;walk_at"g2";walk_at"go";refine yG hh nr (List.mem_map.mpr ⟨_,hz,rfl⟩) fun H1 S1=> ?_;have e11:=S1 _ _ e1;walk_at"go";refine fV (.inl (S1 _ _ e2)) (CT nr hz) ?_;walk_at"go";exact k _ S1
theorem mX (m:M K mg):Mc P w K mg base m.aO "holds" 3 (uN m.aO (aI P w K mg base (some 20))):=⟨_,_,_,m.bK.ic.cl,m.DL,m.FS,CD m⟩
inductive uI (C:Addr)(D:bL)(vs:List V)(H:Hp)(Q:VK)(E:XK):Prop
 | mk (h:Addr) (z:Str) (f l:Int) (rz ps:List (Str×Int)) (ds:List aL) (_:vs=[.ref h,.str z]) (_:bG C D H h f l rz ps ds) (_:(rz.map (·.1)).Nodup) (_:z∈rz.map (·.1)) (_:∀H',Same H H'->Q (.int (bE ps z)) H'):uI C D vs H Q E
theorem ML {C:Addr}{D:bL}{H:Hp}{Q:VK}{E:XK}{h:Addr}{z:Str}{f l:Int}{rz ps:List (Str×Int)}{ds:List aL} (hh:bG C D H h f l rz ps ds) (nr:(rz.map (·.1)).Nodup) (hz:z∈rz.map (·.1)) (k:∀H',Same H H'->Q (.int (bE ps z)) H'):uI C D [.ref h,.str z] H Q E:=⟨_,_,_,_,_,_,_,rfl,hh,nr,hz,k⟩
theorem CB (m:M K mg):FnOk P w K mg base CX0 3 m.oM m.oS ["self","room"] (uI m.aO (aI P w K mg base (some 20))):=by
 refine m.FQ.ok sc_House_found (fun vs H Q E h=> ?_) (fun cdv A outer s H vs Q E hr h=> ?_)
 ·walk_at"g1";obtain⟨h,z,f,l,rz,ps,ds,rfl,hh,nr,hz,k⟩:=h;walk_at"g2";rfl
 ·walk_at"g1";obtain⟨h,z,f,l,rz,ps,ds,rfl,hh,nr,hz,k⟩:=h;walk_at"g2";have nd:=sc_House_found.nd;walk_at"hu";have w_dc_House:=m.bK;have w_mc_House_need_room:= @nY P w K mg base m;refine⟨_,(aD (bR (jH 2 hr (pv 0) (aA (pv 1) aB)))
   (aF (aU (dF hu1 (aW (pv 0) rfl) (pv 1) (fun _ _=>rfl))))),?_⟩
  refine aQ (σ:=[some (.ref h),some (.str z)]) rfl ?_;walk_at"cx";walk_at"g1";obtain⟨dx,qs,qp,qd,nk,kvs,e1,e2,e3,e4,e5,e6,e7⟩:=hh.ex;walk_at"g2";walk_at"go";refine yG hh nr hz fun H1 S1=> ?_;have e11:=S1 _ _ e1;walk_at"go";refine fV (.inl (S1 _ _ e3)) (e5 z hz) ?_;walk_at"go";exact k _ S1
theorem tN (m:M K mg):Mc P w K mg base m.aO "found" 3 (uI m.aO (aI P w K mg base (some 20))):=⟨_,_,_,m.bK.ic.cl,m.DK,m.FW,CB m⟩
inductive xF (C:Addr)(D:bL)(vs:List V)(H:Hp)(Q:VK)(E:XK):Prop
 | mk (h:Addr) (d:aL) (f l:Int) (rz ps:List (Str×Int)) (ds:List aL) (_:vs=[.ref h,.str d.1]) (_:bG C D H h f l rz ps ds) (_:(ds.map (·.1)).Nodup) (_:d∈ds) (_:∀v,D.at' H v d->Q v H):xF C D vs H Q E
theorem IW {C:Addr}{D:bL}{H:Hp}{Q:VK}{E:XK}{h:Addr}{d:aL}{f l:Int}{rz ps:List (Str×Int)}{ds:List aL} (hh:bG C D H h f l rz ps ds) (nd:(ds.map (·.1)).Nodup) (hd:d∈ds) (k:∀v,D.at' H v d->Q v H):xF C D [.ref h,.str d.1] H Q E:=⟨_,_,_,_,_,_,_,rfl,hh,nd,hd,k⟩
theorem E9 (m:M K mg):FnOk P w K mg base CX0 1 m.rK m.rP ["self","name"] (xF m.aO (aI P w K mg base (some 20))):=by
 refine m.JT.ok sc_House_door (fun vs H Q E h=> ?_) (fun cdv A outer s H vs Q E hr h=> ?_)
 ·walk_at"g1";obtain⟨h,d,f,l,rz,ps,ds,rfl,hh,ndd,hd,k⟩:=h;walk_at"g2";rfl
 ·walk_at"g1";obtain⟨h,d,f,l,rz,ps,ds,rfl,hh,ndd,hd,k⟩:=h;walk_at"g2";have nd:=sc_House_door.nd;walk_at"hu";have w_dc_House:=m.bK;refine⟨_,(aD (bO (GN (D6 hu1 (pv 1) (aW (pv 0) rfl)) (by with_unfolding_all rfl)) (aF eJ) bB)
   (aF (aU (dF hu1 (aW (pv 0) rfl) (pv 1) (fun _ _=>rfl))))),?_⟩
  refine aQ (σ:=[some (.ref h),some (.str d.1)]) rfl ?_;walk_at"cx";walk_at"g1";obtain⟨dx,qs,qp,qd,nk,kvs,e1,e2,e3,e4,e5,e6,e7⟩:=hh.ex;walk_at"g2";obtain⟨v,ev,hv⟩:=R0 e7 ndd hd;walk_at"go";refine AL (.inl e6) ?_;rw[show (bM nk (.inr d.1)).isSome=true by rw[ev];rfl];walk_at"go";refine fV (.inl e6) ev ?_;walk_at"go";exact k _ hv
theorem iY (m:M K mg):Mc P w K mg base m.aO "door" 1 (xF m.aO (aI P w K mg base (some 20))):=⟨_,_,_,m.bK.ic.cl,m.F2,m.JQ,E9 m⟩
def bI (rz:List (Str×Int))(f:Int)(n:Nat):List (Str×Int):=((List.range n).map fun (i:Nat)=>rz.map fun e=>(e.1,f+(i:Int))).flatten
theorem kM (rz:List (Str×Int))(f:Int)(n:Nat):bI rz f (n+1)=bI rz f n++rz.map fun e=>(e.1,f+(n:Int)):=by
 unfold bI;rw[List.range_succ,List.map_append,List.flatten_append];simp
theorem pN (rz:List (Str×Int))(f:Int):∀n,(bI rz f n).length=n * rz.length
 | 0=>by simp[bI]
 | n+1=>by rw[kM,List.length_append,pN rz f n,List.length_map,Nat.succ_mul]
theorem IJ {H:Hp}{t:Int}:∀{rz:List (Str×Int)}{ys:List V},Paired (fun (e:Key×V) y=>∀z,e.1= .inr z->bY H y (z,t)) (szK rz) ys->Paired (bY H) ys (rz.map fun e=>(e.1,t))
 | [],_,.nil=> .nil
 | _::_,_,.cons h t=> .cons (h _ rfl) (IJ t)
theorem L1 {H H':Hp}{p:Addr}{xs ws:List V}{ps:List (Str×Int)} (h:Paired (bY H) ws ps) (e:H p=some (.lst xs)) (sb:SameBut p H H'):Paired (bY H') ws ps:=Paired.imp' (fun v r ⟨q,e1,h⟩=>⟨q,e1,sb _ _ h fun z=>by rw[z,e]at h;cases h⟩) h
theorem iI {α β:Type}{F:α->β->Prop}:∀{l l2:List α}{m m2:List β},Paired F l m->Paired F l2 m2->Paired F (l++l2) (m++m2)
 | _,_,_,_,.nil,h=>h
 | _,_,_,_,.cons r t,h=> .cons r (iI t h)
inductive uZ (C:Addr)(D:bL)(vs:List V)(H:Hp)(Q:VK)(E:XK):Prop
 | mk (h:Addr) (f l:Int) (rz ps:List (Str×Int)) (ds:List aL) (_:vs=[.ref h]) (_:bG C D H h f l rz ps ds) (_:0<=f) (_:f<=l) (_:l<1000000000000) (_:l - f<=1000) (_:rz.length<=20) (_:∀p ys H',H p=none->Same H H'->H' p=some (.lst ys)->Paired (bY H') ys (bI rz f (l+1 - f).toNat)->Q (.ref p) H'):uZ C D vs H Q E
theorem C3 {C:Addr}{D:bL}{H:Hp}{Q:VK}{E:XK}{h:Addr}{f l:Int}{rz ps:List (Str×Int)}{ds:List aL} (hh:bG C D H h f l rz ps ds) (h0:0<=f) (h1:f<=l) (h2:l<1000000000000) (h3:l - f<=1000) (lr:rz.length<=20) (k:∀p ys H',H p=none->Same H H'->H' p=some (.lst ys)->Paired (bY H') ys (bI rz f (l+1 - f).toNat)->Q (.ref p) H'):uZ C D [.ref h] H Q E:=⟨_,_,_,_,_,_,rfl,hh,h0,h1,h2,h3,lr,k⟩
theorem BW (m:M K mg):FnOk P w K mg base CX0 1 m.oU m.oO ["self"] (uZ m.aO (aI P w K mg base (some 20))):=by
 refine m.FT.ok sc_House_pairs (fun vs H Q E h=> ?_) (fun cdv A outer s H vs Q E hr h=> ?_)
 ·walk_at"g1";obtain⟨h,f,l,rz,ps,ds,rfl,hh,h0,h1,h2,h3,lr,k⟩:=h;walk_at"g2";rfl
 ·walk_at"g1";obtain⟨h,f,l,rz,ps,ds,rfl,hh,h0,h1,h2,h3,lr,k⟩:=h;walk_at"g2";have nd:=sc_House_pairs.nd;walk_at"hu";have w_dc_House:=m.bK;refine⟨_,(aD (aV (i:=1) nd rfl (by walk_at"oi") (fU aB))
   (aD (c4 PassesOwn.never rfl (wL rfl m.gD (aA (aW (pv 0) rfl) (aA (aN cA (aW (pv 0) rfl) aE) aB))) (aG (i:=2) nd rfl (by walk_at"oi")) (aF (bR (uH PySem.F.plainAttrs_list PySem.F.slot_list_extend PySem.F.type_list_extend Q1 (pv 1) (aA (CQ (cF (N:=["room","turn"]) (nl:=1) (ci:=[2]) rfl (blk (s.heap.objs.size+1) rfl rfl rfl (by kernel_rfl)) (zF (aW (pv 0) rfl)) (fun _ _ _ _=>(aG (i:=0) (show (["room","turn"]:List Str).Nodup by decide +kernel) rfl (by walk_at"oi"))) (fun _ _ _ _=>cI) (fun _ _ _ _=>(cB (aA (pv 0) (aA (pv 1) aB)))))) aB)))))
   (aF (aU (pv 1))))),?_⟩
  refine aQ (σ:=[some (.ref h),none,none]) rfl ?_;walk_at"cx";walk_at"g1";obtain⟨dx,qs,qp,qd,nk,kvs,e1,e2,e3,e4,e5,e6,e7⟩:=hh.ex;walk_at"g2";have hl2:(szK rz).length=rz.length:=by unfold szK;rw[List.length_map]
  walk_at"go";rename_i p H1 n1 S1 ep;have e21:=S1 _ _ e2;have e11:=S1 _ _ e1;have hqsp:qs≠p:=fun z=>by rw[z,n1]at e2;cases e2
  have hhp:h≠p:=fun z=>by rw[z,n1]at e1;cases e1
  let Pv1:Nat->St->Hp->Prop:=fun i σ' H'=>SameBut p H1 H'/\(∃ys,H' p=some (.lst ys)/\Paired (bY H') ys (bI rz f i))/\∃x,σ'=[some (.ref h),some (.ref p),x];refine iB Pv1 ⟨SameBut.refl,⟨[],ep,.nil⟩,_,rfl⟩ ?_ ?_
  ·rintro i _ H' hi hq_;walk_at"g1";obtain⟨sb,⟨ys,ey,hys⟩,x,rfl⟩:=hq_;walk_at"g2";have e2':=sb _ _ e21 hqsp;have e1':=sb _ _ e11 hhp;have hyl:ys.length=i * rz.length:=by rw[Paired.length hys,pN]
   have hyb:ys.length<=1001 * 20:=by
    rw[hyl];exact Nat.mul_le_mul (by lia) lr
   walk_at"go";refine yX e2' N9 ?_;walk_at"go";refine yY e2' fun o H2 B2 e22=> ?_;have hpq:p≠qs:=Ne.symm hqsp;refine QC (fun _=>true) (fun e y H=>∀z,e.1= .inr z->bY H y (z,f+(i:Int))) (fun _ _ _ _ hh s z hz=>let ⟨q,a1,a2⟩:=hh z hz;⟨q,a1,s _ _ a2⟩) (by rw[sizeLine_eq];lia) (rest:=[some (.int (f+(i:Int)))]) (by rfl) e22 (fun x H6 hx s6 R hR=>hR _ (Same.refl _)) ?_ ?_
   ·rintro x H6 hx - s6 R hR;obtain⟨e,he,rfl⟩:=List.mem_map.mp hx;show (_:TE) (some (V.str e.1)::[some (.int (f+(i:Int)))]) H6 R;walk_at"go";rename_i q7 H7 n7 S7 e77;exact hR _ _ (fun z hz=>by cases hz;exact⟨q7,rfl,e77⟩) S7
   intro zs H3 s3 hzs;rw[eY]at hzs;have hzp:=IJ hzs;walk_at"go";rename_i q4 H4 n4 S4 e44;refine rQ (S4 _ _ (s3 _ _ e22)) fun H5 B5 e55=> ?_;have hq4:q4≠qs:=fun z=>by rw[z,s3 _ _ e22]at n4;cases n4
   have ey2:=B2 _ _ ey hpq;have ey5:H5 p=some (.lst ys):=B5 _ _ (S4 _ _ (s3 _ _ ey2)) hpq;have sX:Same H' H5:=DY e2' B2 (Same.but (s3.trans S4)) B5 e55;have hz5:Paired (bY H5) zs (rz.map fun e=>(e.1,f+(i:Int))):=Paired.imp' (fun v r ⟨q,a1,a2⟩=>⟨q,a1,B5 _ _ (S4 _ _ a2) fun z=>by rw[z,s3 _ _ e22]at a2;cases a2⟩) hzp;have hzl:zs.length=rz.length:=by rw[Paired.length hz5,List.length_map]
   walk_at"go";refine PV ey5 (B5 _ _ e44 hq4) (by rw[sizeLine_eq];lia) fun H6 B6 e66=> ?_;walk_at"go";refine⟨(sb.trans sX.but).trans B6,⟨_,e66,?_⟩,_,rfl⟩;rw[kM];exact iI (L1 (kI hys sX) ey5 B6) (L1 hz5 ey5 B6)
  ·rintro _ H' hq_;walk_at"g1";obtain⟨sb,⟨ys,ey,hys⟩,x,rfl⟩:=hq_;walk_at"g2";walk_at"go";exact k _ _ _ n1 (SameBut.same n1 S1 sb) ey hys
theorem mP (m:M K mg):Mc P w K mg base m.aO "pairs" 1 (uZ m.aO (aI P w K mg base (some 20))):=⟨_,_,_,m.bK.ic.cl,m.DJ,m.FU,BW m⟩
local macro_rules| `(tactic| walk_at"rd1")=> `(tactic| first|(with_reducible refine X8 ?_)|(with_reducible refine aA5 ?_)|(with_reducible refine aAZ ?_)|(with_reducible refine aAX ?_)|(with_reducible refine aA3 ?_)|(with_reducible refine aBK ?_)|(with_reducible refine aBm ?_)|(with_reducible refine rd_v16 ?_)|(with_reducible refine rd_s16 ?_)|(with_reducible refine rd_v17 ?_)|(with_reducible refine rd_s17 ?_)|(with_reducible refine rd_v18 ?_)|(with_reducible refine rd_s18 ?_)|(with_reducible refine rd_iEnum ?_)|((with_reducible refine' rd_iEnumV ?e ?_);(case e=>walk_at"hp"))|((with_reducible refine' rd_repS ?a ?b ?c ?_);(case a=>walk_at"sd");(case b=>walk_at"sd");(case c=>walk_at"sz")))
def BE (rz ps:List (Str×Int)):Int:=(rz.map fun e=>bE ps e.1).sum
theorem yC {rz ps:List (Str×Int)}:∀{kvs:List (Key×V)}{l:List (Str×Int)},(kvs.map (·.1)).Nodup->kvs.map (·.1)=(szK l).map (·.1)->(∀e∈l,∀v,(Sum.inr e.1,v)∈kvs->v= .int (bE ps e.1))->kvs.map (·.2)=(l.map fun e=>bE ps e.1).map V.int
 | [],[],_,_,_=>rfl
 | [],_::_,_,h,_=>by cases h
 | _::_,[],_,h,_=>by cases h
 | (k,v)::kvs,e::l,nd,h,hv=>by
  have h1:=(List.cons.inj h).1;have h2:=(List.cons.inj h).2;have nd2:=(List.nodup_cons.mp nd).2;have ih:=yC (rz:=rz) (ps:=ps) (kvs:=kvs) (l:=l) nd2 h2 fun e' he' v' hv'=>hv e' (List.mem_cons_of_mem _ he') v' (List.mem_cons_of_mem _ hv');have hk:k= .inr e.1:=h1;rw[List.map_cons,List.map_cons,List.map_cons,ih]
  congr 1
  exact hv e (.head _) v (by rw[hk];exact .head _)
inductive t9 (C:Addr)(D:bL)(vs:List V)(H:Hp)(Q:VK)(E:XK):Prop
 | mk (h:Addr) (f l:Int) (rz ps:List (Str×Int)) (ds:List aL) (_:vs=[.ref h]) (_:bG C D H h f l rz ps ds) (_:(rz.map (·.1)).Nodup) (_:∀H',Same H H'->Q (.int (BE rz ps)) H'):t9 C D vs H Q E
theorem XC {C:Addr}{D:bL}{H:Hp}{Q:VK}{E:XK}{h:Addr}{f l:Int}{rz ps:List (Str×Int)}{ds:List aL} (hh:bG C D H h f l rz ps ds) (nr:(rz.map (·.1)).Nodup) (k:∀H',Same H H'->Q (.int (BE rz ps)) H'):t9 C D [.ref h] H Q E:=⟨_,_,_,_,_,_,rfl,hh,nr,k⟩
theorem C6 (m:M K mg):FnOk P w K mg base CX0 1 m.pG m.oW ["self"] (t9 m.aO (aI P w K mg base (some 20))):=by
 refine m.FG.ok sc_House_total (fun vs H Q E h=> ?_) (fun cdv A outer s H vs Q E hr h=> ?_)
 ·walk_at"g1";obtain⟨h,f,l,rz,ps,ds,rfl,hh,nr,k⟩:=h;walk_at"g2";rfl
 ·walk_at"g1";obtain⟨h,f,l,rz,ps,ds,rfl,hh,nr,k⟩:=h;walk_at"g2";have nd:=sc_House_total.nd;walk_at"hu";have w_dc_House:=m.bK;refine⟨_,(aF (aU (bT (EQ rfl) rfl m.WC P4 (aA (AT (aW (pv 0) rfl)) aB)))),?_⟩;refine aQ (σ:=[some (.ref h)]) rfl ?_;walk_at"cx";walk_at"g1";obtain⟨dx,qs,qp,qd,nk,kvs,e1,e2,e3,e4,e5,e6,e7⟩:=hh.ex;walk_at"g2";have ndk:(kvs.map (·.1)).Nodup:=by rw[e4,LN];exact vP nr
  have hv:kvs.map (·.2)=(rz.map fun e=>bE ps e.1).map V.int:=yC (rz:=rz) ndk e4 fun e he v hm=>by
   have h1:=pX ndk hm;have h2:=e5 e.1 (List.mem_map.mpr ⟨e,he,rfl⟩);have h3:bM kvs (.inr e.1)=some v:=h1;rw[h2]at h3;exact(Option.some.inj h3).symm
  walk_at"go";refine IY (.inl e3) fun v H1 n1 S1 ev=> ?_;walk_at"go";refine MG ev (.inl (S1 _ _ e3)) hv ?_;exact k _ S1
theorem DB (m:M K mg):Mc P w K mg base m.aO "total" 1 (t9 m.aO (aI P w K mg base (some 20))):=⟨_,_,_,m.bK.ic.cl,m.DP,m.FK,C6 m⟩
def sI (f l:Int)(d:aL)(t:Int):Int:=if f<=t/\t<l then d.2.2.2.f t else 0
inductive tY (C:Addr)(D:bL)(vs:List V)(H:Hp)(Q:VK)(E:XK):Prop
 | mk (h:Addr) (d:aL) (t f l:Int) (rz ps:List (Str×Int)) (ds:List aL) (_:vs=[.ref h,.str d.1,.int t]) (_:bG C D H h f l rz ps ds) (_:(ds.map (·.1)).Nodup) (_:d∈ds) (_:0<=f) (_:∀H',Same H H'->Q (.int (sI f l d t)) H'):tY C D vs H Q E
theorem XS {C:Addr}{D:bL}{H:Hp}{Q:VK}{E:XK}{h:Addr}{d:aL}{t f l:Int}{rz ps:List (Str×Int)}{ds:List aL} (hh:bG C D H h f l rz ps ds) (nd:(ds.map (·.1)).Nodup) (hd:d∈ds) (hf:0<=f) (k:∀H',Same H H'->Q (.int (sI f l d t)) H'):tY C D [.ref h,.str d.1,.int t] H Q E:=⟨_,_,_,_,_,_,_,_,rfl,hh,nd,hd,hf,k⟩
theorem FA (m:M K mg):FnOk P w K mg base CX0 22 m.rA m.qZ ["self","name","turn"] (tY m.aO (aI P w K mg base (some 20))):=by
 refine m.J6.ok sc_House_lets (fun vs H Q E h=> ?_) (fun cdv A outer s H vs Q E hr h=> ?_)
 ·walk_at"g1";obtain⟨h,d,t,f,l,rz,ps,ds,rfl,hh,ndd,hd,hf,k⟩:=h;walk_at"g2";rfl
 ·walk_at"g1";obtain⟨h,d,t,f,l,rz,ps,ds,rfl,hh,ndd,hd,hf,k⟩:=h;walk_at"g2";have nd:=sc_House_lets.nd;walk_at"hu";have w_dc_House:=m.bK;have w_mc_House_door:= @iY P w K mg base m;refine⟨_,(aD (aV (i:=3) nd rfl (by walk_at"oi") (jH 1 hr (pv 0) (aA (pv 1) aB)))
   (aD (bO (PW.pt (rU (aT lW (pv 2) (aW (pv 0) rfl) (aX _)) (qG (aT MV (pv 2) (aW (pv 0) rfl) (aX _))))) (aF (aU aE)) bB)
   (aF (aU (jH 20 hr (pv 3) (aA (pv 2) aB)))))),?_⟩
  refine aQ (σ:=[some (.ref h),some (.str d.1),some (.int t),none]) rfl ?_;walk_at"cx";walk_at"g1";obtain⟨dx,qs,qp,qd,nk,kvs,e1,_⟩:=hh.ex;walk_at"g2";walk_at"g1";obtain⟨n,st,e,lt⟩:=d;walk_at"g2";walk_at"go";refine IW (d:=(n,st,e,lt)) hh ndd hd fun v hv=> ?_;walk_at"g1";obtain⟨q2,C2,dx2,fs2,fp2,rfl,hq2,dcC,l1,l2,l3,l4,l5,mcE,hfp,hlt⟩:=DoorAt.ex hv;walk_at"g2";walk_at"g1";obtain⟨hdk,sp,mcL0,hsp⟩:=hlt _ rfl;walk_at"g2";have mcL:=Mc.mono mcL0 hdk;walk_at"go";refine gK (fun hc=> ?_) (fun hc=> ?_)
  ·have hk:sI f l (n,st,e,lt) t=0:=by unfold sI;rw[if_neg (by lia)]
   rw[hk]at k;walk_at"go";exact k _ (Same.refl _)
  ·walk_at"go";refine gK (fun hc2=> ?_) (fun hc2=> ?_)
   ·have hk:sI f l (n,st,e,lt) t=0:=by unfold sI;rw[if_neg (by lia)]
    rw[hk]at k;walk_at"go";exact k _ (Same.refl _)
   ·have hk:sI f l (n,st,e,lt) t=lt.f t:=by unfold sI;rw[if_pos (by lia)]
    rw[hk]at k;walk_at"go";exact hsp _ _ _ hq2 (fun x hx=>(hfp x hx).1) (by lia) (k _ (Same.refl _))
theorem FF (m:M K mg):Mc P w K mg base m.aO "lets" 22 (tY m.aO (aI P w K mg base (some 20))):=⟨_,_,_,m.bK.ic.cl,m.F4,m.JX,FA m⟩
def kR (ns:List Int)(k:Int):Int:=ns.getD k.toNat 0
inductive xB (K:W.Frag)(vs:List V)(H:Hp)(Q:VK)(E:XK):Prop
 | mk (a:Addr) (ns:List Int) (k:Int) (_:vs=[.ref a,.int k]) (_:SqL K H a (ns.map V.int)) (_:0<=k) (_:Q (.int (kR ns k)) H):xB K vs H Q E
theorem aBq {H:Hp}{Q:VK}{E:XK}{a:Addr}{ns:List Int}{i:Int} (hS:SqL K H a (ns.map V.int)) (hi:0<=i) (h:Q (.int (kR ns i)) H):xB K [.ref a,.int i] H Q E:=⟨_,_,_,rfl,hS,hi,h⟩
theorem AK (m:M K mg):FnOk P w K mg base CX0 1 m.m6 m.m8 ["_law_script","_law_k"] (xB K):=by
 refine m.cP.ok sc__law_cell_at (fun vs H Q E h=> ?_) (fun cdv A outer s H vs Q E hr h=> ?_)
 ·walk_at"g1";obtain⟨a,ns,i,rfl,hS,hi,k⟩:=h;walk_at"g2";rfl
 ·walk_at"g1";obtain⟨a,ns,i,rfl,hS,hi,k⟩:=h;walk_at"g2";have nd:=sc__law_cell_at.nd;walk_at"hu";refine⟨_,(aD (bO (aT lW (pv 1) (bT fG rfl m.k4 iX (aA (pv 0) aB)) (aX _)) (aF (aU (bC fH (pv 0) (pv 1) (fun _ _=>rfl)))) bB)
   (aF (aU aE))),?_⟩
  refine aQ (σ:=[some (.ref a),some (.int i)]) rfl ?_;walk_at"cx";walk_at"go";rw[List.length_map];refine gK (fun h1=> ?_) (fun h1=> ?_)
  ·have hlt:i.toNat<ns.length:=by lia
   have e:=d7 (xs:=ns.map V.int) (j:=i.toNat) (v:= .int (kR ns i)) (by
    rw[List.getElem?_map,List.getElem?_eq_getElem hlt];unfold kR;rw[List.getD_eq_getElem?_getD,List.getElem?_eq_getElem hlt];rfl)
   rw[show ((i.toNat:Nat):Int)=i by lia]at e;exact⟨_,rfl,_,rfl,a,_,i,_,rfl,rfl,hS,e,k⟩
  ·have e:kR ns i=0:=by
    unfold kR;rw[List.getD_eq_getElem?_getD,List.getElem?_eq_none (by lia)];rfl
   rw[e]at k;exact k
theorem z7 (m:M K mg):Fc P w K mg base "_law_cell_at" 1 ["_law_script","_law_k"] (xB K):=⟨_,_,m.DF,m.cP.kp,m.DE,AK m⟩
def G0 (c k:Int):Int:=(c+7919 * k+1) * 48271%2147483647
def G7 (c k:Int):Int:=G0 c k * (G0 c k/1009+69621)%2147483647
def cG (c k:Int):Int:=(G7 c k+31 * k+1) * (G7 c k/757+16807)%2147483629
theorem SJ (c k:Int):0<=cG c k:=Int.emod_nonneg _ (by decide)
theorem TL (c k:Int):cG c k<2147483648:=Int.lt_trans (Int.emod_lt_of_pos _ (by decide)) (by decide)
inductive uA (vs:List V)(H:Hp)(Q:VK)(E:XK):Prop
 | mk (c k:Int) (_:vs=[.int c,.int k]) (_:0<=k) (_:k<=1000) (_:((0<=cG c k/\cG c k<2147483648)->Q (.int (cG c k)) H)):uA vs H Q E
theorem XH {H:Hp}{Q:VK}{E:XK}{c k:Int} (h0:0<=k) (h1:k<=1000) (h:∀n,n=cG c k->0<=n->n<2147483648->Q (.int n) H):uA [.int c,.int k] H Q E:=⟨_,_,rfl,h0,h1,fun x=>h _ rfl x.1 x.2⟩
theorem FE (m:M K mg):FnOk P w K mg base CX0 1 m.rJ m.qX ["_law_cell","_law_k"] (uA):=by
 refine m.bF.ok sc__law_drawn (fun vs H Q E h=> ?_) (fun cdv A outer s H vs Q E hr h=> ?_)
 ·walk_at"g1";obtain⟨c,j,rfl,j0,j1,k⟩:=h;walk_at"g2";rfl
 ·walk_at"g1";obtain⟨c,j,rfl,j0,j1,k⟩:=h;walk_at"g2";have nd:=sc__law_drawn.nd;walk_at"hu";refine⟨_,(aD (aV (i:=2) nd rfl (by walk_at"oi") (aN bV (aN tS (aN cA (aN cA (pv 0) (aN tS aE (pv 1))) aE) aE) aE))
   (aD (aV (i:=2) nd rfl (by walk_at"oi") (aN bV (aN tS (pv 2) (aN cA (aN j4 (pv 2) aE) aE)) aE))
   (aF (aU (aN bV (aN tS (aN cA (aN cA (pv 2) (aN tS aE (pv 1))) aE) (aN cA (aN j4 (pv 2) aE) aE)) aE))))),?_⟩
  refine aQ (σ:=[some (.int c),some (.int j),none]) rfl ?_;walk_at"cx";have k:=k ⟨SJ c j,TL c j⟩;unfold cG G7 G0 at k;walk_at"go";exact k
theorem kS (m:M K mg):Fc P w K mg base "_law_drawn" 1 ["_law_cell","_law_k"] (uA):=⟨_,_,m.J3,m.bF.kp,m.J4,FE m⟩
local macro_rules| `(tactic| walk_at"rd1")=> `(tactic| first|((with_reducible refine' aBq ?e ?s ?_);(case e=>walk_at"hp");(case s=>walk_at"sd"))|((with_reducible refine' XH ?u ?v ?_);(case u=>walk_at"sd");(case v=>walk_at"sd");intro n' d' h0' h1'))
theorem tR:jE "abcdefghijklmnopqrstuvwxyz" =true:=by decide +kernel
theorem LG:("abcdefghijklmnopqrstuvwxyz" :Str).length=26:=by rw[bX];decide
theorem MD {x rest:Str}{b p:Int}{ch:Nat} (hx:jE x=true) (hb0:0<=b) (hb:b<8) (er:rest=Txt.slice x none (some b)) (hp0:0<=p) (hp:p<rest.length+1) (hc:jE ⟨#[ch]⟩=true):bA (Txt.slice rest none (some p)++⟨#[ch]⟩++Txt.slice rest (some p) none)=true:=by
 have l1:rest.length<=7:=by
  rcases PyProof.Rows.slice_ns_cases x b hb0 with h|h
  ·rw[er];lia
  ·rw[er];lia
 have hr:jE rest=true:=by rw[er];exact jV hx
 have l2:=(PyProof.Rows.fact_slice_ns rest p).1 hp0 (by lia);have l3:=(PyProof.Rows.fact_slice_sn rest p).1 hp0 (by lia);have l4:(⟨#[ch]⟩:Str).length=1:=rfl;refine GT ?_ ?_ (y4 (y4 (jV hr) hc) (jV hr))
 ·rw[dZ,dZ];lia
 ·rw[dZ,dZ];lia
theorem uQ:("abcdefghijklmnopqrstuvwxyz" :Str).cps.toList=List.range' 97 26:=by decide +kernel
theorem ZY {i:Int}(h0:0<=i)(h1:i<26):atI ("abcdefghijklmnopqrstuvwxyz" :Str).cps.toList i=some (97+i.toNat):=by
 have e:=d7 (xs:=("abcdefghijklmnopqrstuvwxyz" :Str).cps.toList) (j:=i.toNat) (v:=97+i.toNat) (by rw[uQ,List.getElem?_range' (by lia)];simp);rw[show ((i.toNat:Nat):Int)=i by lia]at e;exact e
def OF (c:Int):Str:=Txt.slice (Txt.slice "abcdefghijklmnopqrstuvwxyz" (some (cG c 1%20)) none) none (some (cG c 2%8))
def PK (c:Int):Int:=cG c 3%((OF c).length+1)
def jG (c k:Int):Str:=Txt.slice (OF c) none (some (PK c))++⟨#[97+((cG c 4+5 * k)%26).toNat]⟩++Txt.slice (OF c) (some (PK c)) none
theorem EI {c k1 k2:Int}(h0:0<=k1)(h1:k1<26)(h2:0<=k2)(h3:k2<26)(h:jG c k1=jG c k2):k1=k2:=by
 have h':=congrArg (fun z:Str=>z.cps.toList) h;unfold jG at h';simp only[yJ]at h';have h4:=List.append_cancel_left (List.append_cancel_right h');have h5:97+((cG c 4+5 * k1)%26).toNat=97+((cG c 4+5 * k2)%26).toNat:=by simpa using h4
 omega
inductive uC (vs:List V)(H:Hp)(Q:VK)(E:XK):Prop
 | mk (c k:Int) (_:vs=[.int c,.int k]) (_:(bA (jG c k)=true->Q (.str (jG c k)) H)):uC vs H Q E
theorem YB {H:Hp}{Q:VK}{E:XK}{c k:Int} (h:∀z,z=jG c k->bA z=true->Q (.str z) H):uC [.int c,.int k] H Q E:=⟨_,_,rfl,h _ rfl⟩
theorem GF (m:M K mg):FnOk P w K mg base CX0 2 m.sT m.sR ["_law_cell","_law_k"] (uC):=by
 refine m.gX.ok sc__law_name (fun vs H Q E h=> ?_) (fun cdv A outer s H vs Q E hr h=> ?_)
 ·walk_at"g1";obtain⟨c,j,rfl,k⟩:=h;walk_at"g2";rfl
 ·walk_at"g1";obtain⟨c,j,rfl,k⟩:=h;walk_at"g2";have nd:=sc__law_name.nd;walk_at"hu";have bF:= @kS P w K mg base m;refine⟨_,(aD (aV (i:=2) nd rfl (by walk_at"oi") cC)
   (aD (aV (i:=3) nd rfl (by walk_at"oi") (iP vU (iP vU (pv 2) (iE (aN bV (bD bF hr (aA (pv 0) (aA aE aB))) aE)) mQ) mQ (iE (aN bV (bD bF hr (aA (pv 0) (aA aE aB))) aE))))
   (aD (aV (i:=4) nd rfl (by walk_at"oi") (aN bV (bD bF hr (aA (pv 0) (aA aE aB))) (aN cA (bT EG rfl m.k4 iX (aA (pv 3) aB)) aE)))
   (aF (aU (aN BZ (aN BZ (iP vU (pv 3) mQ (iE (pv 4))) (bC OW (pv 2) (aN bV (aN cA (bD bF hr (aA (pv 0) (aA aE aB))) (aN tS aE (pv 1))) aE) (fun _ _=>rfl))) (iP vU (pv 3) (iE (pv 4)) mQ))))))),?_⟩
  refine aQ (σ:=[some (.int c),some (.int j),none,none,none]) rfl ?_;walk_at"cx";have hl:=LG;walk_at"go";refine⟨_,_,_,rfl,rfl,(by walk_at"sz"),ZY (by lia) (by lia),?_⟩;walk_at"go"
  subst_vars
  refine k ?_;refine' MD (x:=Txt.slice "abcdefghijklmnopqrstuvwxyz" (some (cG c 1%20)) none) (b:=cG c 2%8) ?x ?b0 ?b1 ?er ?p0 ?p1 ?hc
  case er=>rfl
  case x=>exact jV tR
  case b0=>lia
  case b1=>lia
  case p0=>exact Int.emod_nonneg _ (by lia)
  case p1=>exact Int.emod_lt_of_pos _ (by lia)
  case hc =>
   refine yN tR ?_;rw[uQ,List.mem_range'_1]
   lia
theorem v3 (m:M K mg):Fc P w K mg base "_law_name" 2 ["_law_cell","_law_k"] (uC):=⟨_,_,m.K5,m.gX.kp,m.LC,GF m⟩
local macro_rules| `(tactic| walk_at"rd1")=> `(tactic| ((with_reducible refine YB ?_);intro z' dz' hz'))
abbrev A3 (n s e l:V):List (Str×V):=cM "letting" l (oE n s e (.int 1))
inductive jP (K:W.Frag)(vs:List V)(H:Hp)(Q:VK)(E:XK):Prop
 | mk (p C dx:Addr) (n s:Str) (e l:V) (_:vs=[.ref p,.str n,.str s,e,l]) (_:DCls K C) (_:H p=some (.ins C dx [])) (_:bA n=true) (_:bA s=true) (_:fY e) (_:∀H',SameBut p H H'->H' p=some (.ins C dx (A3 (.str n) (.str s) e l))->Q .non H'):jP K vs H Q E
theorem KA {H:Hp}{Q:VK}{E:XK}{p C dx:Addr}{n s:Str}{e l:V} (dc:DCls K C) (hp:H p=some (.ins C dx [])) (hn:bA n=true) (hs:bA s=true) (he:fY e)
  (k:∀H',SameBut p H H'->H' p=some (.ins C dx (A3 (.str n) (.str s) e l))->Q .non H'):jP K [.ref p,.str n,.str s,e,l] H Q E:=⟨_,_,_,_,_,_,_,rfl,dc,hp,hn,hs,he,k⟩
theorem zC (m:M K mg):FnOk P w K mg base CX0 4 m.mK m.mE ["self","name","start","end","letting"] (jP K):=by
 refine m.BJ.ok sc_Told___init__ (fun vs H Q E h=> ?_) (fun cdv A outer s H vs Q E hr h=> ?_)
 ·walk_at"g1";obtain⟨p,C,dx,n,st,e,l,rfl,dc,hp,hn,hs,he,k⟩:=h;walk_at"g2";rfl
 ·walk_at"g1";obtain⟨p,C,dx,n,st,e,l,rfl,dc,hp,hn,hs,he,k⟩:=h;walk_at"g2";have nd:=sc_Told___init__.nd;walk_at"hu";have DD_Door___init___1:=gQ (P:=P) (w:=w) (base:=base) m;refine⟨_,(aD (bR (IS DD_Door___init___1 hr (aA (pv 0) (aA (pv 1) (aA (pv 2) (aA (pv 3) aB))))))
   (aF (fD (pv 0) (pv 4) rfl))),?_⟩
  refine aQ (σ:=[some (.ref p),some (.str n),some (.str st),some (e),some (l)]) rfl ?_;walk_at"cx";walk_at"go";refine y6 ?_;walk_at"go";show cV K [.ref p,.str n,.str st,e,.int 1] _ _ _;walk_at"go";exact k _ (by walk_at"sb") (by assumption)
theorem OS (m:M K mg):Kc P w K mg base "Told" m.kN 4 [] (jP K):=⟨_,_,_,_,m.aBS,m.ZC,.nil,m.BN,zC m⟩
theorem TN {H:Hp}{Q:VK}{E:XK}{C:Addr}{vs dvs:List V}{n s:Str}{e l:V} (ev:vs++dvs=[.str n,.str s,e,l]) (dc:DCls K C) (hn:bA n=true) (hs:bA s=true) (he:fY e)
  (k:∀p dx H',H p=none->Same H H'->H' p=some (.ins C dx (A3 (.str n) (.str s) e l))->Q (.ref p) H'):rR C (jP K) dvs E Q vs H :=
 qD (fun p dx H0 Q' h k' s0=>by rw[ev];exact KA dc h hn hs he k') k
inductive mB (P:Program)(w:World)(K:W.Frag)(mg:Str->Option Value)(base:Heap)(vs:List V)(H:Hp)(Q:VK)(E:XK):Prop
 | mk (p C dx:Addr) (fs:List (Str×V)) (t:Int) (F:Addr) (o:Obj) (fd:FuncData) (ps:List Str) (sp:Sp) (_:vs=[.ref p,.int t]) (_:DCls K C) (_:H p=some (.ins C dx fs)) (_:fs.lookup ("letting" :Str)=some (.ref F)) (_:H F=some (kn o)) (_:o.data= .func fd) (_:Binds K fd ps []) (_:FnOk P w K mg base CX0 3 F fd ps sp) (_:sp [.int t] H Q E0):mB P w K mg base vs H Q E
theorem KP {H:Hp}{Q:VK}{E:XK}{p C dx:Addr}{fs:List (Str×V)}{t:Int}{F:Addr}{o:Obj}{fd:FuncData}{ps:List Str}{sp:Sp} (hp:H p=some (.ins C dx fs)) (dc:DCls K C) (l:fs.lookup ("letting" :Str)=some (.ref F)) (hF:H F=some (kn o)) (hd:o.data= .func fd)
  (hb:Binds K fd ps [])(hf:FnOk P w K mg base CX0 3 F fd ps sp)(k:sp [.int t] H Q E0):mB P w K mg base [.ref p,.int t] H Q E:=⟨_,_,_,_,_,_,_,_,_,_,rfl,dc,hp,l,hF,hd,hb,hf,k⟩
theorem JD (m:M K mg):FnOk P w K mg base CX0 4 m.sQ m.sV ["self","turn"] (mB P w K mg base):=by
 refine m.LB.ok sc_Told_lets (fun vs H Q E h=> ?_) (fun cdv A outer s H vs Q E hr h=> ?_)
 ·walk_at"g1";obtain⟨p,C,dx,fs,t,F,o,fd,ps,sp,rfl,dc,hp,l,hF,hd,hb,hf,k⟩:=h;walk_at"g2";rfl
 ·walk_at"g1";obtain⟨p,C,dx,fs,t,F,o,fd,ps,sp,rfl,dc,hp,l,hF,hd,hb,hf,k⟩:=h;walk_at"g2";have nd:=sc_Told_lets.nd;walk_at"hu";refine⟨_,(aD (aV (i:=2) nd rfl (by walk_at"oi") (aW (pv 0) rfl))
   (aF (aU (SZ 3 2 hr (aA (pv 1) aB))))),?_⟩
  refine aQ (σ:=[some (.ref p),some (.int t),none]) rfl ?_;walk_at"cx";walk_at"go";refine⟨F,o,fd,rfl,hF,hd,?_⟩;walk_at"go";exact⟨ps,sp,hF,hb,hf,k⟩
theorem IF (m:M K mg):Mc P w K mg base m.kN "lets" 4 (mB P w K mg base):=⟨_,_,_,m.tW.ic.cl,m.JV,m.K7,JD m⟩
local macro_rules| `(tactic| walk_at"rd1")=> `(tactic| ((with_reducible refine' rZ ?d ?e ?hn ?hs ?he ?hw ?_);(case e=>walk_at"hp");(case d=>assumption);(case hn=>assumption);(case hs=>assumption);(case he=>assumption);(case hw=>walk_at"sd");intro H' B' e'))
abbrev AQ (q n s e a:V):List (Str×V):=cM "turn" a (cM "inner" q (oE n s e (.int 1)))
inductive jU (K:W.Frag)(vs:List V)(H:Hp)(Q:VK)(E:XK):Prop
 | mk (p q C dx D dxq:Addr) (fsq:List (Str×V)) (n s:Str) (e:V) (a:Int) (_:vs=[.ref p,.ref q,.int a]) (_:DCls K C) (_:DCls K D) (_:H p=some (.ins C dx [])) (_:H q=some (.ins D dxq fsq)) (_:fsq.lookup ("name" :Str)=some (.str n)) (_:fsq.lookup ("start" :Str)=some (.str s)) (_:fsq.lookup ("end" :Str)=some e) (_:bA n=true) (_:bA s=true) (_:fY e) (_:0<=a) (_:∀H',SameBut p H H'->H' p=some (.ins C dx (AQ (.ref q) (.str n) (.str s) e (.int a)))->Q .non H'):jU K vs H Q E
theorem KZ {H:Hp}{Q:VK}{E:XK}{p q C dx D dxq:Addr}{fsq:List (Str×V)}{n s:Str}{e:V}{a:Int} (dc:DCls K C) (dd:DCls K D) (hp:H p=some (.ins C dx [])) (hq:H q=some (.ins D dxq fsq)) (l1:fsq.lookup ("name" :Str)=some (.str n)) (l2:fsq.lookup ("start" :Str)=some (.str s)) (l3:fsq.lookup ("end" :Str)=some e) (hn:bA n=true) (hs:bA s=true) (he:fY e) (ha:0<=a)
  (k:∀H',SameBut p H H'->H' p=some (.ins C dx (AQ (.ref q) (.str n) (.str s) e (.int a)))->Q .non H'):jU K [.ref p,.ref q,.int a] H Q E:=⟨_,_,_,_,_,_,_,_,_,_,_,rfl,dc,dd,hp,hq,l1,l2,l3,hn,hs,he,ha,k⟩
theorem zE (m:M K mg):FnOk P w K mg base CX0 4 m.mL m.mH ["self","door","turn"] (jU K):=by
 refine m.BM.ok sc_Shut___init__ (fun vs H Q E h=> ?_) (fun cdv A outer s H vs Q E hr h=> ?_)
 ·walk_at"g1";obtain⟨p,q,C,dx,D,dxq,fsq,n,st,e,a,rfl,dc,dd,hp,hq,l1,l2,l3,hn,hs,he,ha,k⟩:=h;walk_at"g2";rfl
 ·walk_at"g1";obtain⟨p,q,C,dx,D,dxq,fsq,n,st,e,a,rfl,dc,dd,hp,hq,l1,l2,l3,hn,hs,he,ha,k⟩:=h;walk_at"g2";have nd:=sc_Shut___init__.nd;walk_at"hu";have cO:= @kQ P w K mg base m;have DD_Door___init___1:=gQ (P:=P) (w:=w) (base:=base) m;refine⟨_,(aD (bR (IS DD_Door___init___1 hr (aA (pv 0) (aA (aW (pv 1) rfl) (aA (aW (pv 1) rfl) (aA (aW (pv 1) rfl) aB))))))
   (aD (bR (bD cO hr (aA cC (aA (pv 2) (aA aE aB)))))
   (aD (fD (pv 0) (pv 1) rfl)
   (aF (fD (pv 0) (pv 2) rfl))))),?_⟩
  refine aQ (σ:=[some (.ref p),some (.ref q),some (.int a)]) rfl ?_;walk_at"cx";walk_at"go";refine y6 ?_;walk_at"go";show cV K [.ref p,.str n,.str st,e,.int 1] _ _ _;walk_at"go";exact k _ (by walk_at"sb") (by assumption)
theorem O5 (m:M K mg):Kc P w K mg base "Shut" m.kO 4 [] (jU K):=⟨_,_,_,_,m.aBM,m.ZD,.nil,m.BO,zE m⟩
theorem TY {H:Hp}{Q:VK}{E:XK}{C q D dxq:Addr}{fsq:List (Str×V)}{vs dvs:List V}{n s:Str}{e:V}{a:Int} (ev:vs++dvs=[.ref q,.int a]) (dc:DCls K C) (dd:DCls K D) (hq:H q=some (.ins D dxq fsq)) (l1:fsq.lookup ("name" :Str)=some (.str n)) (l2:fsq.lookup ("start" :Str)=some (.str s)) (l3:fsq.lookup ("end" :Str)=some e) (hn:bA n=true) (hs:bA s=true) (he:fY e) (ha:0<=a)
  (k:∀p dx H',H p=none->Same H H'->H' p=some (.ins C dx (AQ (.ref q) (.str n) (.str s) e (.int a)))->Q (.ref p) H'):rR C (jU K) dvs E Q vs H :=
 qD (fun p dx H0 Q' h k' s0=>by rw[ev];exact KZ dc dd h (s0 _ _ hq) l1 l2 l3 hn hs he ha k') k
inductive lZ (P:Program)(w:World)(K:W.Frag)(mg:Str->Option Value)(base:Heap)(n:Nat)(vs:List V)(H:Hp)(Q:VK)(E:XK):Prop
 | mk (p C dx:Addr) (fs:List (Str×V)) (q D dxq:Addr) (fsq:List (Str×V)) (t a i:Int) (sp:Sp) (_:vs=[.ref p,.int t]) (_:DCls K C) (_:H p=some (.ins C dx fs)) (_:fs.lookup ("inner" :Str)=some (.ref q)) (_:fs.lookup ("turn" :Str)=some (.int a)) (_:H q=some (.ins D dxq fsq)) (_:fsq.lookup ("lets" :Str)=none) (_:Mc P w K mg base D "lets" n sp) (_:(∀Q':VK,Q' (.int i) H->sp [.ref q,.int t] H Q' E0)) (_:Q (.int (if t<a then i else 0)) H):lZ P w K mg base n vs H Q E
theorem KY {n:Nat}{H:Hp}{Q:VK}{E:XK}{p C dx:Addr}{fs:List (Str×V)}{q D dxq:Addr}{fsq:List (Str×V)}{t a i:Int}{sp:Sp} (dc:DCls K C) (hp:H p=some (.ins C dx fs)) (l1:fs.lookup ("inner" :Str)=some (.ref q)) (l2:fs.lookup ("turn" :Str)=some (.int a)) (hq:H q=some (.ins D dxq fsq)) (l3:fsq.lookup ("lets" :Str)=none)
  (mc:Mc P w K mg base D "lets" n sp)(hs:∀Q':VK,Q' (.int i) H->sp [.ref q,.int t] H Q' E0)(k:Q (.int (if t<a then i else 0)) H):lZ P w K mg base n [.ref p,.int t] H Q E:=⟨_,_,_,_,_,_,_,_,_,_,_,_,rfl,dc,hp,l1,l2,hq,l3,mc,hs,k⟩
theorem GW (m:M K mg)(n:Nat):FnOk P w K mg base CX0 (n+1) m.sM m.sO ["self","turn"] (lZ P w K mg base n):=by
 refine m.K9.ok sc_Shut_lets (fun vs H Q E h=> ?_) (fun cdv A outer s H vs Q E hr h=> ?_)
 ·walk_at"g1";obtain⟨p,C,dx,fs,q,D,dxq,fsq,t,a,i,sp,rfl,dc,hp,l1,l2,hq,l3,mc,hs,k⟩:=h;walk_at"g2";rfl
 ·walk_at"g1";obtain⟨p,C,dx,fs,q,D,dxq,fsq,t,a,i,sp,rfl,dc,hp,l1,l2,hq,l3,mc,hs,k⟩:=h;walk_at"g2";have nd:=sc_Shut_lets.nd;walk_at"hu";refine⟨_,(aF (aU (uP (aT lW (pv 1) (aW (pv 0) rfl) (aX _)) (jH n hr (aW (pv 0) rfl) (aA (pv 1) aB) (Nat.le_refl _)) aE))),?_⟩;refine aQ (σ:=[some (.ref p),some (.int t)]) rfl ?_;walk_at"cx";walk_at"go";refine gK (fun h1=> ?_) (fun h1=> ?_)
  ·walk_at"go";refine hs _ ?_;rw[if_pos h1]at k;exact k
  ·walk_at"go";rw[if_neg h1]at k;exact k
theorem JC (m:M K mg)(n:Nat):Mc P w K mg base m.kO "lets" (n+1) (lZ P w K mg base n):=⟨_,_,_,m.tU.ic.cl,m.JS,m.K0,GW m n⟩
abbrev xH (q n s e a i0:V):List (Str×V):=cM "more" i0 (cM "turn" a (cM "inner" q (oE n s e (.int 1))))
inductive iW (K:W.Frag)(vs:List V)(H:Hp)(Q:VK)(E:XK):Prop
 | mk (p q C dx D dxq:Addr) (fsq:List (Str×V)) (n s:Str) (e:V) (a i0:Int) (_:vs=[.ref p,.ref q,.int a,.int i0]) (_:DCls K C) (_:DCls K D) (_:H p=some (.ins C dx [])) (_:H q=some (.ins D dxq fsq)) (_:fsq.lookup ("name" :Str)=some (.str n)) (_:fsq.lookup ("start" :Str)=some (.str s)) (_:fsq.lookup ("end" :Str)=some e) (_:bA n=true) (_:bA s=true) (_:fY e) (_:0<=a) (_:0<=i0) (_:∀H',SameBut p H H'->H' p=some (.ins C dx (xH (.ref q) (.str n) (.str s) e (.int a) (.int i0)))->Q .non H'):iW K vs H Q E
theorem GK {H:Hp}{Q:VK}{E:XK}{p q C dx D dxq:Addr}{fsq:List (Str×V)}{n s:Str}{e:V}{a i0:Int} (dc:DCls K C) (dd:DCls K D) (hp:H p=some (.ins C dx [])) (hq:H q=some (.ins D dxq fsq)) (l1:fsq.lookup ("name" :Str)=some (.str n)) (l2:fsq.lookup ("start" :Str)=some (.str s)) (l3:fsq.lookup ("end" :Str)=some e) (hn:bA n=true) (hs:bA s=true) (he:fY e) (ha:0<=a) (b0:0<=i0)
  (k:∀H',SameBut p H H'->H' p=some (.ins C dx (xH (.ref q) (.str n) (.str s) e (.int a) (.int i0)))->Q .non H'):iW K [.ref p,.ref q,.int a,.int i0] H Q E:=⟨_,_,_,_,_,_,_,_,_,_,_,_,rfl,dc,dd,hp,hq,l1,l2,l3,hn,hs,he,ha,b0,k⟩
theorem xS (m:M K mg):FnOk P w K mg base CX0 4 m.lE m.lF ["self","door","turn","more"] (iW K):=by
 refine m.zP.ok sc_Wider___init__ (fun vs H Q E h=> ?_) (fun cdv A outer s H vs Q E hr h=> ?_)
 ·walk_at"g1";obtain⟨p,q,C,dx,D,dxq,fsq,n,st,e,a,i0,rfl,dc,dd,hp,hq,l1,l2,l3,hn,hs,he,ha,b0,k⟩:=h;walk_at"g2";rfl
 ·walk_at"g1";obtain⟨p,q,C,dx,D,dxq,fsq,n,st,e,a,i0,rfl,dc,dd,hp,hq,l1,l2,l3,hn,hs,he,ha,b0,k⟩:=h;walk_at"g2";have nd:=sc_Wider___init__.nd;walk_at"hu";have cO:= @kQ P w K mg base m;have DD_Door___init___1:=gQ (P:=P) (w:=w) (base:=base) m;refine⟨_,(aD (bR (IS DD_Door___init___1 hr (aA (pv 0) (aA (aW (pv 1) rfl) (aA (aW (pv 1) rfl) (aA (aW (pv 1) rfl) aB))))))
   (aD (bR (bD cO hr (aA cC (aA (pv 2) (aA aE aB)))))
   (aD (bR (bD cO hr (aA cC (aA (pv 3) (aA aE aB)))))
   (aD (fD (pv 0) (pv 1) rfl)
   (aD (fD (pv 0) (pv 2) rfl)
   (aF (fD (pv 0) (pv 3) rfl))))))),?_⟩
  refine aQ (σ:=[some (.ref p),some (.ref q),some (.int a),some (.int i0)]) rfl ?_;walk_at"cx";walk_at"go";refine y6 ?_;walk_at"go";show cV K [.ref p,.str n,.str st,e,.int 1] _ _ _;walk_at"go";exact k _ (by walk_at"sb") (by assumption)
theorem OC (m:M K mg):Kc P w K mg base "Wider" m.jA 4 [] (iW K):=⟨_,_,_,_,m.Y7,m.U4,.nil,m.zX,xS m⟩
theorem Q5 {H:Hp}{Q:VK}{E:XK}{C q D dxq:Addr}{fsq:List (Str×V)}{vs dvs:List V}{n s:Str}{e:V}{a i0:Int} (ev:vs++dvs=[.ref q,.int a,.int i0]) (dc:DCls K C) (dd:DCls K D) (hq:H q=some (.ins D dxq fsq)) (l1:fsq.lookup ("name" :Str)=some (.str n)) (l2:fsq.lookup ("start" :Str)=some (.str s)) (l3:fsq.lookup ("end" :Str)=some e) (hn:bA n=true) (hs:bA s=true) (he:fY e) (ha:0<=a) (b0:0<=i0)
  (k:∀p dx H',H p=none->Same H H'->H' p=some (.ins C dx (xH (.ref q) (.str n) (.str s) e (.int a) (.int i0)))->Q (.ref p) H'):rR C (iW K) dvs E Q vs H :=
 qD (fun p dx H0 Q' h k' s0=>by rw[ev];exact GK dc dd h (s0 _ _ hq) l1 l2 l3 hn hs he ha b0 k') k
inductive kW (P:Program)(w:World)(K:W.Frag)(mg:Str->Option Value)(base:Heap)(n:Nat)(vs:List V)(H:Hp)(Q:VK)(E:XK):Prop
 | mk (p C dx:Addr) (fs:List (Str×V)) (q D dxq:Addr) (fsq:List (Str×V)) (t a i i0:Int) (sp:Sp) (_:vs=[.ref p,.int t]) (_:DCls K C) (_:H p=some (.ins C dx fs)) (_:fs.lookup ("inner" :Str)=some (.ref q)) (_:fs.lookup ("turn" :Str)=some (.int a)) (_:fs.lookup ("more" :Str)=some (.int i0)) (_:H q=some (.ins D dxq fsq)) (_:fsq.lookup ("lets" :Str)=none) (_:Mc P w K mg base D "lets" n sp) (_:(∀Q':VK,Q' (.int i) H->sp [.ref q,.int t] H Q' E0)) (_:Q (.int (if a<=t/\0<i then i+i0 else i)) H):kW P w K mg base n vs H Q E
theorem G9 {n:Nat}{H:Hp}{Q:VK}{E:XK}{p C dx:Addr}{fs:List (Str×V)}{q D dxq:Addr}{fsq:List (Str×V)}{t a i i0:Int}{sp:Sp} (dc:DCls K C) (hp:H p=some (.ins C dx fs)) (l1:fs.lookup ("inner" :Str)=some (.ref q)) (l2:fs.lookup ("turn" :Str)=some (.int a)) (m0:fs.lookup ("more" :Str)=some (.int i0)) (hq:H q=some (.ins D dxq fsq)) (l3:fsq.lookup ("lets" :Str)=none)
  (mc:Mc P w K mg base D "lets" n sp)(hs:∀Q':VK,Q' (.int i) H->sp [.ref q,.int t] H Q' E0)(k:Q (.int (if a<=t/\0<i then i+i0 else i)) H):kW P w K mg base n [.ref p,.int t] H Q E:=⟨_,_,_,_,_,_,_,_,_,_,_,_,_,rfl,dc,hp,l1,l2,m0,hq,l3,mc,hs,k⟩
theorem FD (m:M K mg)(n:Nat):FnOk P w K mg base CX0 (n+1) m.qT m.qW ["self","turn"] (kW P w K mg base n):=by
 refine m.J0.ok sc_Wider_lets (fun vs H Q E h=> ?_) (fun cdv A outer s H vs Q E hr h=> ?_)
 ·walk_at"g1";obtain⟨p,C,dx,fs,q,D,dxq,fsq,t,a,i,i0,sp,rfl,dc,hp,l1,l2,m0,hq,l3,mc,hs,k⟩:=h;walk_at"g2";rfl
 ·walk_at"g1";obtain⟨p,C,dx,fs,q,D,dxq,fsq,t,a,i,i0,sp,rfl,dc,hp,l1,l2,m0,hq,l3,mc,hs,k⟩:=h;walk_at"g2";have nd:=sc_Wider_lets.nd;walk_at"hu";refine⟨_,(aD (aV (i:=2) nd rfl (by walk_at"oi") (jH n hr (aW (pv 0) rfl) (aA (pv 1) aB) (Nat.le_refl _)))
   (aF (aU (uP (PW.pt (A6 (aT MV (pv 1) (aW (pv 0) rfl) (aX _)) (xD (aT rW (pv 2) aE (aX _))))) (aN cA (pv 2) (aW (pv 0) rfl)) (pv 2))))),?_⟩
  refine aQ (σ:=[some (.ref p),some (.int t),none]) rfl ?_;walk_at"cx";walk_at"go";refine hs _ ?_;walk_at"go";refine gK (fun h1=> ?_) (fun h1=> ?_)
  ·walk_at"go";refine gK (fun h2=> ?_) (fun h2=> ?_)
   ·walk_at"go";rw[if_pos ⟨h1,h2⟩]at k;exact k
   ·walk_at"go";rw[if_neg (fun z=>h2 z.2)]at k;exact k
  ·walk_at"go";rw[if_neg (fun z=>h1 z.1)]at k;exact k
theorem E3 (m:M K mg)(n:Nat):Mc P w K mg base m.jA "lets" (n+1) (kW P w K mg base n):=⟨_,_,_,m.q0.ic.cl,m.FX,m.JK,FD m n⟩
theorem XQ {H:Hp}{p dx:Addr}{n st:Str}{e:V}{wd:Int} (m:M K mg) (h:H p=some (.ins m.iF dx (oE (.str n) (.str st) e (.int wd)))):(aI P w K mg base (some 20)).at' H (.ref p) (n,st,e,⟨fun _=>wd,4⟩) :=
 ⟨p,_,dx,_,[],rfl,h,m.tV,by walk_at"lk",by walk_at"lk",by walk_at"lk",by walk_at"lk",by walk_at"lk",AC m,(fun _ z=>nomatch z),fun kl hk=>by
  cases hk;exact⟨by show 4<=20;decide,_,Mc.mono (GU m) (by show 1<=4;decide),fun H' t Q hp _ ht k=>KK hp m.tV (by walk_at"lk") k⟩⟩
theorem UP {H:Hp}{p dx:Addr}{n st:Str}{e:V}{wd i0:Int} (m:M K mg) (b0:0<=i0) (h:H p=some (.ins m.jB dx (w5 (.str n) (.str st) e (.int wd) (.int i0)))):(aI P w K mg base (some 20)).at' H (.ref p) (n,st,e,⟨tL wd i0,4⟩) :=
 ⟨p,_,dx,_,[],rfl,h,m.qV,by walk_at"lk",by walk_at"lk",by walk_at"lk",by walk_at"lk",by walk_at"lk",yL m,(fun _ z=>nomatch z),fun kl hk=>by
  cases hk;exact⟨by show 4<=20;decide,_,Mc.mono (E1 m) (by show 1<=4;decide),fun H' t Q hp _ ht k=>vT hp m.qV (by walk_at"lk") (by walk_at"lk") ht b0 k⟩⟩
def jF (a:Int)(lt:LT):LT:=⟨fun t=>if t<a then lt.f t else 0,lt.dep+1⟩
def gE (a i0:Int)(lt:LT):LT:=⟨fun t=>if a<=t/\0<lt.f t then lt.f t+i0 else lt.f t,lt.dep+1⟩
theorem yQ {C dx:Addr}{fs:List (Str×V)}{n:V} (h:fs.lookup ("name" :Str)=some n):¬yR (.ins C dx fs):=fun z=>by
 have z':fs=[]:=z;rw[z']at h;cases h
theorem Y2 {H:Hp}{p q dx:Addr}{n st:Str}{e:V}{lt:LT}{a:Int} (m:M K mg) (d:(aI P w K mg base (some 20)).at' H (.ref q) (n,st,e,lt)) (hd:lt.dep<20) (h:H p=some (.ins m.kO dx (AQ (.ref q) (.str n) (.str st) e (.int a)))):(aI P w K mg base (some 20)).at' H (.ref p) (n,st,e,jF a lt):=by
 walk_at"g1";obtain⟨q',C,dxq,fs,fp,e0,hq,dc,l1,l2,l3,l4,l5,mc,hfp,hlt⟩:=DoorAt.ex d;walk_at"g2";cases e0;refine⟨p,_,dx,_,(q,.ins C dxq fs)::fp,rfl,h,m.tU,by walk_at"lk",by walk_at"lk",by walk_at"lk",by walk_at"lk",by walk_at"lk",AF m,fun x hx=> ?_,fun kl hk=> ?_⟩
 ·rcases List.mem_cons.mp hx with rfl|hx
  ·exact⟨hq,yQ l1⟩
  ·exact hfp x hx
 ·cases hk;walk_at"g1";obtain⟨_,sp,mcL,hsp⟩:=hlt 20 rfl;walk_at"g2";exact⟨hd,_,JC m lt.dep,fun H' t Q hp hf ht k=>KY m.tU hp (by walk_at"lk") (by walk_at"lk") (hf _ (.head _)) l5 mcL (fun Q' k'=>hsp H' t Q' (hf _ (.head _)) (fun x hx=>hf x (.tail _ hx)) ht k') k⟩
theorem UG {H:Hp}{p q dx:Addr}{n st:Str}{e:V}{lt:LT}{a i0:Int} (m:M K mg) (d:(aI P w K mg base (some 20)).at' H (.ref q) (n,st,e,lt)) (hd:lt.dep<20) (h:H p=some (.ins m.jA dx (xH (.ref q) (.str n) (.str st) e (.int a) (.int i0)))):(aI P w K mg base (some 20)).at' H (.ref p) (n,st,e,gE a i0 lt):=by
 walk_at"g1";obtain⟨q',C,dxq,fs,fp,e0,hq,dc,l1,l2,l3,l4,l5,mc,hfp,hlt⟩:=DoorAt.ex d;walk_at"g2";cases e0;refine⟨p,_,dx,_,(q,.ins C dxq fs)::fp,rfl,h,m.q0,by walk_at"lk",by walk_at"lk",by walk_at"lk",by walk_at"lk",by walk_at"lk",yK m,fun x hx=> ?_,fun kl hk=> ?_⟩
 ·rcases List.mem_cons.mp hx with rfl|hx
  ·exact⟨hq,yQ l1⟩
  ·exact hfp x hx
 ·cases hk;walk_at"g1";obtain⟨_,sp,mcL,hsp⟩:=hlt 20 rfl;walk_at"g2";exact⟨hd,_,E3 m lt.dep,fun H' t Q hp hf ht k=>G9 m.q0 hp (by walk_at"lk") (by walk_at"lk") (by walk_at"lk") (hf _ (.head _)) l5 mcL (fun Q' k'=>hsp H' t Q' (hf _ (.head _)) (fun x hx=>hf x (.tail _ hx)) ht k') k⟩
theorem AX {kL:Option Nat}{H H':Hp}{v:V}{d:aL} (h:DoorAt P w K mg base kL H v d) (T:SameT H H'):DoorAt P w K mg base kL H' v d:=by
 walk_at"g1";obtain⟨p,C,dx,fs,fp,e,hp,dc,l1,l2,l3,l4,l5,mc,hf,lt⟩:=h;walk_at"g2";exact⟨p,C,dx,fs,fp,e,T _ _ hp (fun ps z=>by cases z),dc,l1,l2,l3,l4,l5,mc,fun x hx=>⟨T _ _ (hf x hx).1 (fun ps z=>(hf x hx).2 (by rw[z];trivial)),(hf x hx).2⟩,lt⟩
theorem EC (n:Nat){a:Nat}{i:Nat}:(([(i,n+a)]:List (Nat×Addr)).map (·.2)).Nodup:=by
 show ([n+a]:List Nat).Nodup;simp
def aCZ (n t:Int):Int:=cG n (t%997)%4
theorem aBJ {H:Hp}{c1:Addr}{v1:V} (h:oA H [c1] [v1]):∃o1:Obj,H c1=some (kn o1)/\∀H':Hp,H' c1=some (kn o1)->oA H' [c1] [v1]:=by
 cases h with
 | cons a t =>
  walk_at"g1";obtain⟨o1,u1,e1,d1⟩:=a;walk_at"g2";exact⟨o1,e1,fun H' g1=> .cons ⟨o1,u1,g1,d1⟩ .nil⟩
inductive VM (P:Program)(w:World)(K:W.Frag)(mg:Str->Option Value)(base:Heap)(H:Hp)(F:Addr)(lz:Int->Int):Prop
 | mk (o:Obj) (fd:FuncData) (fp:List (Addr×HO)) (sp:Sp) (_:o.data= .func fd) (_:Binds K fd ["_law_at"] []) (_:FnOk P w K mg base CX0 3 F fd ["_law_at"] sp) (_:(F,kn o)∈fp) (_:∀x∈fp,H x.1=some x.2/\¬yR x.2)
  (_:∀(H':Hp) (t:Int) (Q:VK),(∀x∈fp,H' x.1=some x.2)->0<=t->Q (.int (lz t)) H'->sp [.int t] H' Q E0)
theorem ZP {H:Hp}{F:Addr}{fd:FuncData}{qual:Str}{args:Arguments}{body:Expr}{lsc:Scope}{ys:List Str}{c1:Addr}{v1:V}{val:Int->Int} (hL:LamL H F fd qual args body lsc (ys.zip [c1])) (kc:oA H [c1] [v1]) (hbd:Binds K fd ["_law_at"] [])
  (FL:FnOk P w K mg base CX0 3 F fd ["_law_at"] (LO F fd qual args body lsc ys [c1] [v1] val)):VM P w K mg base H F val:=by
 obtain⟨o1,g1,gk⟩:=aBJ kc;walk_at"g1";obtain⟨c',pm,ctv,oc,fv,tt,hfd,hF,hc',hdc,hfv⟩:=hL;walk_at"g2";refine⟨W.kla_obj "<lambda>" qual args body lsc (ys.zip [c1]) pm c' ctv,fd,[(F,kn (W.kla_obj "<lambda>" qual args body lsc (ys.zip [c1]) pm c' ctv)),(c',kn oc),(c1,kn o1)],_,by rw[hfd],hbd,FL,.head _,fun x hx=> ?_,fun H' t Q hfp ht hq=> ?_⟩
 ·simp only[List.mem_cons,List.not_mem_nil,or_false]at hx;rcases hx with rfl|rfl|rfl
  ·exact⟨hF,fun z=>z⟩
  ·exact⟨hc',fun z=>z⟩
  ·exact⟨g1,fun z=>z⟩
 ·have gF:=hfp _ (.head _);have gc':=hfp _ (.tail _ (.head _));have a1:=hfp _ (.tail _ (.tail _ (.head _)));exact⟨t,rfl,ht,⟨c',pm,ctv,oc,fv,tt,hfd,gF,gc',hdc,hfv⟩,gk H' a1,hq⟩
abbrev iU:Pos:=⟨313,58,313,116⟩
abbrev qL:Str:=("_law_door" :Str)++ ".<locals>." ++ "<lambda>"
theorem WS (m:M K mg){H:Hp}{p dx F:Addr}{nm st:Str}{e:V}{g:Int->Int} (hp:H p=some (.ins m.kN dx (A3 (.str nm) (.str st) e (.ref F)))) (hL:VM P w K mg base H F g):(aI P w K mg base (some 20)).at' H (.ref p) (nm,st,e,⟨g,4⟩):=by
 walk_at"g1";obtain⟨o,fd,fp,sp,h1,h2,h3,h4,h5,h6⟩:=hL;walk_at"g2";refine⟨p,_,dx,_,fp,rfl,hp,m.tW,by walk_at"lk",by walk_at"lk",by walk_at"lk",by walk_at"lk",by walk_at"lk",AI m,h5,fun kl hk=> ?_⟩;cases hk;exact⟨by show 4<=20;decide,_,IF m,fun H' t Q hp' hfp ht k=>KP hp' m.tW (by walk_at"lk") (hfp _ h4) h1 h2 h3 (h6 H' t _ hfp ht k)⟩
theorem aAU {wd i:Int}(h:0<=wd)(t:Int):0<=tL wd i t:=by unfold tL;split<;>lia
theorem Same.roomsT {H H':Hp}{ws:List V}{rz:List (Str×Int)} (h:RoomsAt H ws rz) (s:SameT H H'):RoomsAt H' ws rz:=Paired.imp' (fun _ _ ⟨q,e,g⟩=>⟨q,e,s _ _ g (fun ps z=>by cases z)⟩) h
structure HW (rz:List (Str×Int)):Prop where
 ne:0<rz.length
 le:rz.length<=5
 nm:∀x∈rz,bA x.1=true
structure DOk (rz:List (Str×Int))(d:aL):Prop where
 hn:bA d.1=true
 hs:bA d.2.1=true
 he:fY d.2.2.1
 hin:qO (rz.map (·.1)) d
 pos:∀t,0<=d.2.2.2.f t
inductive uY (P:Program)(w:World)(K:W.Frag)(mg:Str->Option Value)(base:Heap)(PL:Addr)(vs:List V)(H:Hp)(Q:VK)(E:XK):Prop
 | mk (dd:Int) (n:Str) (r:Addr) (ws:List V) (rz:List (Str×Int)) (_:vs=[.int dd,.str n,.ref r]) (_:0<=dd) (_:bA n=true) (_:SqL K H r ws) (_:RoomsAt H ws rz) (_:HW rz) (_:TabS H PL iU qL) (_:∀v st e lt H',SameT H H'->TabS H' PL iU qL->(aI P w K mg base (some 20)).at' H' v (n,st,e,lt)->DOk rz (n,st,e,lt)->lt.dep=4->Q v H'):uY P w K mg base PL vs H Q E
theorem LW {PL:Addr}{H:Hp}{Q:VK}{E:XK}{dd:Int}{n:Str}{r:Addr}{ws:List V}{rz:List (Str×Int)} (hd:0<=dd) (hn:bA n=true) (hr:SqL K H r ws) (hrz:RoomsAt H ws rz) (hok:HW rz) (ht:TabS H PL iU qL) (k:∀v st e lt H',SameT H H'->TabS H' PL iU qL->(aI P w K mg base (some 20)).at' H' v (n,st,e,lt)->DOk rz (n,st,e,lt)->lt.dep=4->Q v H'):uY P w K mg base PL [.int dd,.str n,.ref r] H Q E:=⟨_,_,_,_,_,rfl,hd,hn,hr,hrz,hok,ht,k⟩
local macro_rules| `(tactic| walk_at"rd1")=> `(tactic| first|(with_reducible refine YF ?_)|(with_reducible refine YN ?_)|(with_reducible refine aBe ?_)|(with_reducible refine X3 ?_))
theorem GG (m:M K mg){cL PL:Addr}(hcL:m.c8.code= .ref cL)(hCL:W.CodeHd base cL PL)(hBL:base.BuiltinsAt mg PL):FnOk P w K mg base CX0 6 m.sP m.c8 ["_law_number","_law_name_here","_law_rooms"] (uY P w K mg base PL):=by
 refine m.i9.okL sc__law_door (iys:=[(0,"_law_number")]) (by decide +kernel) (fun vs H Q E h=> ?_) (fun cdv A outer s H vs Q E ics hcd hics hr h=> ?_)
 ·walk_at"g1";obtain⟨dd,n,r,ws,rz,rfl,hdd,hn,hr1,hrz,hok,hPL,k⟩:=h;walk_at"g2";rfl
 ·walk_at"g1";obtain⟨dd,n,r,ws,rz,rfl,hdd,hn,hr1,hrz,hok,hPL,k⟩:=h;walk_at"g2";have nd:=sc__law_door.nd;walk_at"hu";obtain rfl:=hcd.symm.trans hcL;obtain rfl:=aBr hics (js:=[(0,s.heap.objs.size+1)]) (.cons ⟨rfl,by kernel_rfl⟩ (.nil));refine⟨EC _,?_⟩;have K_Door_0:= @QG P w K mg base m;have K_Since_0:= @NT P w K mg base m;have K_Told_0:= @OS P w K mg base m;have w_dc_Door:=m.tV;have w_dc_Since:=m.qV;have w_dc_Told:=m.tW;refine⟨_,(yS (aV (i:=3) nd rfl (by walk_at"oi") (bC b9 (bC fH (pv 2) (aN bV (aN j4 (pv 0) aE) (bT fG rfl m.k4 iX (aA (pv 2) aB))) (fun _ _=>rfl)) aE (fun _ _=>rfl)))
   (yS (aV (i:=4) nd rfl (by walk_at"oi") (bC fH (aN nZ (cF (N:=["_law_room"]) (nl:=1) (ci:=[]) rfl (blk (s.heap.objs.size+1) rfl rfl rfl (by kernel_rfl)) (bJ (pv 2)) (fun _ _ _ _=>(aG (i:=0) (show (["_law_room"]:List Str).Nodup by decide +kernel) rfl (by walk_at"oi"))) (fun _ _ _ _=>cI) (fun _ _ _ _=>(bC (fZ (K:=K)) (pv 0) aE (fun _ _=>rfl)))) (fU (aA oH (aA oH aB)))) (aN bV (aN j4 (pv 0) aE) (aN cA (bT fG rfl m.k4 iX (aA (pv 2) aB)) aE)) (fun _ _=>rfl)))
   (yS (bO (aT gZ (aN bV (pv 0) aE) aE (aX _)) (aF (aU (uS K_Since_0 hr (aA (pv 1) (aA (pv 3) (aA (pv 4) (aA (aN cA aE (aN bV (aN j4 (pv 0) aE) aE)) (aA (aN bV (aN j4 (pv 0) aE) aE) aB)))))))) bB)
   (aAH (aT gZ (aN bV (pv 0) aE) aE (aX _)) (W7 (uS K_Told_0 hr (aA (pv 1) (aA (pv 3) (aA (pv 4) (aA (WY rfl hCL hBL rfl) aB))))))
   (XL (aF (aU (uS K_Door_0 hr (aA (pv 1) (aA (pv 3) (aA (pv 4) (aA (aN bV (aN j4 (pv 0) aE) aE) aB)))))))))))),?_⟩
  refine PX (σ:=[some (.int dd),some (.str n),some (.ref r),none,none]) rfl ?_;have hl:=Paired.length hrz;obtain⟨ok1,ok2,ok3⟩:=hok;walk_at"go";rename_i i0 i1;refine A2 hr1 i0 i1 fun v hv=> ?_;walk_at"g1";obtain⟨x0,hx0,q,rfl,hq⟩:=lV hrz hv;walk_at"g2";clear hv i0 i1;have hs:=ok3 x0 hx0;walk_at"go";refine⟨q,_,0,_,rfl,rfl,SqT.of hq,rfl,?_⟩;walk_at"go";refine dH (bY H) (fun _=>true) (fun x y _=>y=V.str x.1) (fun _ _ _ _ h _=>h) (by rw[sizeLine_eq];lia) (rest:=[]) (by rfl) hr1 hrz ?_ ?_ ?_
  ·intro v x H2 _ _ _ R hR;exact hR _ (Same.refl _)
  ·rintro v x H2 ⟨q2,rfl,hq2⟩ hm - s2 R hR;walk_at"go";refine⟨q2,_,0,_,rfl,rfl,SqT.of (s2 _ _ hq2),rfl,?_⟩;exact hR _ _ rfl (Same.refl _)
  intro ys H1 S1 hys;rw[List.filter_eq_self.mpr (fun _ _=>rfl)]at hys;obtain rfl:=d3 hys;have hr2:=S1.seq hr1;walk_at"go";rename_i p2 H2 n2 S2 e2 p3 H3 n3 S3 e3 p4 H4 n4 S4 e4 i0 i1;have s4:Same H H4:=((S1.trans S2).trans S3).trans S4;refine A2 (SqL.of e4) i0 (by rw[List.length_append,List.length_map,←hl];show _<((ws.length+2:Nat):Int);lia) fun e he0=> ?_;have hE:fY e/\(e= .non∨∃z,e= .str z/\z∈rz.map (·.1)):=by
   rcases List.mem_append.mp he0 with h|h
   ·obtain⟨x,hx,rfl⟩:=List.mem_map.mp h;exact⟨.inr ⟨_,rfl,ok3 x hx⟩,.inr ⟨_,rfl,List.mem_map.mpr ⟨x,hx,rfl⟩⟩⟩
   ·simp only[List.mem_cons,List.not_mem_nil,or_false]at h;rcases h with rfl|rfl<;>exact⟨.inl rfl,.inl rfl⟩
  obtain⟨he,hin⟩:=hE;have hst:x0.1∈rz.map (·.1):=List.mem_map.mpr ⟨x0,hx0,rfl⟩;have dok:∀lt:LT,(∀t,0<=lt.f t)->DOk rz (n,x0.1,e,lt):=fun lt hp=>⟨hn,hs,he,⟨hst,hin⟩,hp⟩
  clear he0 e4 e3 e2 i0 i1 hin hys hr2;have hPL4:=hPL.same s4;walk_at"go";refine gK (fun h1=> ?_) (fun h1=> ?_)
  ·walk_at"go";rename_i p5 dx5 H5 n5 S5 e5;exact k _ _ _ _ _ (Same.t (s4.trans S5)) (hPL4.same S5) (UP (P:=P) (w:=w) (base:=base) m (by lia) e5) (dok _ (aAU (by lia))) rfl
  walk_at"go";refine gK (fun h2=> ?_) (fun h2=> ?_)
  ·walk_at"go";refine⟨hPL4,fun F fd G hFn hL T hT'=> ?_⟩;walk_at"go";refine TN rfl w_dc_Told hn hs he fun p5 dx5 G5 n5 S5 e5=> ?_;refine⟨_,.cons rfl .nil,fun H6 S6 hnn kc=> ?_⟩;have hL2:=hL.same (S5.trans S6);have hbd:Binds K fd ["_law_at"] []:=by
    walk_at"g1";obtain⟨c',pm,ctv,oc,fv,tt,hfd,_⟩:=id hL2;walk_at"g2";rw[hfd];exact Binds.all<|aM 1 _ fun _=>rfl
   refine k _ _ _ _ _ ((((Same.t s4).trans T).snoc S5).snoc S6) ((hT'.same S5).same S6) (WS (P:=P) (w:=w) (base:=base) m (S6 _ _ e5) (ZP (ys:=["_law_number"]) (val:=aCZ dd) hL2 kc hbd ?_)) (dok _ fun t=>Int.emod_nonneg _ (by decide)) rfl;refine Y0 (k:=2) rfl rfl rfl (by decide +kernel) (by kernel_rfl) (by decide +kernel) (by decide +kernel) (by decide +kernel) (EC s.heap.objs.size (a:=1) (i:=0)) rfl (fun cdv A outer s H E hr=>⟨_,(aN bV (bD (kS m) hr (aA (pv 1) (aA (aN bV (pv 0) aE) aB))) aE),fun i Q h0 hq=> ?_⟩);show (_:TE) [some (.int i),some (.int dd)] H Q;walk_at"go";rename_i n' d' _ _;subst d';exact hq
  walk_at"go";rename_i p5 dx5 H5 n5 S5 e5;exact k _ _ _ _ _ (Same.t (s4.trans S5)) (hPL4.same S5) (XQ (P:=P) (w:=w) (base:=base) m e5) (dok _ fun _=>Int.emod_nonneg _ (by decide)) rfl
theorem wI (m:M K mg){cL PL:Addr}(hcL:m.c8.code= .ref cL)(hCL:W.CodeHd base cL PL)(hBL:base.BuiltinsAt mg PL):Fc P w K mg base "_law_door" 6 ["_law_number","_law_name_here","_law_rooms"] (uY P w K mg base PL):=⟨_,_,m.LA,m.i9.kp,m.K8,GG m hcL hCL hBL⟩
inductive lQ (K:W.Frag)(C:Addr)(D:bL)(o:HO)(vs:List V)(H:Hp)(Q:VK)(E:XK):Prop
 | mk (h a:Addr) (f l:Int) (rz ps:List (Str×Int)) (ds:List aL) (_:vs=[.ref h,.ref a]) (_:bG C D H h f l rz ps ds) (_:SqL K H a []) (_:∀p H',H p=none->Same H H'->H' p=some o->Q (.ref p) H'):lQ K C D o vs H Q E
theorem wD {C:Addr}{D:bL}{o:HO}{H:Hp}{Q:VK}{E:XK}{h a:Addr}{f l:Int}{rz ps:List (Str×Int)}{ds:List aL} (hh:bG C D H h f l rz ps ds) (ha:SqL K H a []) (k:∀p H',H p=none->Same H H'->H' p=some o->Q (.ref p) H'):lQ K C D o [.ref h,.ref a] H Q E:=⟨_,_,_,_,_,_,_,rfl,hh,ha,k⟩
theorem cE {H H':Hp}{p:Addr} (s:Same H H') (h:H' p=none):H p=none:=by
 cases e:H p with
 | none=>rfl
 | some u=>rw[s _ _ e]at h;cases h
theorem vN (m:M K mg):FnOk P w K mg base CX0 2 m.kC m.kH ["house","plan"] (lQ K m.aO (aI P w K mg base (some 20)) (.lst [])):=by
 refine m.dI.ok sc_rows_that_count (fun vs H Q E h=> ?_) (fun cdv A outer s H vs Q E hr h=> ?_)
 ·walk_at"g1";obtain⟨h,a,f,l,rz,ps,ds,rfl,hh,hS,k⟩:=h;walk_at"g2";rfl
 ·walk_at"g1";obtain⟨h,a,f,l,rz,ps,ds,rfl,hh,hS,k⟩:=h;walk_at"g2";have nd:=sc_rows_that_count.nd;walk_at"hu";have w_dc_House:=m.bK;have w_mc_House_doors:= @j3 P w K mg base m;refine⟨_,(aD (aV (i:=2) nd rfl (by walk_at"oi") (fJ 1 hr (pv 0)))
   (aF (aU (cF (N:=["row","doors","house"]) (nl:=1) (ci:=[2,0]) rfl (blk (s.heap.objs.size+1) rfl rfl rfl (by kernel_rfl)) (bJ (pv 1)) (fun _ _ _ _=>(aG (i:=0) (show (["row","doors","house"]:List Str).Nodup by decide +kernel) rfl (by walk_at"oi"))) (fun _ _ _ _=>(tO (PW.pt (A6 (aT (MT (K:=K)) (bC (fZ (K:=K)) (pv 0) aE (fun _ _=>rfl)) (pv 1) (by with_unfolding_all rfl)) (xD (T7 NS lW (i7 (K:=K) (pv 2) rfl) (bC (fZ (K:=K)) (pv 0) aE (fun _ _=>rfl)) (i7 (K:=K) (pv 2) rfl))))))) (fun _ _ _ _=>(pv 0)))))),?_⟩
  refine aQ (σ:=[some (.ref h),some (.ref a),none]) rfl ?_;walk_at"cx";walk_at"g1";obtain⟨dx,qs,qp,qd,nk,kvs,e1,e2,e3,e4,e5,e6,e7⟩:=hh.ex;walk_at"g2";walk_at"go";refine mY hh fun p1 H1 n1 S1 e8=> ?_;walk_at"go";refine dH (α:=Unit) (xs:=[]) (vs:=[]) (fun _ _=>True) (fun _=>true) (fun _ _ _=>True) (fun _ _ _ _ h _=>h) (by decide) (rest:=[some (.ref p1),some (.ref h)]) (by rfl) (S1.seq hS) .nil (fun _ _ _ _ h=>(nomatch h)) (fun _ _ _ _ h=>(nomatch h)) ?_;intro ys H2 s2 hys;cases hys;walk_at"go";rename_i p3 H3 n3 S3 e33;exact k _ _ (cE (S1.trans s2) n3) ((S1.trans s2).trans S3) e33
theorem oG (m:M K mg):Fc P w K mg base "rows_that_count" 2 ["house","plan"] (lQ K m.aO (aI P w K mg base (some 20)) (.lst [])):=⟨_,_,m.xX,m.dI.kp,m.xZ,vN m⟩
theorem NZ (m:M K mg):FnOk P w K mg base CX0 3 m.wR m.wY ["house","plan"] (lQ K m.aO (aI P w K mg base (some 20)) (.dT [])):=by
 refine m.lR.ok sc_leaving (fun vs H Q E h=> ?_) (fun cdv A outer s H vs Q E hr h=> ?_)
 ·walk_at"g1";obtain⟨h,a,f,l,rz,ps,ds,rfl,hh,hS,k⟩:=h;walk_at"g2";rfl
 ·walk_at"g1";obtain⟨h,a,f,l,rz,ps,ds,rfl,hh,hS,k⟩:=h;walk_at"g2";have nd:=sc_leaving.nd;walk_at"hu";have dI:= @oG P w K mg base m;have w_dc_House:=m.bK;have w_mc_House_door:= @iY P w K mg base m;refine⟨_,(aD (aV (i:=2) nd rfl (by walk_at"oi") uJ)
   (aD (c4 PassesOwn.never rfl (bJ (bD dI hr (aA (pv 0) (aA (pv 1) aB)))) (l7 (n:=3) rfl (aY (aG (i:=3) nd rfl (by walk_at"oi")) (aY (aG (i:=4) nd rfl (by walk_at"oi")) (aY (aG (i:=5) nd rfl (by walk_at"oi")) dG)))) (aD (aV (i:=6) nd rfl (by walk_at"oi") (cB (aA (aW (jH 1 hr (pv 0) (aA (pv 4) aB)) rfl) (aA (pv 3) aB))))
   (aF (hU hu1 (pv 2) (pv 6) (aN cA (mN hu1 (pv 2) (pv 6) aE ⟨rfl,rfl,rfl,rfl⟩) (pv 5)) rfl))))
   (aF (aU (pv 2))))),?_⟩
  refine aQ (σ:=[some (.ref h),some (.ref a),none,none,none,none,none]) rfl ?_;walk_at"cx";walk_at"go";rename_i p H1 n1 S1 ep;refine wD (bN hh S1) (S1.seq hS) fun q H2 n2 S2 eq=> ?_;walk_at"go";let Pv1:Nat->St->Hp->Prop:=fun _ σ' H'=>H2=H'/\σ'=[some (.ref h),some (.ref a),some (.ref p),none,none,none,none];refine gB [] Pv1 ⟨rfl,rfl⟩ (fun i σ' H' _ g=>by obtain⟨rfl,_⟩:=g;exact SqL.of eq) (fun i x σ' H' h=>(nomatch h)) ?_;rintro _ _ ⟨rfl,rfl⟩;walk_at"go";exact k _ _ n1 (S1.trans S2) (S2 _ _ ep)
theorem AV (m:M K mg):Fc P w K mg base "leaving" 3 ["house","plan"] (lQ K m.aO (aI P w K mg base (some 20)) (.dT [])):=⟨_,_,m.RJ,m.lR.kp,m.RM,NZ m⟩
theorem QL (m:M K mg):FnOk P w K mg base CX0 3 m.zZ m.zU ["house","plan"] (lQ K m.aO (aI P w K mg base (some 20)) (.dT [])):=by
 refine m.vA.ok sc_coming (fun vs H Q E h=> ?_) (fun cdv A outer s H vs Q E hr h=> ?_)
 ·walk_at"g1";obtain⟨h,a,f,l,rz,ps,ds,rfl,hh,hS,k⟩:=h;walk_at"g2";rfl
 ·walk_at"g1";obtain⟨h,a,f,l,rz,ps,ds,rfl,hh,hS,k⟩:=h;walk_at"g2";have nd:=sc_coming.nd;walk_at"hu";have dI:= @oG P w K mg base m;have w_dc_House:=m.bK;have w_mc_House_door:= @iY P w K mg base m;refine⟨_,(aD (aV (i:=2) nd rfl (by walk_at"oi") uJ)
   (aD (c4 PassesOwn.never rfl (bJ (bD dI hr (aA (pv 0) (aA (pv 1) aB)))) (l7 (n:=3) rfl (aY (aG (i:=3) nd rfl (by walk_at"oi")) (aY (aG (i:=4) nd rfl (by walk_at"oi")) (aY (aG (i:=5) nd rfl (by walk_at"oi")) dG)))) (aD (aV (i:=6) nd rfl (by walk_at"oi") (jH 1 hr (pv 0) (aA (pv 4) aB)))
   (aF (bO (tH (kJ (fJ 1 hr (pv 6)))) (aD (aV (i:=7) nd rfl (by walk_at"oi") (cB (aA (aW (pv 6) rfl) (aA (pv 3) aB))))
   (aF (hU hu1 (pv 2) (pv 7) (aN cA (mN hu1 (pv 2) (pv 7) aE ⟨rfl,rfl,rfl,rfl⟩) (pv 5)) rfl))) bB))))
   (aF (aU (pv 2))))),?_⟩
  refine aQ (σ:=[some (.ref h),some (.ref a),none,none,none,none,none,none]) rfl ?_;walk_at"cx";walk_at"go";rename_i p H1 n1 S1 ep;refine wD (bN hh S1) (S1.seq hS) fun q H2 n2 S2 eq=> ?_;walk_at"go";let Pv2:Nat->St->Hp->Prop:=fun _ σ' H'=>H2=H'/\σ'=[some (.ref h),some (.ref a),some (.ref p),none,none,none,none,none];refine gB [] Pv2 ⟨rfl,rfl⟩ (fun i σ' H' _ g=>by obtain⟨rfl,_⟩:=g;exact SqL.of eq) (fun i x σ' H' h=>(nomatch h)) ?_;rintro _ _ ⟨rfl,rfl⟩;walk_at"go";exact k _ _ n1 (S1.trans S2) (S2 _ _ ep)
theorem Q9 (m:M K mg):Fc P w K mg base "coming" 3 ["house","plan"] (lQ K m.aO (aI P w K mg base (some 20)) (.dT [])):=⟨_,_,m.U7,m.vA.kp,m.U5,QL m⟩
theorem pairsN_mem {rz:List (Str×Int)}{f:Int}{z:Str}{t:Int}:∀{n:Nat},(z,t)∈bI rz f n↔z∈rz.map (·.1)/\∃i:Nat,i<n/\t=f+i
 | 0=>⟨(fun h=>by cases h),(fun⟨_,i,h,_⟩=>absurd h (Nat.not_lt_zero _))⟩
 | n+1=>by
  rw[kM,List.mem_append,pairsN_mem (n:=n)]
  constructor
  ·rintro (⟨h1,i,h2,h3⟩|h)
   ·exact⟨h1,i,by lia,h3⟩
   ·obtain⟨e,he,ee⟩:=List.mem_map.mp h;cases ee;exact⟨List.mem_map.mpr ⟨e,he,rfl⟩,n,by lia,rfl⟩
  ·rintro hq_;walk_at"g1";obtain⟨h1,i,h2,h3⟩:=hq_;walk_at"g2"
   by_cases hi:i=n
   ·subst hi;obtain⟨e,he,rfl⟩:=List.mem_map.mp h1;exact .inr (List.mem_map.mpr ⟨e,he,by rw[h3]⟩)
   ·exact .inl ⟨h1,i,by lia,h3⟩
theorem jL {rz:List (Str×Int)}(nd:(rz.map (·.1)).Nodup)(f:Int):∀n,(bI rz f n).Nodup
 | 0=>by simp[bI]
 | n+1=>by
  rw[kM,List.nodup_append];refine⟨jL nd f n,?_,?_⟩
  ·rw[List.Nodup,List.pairwise_map]at nd ⊢;exact nd.imp fun h z=>h (Prod.mk.inj z).1
  ·intro a ha b hb e;subst e;obtain⟨z,t⟩:=a;walk_at"g1";obtain⟨_,i,hi,ht⟩:=pairsN_mem.mp ha;walk_at"g2";obtain⟨e,_,ee⟩:=List.mem_map.mp hb;cases ee
   lia
theorem A5 (rz:List (Str×Int))(f:Int)(m:Nat):∀k,∃l,bI rz f (m+k)=bI rz f m++l
 | 0=>⟨[],by rw[Nat.add_zero,List.append_nil]⟩
 | k+1=>by
  obtain⟨l,e⟩:=A5 rz f m k;exact⟨l++_,by rw[←Nat.add_assoc,kM,e,List.append_assoc]⟩
theorem JE {rz:List (Str×Int)}{f:Int}{n i:Nat}{z:Str}{t:Int} (h:(bI rz f n)[i]? =some (z,t)) (ht:t≠f):(z,t - 1)∈(bI rz f n).take i/\f<t:=by
 have hi:=(List.getElem?_eq_some_iff.mp h).1;walk_at"g1";obtain⟨hz,m,hm,rfl⟩:=pairsN_mem.mp (List.mem_of_getElem? h);walk_at"g2";have hm0:0<m:=by
  cases m with
  | zero=>exact absurd (by simp) ht
  | succ m=>exact Nat.succ_pos _
 obtain⟨l,el⟩:=A5 rz f m (n - m);rw[show m+(n - m)=n by lia]at el;have hge:(bI rz f m).length<=i:=by
  rcases Nat.lt_or_ge i (bI rz f m).length with hlt|hge
  ·rw[el,List.getElem?_append_left hlt]at h;walk_at"g1";obtain⟨_,j,hj,ej⟩:=pairsN_mem.mp (List.mem_of_getElem? h);walk_at"g2"
   lia
  ·exact hge
 refine⟨?_,by lia⟩;have h1:(z,f+(m:Int) - 1)∈bI rz f m:=pairsN_mem.mpr ⟨hz,m - 1,by lia,by lia⟩;rw[el,List.take_append,List.take_of_length_le hge];exact List.mem_append_left _ h1
def fF (p:Str×Int):List Key:=[.inr p.1,.inl p.2]
theorem IL {a b:Str×Int}(h:fF a=fF b):a=b:=by
 unfold fF at h;injection h with h1 h2;injection h2 with h2;exact Prod.ext (Sum.inr.inj h1) (Sum.inl.inj h2)
def jD (ps:List (Str×Int))(pp:List (Str×Int)):List (List Key×V):=pp.map fun p=>(fF p,V.int (bE ps p.1))
theorem uG {ps:List (Str×Int)}{pp:List (Str×Int)} (nd:pp.Nodup) {p:Str×Int} (h:p∈pp):bM (jD ps pp) (fF p)=some (.int (bE ps p.1)):=by
 refine pX (e:=(fF p,V.int (bE ps p.1))) ?_ (List.mem_map.mpr ⟨p,h,rfl⟩);unfold jD;rw[List.map_map,List.Nodup,List.pairwise_map];exact nd.imp fun hne z=>hne (IL z)
theorem SR {ps:List (Str×Int)}{pp:List (Str×Int)}{p:Str×Int} (h:p∉pp):bM (jD ps pp) (fF p)=none:=by
 have:∀e∈jD ps pp,e.1≠fF p:=fun e he z=>by
  obtain⟨q,hq,rfl⟩:=List.mem_map.mp he;exact h (IL z▸hq)
 revert this;generalize jD ps pp=kvs;intro this
 induction kvs with
 | nil=>rfl
 | cons a l ih =>
  rw[cR (this a (.head _))];exact ih fun e he=>this e (List.mem_cons_of_mem _ he)
structure HOk (f l:Int)(rz ps:List (Str×Int))(ds:List aL):Prop where
 nr:(rz.map (·.1)).Nodup
 nd:(ds.map (·.1)).Nodup
 f0:0<=f
 fl:f<=l
 lb:l<1000000000000
 lt:l - f<=1000
 lr:rz.length<=20
 ft:sK rz ps
inductive uO (K:W.Frag)(C:Addr)(D:bL)(vs:List V)(H:Hp)(Q:VK)(E:XK):Prop
 | mk (h a:Addr) (f l:Int) (rz ps:List (Str×Int)) (ds:List aL) (_:vs=[.ref h,.ref a]) (_:bG C D H h f l rz ps ds) (_:HOk f l rz ps ds) (_:SqL K H a []) (_:∀p H',H p=none->Same H H'->H' p=some (.dT (jD ps (bI rz f (l+1 - f).toNat)))->Q (.ref p) H'):uO K C D vs H Q E
theorem LQ {C:Addr}{D:bL}{H:Hp}{Q:VK}{E:XK}{h a:Addr}{f l:Int}{rz ps:List (Str×Int)}{ds:List aL} (hh:bG C D H h f l rz ps ds) (ho:HOk f l rz ps ds) (ha:SqL K H a []) (k:∀p H',H p=none->Same H H'->H' p=some (.dT (jD ps (bI rz f (l+1 - f).toNat)))->Q (.ref p) H'):uO K C D [.ref h,.ref a] H Q E:=⟨_,_,_,_,_,_,_,rfl,hh,ho,ha,k⟩
theorem RQ (m:M K mg):FnOk P w K mg base CX0 4 m.DI m.DN ["house","plan"] (uO K m.aO (aI P w K mg base (some 20))):=by
 refine m.qA.ok sc_there (fun vs H Q E h=> ?_) (fun cdv A outer s H vs Q E hr h=> ?_)
 ·walk_at"g1";obtain⟨h,a,f,l,rz,ps,ds,rfl,hh,ho,hS,k⟩:=h;walk_at"g2";rfl
 ·walk_at"g1";obtain⟨h,a,f,l,rz,ps,ds,rfl,hh,ho,hS,k⟩:=h;walk_at"g2";have nd:=sc_there.nd;walk_at"hu";have vA:= @Q9 P w K mg base m;have lR:= @AV P w K mg base m;have w_dc_House:=m.bK;have w_mc_House_pairs:= @mP P w K mg base m;have w_mc_House_found:= @tN P w K mg base m;refine⟨_,(aD (aV (i:=2) nd rfl (by walk_at"oi") (bD lR hr (aA (pv 0) (aA (pv 1) aB))))
   (aD (aV (i:=3) nd rfl (by walk_at"oi") (bD vA hr (aA (pv 0) (aA (pv 1) aB))))
   (aD (aV (i:=4) nd rfl (by walk_at"oi") uJ)
   (aD (c4 PassesOwn.never rfl (bJ (fJ 1 hr (pv 0))) (l7 (n:=2) rfl (aY (aG (i:=5) nd rfl (by walk_at"oi")) (aY (aG (i:=6) nd rfl (by walk_at"oi")) dG))) (aF (bO (aT gZ (pv 6) (aW (pv 0) rfl) (aX _)) (aF (hU hu1 (pv 4) (cB (aA (pv 5) (aA (pv 6) aB))) (jH 3 hr (pv 0) (aA (pv 5) aB)) rfl)) (aD (aV (i:=7) nd rfl (by walk_at"oi") (cB (aA (pv 5) (aA (aN qF (pv 6) aE) aB))))
   (aF (hU hu1 (pv 4) (cB (aA (pv 5) (aA (pv 6) aB))) (aN cA (aN qF (dF hu1 (pv 4) (pv 7) (fun _ _=>rfl)) (mN hu1 (pv 2) (pv 7) aE ⟨rfl,rfl,rfl,rfl⟩)) (mN hu1 (pv 3) (pv 7) aE ⟨rfl,rfl,rfl,rfl⟩)) rfl))))))
   (aF (aU (pv 4))))))),?_⟩
  refine aQ (σ:=[some (.ref h),some (.ref a),none,none,none,none,none,none]) rfl ?_;walk_at"cx";walk_at"g1";obtain⟨nr,ndd,h0,h1,h2,h3,lr,hft⟩:=ho;walk_at"g2";walk_at"g1";obtain⟨dx,qs,qp,qd,nk,kvs,e1,_⟩:=hh.ex;walk_at"g2";walk_at"go";refine wD hh hS fun pL H1 n1 S1 eL=> ?_;walk_at"go";refine wD (bN hh S1) (S1.seq hS) fun pC H2 n2 S2 eC=> ?_;have e12:=S2 _ _ (S1 _ _ e1);walk_at"go";rename_i p H3 n3 S3 ep;have e13:=S3 _ _ e12;walk_at"go";have sA:Same H H3:=(S1.trans S2).trans S3;refine C3 (bN hh sA) h0 h1 h2 h3 lr fun q ys H4 n4 S4 eq hpp=> ?_;have ep4:=S4 _ _ ep;have hqp:q≠p:=fun z=>by rw[z,ep]at n4;cases n4
  have npd:∀x u,H2 x=some u->x≠p:=fun x u hx z=>by rw[z,n3]at hx;cases hx
  have pnd:=jL nr f (l+1 - f).toNat;have pll:=pN rz f (l+1 - f).toNat;have plb:(l+1 - f).toNat * rz.length<=1001 * 20:=Nat.mul_le_mul (by lia) lr;have hyl:ys.length=(bI rz f (l+1 - f).toNat).length:=Paired.length hpp;walk_at"go";let Pv3:Nat->St->Hp->Prop:=fun i σ' H'=>SameBut p H4 H'/\H' p=some (.dT (jD ps ((bI rz f (l+1 - f).toNat).take i)))/\∃x y z,σ'=[some (.ref h),some (.ref a),some (.ref pL),some (.ref pC),some (.ref p),x,y,z];refine gB ys Pv3 ⟨SameBut.refl,ep4,_,_,_,rfl⟩ (fun i σ' H' _ g=>SqL.of (g.1 _ _ eq hqp)) ?_ ?_
  ·rintro i x _ H' hx hq_;walk_at"g1";obtain⟨sb,ek,x1,x2,x3,rfl⟩:=hq_;walk_at"g2";have hi:i<ys.length:=(List.getElem?_eq_some_iff.mp hx).1;obtain⟨⟨z,t⟩,hrx⟩:∃r,(bI rz f (l+1 - f).toNat)[i]? =some r:=⟨_,List.getElem?_eq_getElem (by lia)⟩
   obtain⟨q1,rfl,hq1⟩:=Paired.at2 hpp hx hrx;have hq1':H' q1=some (.tup [.str z,.int t]):=sb _ _ hq1 fun zz=>by rw[zz,ep4]at hq1;cases hq1
   have sH2:Same H2 H':=fun x u hx=>sb _ _ (S4 _ _ (S3 _ _ hx)) (npd x u hx);have hh':=bN hh ((S1.trans S2).trans sH2);have e1':=sH2 _ _ e12;have eL':=sH2 _ _ (S2 _ _ eL);have eC':=sH2 _ _ eC;have hz:z∈rz.map (·.1):=(pairsN_mem.mp (List.mem_of_getElem? hrx)).1;have hnew:(z,t)∉(bI rz f (l+1 - f).toNat).take i:=qK pnd hrx;have hkl:(jD ps ((bI rz f (l+1 - f).toNat).take i)).length<=20020:=by unfold jD;rw[List.length_map,List.length_take];lia
   have nd':((bI rz f (l+1 - f).toNat).take i).Nodup:=pnd.sublist (List.take_sublist _ _);have fin:∀H7:Hp,H7 p=some (.dT (c5 (jD ps ((bI rz f (l+1 - f).toNat).take i)) (fF (z,t)) (.int (bE ps z))))->H7 p=some (.dT (jD ps ((bI rz f (l+1 - f).toNat).take (i+1)))):=fun H7 e7=>by
    rw[e7,qJ _ (SR hnew),gJ hrx];unfold jD;rw[List.map_append];rfl
   walk_at"go";refine gK (fun hc=> ?_) (fun hc=> ?_)
   ·walk_at"go";refine ML hh' nr hz fun H5 S5=> ?_;walk_at"go";rename_i b6 H6 n6 S6 e6;have ek6:=S6 _ _ (S5 _ _ ek);refine GY (fF (z,t)) ek6 e6 (by rw[sizeLine_eq];lia) fun H7 B7 e7=> ?_;exact⟨(sb.trans (S5.trans S6).but).trans B7,fin _ e7,_,_,_,rfl⟩
   ·obtain⟨hah,hft⟩:=JE hrx hc;walk_at"go";rename_i b6 H6 n6 S6 e6;refine uR (fF (z,t - 1)) (.inl (S6 _ _ ek)) e6 (uG nd' hah) ?_;walk_at"go";refine vW (S6 _ _ eL') ?_;walk_at"go";refine yO (fF (z,t - 1)) (S6 _ _ eL') e6 ?_;rw[show (bM ([]:List (List Key×V)) (fF (z,t - 1))).getD (.int 0)= .int 0 from rfl];walk_at"go";refine vW (S6 _ _ eC') ?_;walk_at"go";refine yO (fF (z,t - 1)) (S6 _ _ eC') e6 ?_;rw[show (bM ([]:List (List Key×V)) (fF (z,t - 1))).getD (.int 0)= .int 0 from rfl];walk_at"go";rename_i b8 H8 n8 S8 e8;have ek8:=S8 _ _ (S6 _ _ ek);refine GY (fF (z,t)) ek8 e8 (by rw[sizeLine_eq];lia) fun H9 B9 e9=> ?_;rw[show (bE ps z - 0+0:Int)=bE ps z by lia]at e9;exact⟨(sb.trans (S6.trans S8).but).trans B9,fin _ e9,_,_,_,rfl⟩
  ·rintro _ H' hq_;walk_at"g1";obtain⟨sb,ek,x1,x2,x3,rfl⟩:=hq_;walk_at"g2";rw[hyl,List.take_length]at ek;walk_at"go";exact k _ _ (cE (S1.trans S2) n3) (fun x u hx=>sb _ _ (S4 _ _ (S3 _ _ (S2 _ _ (S1 _ _ hx)))) (npd x u (S2 _ _ (S1 _ _ hx)))) ek
theorem GZ (m:M K mg):Fc P w K mg base "there" 4 ["house","plan"] (uO K m.aO (aI P w K mg base (some 20))):=⟨_,_,m.Y6,m.qA.kp,m.Y8,RQ m⟩
theorem aCo {kvs:List (List Key×V)}:∀(o:Obj) (x:HO),HO.dT kvs≠ .frz o x:=fun _ _ z=>by cases z
theorem EL {rz:List (Str×Int)}{f:Int}{n:Nat} (h:rz.length<=20) (hn:n<=1001):(bI rz f n).length<=20100:=by
 rw[pN]
 calc _<=_:=Nat.le_refl _
  _<=20100:=by
   first|exact Nat.le_trans (Nat.mul_le_mul hn h) (by decide)|exact Nat.le_trans (Nat.mul_le_mul h hn) (by decide)
theorem nS {α β:Type}{F:α->β->Prop}:∀{l:List α}{m:List β},Paired F l m->Paired (fun b a=>F a b) m l
 | _,_,.nil=> .nil
 | _,_,.cons h t=> .cons h (nS t)
theorem aBn:∀{l:List Int},(∀x∈l,0<=x)->0<=l.sum
 | [],_=>by decide
 | a::l,h=>by
  rw[List.sum_cons];have h1:=h a (.head _);have h2:=aBn (l:=l) fun x hx=>h x (.tail _ hx)
  lia
theorem aAn {rz ps:List (Str×Int)}(h:sK rz ps)(z:Str):0<=bE ps z:=by
 unfold bE;refine aBn fun x hx=> ?_;obtain⟨p,hp,rfl⟩:=List.mem_map.mp hx;exact h.1 p (List.mem_filter.mp hp).1
inductive CH (K:W.Frag)(vs:List V)(H:Hp)(Q:VK)(E:XK):Prop
 | mk (a:Addr) (_:vs=[.ref a]) (_:SqL K H a []) (_:∀p H',H p=none->Same H H'->H' p=some (.dT [])->Q (.ref p) H'):CH K vs H Q E
theorem KC (m:M K mg):FnOk P w K mg base CX0 1 m.u8 m.vC ["plan"] (CH K):=by
 refine m.pT.ok sc_added_up (fun vs H Q E h=> ?_) (fun cdv A outer s H vs Q E hr h=> ?_)
 ·walk_at"g1";obtain⟨a,rfl,hS,k⟩:=h;walk_at"g2";rfl
 ·walk_at"g1";obtain⟨a,rfl,hS,k⟩:=h;walk_at"g2";have nd:=sc_added_up.nd;walk_at"hu";refine⟨_,(aD (aV (i:=1) nd rfl (by walk_at"oi") uJ)
   (aD (c4 PassesOwn.never rfl (bJ (pv 0)) (l7 (n:=3) rfl (aY (aG (i:=2) nd rfl (by walk_at"oi")) (aY (aG (i:=3) nd rfl (by walk_at"oi")) (aY (aG (i:=4) nd rfl (by walk_at"oi")) dG)))) (aF (hU hu1 (pv 1) (cB (aA (pv 2) (aA (pv 3) aB))) (aN cA (mN hu1 (pv 1) (cB (aA (pv 2) (aA (pv 3) aB))) aE ⟨rfl,rfl,rfl,rfl⟩) (pv 4)) rfl)))
   (aF (aU (pv 1))))),?_⟩
  refine aQ (σ:=[some (.ref a),none,none,none,none]) rfl ?_;walk_at"cx";walk_at"go";rename_i p H1 n1 S1 e1;let Pv1:Nat->St->Hp->Prop:=fun _ σ' H'=>H1=H'/\σ'=[some (.ref a),some (.ref p),none,none,none];refine gB [] Pv1 ⟨rfl,rfl⟩ (fun i σ' H' _ g=>by obtain⟨rfl,_⟩:=g;exact S1.seq hS) (fun i x σ' H' h=>(nomatch h)) ?_;rintro _ _ ⟨rfl,rfl⟩;walk_at"go";exact k _ _ n1 S1 e1
theorem KH (m:M K mg):Fc P w K mg base "added_up" 1 ["plan"] (CH K):=⟨_,_,m.OL,m.pT.kp,m.ON,KC m⟩
inductive zD (vs:List V)(_:Hp)(_:VK)(E:XK):Prop
 | mk (h:Addr) (t:Int) (n:Str) (_:vs=[.ref h,.int t,.str n]) (_:False):zD vs _ _ E
theorem AE (m:M K mg):FnOk P w K mg base CX0 24 m.m3 m.nQ ["house","turn","name"] (zD):=by
 refine m.j5.ok sc_most_through (fun vs H Q E h=> ?_) (fun cdv A outer s H vs Q E hr h=> ?_)
 ·walk_at"g1";obtain⟨h,t,n,rfl,hF⟩:=h;walk_at"g2";rfl
 ·walk_at"g1";obtain⟨h,t,n,rfl,hF⟩:=h;walk_at"g2";have nd:=sc_most_through.nd;walk_at"hu";refine⟨_,(aD (bO (aT qP (pv 2) (fJ 1 hr (pv 0)) (by with_unfolding_all rfl)) (aF (aU aE)) bB)
   (aF (aU (jH 22 hr (pv 0) (aA (pv 2) (aA (pv 1) aB)))))),?_⟩
  refine aQ (σ:=[some (.ref h),some (.int t),some (.str n)]) rfl ?_;walk_at"cx";exact hF.elim
theorem z8 (m:M K mg):Fc P w K mg base "most_through" 24 ["house","turn","name"] (zD):=⟨_,_,m.DQ,m.j5.kp,m.DM,AE m⟩
inductive BQ (K:W.Frag)(vs:List V)(H:Hp)(Q:VK)(E:XK):Prop
 | mk (h a:Addr) (_:vs=[.ref h,.ref a]) (_:SqL K H a []) (_:∀p H',H p=none->Same H H'->H' p=some (.lst [])->Q (.ref p) H'):BQ K vs H Q E
theorem CA (m:M K mg):FnOk P w K mg base CX0 25 m.o7 m.oV ["house","plan"] (BQ K):=by
 refine m.kY.ok sc_door_faults (fun vs H Q E h=> ?_) (fun cdv A outer s H vs Q E hr h=> ?_)
 ·walk_at"g1";obtain⟨h,a,rfl,hS,k⟩:=h;walk_at"g2";rfl
 ·walk_at"g1";obtain⟨h,a,rfl,hS,k⟩:=h;walk_at"g2";have nd:=sc_door_faults.nd;walk_at"hu";have pT:= @KH P w K mg base m;have j5:= @z8 P w K mg base m;refine⟨_,(aD (aV (i:=2) nd rfl (by walk_at"oi") (bD pT hr (aA (pv 1) aB)))
   (aF (aU (CQ (cF (N:=["turn","name","going","house"]) (nl:=2) (ci:=[2,0]) rfl (blk (s.heap.objs.size+1) rfl rfl rfl (by kernel_rfl)) (UM (pv 2)) (fun _ _ _ _=>(lN (K:=K) (n:=2) rfl (aY (aG (i:=0) (show (["turn","name","going","house"]:List Str).Nodup by decide +kernel) rfl (by walk_at"oi")) (aY (aG (i:=1) (show (["turn","name","going","house"]:List Str).Nodup by decide +kernel) rfl (by walk_at"oi")) dG)))) (fun _ _ _ _=>(tO (aT rW (dF hu1 (pv 2) (cB (aA (pv 0) (aA (pv 1) aB))) (fun _ _=>rfl)) (bD j5 hr (aA (pv 3) (aA (pv 0) (aA (pv 1) aB)))) (aX _)))) (fun _ _ _ _=>(cB (aA (pv 0) (aA cC (aA (pv 1) aB)))))))))),?_⟩
  refine aQ (σ:=[some (.ref h),some (.ref a),none]) rfl ?_;walk_at"cx";walk_at"go";refine⟨a,rfl,hS,fun p1 H1 n1 S1 e1=> ?_⟩;walk_at"go";refine yX e1 aCo ?_;walk_at"go";refine TF ?_;walk_at"go";refine UQ e1 fun o H2 B2 e2=> ?_;refine aAQ (fun _=>false) (fun _ _ _=>False) (fun _ _ _ _ h _=>h) (fun e he=>(nomatch he)) (by decide) (rest:=[some (.ref p1),some (.ref h)]) (by rfl) e2 (fun _ _ _ _ hm=>(nomatch hm)) (fun _ _ _ _ _ hc=>nomatch hc) ?_;intro ys H3 s3 hys;cases hys;walk_at"go";rename_i p4 H4 n4 S4 e4;refine rQ (S4 _ _ (s3 _ _ e2)) fun H5 B5 e5=> ?_;have hpq:p4≠p1:=fun z=>by rw[z,s3 _ _ e2]at n4;cases n4
  have hn:H p4=none:=by
   cases hq:H p4 with
   | none=>rfl
   | some u =>
    have:=s3 _ _ (B2 _ _ (S1 _ _ hq) hpq);rw[n4]at this;cases this
  have fr:∀b u,H b=some u->b≠p1:=fun b u hb z=>by rw[z,n1]at hb;cases hb
  exact k p4 H5 hn (fun b u hb=>B5 _ _ (S4 _ _ (s3 _ _ (B2 _ _ (S1 _ _ hb) (fr b u hb)))) (fr b u hb)) (B5 _ _ e4 hpq)
theorem CJ (m:M K mg):Fc P w K mg base "door_faults" 25 ["house","plan"] (BQ K):=⟨_,_,m.FN,m.kY.kp,m.FI,CA m⟩
inductive C7 (K:W.Frag)(C:Addr)(D:bL)(vs:List V)(H:Hp)(Q:VK)(E:XK):Prop
 | mk (h a b:Addr) (f l:Int) (rz ps:List (Str×Int)) (ds:List aL) (_:vs=[.ref h,.ref a,.ref b]) (_:bG C D H h f l rz ps ds) (_:HOk f l rz ps ds) (_:SqL K H a []) (_:H b=some (.dT (jD ps (bI rz f (l+1 - f).toNat)))) (_:∀p H',H p=none->Same H H'->H' p=some (.lst [])->Q (.ref p) H'):C7 K C D vs H Q E
theorem AD (m:M K mg):FnOk P w K mg base CX0 5 m.m5 m.m9 ["house","plan","inside"] (C7 K m.aO (aI P w K mg base (some 20))):=by
 refine m.j7.ok sc_leave_faults (fun vs H Q E h=> ?_) (fun cdv A outer s H vs Q E hr h=> ?_)
 ·walk_at"g1";obtain⟨h,a,b,f,l,rz,ps,ds,rfl,hh,ho,hS,eb,k⟩:=h;walk_at"g2";rfl
 ·walk_at"g1";obtain⟨h,a,b,f,l,rz,ps,ds,rfl,hh,ho,hS,eb,k⟩:=h;walk_at"g2";have nd:=sc_leave_faults.nd;walk_at"hu";have lR:= @AV P w K mg base m;have w_dc_House:=m.bK;have w_mc_House_pairs:= @mP P w K mg base m;refine⟨_,(aD (aV (i:=3) nd rfl (by walk_at"oi") (bD lR hr (aA (pv 0) (aA (pv 1) aB))))
   (aD (iN (i:=4) nd rfl (by walk_at"oi") (N:=["pair","house"]) (nl:=1) (ci:=[0]) rfl (blk (s.heap.objs.size+1) rfl rfl rfl (by kernel_rfl)) (bJ (fJ 1 hr (pv 0))) (fun _ _ _ _=>(aG (i:=0) (show (["pair","house"]:List Str).Nodup by decide +kernel) rfl (by walk_at"oi"))) (fun _ _ _ _=>(tO (aT lW (bC (fZ (K:=K)) (pv 0) aE (fun _ _=>rfl)) (i7 (K:=K) (pv 1) rfl) (aX _)))) (fun _ _ _ _=>(pv 0)))
   (aF (aU (cF (N:=["room","turn","inside","leave"]) (nl:=2) (ci:=[2,3]) rfl (blk (s.heap.objs.size+1) rfl rfl rfl (by kernel_rfl)) (bJ (pv 4)) (fun _ _ _ _=>(lN (K:=K) (n:=2) rfl (aY (aG (i:=0) (show (["room","turn","inside","leave"]:List Str).Nodup by decide +kernel) rfl (by walk_at"oi")) (aY (aG (i:=1) (show (["room","turn","inside","leave"]:List Str).Nodup by decide +kernel) rfl (by walk_at"oi")) dG)))) (fun _ _ _ _=>(tO (aT rW (mN hu1 (pv 3) (cB (aA (pv 0) (aA (pv 1) aB))) aE ⟨rfl,rfl,rfl,rfl⟩) (dF hu1 (pv 2) (cB (aA (pv 0) (aA (pv 1) aB))) (fun _ _=>rfl)) (aX _)))) (fun _ _ _ _=>(cB (aA (pv 1) (aA cC (aA (pv 0) aB)))))))))),?_⟩
  refine aQ (σ:=[some (.ref h),some (.ref a),some (.ref b),none,none]) rfl ?_;walk_at"cx";walk_at"g1";obtain⟨nr,ndd,h0,h1,h2,h3,lr,hft⟩:=ho;walk_at"g2";walk_at"g1";obtain⟨dx,qs,qp,qd,nk,kvs0,e1,_⟩:=hh.ex;walk_at"g2";walk_at"go";refine wD hh hS fun p1 H1 n1 S1 f1=> ?_;have e11:=S1 _ _ e1;walk_at"go";refine C3 (bN hh S1) h0 h1 h2 h3 lr fun p2 ys H2 n2 S2 f2 hys=> ?_;have e12:=S2 _ _ e11;walk_at"go";have hpn:(bI rz f (l+1 - f).toNat).length<=20100:=EL lr (by lia);have hyl:ys.length=(bI rz f (l+1 - f).toNat).length:=Paired.length hys;refine dH (α:=Str×Int) (xs:=bI rz f (l+1 - f).toNat) (vs:=ys) (bY H2) (fun x=>decide (x.2<l)) (fun x y H=>bY H y x) (fun _ _ _ _ ⟨q,h1,h2⟩ s=>⟨q,h1,s _ _ h2⟩) (by rw[sizeLine_eq];lia) (rest:=[some (.ref h)]) (by rfl) (SqL.of f2) hys ?_ ?_ ?_
  ·rintro v ⟨z,u⟩ H3 ⟨q3,rfl,hq3⟩ hm s3 R hR;have hq3:H3 q3=some (.tup [.str z,.int u]):=s3 _ _ hq3;have e13:=s3 _ _ e12;walk_at"go";refine⟨q3,_,1,_,rfl,rfl,SqT.of hq3,rfl,?_⟩;walk_at"go";exact hR _ (Same.refl _)
  ·rintro v x H3 ⟨q3,rfl,hq3⟩ hm - s3 R hR;walk_at"go";exact hR _ _ ⟨q3,rfl,s3 _ _ hq3⟩ (Same.refl _)
  intro zs H3 s3 hzs;have hzp:Paired (bY H3) zs ((bI rz f (l+1 - f).toNat).filter fun x=>decide (x.2<l)):=nS hzs;have hfl:((bI rz f (l+1 - f).toNat).filter fun x=>decide (x.2<l)).length<=20100:=Nat.le_trans (List.length_filter_le _ _) hpn;walk_at"go";rename_i p4 H4 n4 S4 e4;have s14:=S2.trans (s3.trans S4);have f14:=s14 _ _ f1;have eb4:=s14 _ _ (S1 _ _ eb);refine mS (α:=Str×Int) (xs:=(bI rz f (l+1 - f).toNat).filter fun x=>decide (x.2<l)) (vs:=zs) (fun x=> .str x.1) (fun x=> .int x.2) (fun _=>false) (fun _ _ _=>False) (fun _ _ _ _ h _=>h) (by rw[sizeLine_eq];lia) (rest:=[some (.ref b),some (.ref p1)]) (by rfl) (SqL.of e4) (kI hzp S4) ?_ (fun _ _ _ hc=>nomatch hc) ?_
  ·rintro ⟨z,u⟩ H5 hx s5 R hR;obtain⟨hx1,hx2⟩:=List.mem_filter.mp hx;have hp0:=aAn hft z;have f15:=s5 _ _ f14;have eb5:=s5 _ _ eb4;have hpi:bM (jD ps (bI rz f (l+1 - f).toNat)) (fF (z,u))=some (.int (bE ps z)):=uG (jL nr f (l+1 - f).toNat) hx1;show (_:TT) (some (V.str z)::some (V.int u)::[some (.ref b),some (.ref p1)]) H5 R;walk_at"go";refine vW f15 ?_;walk_at"go";rename_i b6 H6 n6 S6 e6;refine yO (fF (z,u)) (S6 _ _ f15) e6 ?_;rw[show (bM ([]:List (List Key×V)) (fF (z,u))).getD (.int 0)= .int 0 from rfl];walk_at"go";rename_i b7 H7 n7 S7 e7;refine uR (fF (z,u)) (.inl (S7 _ _ (S6 _ _ eb5))) e7 hpi ?_;walk_at"go";rw[decide_eq_false (by lia)];exact hR _ (S6.trans S7)
  intro ws H5 s5 hws;rw[List.filter_eq_nil_iff.mpr (fun _ _=>Bool.false_ne_true)]at hws;cases hws;walk_at"go";rename_i p6 H6 n6 S6 e6;exact k p6 H6 (cE (S1.trans (s14.trans s5)) n6) (S1.trans (s14.trans (s5.trans S6))) e6
theorem AG (m:M K mg):Fc P w K mg base "leave_faults" 5 ["house","plan","inside"] (C7 K m.aO (aI P w K mg base (some 20))):=⟨_,_,m.DU,m.j7.kp,m.DH,AD m⟩
inductive C4 (C:Addr)(D:bL)(vs:List V)(H:Hp)(Q:VK)(E:XK):Prop
 | mk (h b:Addr) (f l:Int) (rz ps:List (Str×Int)) (ds:List aL) (_:vs=[.ref h,.ref b]) (_:bG C D H h f l rz ps ds) (_:HOk f l rz ps ds) (_:H b=some (.dT (jD ps (bI rz f (l+1 - f).toNat)))) (_:∀p H',H p=none->Same H H'->H' p=some (.lst [])->Q (.ref p) H'):C4 C D vs H Q E
theorem CN (m:M K mg):FnOk P w K mg base CX0 5 m.pH m.o8 ["house","inside"] (C4 m.aO (aI P w K mg base (some 20))):=by
 refine m.k5.ok sc_full_faults (fun vs H Q E h=> ?_) (fun cdv A outer s H vs Q E hr h=> ?_)
 ·walk_at"g1";obtain⟨h,b,f,l,rz,ps,ds,rfl,hh,ho,eb,k⟩:=h;walk_at"g2";rfl
 ·walk_at"g1";obtain⟨h,b,f,l,rz,ps,ds,rfl,hh,ho,eb,k⟩:=h;walk_at"g2";have nd:=sc_full_faults.nd;walk_at"hu";have w_dc_House:=m.bK;have w_mc_House_pairs:= @mP P w K mg base m;have w_mc_House_holds:= @mX P w K mg base m;refine⟨_,(aF (aU (cF (N:=["room","turn","inside","house"]) (nl:=2) (ci:=[1,0]) rfl (blk (s.heap.objs.size+1) rfl rfl rfl (by kernel_rfl)) (bJ (fJ 1 hr (pv 0))) (fun _ _ _ _=>(lN (K:=K) (n:=2) rfl (aY (aG (i:=0) (show (["room","turn","inside","house"]:List Str).Nodup by decide +kernel) rfl (by walk_at"oi")) (aY (aG (i:=1) (show (["room","turn","inside","house"]:List Str).Nodup by decide +kernel) rfl (by walk_at"oi")) dG)))) (fun _ _ _ _=>(tO (aT rW (dF hu1 (pv 2) (cB (aA (pv 0) (aA (pv 1) aB))) (fun _ _=>rfl)) (qR (P:=P) (w:=w) (K:=K) (mg:=mg) (base:=base) 3 hr (pv 3) (aA (pv 0) aB)) (aX _)))) (fun _ _ _ _=>(cB (aA (pv 1) (aA cC (aA (pv 0) aB)))))))),?_⟩;refine aQ (σ:=[some (.ref h),some (.ref b)]) rfl ?_;walk_at"cx";walk_at"g1";obtain⟨nr,ndd,h0,h1,h2,h3,lr,hft⟩:=ho;walk_at"g2";walk_at"g1";obtain⟨dx,qs,qp,qd,nk,kvs0,e1,_⟩:=hh.ex;walk_at"g2";walk_at"go";refine C3 hh h0 h1 h2 h3 lr fun p2 ys H2 n2 S2 f2 hys=> ?_;have hpn:(bI rz f (l+1 - f).toNat).length<=20100:=EL lr (by lia);have eb2:=S2 _ _ eb;have hh2:=bN hh S2;have e12:=S2 _ _ e1;walk_at"go";refine mS (α:=Str×Int) (xs:=bI rz f (l+1 - f).toNat) (vs:=ys) (fun x=> .str x.1) (fun x=> .int x.2) (fun _=>false) (fun _ _ _=>False) (fun _ _ _ _ h _=>h) (by rw[sizeLine_eq];lia) (rest:=[some (.ref b),some (.ref h)]) (by rfl) (SqL.of f2) hys ?_ (fun _ _ _ hc=>nomatch hc) ?_
  ·rintro ⟨z,u⟩ H5 hx1 s5 R hR;walk_at"g1";obtain⟨hz,i,hi,hu⟩:=pairsN_mem.mp hx1;walk_at"g2";walk_at"g1";obtain⟨⟨ez,ej⟩,he,hez⟩:=List.mem_map.mp hz;walk_at"g2";have hez:ez=z:=hez;subst hez;have hle:bE ps ez<=ej:=hft.2 _ he;have eb5:=s5 _ _ eb2;have e15:=s5 _ _ e12;have hpi:bM (jD ps (bI rz f (l+1 - f).toNat)) (fF (ez,u))=some (.int (bE ps ez)):=uG (jL nr f (l+1 - f).toNat) hx1;show (_:TT) (some (V.str ez)::some (V.int u)::[some (.ref b),some (.ref h)]) H5 R;walk_at"go";rename_i b7 H7 n7 S7 e7;refine uR (fF (ez,u)) (.inl (S7 _ _ eb5)) e7 hpi ?_;have e17:=S7 _ _ e15;walk_at"go";refine C0 (bN hh2 (s5.trans S7)) nr he fun H8 S8=> ?_;walk_at"go";rw[decide_eq_false (by lia)];exact hR _ (S7.trans S8)
  intro ws H5 s5 hws;rw[List.filter_eq_nil_iff.mpr (fun _ _=>Bool.false_ne_true)]at hws;cases hws;walk_at"go";rename_i p6 H6 n6 S6 e6;exact k p6 H6 (cE (S2.trans s5) n6) (S2.trans (s5.trans S6)) e6
theorem BY (m:M K mg):Fc P w K mg base "full_faults" 5 ["house","inside"] (C4 m.aO (aI P w K mg base (some 20))):=⟨_,_,m.FZ,m.k5.kp,m.FP,CN m⟩
inductive GC (K:W.Frag)(C:Addr)(D:bL)(vs:List V)(H:Hp)(Q:VK)(E:XK):Prop
 | mk (h a:Addr) (f l:Int) (rz ps:List (Str×Int)) (ds:List aL) (_:vs=[.ref h,.ref a]) (_:bG C D H h f l rz ps ds) (_:HOk f l rz ps ds) (_:SqL K H a []) (_:∀p H',H p=none->Same H H'->H' p=some (.lst [])->Q (.ref p) H'):GC K C D vs H Q E
theorem PD (m:M K mg):FnOk P w K mg base CX0 26 m.zY m.zO ["house","plan"] (GC K m.aO (aI P w K mg base (some 20))):=by
 refine m.u5.ok sc_faults (fun vs H Q E h=> ?_) (fun cdv A outer s H vs Q E hr h=> ?_)
 ·walk_at"g1";obtain⟨h,a,f,l,rz,ps,ds,rfl,hh,ho,hS,k⟩:=h;walk_at"g2";rfl
 ·walk_at"g1";obtain⟨h,a,f,l,rz,ps,ds,rfl,hh,ho,hS,k⟩:=h;walk_at"g2";have nd:=sc_faults.nd;walk_at"hu";have kY:= @CJ P w K mg base m;have k5:= @BY P w K mg base m;have j7:= @AG P w K mg base m;have qA:= @GZ P w K mg base m;have w_dc_House:=m.bK;refine⟨_,(aD (aV (i:=2) nd rfl (by walk_at"oi") (bD qA hr (aA (pv 0) (aA (pv 1) aB))))
   (aF (aU (bT GE rfl m.JY D0 (aA (aN nZ (aN nZ (bD kY hr (aA (pv 0) (aA (pv 1) aB))) (bD j7 hr (aA (pv 0) (aA (pv 1) (aA (pv 2) aB))))) (bD k5 hr (aA (pv 0) (aA (pv 2) aB)))) aB))))),?_⟩
  refine aQ (σ:=[some (.ref h),some (.ref a),none]) rfl ?_;walk_at"cx";walk_at"go";refine LQ hh ho hS fun p1 H1 n1 S1 e1=> ?_;walk_at"go";refine⟨_,_,rfl,S1.seq hS,fun p2 H2 n2 S2 e2=> ?_⟩;have s02:=S1.trans S2;walk_at"go";refine⟨_,_,_,_,_,_,_,_,rfl,bN hh s02,ho,s02.seq hS,S2 _ _ e1,fun p3 H3 n3 S3 e3=> ?_⟩;have s03:=s02.trans S3;walk_at"go";refine pY (S3 _ _ e2) e3 (by decide) fun p4 H4 n4 S4 e4=> ?_;have s04:=s03.trans S4;walk_at"go";refine⟨_,_,_,_,_,_,_,rfl,bN hh s04,ho,(S2.trans (S3.trans S4)) _ _ e1,fun p5 H5 n5 S5 e5=> ?_⟩;walk_at"go";rename_i p6 H6 n6 S6 e6;have e6:H6 p6=some (.lst []):=e6;have s06:=s04.trans (S5.trans S6);refine SQ (rs:=[]) (sh:=[true]) (SqL.of e6) .nil (by decide) (fun _ z=>nomatch z) (by decide) fun p7 ws H7 n7 S7 e7 hws=> ?_;rw[show AZ []=[] from rfl]at hws;cases hws;exact k p7 H7 (cE s06 n7) (s06.trans S7) e7
theorem RD (m:M K mg):Fc P w K mg base "faults" 26 ["house","plan"] (GC K m.aO (aI P w K mg base (some 20))):=⟨_,_,m.U9,m.u5.kp,m.U1,PD m⟩
inductive yU (K:W.Frag)(C:Addr)(D:bL)(vs:List V)(H:Hp)(Q:VK)(E:XK):Prop
 | mk (h a:Addr) (f l:Int) (rz ps:List (Str×Int)) (ds:List aL) (_:vs=[.ref h,.ref a]) (_:bG C D H h f l rz ps ds) (_:HOk f l rz ps ds) (_:SqL K H a []) (_:∀H',Same H H'->Q .non H'):yU K C D vs H Q E
theorem BP (m:M K mg):FnOk P w K mg base CX0 27 m.oX m.o0 ["house","plan"] (yU K m.aO (aI P w K mg base (some 20))):=by
 refine m.kZ.ok sc_need_lawful (fun vs H Q E h=> ?_) (fun cdv A outer s H vs Q E hr h=> ?_)
 ·walk_at"g1";obtain⟨h,a,f,l,rz,ps,ds,rfl,hh,ho,hS,k⟩:=h;walk_at"g2";rfl
 ·walk_at"g1";obtain⟨h,a,f,l,rz,ps,ds,rfl,hh,ho,hS,k⟩:=h;walk_at"g2";have nd:=sc_need_lawful.nd;walk_at"hu";have u5:= @RD P w K mg base m;refine⟨_,(aF (bO (aT rW (bT fG rfl m.k4 iX (aA (bD u5 hr (aA (pv 0) (aA (pv 1) aB))) aB)) aE (aX _)) (aF eJ) bB)),?_⟩;refine aQ (σ:=[some (.ref h),some (.ref a)]) rfl ?_;walk_at"cx";walk_at"go";refine⟨_,_,_,_,_,_,_,rfl,hh,ho,hS,fun p H1 n1 S1 e1=> ?_⟩;walk_at"go";exact k _ S1
theorem C5 (m:M K mg):Fc P w K mg base "need_lawful" 27 ["house","plan"] (yU K m.aO (aI P w K mg base (some 20))):=⟨_,_,m.F5,m.kZ.kp,m.F0,BP m⟩
inductive Hap where
 | shut (n:Str) (t:Int)
 | wider (n:Str) (t i:Int)
 | found (z:Str) (i:Int)
 | door (d:aL)
def HapAt (D:bL)(H:Hp)(v:V):Hap->Prop
 | .shut n t=>∃q,v= .ref q/\H q=some (.tup [.str "shut",.str n,.int t])
 | .wider n t i=>∃q,v= .ref q/\H q=some (.tup [.str "wider",.str n,.int t,.int i])
 | .found z i=>∃q,v= .ref q/\H q=some (.tup [.str "found",.str z,.int i])
 | .door d=>∃q u,v= .ref q/\H q=some (.tup [.str "door",u])/\D.at' H u d
theorem HapAt.same {D:bL}{H H':Hp}{v:V}:∀{h:Hap},HapAt D H v h->Same H H'->HapAt D H' v h
 | .shut _ _,⟨q,e,g⟩,s=>⟨q,e,s _ _ g⟩
 | .wider _ _ _,⟨q,e,g⟩,s=>⟨q,e,s _ _ g⟩
 | .found _ _,⟨q,e,g⟩,s=>⟨q,e,s _ _ g⟩
 | .door _,⟨q,u,e,g,d⟩,s=>⟨q,u,e,s _ _ g,D.same d s⟩
def chg (n:Str)(g:LT->LT)(d:aL):aL:=if d.1=n then (d.1,d.2.1,d.2.2.1,g d.2.2.2) else d
def aft (ds:List aL):Hap->List aL
 | .shut n t=>ds.map (chg n (jF t))
 | .wider n t i=>ds.map (chg n (gE t i))
 | .found _ _=>ds
 | .door d=>ds++[d]
theorem GB (n:Str)(g:LT->LT)(d:aL):(chg n g d).1=d.1/\(chg n g d).2.1=d.2.1/\(chg n g d).2.2.1=d.2.2.1:=by
 unfold chg
 split<;>exact⟨rfl,rfl,rfl⟩
theorem ED (n:Str)(g:LT->LT)(ds:List aL):(ds.map (chg n g)).map (·.1)=ds.map (·.1):=by
 rw[List.map_map];exact List.map_congr_left fun d _=>(GB n g d).1
structure AY (rz:List (Str×Int))(ds:List aL)(h:Hap):Prop where
 sh:∀n t,h= .shut n t->n∈ds.map (·.1)/\0<=t
 wi:∀n t i,h= .wider n t i->n∈ds.map (·.1)/\0<=t/\0<=i
 fo:∀z i,h= .found z i->z∈rz.map (·.1)/\0<=i
 dn:∀d,h= .door d->d.1∉ds.map (·.1)/\d.2.2.2.dep=4
structure zG (rz:List (Str×Int))(ds:List aL)(k:Nat):Prop where
 nd:(ds.map (·.1)).Nodup
 ok:∀d∈ds,DOk rz d
 dep:∀d∈ds,d.2.2.2.dep<=4+k
 len:ds.length<=16
theorem DW {H:Hp}{Q:VK}{p:Addr}{z:Str}{ss:List Str} (e:SqL K H p (ss.map V.str)) (h:Q (.bl (!decide (z∈ss))) H):rIn K true (.str z) (.ref p) H Q:=by
 walk_at"g1";obtain⟨p',xs,e1,e2,e3,e4,e5⟩:=vS (Q:=fun v H'=>v= .bl (decide (z∈ss))/\H'=H) e ⟨rfl,rfl⟩;walk_at"g2";refine⟨p',xs,e1,e2,e3,e4,?_⟩;have e5:V.bl (inV (.str z) xs)= .bl (decide (z∈ss)):=e5.1;have e6:inV (.str z) xs=decide (z∈ss):=by injection e5
 show Q (.bl (!inV (.str z) xs)) H;rw[e6];exact h
inductive tX (K:W.Frag)(D:bL)(vs:List V)(H:Hp)(Q:VK)(E:XK):Prop
 | mk (a:Addr) (n:Str) (us:List V) (ds:List aL) (j:Nat) (_:vs=[.ref a,.str n]) (_:SqL K H a us) (_:Paired (D.at' H) us ds) (_:ds.length<=20) (_:(ds.map (·.1)).Nodup) (_:(ds.map (·.1))[j]? =some n) (_:∀H',Same H H'->Q (.int j) H'):tX K D vs H Q E
theorem KD (m:M K mg):FnOk P w K mg base CX0 1 m.u7 m.vB ["doors","name"] (tX K (aI P w K mg base (some 20))):=by
 refine m.pV.ok sc_place_of (fun vs H Q E h=> ?_) (fun cdv A outer s H vs Q E hr h=> ?_)
 ·walk_at"g1";obtain⟨a,n,us,ds,j,rfl,hS,hd,hl,hnd,hj,k⟩:=h;walk_at"g2";rfl
 ·walk_at"g1";obtain⟨a,n,us,ds,j,rfl,hS,hd,hl,hnd,hj,k⟩:=h;walk_at"g2";have nd:=sc_place_of.nd;walk_at"hu";refine⟨_,(aD (iN (i:=2) nd rfl (by walk_at"oi") (N:=["door"]) (nl:=1) (ci:=[]) rfl (blk (s.heap.objs.size+1) rfl rfl rfl (by kernel_rfl)) (bJ (pv 0)) (fun _ _ _ _=>(aG (i:=0) (show (["door"]:List Str).Nodup by decide +kernel) rfl (by walk_at"oi"))) (fun _ _ _ _=>cI) (fun _ _ _ _=>(i7 (K:=K) (pv 0) rfl)))
   (aD (bO (aT qP (pv 1) (pv 2) (by with_unfolding_all rfl)) (aF eJ) bB)
   (aF (aU (uH PySem.F.plainAttrs_list PySem.F.slot_list_index PySem.F.type_list_index UL (pv 2) (aA (pv 1) aB)))))),?_⟩
  refine aQ (σ:=[some (.ref a),some (.str n),none]) rfl ?_;walk_at"cx";have hul:=Paired.length hd;walk_at"go";refine dH ((aI P w K mg base (some 20)).at' H) (fun _=>true) (fun d y _=>y=V.str d.1) (fun _ _ _ _ h _=>h) (by rw[sizeLine_eq];lia) (rest:=[]) (by rfl) hS hd ?_ ?_ ?_
  ·intro v x H2 _ _ _ R hR;exact hR _ (Same.refl _)
  ·rintro v ⟨n1,st,e,lt⟩ H2 hv hm - s2 R hR;walk_at"g1";obtain⟨q,C9,dx,fs,fp,rfl,hq,dcC,l1,l2,l3,l4,l5,mcE,hfp,hlt⟩:=DoorAt.ex ((aI P w K mg base (some 20)).same hv s2);walk_at"g2";walk_at"go";exact hR _ _ rfl (Same.refl _)
  intro ys H1 S1 hys;rw[List.filter_eq_self.mpr (fun _ _=>rfl)]at hys;obtain rfl:=d3 hys;walk_at"go";rename_i p2 H2 n2 S2 e2;have e2':H2 p2=some (.lst ((ds.map (·.1)).map V.str)):=by rw[e2,List.map_map];rfl
  refine DW (SqL.of e2') ?_;rw[decide_eq_true (List.mem_of_getElem? hj)];walk_at"go";exact⟨_,_,_,j,rfl,rfl,e2',hj,qK hnd hj,by rw[List.length_map];lia,k _ (S1.trans S2)⟩
theorem KS (m:M K mg):Fc P w K mg base "place_of" 1 ["doors","name"] (tX K (aI P w K mg base (some 20))):=⟨_,_,m.OH,m.pV.kp,m.OJ,KD m⟩
theorem MJ {D:bL}{H:Hp}{Q:VK}{E:XK}{a:Addr}{n:Str}{us:List V}{ds:List aL}{j:Nat} (hS:SqL K H a us) (hd:Paired (D.at' H) us ds) (hl:ds.length<=20) (nd:(ds.map (·.1)).Nodup) (hj:(ds.map (·.1))[j]? =some n) (k:∀H',Same H H'->Q (.int j) H'):tX K D [.ref a,.str n] H Q E:=⟨_,_,_,_,_,rfl,hS,hd,hl,nd,hj,k⟩
inductive JG (D:bL)(vs:List V)(H:Hp)(Q:VK)(E:XK):Prop
 | mk (u v:V) (rz:List (Str×Int)) (d:aL) (_:vs=[u,v]) (_:D.at' H u d) (_:DOk rz d) (_:d.2.2.2.dep<20) (_:((∃n t,HapAt D H v (.shut n t)/\0<=t/\∀p H',Same H H'->D.at' H' (.ref p) (d.1,d.2.1,d.2.2.1,jF t d.2.2.2)->Q (.ref p) H')∨(∃n t i,HapAt D H v (.wider n t i)/\0<=t/\0<=i/\∀p H',Same H H'->D.at' H' (.ref p) (d.1,d.2.1,d.2.2.1,gE t i d.2.2.2)->Q (.ref p) H'))):JG D vs H Q E
local macro_rules| `(tactic| walk_at"rd1")=> `(tactic| ((with_reducible refine' ZS ?e ?l ?_);(case e=>walk_at"hp");(case l=>rfl)))
theorem z9 (m:M K mg):FnOk P w K mg base CX0 6 m.m7 m.nJ ["door","happening"] (JG (aI P w K mg base (some 20))):=by
 refine m.j6.ok sc_changed_door (fun vs H Q E h=> ?_) (fun cdv A outer s H vs Q E hr h=> ?_)
 ·walk_at"g1";obtain⟨u,v,rz,d,rfl,hd,hok,hdep,hc⟩:=h;walk_at"g2";rfl
 ·walk_at"g1";obtain⟨u,v,rz,d,rfl,hd,hok,hdep,hc⟩:=h;walk_at"g2";have nd:=sc_changed_door.nd;walk_at"hu";have K_Shut_0:= @O5 P w K mg base m;have K_Wider_0:= @OC P w K mg base m;have w_dc_Shut:=m.tU;have w_dc_Wider:=m.q0;refine⟨_,(aD (bO (aT gZ (bC b9 (pv 1) aE (fun _ _=>rfl)) cC (aX _)) (aF (aU (uS K_Shut_0 hr (aA (pv 0) (aA (bC b9 (pv 1) aE (fun _ _=>rfl)) aB))))) bB)
   (aF (aU (uS K_Wider_0 hr (aA (pv 0) (aA (bC b9 (pv 1) aE (fun _ _=>rfl)) (aA (bC b9 (pv 1) aE (fun _ _=>rfl)) aB))))))),?_⟩
  refine aQ (σ:=[some (u),some (v)]) rfl ?_;walk_at"cx";walk_at"g1";obtain⟨n1,st,e,lt⟩:=d;walk_at"g2";walk_at"g1";obtain⟨q,C9,dx,fs,fp,rfl,hq,dcC,l1,l2,l3,l4,l5,mcE,hfp,hlt⟩:=DoorAt.ex hd;walk_at"g2";walk_at"g1";obtain⟨hn,hs,he,hin,hpos⟩:=hok;walk_at"g2";rcases hc with⟨n,t,⟨q1,rfl,hq1⟩,t0,k⟩|⟨n,t,i,⟨q1,rfl,hq1⟩,t0,i0,k⟩
  ·walk_at"go";refine TY rfl w_dc_Shut dcC hq l1 l2 l3 hn hs he t0 fun p dx' H' n' S' e'=>k p H' S' (Y2 (P:=P) (w:=w) (base:=base) m ((aI P w K mg base (some 20)).same hd S') hdep e')
  ·walk_at"go";refine Q5 rfl w_dc_Wider dcC hq l1 l2 l3 hn hs he t0 i0 fun p dx' H' n' S' e'=>k p H' S' (UG (P:=P) (w:=w) (base:=base) m ((aI P w K mg base (some 20)).same hd S') hdep e')
theorem BB (m:M K mg):Fc P w K mg base "changed_door" 6 ["door","happening"] (JG (aI P w K mg base (some 20))):=⟨_,_,m.DG,m.j6.kp,m.DC,z9 m⟩
theorem r6 {α β:Type}{F:α->β->Prop}:∀{l:List α}{m:List β},Paired F l m->∀k:Nat,Paired F (l.take k) (m.take k)
 | _,_,.nil,k=>by rw[List.take_nil,List.take_nil];exact .nil
 | _,_,.cons h t,0=> .nil
 | _,_,.cons h t,k+1=> .cons h (r6 t k)
theorem r9 {α β:Type}{F:α->β->Prop}:∀{l:List α}{m:List β},Paired F l m->∀k:Nat,Paired F (l.drop k) (m.drop k)
 | _,_,.nil,k=>by rw[List.drop_nil,List.drop_nil];exact .nil
 | _,_,.cons h t,0=> .cons h t
 | _,_,.cons h t,k+1=>r9 t k
theorem QA {n:Str}{g:LT->LT}{ds:List aL} (nd:(ds.map (·.1)).Nodup) {j:Nat}{d:aL} (hj:ds[j]? =some d) (hn:d.1=n):ds.map (chg n g)=ds.take j++[(d.1,d.2.1,d.2.2.1,g d.2.2.2)]++ds.drop (j+1):=by
 have hl:j<ds.length:=(List.getElem?_eq_some_iff.mp hj).1;have hd:ds[j]=d:=(List.getElem?_eq_some_iff.mp hj).2;have e:ds=ds.take j++d::ds.drop (j+1):=by
  rw[←hd,←List.drop_eq_getElem_cons hl,List.take_append_drop]
 have oth:∀x∈ds.take j++ds.drop (j+1),x.1≠n:=fun x hx z=>by
  rw[e,List.map_append,List.map_cons,List.nodup_append]at nd;obtain⟨n1,n2,n3⟩:=nd;rw[List.nodup_cons]at n2;rcases List.mem_append.mp hx with h|h
  ·exact n3 _ (List.mem_map.mpr ⟨x,h,rfl⟩) _ (.head _) (z.trans hn.symm)
  ·exact n2.1 (by rw[hn,←z];exact List.mem_map.mpr ⟨x,h,rfl⟩)
 have idl:∀l:List aL,(∀x∈l,x.1≠n)->l.map (chg n g)=l:=fun l h=>by
  conv=>rhs;rw[←List.map_id l]
  exact List.map_congr_left fun x hx=>by unfold chg;rw[if_neg (h x hx)];rfl
 conv=>lhs;rw[e]
 rw[List.map_append,List.map_cons,idl _ fun x hx=>oth x (List.mem_append_left _ hx),idl _ fun x hx=>oth x (List.mem_append_right _ hx)];unfold chg;rw[if_pos hn,List.append_assoc];rfl
theorem MN (xs:List V)(i:Nat):mO xs none (some (i:Int))=xs.take i:=by
 unfold mO;rw[HT.sIx_none,HT.sIx_nat,List.drop_zero,Nat.sub_zero];rcases Nat.le_total i xs.length with h|h
 ·rw[Nat.min_eq_left h]
 ·rw[Nat.min_eq_right h,List.take_length,List.take_of_length_le h]
theorem D2 (xs:List V)(i:Nat):mO xs (some (i:Int)) none=xs.drop i:=by
 unfold mO;rw[HT.sIx_none,HT.sIx_nat];rcases Nat.le_total i xs.length with h|h
 ·rw[Nat.min_eq_left h,List.take_of_length_le (by rw[List.length_drop];lia)]
 ·rw[Nat.min_eq_right h,List.drop_of_length_le h,List.drop_of_length_le (Nat.le_refl _),List.take_nil]
inductive CV (K:W.Frag)(D:bL)(vs:List V)(H:Hp)(Q:VK)(E:XK):Prop
 | mk (a:Addr) (v:V) (us:List V) (rz:List (Str×Int)) (ds:List aL) (h:Hap) (k:Nat) (_:vs=[.ref a,v]) (_:H a=some (.lst us)) (_:Paired (D.at' H) us ds) (_:zG rz ds k) (_:k<16) (_:HapAt D H v h) (_:AY rz ds h) (_:∀p us' H',Same H H'->H' p=some (.lst us')->Paired (D.at' H') us' (aft ds h)->Q (.ref p) H'):CV K D vs H Q E
theorem jO {D:bL}{H H':Hp}{us:List V}{ds:List aL} (h:Paired (D.at' H) us ds) (s:Same H H'):Paired (D.at' H') us ds:=Paired.imp' (fun _ _ x=>D.same x s) h
theorem CM (m:M K mg):FnOk P w K mg base CX0 7 m.oZ m.oT ["doors","happening"] (CV K (aI P w K mg base (some 20))):=by
 refine m.kX.ok sc_doors_after (fun vs H Q E h=> ?_) (fun cdv A outer s H vs Q E hr h=> ?_)
 ·walk_at"g1";obtain⟨a,v,us,rz,ds,hp,kk,rfl,hS,hd,dok,hkk,hA,hO,k⟩:=h;walk_at"g2";rfl
 ·walk_at"g1";obtain⟨a,v,us,rz,ds,hp,kk,rfl,hS,hd,dok,hkk,hA,hO,k⟩:=h;walk_at"g2";have nd:=sc_doors_after.nd;walk_at"hu";have j6:= @BB P w K mg base m;have pV:= @KS P w K mg base m;refine⟨_,(aD (bO (aT gZ (bC b9 (pv 1) aE (fun _ _=>rfl)) cC (aX _)) (aF (aU (pv 0))) bB)
   (aD (bO (aT gZ (bC b9 (pv 1) aE (fun _ _=>rfl)) cC (aX _)) (aF (aU (aN nZ (pv 0) (fU (aA (bC b9 (pv 1) aE (fun _ _=>rfl)) aB))))) bB)
   (aD (aV (i:=2) nd rfl (by walk_at"oi") (bD pV hr (aA (pv 0) (aA (bC b9 (pv 1) aE (fun _ _=>rfl)) aB))))
   (aF (aU (aN nZ (aN nZ (iP xI (pv 0) mQ (iE (pv 2))) (fU (aA (bD j6 hr (aA (bC fH (pv 0) (pv 2) (fun _ _=>rfl)) (aA (pv 1) aB))) aB))) (iP xI (pv 0) (iE (aN cA (pv 2) aE)) mQ))))))),?_⟩
  refine aQ (σ:=[some (.ref a),some (v),none]) rfl ?_;walk_at"cx";have hul:=Paired.length hd;have hdl:=dok.len;cases hp with
  | found z i =>
   obtain⟨q,rfl,hq⟩:=hA;walk_at"go";exact k _ _ _ (Same.refl _) hS hd
  | door d =>
   walk_at"g1";obtain⟨q,u,rfl,hq,hu⟩:=hA;walk_at"g2";walk_at"go";rename_i p1 H1 n1 S1 e1 p2 H2 n2 S2 e2;exact k _ _ _ (S1.trans S2) e2 (L2.Paired.snoc (jO hd (S1.trans S2)) ((aI P w K mg base (some 20)).same hu (S1.trans S2)))
  | shut n t =>
   obtain⟨q,rfl,hq⟩:=hA;obtain⟨hn,t0⟩:=hO.sh n t rfl;obtain⟨d0,hd0,rfl⟩:=List.mem_map.mp hn;obtain⟨j,hjl,hje⟩:=List.getElem_of_mem hd0;have hj:ds[j]? =some d0:=by rw[List.getElem?_eq_getElem hjl,hje]
   have hjn:(ds.map (·.1))[j]? =some d0.1:=by rw[List.getElem?_map,hj];rfl
   walk_at"go";refine MJ (SqL.of hS) hd (by lia) dok.nd hjn fun H1 S1=> ?_;have hS1:=S1 _ _ hS;have hq1:=S1 _ _ hq;walk_at"go";rename_i p2 H2 n2 S2 e2;have e2':H2 p2=some (.lst (us.take j)):=by rw[e2];exact congrArg (fun z=>some (HO.lst z)) (MN us j)
   have hS2:=S2 _ _ hS1;have hq2:=S2 _ _ hq1;have ht:=jO hd (S1.trans S2);obtain⟨u0,hu0⟩:∃u0,us[j]? =some u0:=⟨_,List.getElem?_eq_getElem (by lia)⟩
   have hat:=L2.Paired.at2 ht hu0 hj;have hdep:=dok.dep d0 hd0;refine⟨a,us,_,_,rfl,rfl,SqL.of hS2,d7 hu0,?_⟩;walk_at"go";refine⟨u0,.ref q,rz,d0,rfl,hat,dok.ok d0 hd0,by lia,.inl ⟨d0.1,t,⟨q,rfl,hq2⟩,t0,fun p3 H3 S3 h3=> ?_⟩⟩;have hS3:=S3 _ _ hS2;have e23:=S3 _ _ e2';walk_at"go";rename_i p4 H4 n4 S4 e4;refine pY (S4 _ _ e23) e4 (by rw[sizeLine_eq,List.length_take];simp only[List.length_cons,List.length_nil];lia) fun p5 H5 n5 S5 e5=> ?_;have hS5:=S5 _ _ (S4 _ _ hS3);walk_at"go";rename_i p6 H6 n6 S6 e6;have e6':H6 p6=some (.lst (us.drop (j+1))):=by
    rw[e6];exact congrArg (fun z=>some (HO.lst z)) (D2 us (j+1))
   refine pY (S6 _ _ e5) e6' (by rw[sizeLine_eq,List.length_append,List.length_take,List.length_drop];simp only[List.length_cons,List.length_nil];lia) fun p7 H7 n7 S7 e7=> ?_;have s37:=((S4.trans S5).trans S6).trans S7;have sA:=((S1.trans S2).trans S3).trans s37;refine k _ _ _ sA e7 ?_;show Paired _ _ (ds.map (chg d0.1 (jF t)));rw[QA dok.nd hj rfl];have hT:=jO hd sA;exact iI (iI (r6 hT j) (.cons ((aI P w K mg base (some 20)).same h3 s37) .nil)) (r9 hT (j+1))
  | wider n t i =>
   obtain⟨q,rfl,hq⟩:=hA;obtain⟨hn,t0,i0⟩:=hO.wi n t i rfl;obtain⟨d0,hd0,rfl⟩:=List.mem_map.mp hn;obtain⟨j,hjl,hje⟩:=List.getElem_of_mem hd0;have hj:ds[j]? =some d0:=by rw[List.getElem?_eq_getElem hjl,hje]
   have hjn:(ds.map (·.1))[j]? =some d0.1:=by rw[List.getElem?_map,hj];rfl
   walk_at"go";refine MJ (SqL.of hS) hd (by lia) dok.nd hjn fun H1 S1=> ?_;have hS1:=S1 _ _ hS;have hq1:=S1 _ _ hq;walk_at"go";rename_i p2 H2 n2 S2 e2;have e2':H2 p2=some (.lst (us.take j)):=by rw[e2];exact congrArg (fun z=>some (HO.lst z)) (MN us j)
   have hS2:=S2 _ _ hS1;have hq2:=S2 _ _ hq1;have ht:=jO hd (S1.trans S2);obtain⟨u0,hu0⟩:∃u0,us[j]? =some u0:=⟨_,List.getElem?_eq_getElem (by lia)⟩
   have hat:=L2.Paired.at2 ht hu0 hj;have hdep:=dok.dep d0 hd0;refine⟨a,us,_,_,rfl,rfl,SqL.of hS2,d7 hu0,?_⟩;walk_at"go";refine⟨u0,.ref q,rz,d0,rfl,hat,dok.ok d0 hd0,by lia,.inr ⟨d0.1,t,i,⟨q,rfl,hq2⟩,t0,i0,fun p3 H3 S3 h3=> ?_⟩⟩;have hS3:=S3 _ _ hS2;have e23:=S3 _ _ e2';walk_at"go";rename_i p4 H4 n4 S4 e4;refine pY (S4 _ _ e23) e4 (by rw[sizeLine_eq,List.length_take];simp only[List.length_cons,List.length_nil];lia) fun p5 H5 n5 S5 e5=> ?_;have hS5:=S5 _ _ (S4 _ _ hS3);walk_at"go";rename_i p6 H6 n6 S6 e6;have e6':H6 p6=some (.lst (us.drop (j+1))):=by
    rw[e6];exact congrArg (fun z=>some (HO.lst z)) (D2 us (j+1))
   refine pY (S6 _ _ e5) e6' (by rw[sizeLine_eq,List.length_append,List.length_take,List.length_drop];simp only[List.length_cons,List.length_nil];lia) fun p7 H7 n7 S7 e7=> ?_;have s37:=((S4.trans S5).trans S6).trans S7;have sA:=((S1.trans S2).trans S3).trans s37;refine k _ _ _ sA e7 ?_;show Paired _ _ (ds.map (chg d0.1 (gE t i)));rw[QA dok.nd hj rfl];have hT:=jO hd sA;exact iI (iI (r6 hT j) (.cons ((aI P w K mg base (some 20)).same h3 s37) .nil)) (r9 hT (j+1))
theorem BS (m:M K mg):Fc P w K mg base "doors_after" 7 ["doors","happening"] (CV K (aI P w K mg base (some 20))):=⟨_,_,m.F3,m.kX.kp,m.FH,CM m⟩
def dsA (ds:List aL)(hs:List Hap)(i:Nat):List aL:=(hs.take i).foldl aft ds
structure wC (rz:List (Str×Int))(ds:List aL)(hs:List Hap):Prop where
 len:hs.length<=12
 dsok:∀i,i<=hs.length->zG rz (dsA ds hs i) i
 hok:∀i h,hs[i]? =some h->AY rz (dsA ds hs i) h
theorem UN {ds:List aL}{hs:List Hap}{i:Nat}{h:Hap} (e:hs[i]? =some h):dsA ds hs (i+1)=aft (dsA ds hs i) h:=by
 unfold dsA;rw[gJ e,List.foldl_append];rfl
def isF:Hap->Bool
 | .found _ _=>true
 | _=>false
def mD:List Hap->List (Str×Int)
 | []=>[]
 | .found z i::hs=>(z,i)::mD hs
 | _::hs=>mD hs
def V4 (H:Hp)(h:Hap)(y:V):Prop:=∃z i,h= .found z i/\bY H y (z,i)
theorem qH {H:Hp}:∀{hs:List Hap}{ys:List V},Paired (V4 H) (hs.filter isF) ys->Paired (bY H) ys (mD hs)
 | [],_,h=>by cases h;exact .nil
 | .found z i::hs,_,h=>by
  rw[List.filter_cons_of_pos rfl]at h;cases h with
  | cons a t =>
   walk_at"g1";obtain⟨z',i',e,g⟩:=a;walk_at"g2";cases e;exact .cons g (qH t)
 | .shut n t::hs,_,h=>by rw[List.filter_cons_of_neg (by exact fun z=>nomatch z)]at h;exact qH (hs:=hs) h
 | .wider n t i::hs,_,h=>by rw[List.filter_cons_of_neg (by exact fun z=>nomatch z)]at h;exact qH (hs:=hs) h
 | .door d::hs,_,h=>by rw[List.filter_cons_of_neg (by exact fun z=>nomatch z)]at h;exact qH (hs:=hs) h
theorem qQ:∀hs:List Hap,(mD hs).length<=hs.length
 | []=>Nat.le_refl _
 | .found z i::hs=>Nat.succ_le_succ (qQ hs)
 | .shut n t::hs=>Nat.le_succ_of_le (qQ hs)
 | .wider n t i::hs=>Nat.le_succ_of_le (qQ hs)
 | .door d::hs=>Nat.le_succ_of_le (qQ hs)
def psA (rz ps:List (Str×Int))(hs:List Hap):List (Str×Int):=(rz.map fun e=>(e.1,bE ps e.1))++mD hs
theorem xL {α:Type}(f:α->V):∀l:List α,Paired (fun (v:V) (x:α)=>v=f x) (l.map f) l
 | []=> .nil
 | _::l=> .cons rfl (xL f l)
theorem zJ {α β γ:Type}{F:α->γ->Prop} (g:β->γ):∀{l:List β}{m:List α},Paired (fun x y=>F y (g x)) l m->Paired F m (l.map g)
 | _,_,.nil=> .nil
 | _,_,.cons r t=> .cons r (zJ g t)
inductive B1 (K:W.Frag)(C:Addr)(D:bL)(vs:List V)(H:Hp)(Q:VK)(E:XK):Prop
 | mk (h a b:Addr) (f l t:Int) (rz ps:List (Str×Int)) (ds:List aL) (vh:List V) (hs:List Hap) (_:vs=[.ref h,.ref a,.int t,.ref b]) (_:bG C D H h f l rz ps ds) (_:HOk f l rz ps ds) (_:rz.length<=5) (_:SqL K H a []) (_:SqL K H b vh) (_:Paired (HapAt D H) vh hs) (_:wC rz ds hs) (_:f<=t) (_:t<=l) (_:(∀p∈mD hs,p.1∈rz.map (·.1))) (_:sK rz (psA rz ps hs)) (_:∀p H',H p=none->Same H H'->bG C D H' p t l rz (psA rz ps hs) (dsA ds hs hs.length)->Q (.ref p) H'):B1 K C D vs H Q E
theorem YT (m:M K mg):FnOk P w K mg base CX0 28 m.JR m.BF ["house","plan","turn","happenings"] (B1 K m.aO (aI P w K mg base (some 20))):=by
 refine m.BL.ok sc_anew (fun vs H Q E h=> ?_) (fun cdv A outer s H vs Q E hr h=> ?_)
 ·walk_at"g1";obtain⟨h,a,b,f,l,t,rz,ps,ds,vh,hs,rfl,hh,ho,lr5,hS,hb,hhp,go,t0,t1,hfn,hfit,k⟩:=h;walk_at"g2";rfl
 ·walk_at"g1";obtain⟨h,a,b,f,l,t,rz,ps,ds,vh,hs,rfl,hh,ho,lr5,hS,hb,hhp,go,t0,t1,hfn,hfit,k⟩:=h;walk_at"g2";have nd:=sc_anew.nd;walk_at"hu";have kX:= @BS P w K mg base m;have kZ:= @C5 P w K mg base m;have qA:= @GZ P w K mg base m;have K_House_0:= @A0 P w K mg base m;have w_dc_House:=m.bK;have w_mc_House_rooms:= @tI P w K mg base m;have w_mc_House_doors:= @j3 P w K mg base m;have w_mc_House_door:= @iY P w K mg base m;have w_mc_House_holds:= @mX P w K mg base m;refine⟨_,(aD (bR (bD kZ hr (aA (pv 0) (aA (pv 1) aB))))
   (aD (bO (PW.pt (rU (aT lW (pv 2) (aW (pv 0) rfl) (aX _)) (qG (aT rW (pv 2) (aW (pv 0) rfl) (aX _))))) (aF eJ) bB)
   (aD (aV (i:=4) nd rfl (by walk_at"oi") (uP (aT G6 (pv 3) oH (aX _)) (fU aB) (pv 3)))
   (aD (iN (i:=5) nd rfl (by walk_at"oi") (N:=["name","house"]) (nl:=1) (ci:=[0]) rfl (blk (s.heap.objs.size+1) rfl rfl rfl (by kernel_rfl)) (bJ (fJ 1 hr (pv 0))) (fun _ _ _ _=>(aG (i:=0) (show (["name","house"]:List Str).Nodup by decide +kernel) rfl (by walk_at"oi"))) (fun _ _ _ _=>cI) (fun _ _ _ _=>(qR (P:=P) (w:=w) (K:=K) (mg:=mg) (base:=base) 1 hr (pv 1) (aA (pv 0) aB))))
   (aD (c4 PassesOwn.never rfl (bJ (pv 4)) (aG (i:=6) nd rfl (by walk_at"oi")) (aF (aV (i:=5) nd rfl (by walk_at"oi") (bD kX hr (aA (pv 5) (aA (pv 6) aB))))))
   (aD (aV (i:=7) nd rfl (by walk_at"oi") (bD qA hr (aA (pv 0) (aA (pv 1) aB))))
   (aD (iN (i:=8) nd rfl (by walk_at"oi") (N:=["room","inside","turn"]) (nl:=1) (ci:=[7,2]) rfl (blk (s.heap.objs.size+1) rfl rfl rfl (by kernel_rfl)) (bJ (fJ 1 hr (pv 0))) (fun _ _ _ _=>(aG (i:=0) (show (["room","inside","turn"]:List Str).Nodup by decide +kernel) rfl (by walk_at"oi"))) (fun _ _ _ _=>cI) (fun _ _ _ _=>(cB (aA (pv 0) (aA (dF hu1 (pv 1) (cB (aA (pv 0) (aA (pv 2) aB))) (fun _ _=>rfl)) aB)))))
   (aD (aV (i:=8) nd rfl (by walk_at"oi") (aN nZ (pv 8) (cF (N:=["happening"]) (nl:=1) (ci:=[]) rfl (blk (s.heap.objs.size+1) rfl rfl rfl (by kernel_rfl)) (bJ (pv 4)) (fun _ _ _ _=>(aG (i:=0) (show (["happening"]:List Str).Nodup by decide +kernel) rfl (by walk_at"oi"))) (fun _ _ _ _=>(tO (aT gZ (bC (fZ (K:=K)) (pv 0) aE (fun _ _=>rfl)) cC (aX _)))) (fun _ _ _ _=>(cB (aA (bC (fZ (K:=K)) (pv 0) aE (fun _ _=>rfl)) (aA (bC (fZ (K:=K)) (pv 0) aE (fun _ _=>rfl)) aB)))))))
   (aF (aU (uS K_House_0 hr (aA (cF (N:=["room","house"]) (nl:=1) (ci:=[0]) rfl (blk (s.heap.objs.size+1) rfl rfl rfl (by kernel_rfl)) (bJ (fJ 1 hr (pv 0))) (fun _ _ _ _=>(aG (i:=0) (show (["room","house"]:List Str).Nodup by decide +kernel) rfl (by walk_at"oi"))) (fun _ _ _ _=>cI) (fun _ _ _ _=>(cB (aA (pv 0) (aA (qR (P:=P) (w:=w) (K:=K) (mg:=mg) (base:=base) 3 hr (pv 1) (aA (pv 0) aB)) aB))))) (aA (pv 5) (aA (pv 8) (aA (aW (pv 0) rfl) (aA (pv 2) aB)))))))))))))))),?_⟩
  refine aQ (σ:=[some (.ref h),some (.ref a),some (.int t),some (.ref b),none,none,none,none,none]) rfl ?_;walk_at"cx";walk_at"g1";obtain⟨dnr,dnd,df0,df1,df2,df3,dlr,dfit⟩:=id ho;walk_at"g2";walk_at"g1";obtain⟨dx,qs,qp,qd,nk,kvs,e1,_⟩:=id hh.ex;walk_at"g2";have hvl:=Paired.length hhp;have hl12:=go.len;have d0:zG rz ds 0:=go.dsok 0 (Nat.zero_le _);have dl0:=d0.len;walk_at"go";refine⟨_,_,_,_,_,_,_,rfl,hh,ho,hS,fun H1 S1=> ?_⟩;have hh1:=bN hh S1;have e11:=S1 _ _ e1;walk_at"gs";refine C8 (fun σ' G=>H1=G/\σ'=[some (.ref h),some (.ref a),some (.int t),some (.ref b),none,none,none,none,none]) ?_ ?_
  rotate_left
  ·intro nx' hnx;walk_at"go";exact hnx _ _ ⟨rfl,rfl⟩
  rintro _ G ⟨hG,rfl⟩;subst hG;walk_at"go";refine mY hh1 fun pD H3 n3 S3 eD=> ?_;walk_at"go";refine dH (α:=aL) (xs:=ds) (vs:=(ds.map (·.1)).map V.str) (fun v d=>v= .str d.1) (fun _=>true) (fun d y H=>(aI P w K mg base (some 20)).at' H y d) (fun _ _ _ _ h s=>(aI P w K mg base (some 20)).same h s) (by rw[sizeLine_eq];lia) (rest:=[some (.ref h)]) (by rfl) (SqL.of eD) (by rw[List.map_map];exact xL _ ds) ?_ ?_ ?_
  ·exact fun v x H1 _ _ s1 R hR=>hR _ (Same.refl _)
  ·rintro _ d G rfl hm - s R hR;have e1G:=(S3.trans s) _ _ e11;walk_at"go";refine IW (bN hh1 (S3.trans s)) dnd hm fun v hv=> ?_;exact hR _ _ hv (Same.refl _)
  intro ys H4 s4 hys;rw[eY]at hys;have hdd:Paired ((aI P w K mg base (some 20)).at' H4) ys ds:=nS hys;walk_at"go";rename_i pE H5 n5 S5 eE;have s15:Same H1 H5:=S3.trans (s4.trans S5);have s05:Same H H5:=S1.trans s15;let Pv1:Nat->St->Hp->Prop:=fun i σ' G=>∃(pE:Addr) (us:List V) (x6:Option V),Same H5 G/\G pE=some (.lst us)/\Paired ((aI P w K mg base (some 20)).at' G) us (dsA ds hs i)/\σ'=[some (.ref h),some (.ref a),some (.int t),some (.ref b),some (.ref b),some (.ref pE),x6,none,none];refine gB vh Pv1 ⟨pE,ys,none,Same.refl _,eE,jO hdd S5,rfl⟩ (fun i σ' G _ q=>by obtain⟨_,_,_,s,_⟩:=q;exact(s05.trans s).seq hb) ?_ ?_
  ·rintro i x _ G hx hq_;walk_at"g1";obtain⟨pE,us,x6,sG,eG,hG,rfl⟩:=hq_;walk_at"g2";have hi:i<vh.length:=(List.getElem?_eq_some_iff.mp hx).1;obtain⟨hp,hhi⟩:∃hp,hs[i]? =some hp:=⟨_,List.getElem?_eq_getElem (by lia)⟩
   have hat:=(L2.Paired.at2 hhp hx hhi).same (s05.trans sG);walk_at"go";refine⟨pE,x,us,rz,_,hp,i,rfl,eG,hG,go.dsok i (by lia),by lia,hat,go.hok i hp hhi,fun p2 us2 G2 s2 e2 h2=> ?_⟩;walk_at"go";exact⟨p2,us2,_,sG.trans s2,e2,by rw[UN hhi];exact h2,rfl⟩
  rintro _ H6 hq_;walk_at"g1";obtain⟨pF,us,x6,sG,eF,hF,rfl⟩:=hq_;walk_at"g2";rw[hvl]at hF;have s06:=s05.trans sG;walk_at"go";refine LQ (bN hh s06) ho (s06.seq hS) fun pI H7 n7 S7 eI=> ?_;have s07:=s06.trans S7;have e17:=s07 _ _ e1;walk_at"go";refine mY (bN hh s07) fun pR H8 n8 S8 eR=> ?_;have eI8:=S8 _ _ eI;walk_at"go";refine dH (α:=Str×Int) (xs:=rz) (vs:=(rz.map (·.1)).map V.str) (fun v e=>v= .str e.1) (fun _=>true) (fun e y H=>bY H y (e.1,bE ps e.1)) (fun _ _ _ _ ⟨q,h1,h2⟩ s=>⟨q,h1,s _ _ h2⟩) (by rw[sizeLine_eq];lia) (rest:=[some (.ref pI),some (.int t)]) (by rfl) (SqL.of eR) (by rw[List.map_map];exact xL _ rz) ?_ ?_ ?_
  ·exact fun v x H1 _ _ s1 R hR=>hR _ (Same.refl _)
  ·rintro _ ⟨z,sz⟩ G rfl hm - s R hR;have hz:z∈rz.map (·.1):=List.mem_map.mpr ⟨_,hm,rfl⟩;have eIG:=s _ _ eI8;have hv:bM (jD ps (bI rz f (l+1 - f).toNat)) (fF (z,t))=some (.int (bE ps z)):=uG (jL dnr f (l+1 - f).toNat) (pairsN_mem.mpr ⟨hz,(t - f).toNat,by lia,by lia⟩);show (_:TE) [some (.str z),some (.ref pI),some (.int t)] G R;walk_at"go";rename_i qk G1 m1 T1 e1k;refine uR (fF (z,t)) (.inl (T1 _ _ eIG)) e1k hv ?_;walk_at"go";rename_i qr G2 m2 T2 e2r;exact hR _ _ ⟨qr,rfl,e2r⟩ (T1.trans T2)
  intro ws H9 s9 hws;rw[eY]at hws;have hcp:Paired (bY H9) ws (rz.map fun e=>(e.1,bE ps e.1)):=zJ (fun e:Str×Int=>(e.1,bE ps e.1)) hws;have wl:ws.length=rz.length:=(Paired.length hws).symm;walk_at"go";rename_i pP HA nA SA eP;have s0A:Same H HA:=s07.trans (S8.trans (s9.trans SA));refine dH (HapAt (aI P w K mg base (some 20)) HA) isF (fun h y G=>V4 G h y) (fun _ _ _ _ ⟨z,i,e,q,h1,h2⟩ s=>⟨z,i,e,q,h1,s _ _ h2⟩) (by rw[sizeLine_eq];lia) (rest:=[]) (by rfl) (s0A.seq hb) (Paired.imp' (fun _ _ x=>x.same s0A) hhp) ?_ ?_ ?_
  ·intro v hp G hv hm s R hR;have hv:=hv.same s;cases hp with
   | shut n t =>
    obtain⟨q,rfl,hq⟩:=hv;walk_at"go";exact hR _ (Same.refl _)
   | wider n t i =>
    obtain⟨q,rfl,hq⟩:=hv;walk_at"go";exact hR _ (Same.refl _)
   | found z i =>
    obtain⟨q,rfl,hq⟩:=hv;walk_at"go";exact hR _ (Same.refl _)
   | door d =>
    walk_at"g1";obtain⟨q,u,rfl,hq,_⟩:=hv;walk_at"g2";walk_at"go";exact hR _ (Same.refl _)
  ·intro v hp G hv hm hc s R hR;have hv:=hv.same s;cases hp with
   | found z i =>
    obtain⟨q,rfl,hq⟩:=hv;walk_at"go";rename_i qr G2 m2 T2 e2r;exact hR _ _ ⟨z,i,rfl,qr,rfl,e2r⟩ T2
   | shut n t=>cases hc
   | wider n t i=>cases hc
   | door d=>cases hc
  intro ys2 HB sB hys2;have hp2:=qH hys2;have yl:=Paired.length hp2;have fl:=qQ hs;walk_at"go";rename_i pQ HC nC SC eC pS HD nD SD eD2;have sAD:Same HA HD:=sB.trans (SC.trans SD);have s0D:Same H HD:=s0A.trans sAD;have e1D:=s0D _ _ e1;refine mY (bN hh s0D) fun pR2 HE nE SE eR2=> ?_;walk_at"go";refine dH (α:=Str×Int) (xs:=rz) (vs:=(rz.map (·.1)).map V.str) (fun v e=>v= .str e.1) (fun _=>true) (fun e y H=>bY H y e) (fun _ _ _ _ ⟨q,h1,h2⟩ s=>⟨q,h1,s _ _ h2⟩) (by rw[sizeLine_eq];lia) (rest:=[some (.ref h)]) (by rfl) (SqL.of eR2) (by rw[List.map_map];exact xL _ rz) ?_ ?_ ?_
  ·exact fun v x H1 _ _ s1 R hR=>hR _ (Same.refl _)
  ·rintro _ ⟨z,sz⟩ G rfl hm - s R hR;have e1G:=(SE.trans s) _ _ e1D;show (_:TE) [some (.str z),some (.ref h)] G R;walk_at"go";refine C0 (i:=sz) (bN hh (s0D.trans (SE.trans s))) dnr hm fun G1 T1=> ?_;walk_at"go";rename_i qr G2 m2 T2 e2r;exact hR _ _ ⟨qr,rfl,e2r⟩ (T1.trans T2)
  intro vs2 HF sF hvs2;rw[eY]at hvs2;have hra:RoomsAt HF vs2 rz:=nS hvs2;walk_at"go";rename_i pW HG nG SG eW;have sDG:Same HD HG:=SE.trans (sF.trans SG);have e1G:=sDG _ _ e1D;have s6A:Same H6 HA:=S7.trans (S8.trans (s9.trans SA));have s6G:Same H6 HG:=s6A.trans (sAD.trans sDG);walk_at"go";have dE:=go.dsok hs.length (Nat.le_refl _);have dEl:=dE.len;refine EJ (rz:=rz) (ds:=dsA ds hs hs.length) (ps:=psA rz ps hs) rfl (by assumption) eW (hra.sm SG) (SqL.of (s6G _ _ eF)) (jO hF s6G) (SqL.of (sDG _ _ eD2)) (iI (kI hcp (SA.trans (sAD.trans sDG))) (kI hp2 (SC.trans (SD.trans sDG)))) dnr dE.nd (fun d hd=>(dE.ok d hd).hin) (fun p hp=>by
   rcases List.mem_append.mp hp with hp|hp
   ·obtain⟨e,he,rfl⟩:=List.mem_map.mp hp;exact List.mem_map.mpr ⟨e,he,rfl⟩
   ·exact hfn p hp) hfit (by lia) (by lia) (by unfold psA;rw[List.length_append,List.length_map];lia) (by lia) (by lia) fun q HI nI SI hq=> ?_
  exact k _ _ (cE (s0D.trans sDG) nI) ((s0D.trans sDG).trans SI) hq
theorem YV (m:M K mg):Fc P w K mg base "anew" 28 ["house","plan","turn","happenings"] (B1 K m.aO (aI P w K mg base (some 20))):=⟨_,_,m.aBT,m.BL.kp,m.aBR,YT m⟩
theorem LS {C:Addr}{H H':Hp}{h:Addr}{f l:Int}{rz ps:List (Str×Int)}{ds:List aL} (x:bG C (aI P w K mg base (some 20)) H h f l rz ps ds) (s:SameT H H'):bG C (aI P w K mg base (some 20)) H' h f l rz ps ds:=by
 walk_at"g1";obtain⟨dx,qs,qp,qd,nk,kvs,e1,e2,e3,e4,e5,e6,e7⟩:=x.ex;walk_at"g2";exact⟨dx,qs,qp,qd,nk,kvs,s _ _ e1 (fun _ z=>by cases z),s _ _ e2 (fun _ z=>by cases z),s _ _ e3 (fun _ z=>by cases z),e4,e5,s _ _ e6 (fun _ z=>by cases z),Paired.imp' (fun _ _ h=>⟨h.1,AX h.2 s⟩) e7⟩
def L20 (d:aL):List V:=(List.range 20).map fun (i:Nat)=>V.int (d.2.2.2.f (i:Int))
abbrev cD:=aL×Addr
def BD (H:Hp)(v:V)(x:cD):Prop:=∃q,v= .ref q/\H q=some (.tup [.str x.1.1,.str x.1.2.1,x.1.2.2.1,.ref x.2])/\H x.2=some (.lst (L20 x.1))
abbrev RecsAt (H:Hp)(us:List V)(xs:List cD):Prop:=Paired (BD H) us xs
theorem RecsAt.same {H H':Hp}{us:List V}{xs:List cD} (h:RecsAt H us xs) (s:Same H H'):RecsAt H' us xs:=Paired.imp' (fun _ _ ⟨q,e,g1,g2⟩=>⟨q,e,s _ _ g1,s _ _ g2⟩) h
theorem RecsAt.t {H H':Hp}{us:List V}{xs:List cD} (h:RecsAt H us xs) (s:SameT H H'):RecsAt H' us xs:=Paired.imp' (fun _ _ ⟨q,e,g1,g2⟩=>⟨q,e,s _ _ g1 (fun _ z=>by cases z),s _ _ g2 (fun _ z=>by cases z)⟩) h
def t5 (rz:List (Str×Int))(g:Str->Int)(kvs:List (Key×V)):Prop:=kvs.map (·.1)=rz.map (fun e=>(.inr e.1:Key))/\∀z∈rz.map (·.1),bM kvs (.inr z)=some (.int (g z))
def MQ (rz:List (Str×Int))(ns:List Str)(g:Str->Int):Hap->Prop
 | .shut n t=>n∈ns/\0<=t/\t<=100
 | .wider n t i=>n∈ns/\0<=t/\t<=100/\0<=i
 | .found z i=>z∈rz.map (·.1)/\0<=i/\i<=g z
 | .door d=>DOk rz d/\d.2.2.2.dep=4
theorem YG:("xyz" :Str).length=3:=by decide
theorem aAI {i:Int}(h0:0<=i)(h1:i<3):atI ("xyz" :Str).cps.toList i=some (120+i.toNat):=by
 have hl:("xyz" :Str).cps.toList=List.range' 120 3:=by decide +kernel
 have e:=d7 (xs:=("xyz" :Str).cps.toList) (j:=i.toNat) (v:=120+i.toNat) (by rw[hl,List.getElem?_range' (by lia)];simp);rw[show ((i.toNat:Nat):Int)=i by lia]at e;exact e
theorem RS {z:Str}(h:bA z=true):jE z=true:=by
 unfold bA at h;simp only[Bool.and_eq_true]at h;exact h.2
theorem T0 {z:Str}(h:bA z=true){i:Nat}(hi:i<3):bA (Txt.slice z none (some 7)++⟨#[120+i]⟩)=true:=by
 have l1:(Txt.slice z none (some 7)).length<=7:=by
  rcases PyProof.Rows.slice_ns_cases z 7 (by decide) with h|h
  ·lia
  ·lia
 have l2:(⟨#[120+i]⟩:Str).length=1:=rfl;have lo:jE ⟨#[120+i]⟩=true:=by
  refine yN tR ?_;rw[uQ,List.mem_range'_1]
  lia
 exact GT (by rw[dZ];lia) (by rw[dZ];lia) (y4 (jV (RS h)) lo)
inductive C1 (P:Program)(w:World)(K:W.Frag)(mg:Str->Option Value)(base:Heap)(C:Addr)(PL:Addr)(vs:List V)(H:Hp)(Q:VK)(E:XK):Prop
 | mk (c k:Int) (a r sp h:Addr) (us ws:List V) (xs:List cD) (rz ps:List (Str×Int)) (ds:List aL) (f l:Int) (g:Str->Int) (kvs:List (Key×V)) (_:vs=[.int c,.ref a,.ref r,.ref sp,.ref h,.int k]) (_:0<=k) (_:k<26) (_:H a=some (.lst us)) (_:RecsAt H us xs) (_:SqL K H r ws) (_:RoomsAt H ws rz) (_:HW rz) (_:H sp=some (.dK kvs)) (_:t5 rz g kvs) (_:(∀z,0<=g z)) (_:bG C (aI P w K mg base (some 20)) H h f l rz ps ds) (_:0<=f) (_:f<=l) (_:l<=20) (_:TabS H PL iU qL) (_:(∀H',SameT H H'->TabS H' PL iU qL->xs=[]->Q .non H')) (_:(∀q hp H',SameT H H'->TabS H' PL iU qL->HapAt (aI P w K mg base (some 20)) H' (.ref q) hp->MQ rz (xs.map (·.1.1)) g hp->Q (.ref q) H')):C1 P w K mg base C PL vs H Q E
theorem xN (m:M K mg){cL PL:Addr}(hcL:m.c8.code= .ref cL)(hCL:W.CodeHd base cL PL)(hBL:base.BuiltinsAt mg PL):FnOk P w K mg base CX0 8 m.lK m.lI ["_law_cell","_law_doors","_law_rooms","_law_space","_law_house","_law_k"] (C1 P w K mg base m.aO PL):=by
 refine m.iR.ok sc__law_happening (fun vs H Q E h=> ?_) (fun cdv A outer s H vs Q E hr h=> ?_)
 ·walk_at"g1";obtain⟨c,j,a,r,sp,h,us,ws,xs,rz,ps,ds,f,l,g,kvs,rfl,j0,j1,ha,hx,hr1,hrz,hok,hsp,hg,hg0,hh,f0,f1,l20,hT,k1,k2⟩:=h;walk_at"g2";rfl
 ·walk_at"g1";obtain⟨c,j,a,r,sp,h,us,ws,xs,rz,ps,ds,f,l,g,kvs,rfl,j0,j1,ha,hx,hr1,hrz,hok,hsp,hg,hg0,hh,f0,f1,l20,hT,k1,k2⟩:=h;walk_at"g2";have nd:=sc__law_happening.nd;walk_at"hu";have i9:=wI (P:=P) (w:=w) (base:=base) m hcL hCL hBL;have bF:= @kS P w K mg base m;have gX:= @v3 P w K mg base m;have w_dc_House:=m.bK;refine⟨_,(aD (aV (i:=6) nd rfl (by walk_at"oi") (aN bV (bD bF hr (aA (pv 0) (aA aE aB))) aE))
   (aD (aV (i:=7) nd rfl (by walk_at"oi") (bT (Q2 rfl) rfl m.aCK aBa (aA aE (aA (aN cA (aN qF (aW (pv 4) rfl) aE) (aN bV (bD bF hr (aA (pv 0) (aA aE aB))) (aN cA (aN qF (aW (pv 4) rfl) (aW (pv 4) rfl)) aE))) aB))))
   (aD (bO (aT gZ (pv 6) aE (aX _)) (aD (aV (i:=8) nd rfl (by walk_at"oi") (aN BZ (iP vU (bD gX hr (aA (bD bF hr (aA (pv 0) (aA aE aB))) (aA (pv 5) aB))) mQ (iE aE)) (bC OW cC (aN bV (pv 5) aE) (fun _ _=>rfl))))
   (aF (aU (cB (aA cC (aA (bD i9 hr (aA (bD bF hr (aA (pv 0) (aA aE aB))) (aA (pv 8) (aA (pv 2) aB)))) aB)))))) bB)
   (aD (bO (aT gZ (pv 6) aE (aX _)) (aD (aV (i:=9) nd rfl (by walk_at"oi") (bC b9 (bC fH (pv 2) (aN bV (bD bF hr (aA (pv 0) (aA aE aB))) (bT fG rfl m.k4 iX (aA (pv 2) aB))) (fun _ _=>rfl)) aE (fun _ _=>rfl)))
   (aF (aU (cB (aA cC (aA (pv 9) (aA (bT (P6 rfl) rfl m.aCJ aBf (aA (dF hu1 (pv 3) (pv 9) (fun _ _=>rfl)) (aA (aN bV (bD bF hr (aA (pv 0) (aA aE aB))) aE) aB))) aB))))))) bB)
   (aD (bO (aT (aAu hu0) (pv 1) (fU aB) (aX _)) (aF (aU oH)) bB)
   (aD (aV (i:=8) nd rfl (by walk_at"oi") (bC b9 (bC fH (pv 1) (aN bV (bD bF hr (aA (pv 0) (aA aE aB))) (bT fG rfl m.k4 iX (aA (pv 1) aB))) (fun _ _=>rfl)) aE (fun _ _=>rfl)))
   (aD (bO (aT gZ (pv 6) aE (aX _)) (aF (aU (cB (aA cC (aA (pv 8) (aA (pv 7) aB)))))) bB)
   (aF (aU (cB (aA cC (aA (pv 8) (aA (pv 7) (aA (bC fH (fU (aA (aN bV (bD bF hr (aA (pv 0) (aA aE aB))) aE) (aA (aN bV (pv 0) (X1 10000000000 (by decide) ⟨by decide,by decide,by decide⟩)) aB))) (aN bV (bD bF hr (aA (pv 0) (aA aE aB))) aE) (fun _ _=>rfl)) aB)))))))))))))),?_⟩
  refine aQ (σ:=[some (.int c),some (.ref a),some (.ref r),some (.ref sp),some (.ref h),some (.int j),none,none,none,none]) rfl ?_;walk_at"cx";walk_at"g1";obtain⟨dx,qs,qp,qd,nk,kv0,e1,_⟩:=id hh.ex;walk_at"g2";have hl:=Paired.length hrz;have ok1:=hok.ne;have ok2:=hok.le;walk_at"gs";rename_i n5 d5 n50 n51 n6 d6 n60 n61 t0 t1;have tu0:0<=max 0 (f - 2+n6%(l - f+5)):=Int.le_max_left _ _;have tu1:max 0 (f - 2+n6%(l - f+5))<=100:=by lia
  generalize max 0 (f - 2+n6%(l - f+5))=tu at tu0 tu1 ⊢;clear d5 d6 n60 n61 t0 t1;walk_at"go";refine gK (fun hc=> ?_) (fun hc=> ?_)
  ·walk_at"go";rename_i n8 d8 n80 n81 z dz hz;have hzl:=DZ hz;refine PP (by rw[sizeLine_eq];lia) fun hsl=> ?_;walk_at"go";refine⟨_,_,_,rfl,rfl,(by rw[sizeLine_eq,YG];decide),aAI (by lia) (by lia),?_⟩;have hnm:=T0 hz (i:=(j%3).toNat) (by lia);walk_at"go";refine LW (by assumption) hnm hr1 hrz hok hT fun v st e lt H2 T2 hT2 hd2 dok2 dep2=> ?_;walk_at"go";rename_i p3 H3 n3 S3 e3;exact k2 _ (.door _) _ (T2.snoc S3) (hT2.same S3) ⟨p3,v,rfl,e3,(aI P w K mg base (some 20)).same hd2 S3⟩ ⟨dok2,dep2⟩
  walk_at"go";refine gK (fun hc=> ?_) (fun hc=> ?_)
  ·walk_at"go";rename_i n8 d8 n80 n81 i0 i1;refine A2 hr1 i0 i1 fun v hv=> ?_;walk_at"g1";obtain⟨x0,hx0,q,rfl,hq⟩:=lV hrz hv;walk_at"g2";have hz:x0.1∈rz.map (·.1):=List.mem_map.mpr ⟨x0,hx0,rfl⟩;have hgv:=hg.2 x0.1 hz;have hg00:=hg0 x0.1;walk_at"go";refine fV (.inl hsp) hgv ?_;walk_at"go";rename_i n9 d9 n90 n91 p3 H3 n3 S3 e3;exact k2 _ (.found _ _) _ (Same.t S3) (hT.same S3) ⟨p3,rfl,e3⟩ ⟨hz,by lia,by lia⟩
  walk_at"go";rename_i p2 H2 n2 S2 e2;refine aAt (SqL.of (S2 _ _ ha)) (SqL.of e2) ?_;have hx2:=RecsAt.same hx S2;have ha2:=S2 _ _ ha;have hT2:=hT.same S2;have hul:=Paired.length hx
  by_cases hu:us=[]
  ·rw[show us.isEmpty=true by rw[hu];rfl];walk_at"go";refine k1 _ (Same.t S2) hT2 ?_;rw[hu]at hx;cases hx;rfl
  ·have hpos:0<us.length:=by
    rcases Nat.eq_zero_or_pos us.length with e|e
    ·exact absurd (List.length_eq_zero_iff.mp e) hu
    ·exact e
   rw[show us.isEmpty=false by cases us with|nil=>exact absurd rfl hu|cons _ _=>rfl];walk_at"go";rename_i n8 d8 n80 n81 i0 i1;refine A2 (SqL.of ha2) i0 i1 fun v hv=> ?_;walk_at"g1";obtain⟨x0,hx0,q,rfl,hq,_⟩:=lV hx2 hv;walk_at"g2";have hnn:x0.1.1∈xs.map (·.1.1):=List.mem_map.mpr ⟨x0,hx0,rfl⟩;walk_at"go";refine gK (fun hc=> ?_) (fun hc=> ?_)
   ·walk_at"go";rename_i p3 H3 n3 S3 e3;exact k2 _ (.shut _ _) _ (Same.t (S2.trans S3)) (hT2.same S3) ⟨p3,rfl,e3⟩ ⟨hnn,tu0,tu1⟩
   ·walk_at"go";rename_i n9 d9 n90 n91 p3 H3 n3 S3 e3 n10 d10 n100 n101 v9 hv9 p4 H4 n4 S4 e4;exact k2 _ (.wider _ _ _) _ (Same.t ((S2.trans S3).trans S4)) ((hT2.same S3).same S4) ⟨p4,rfl,e4⟩ ⟨hnn,tu0,tu1,by lia⟩
theorem xO (m:M K mg){cL PL:Addr}(hcL:m.c8.code= .ref cL)(hCL:W.CodeHd base cL PL)(hBL:base.BuiltinsAt mg PL):Fc P w K mg base "_law_happening" 8 ["_law_cell","_law_doors","_law_rooms","_law_space","_law_house","_law_k"] (C1 P w K mg base m.aO PL):=⟨_,_,m.zS,m.iR.kp,m.z3,xN m hcL hCL hBL⟩
def FrB (bad:List Addr)(H H':Hp):Prop:=∀b o,H b=some o->b∉bad->H' b=some o
theorem FrB.refl {bad:List Addr}{H:Hp}:FrB bad H H:=fun _ _ e _=>e
theorem FrB.trans {bad:List Addr}{H H1 H2:Hp} (a:FrB bad H H1) (b:FrB bad H1 H2):FrB bad H H2:=fun c o h hc=>b c o (a c o h hc) hc
theorem FrB.snoc {bad:List Addr}{H H1 H2:Hp} (a:FrB bad H H1) (b:Same H1 H2):FrB bad H H2:=fun c o h hc=>b c o (a c o h hc)
theorem FrB.but {bad:List Addr}{H H1 H2:Hp}{p:Addr} (a:FrB bad H H1) (b:SameBut p H1 H2) (hp:p∈bad):FrB bad H H2:=fun c o h hc=>b c o (a c o h hc) fun z=>hc (z▸hp)
structure Book (rz:List (Str×Int))(a sp mo:Addr)(H:Hp)(us:List V)(xs:List cD)(g gm:Str->Int):Prop where
 ha:H a=some (.lst us)
 hx:RecsAt H us xs
 nd:(xs.map (·.2)).Nodup
 hs:∃ks,H sp=some (.dK ks)/\t5 rz g ks
 hm:∃km,H mo=some (.dK km)/\t5 rz gm km
 ne:sp≠mo
 len:xs.length<=16
 na:a∉xs.map (·.2)
theorem Book.same {rz:List (Str×Int)}{a sp mo:Addr}{H H':Hp}{us:List V}{xs:List cD}{g gm:Str->Int} (b:Book rz a sp mo H us xs g gm) (s:Same H H'):Book rz a sp mo H' us xs g gm:=by
 obtain⟨ks,h1,h2⟩:=b.hs;obtain⟨km,h3,h4⟩:=b.hm;exact⟨s _ _ b.ha,RecsAt.same b.hx s,b.nd,⟨ks,s _ _ h1,h2⟩,⟨km,s _ _ h3,h4⟩,b.ne,b.len,b.na⟩
def gN (a sp mo:Addr)(xs:List cD):List Addr:=a::sp::mo::xs.map (·.2)
def gS (g:Str->Int):Hap->Str->Int
 | .found z0 i=>fun z=>if z=z0 then g z - i else g z
 | _=>g
def gM (g:Str->Int):Hap->Str->Int
 | .found z0 i=>fun z=>if z=z0 then g z+i else g z
 | _=>g
theorem QW {kvs:List (Key×V)}{k:Key}{v:V} (h:k∈kvs.map (·.1)):(c5 kvs k v).map (·.1)=kvs.map (·.1):=by
 unfold c5
 split
 ·rw[List.map_map]
  apply List.map_congr_left
  intro x _;show (if x.1=k then (x.1,v) else x).1=x.1
  split<;>rfl
 ·rename_i hn;obtain⟨x,hx,e⟩:=List.mem_map.mp h;exact absurd (List.any_eq_true.mpr ⟨x,hx,decide_eq_true e⟩) hn
theorem LJ {rz:List (Str×Int)}{g:Str->Int}{ks:List (Key×V)} (h:t5 rz g ks) {z0:Str} (hz:z0∈rz.map (·.1)) (v:Int):t5 rz (fun z=>if z=z0 then v else g z) (c5 ks (.inr z0) (.int v)):=by
 refine⟨?_,fun z hz'=> ?_⟩
 ·rw[QW ?_,h.1];rw[h.1];obtain⟨e,he,rfl⟩:=List.mem_map.mp hz;exact List.mem_map.mpr ⟨e,he,rfl⟩
 ·show _=some (V.int (if z=z0 then v else g z));rw[yM]
  by_cases e:z=z0
  ·subst e;rw[if_pos rfl,if_pos rfl]
  ·rw[if_neg (fun c=>e (Sum.inr.inj c)),if_neg e];exact h.2 z hz'
def mT (n:Str)(G:LT->LT)(x:cD):cD:=(chg n G x.1,x.2)
def xsI (n:Str)(G:LT->LT)(xs:List cD)(k:Nat):List cD:=(xs.take k).map (mT n G)++xs.drop k
theorem L4 (n:Str)(G:LT->LT)(xs:List cD):xsI n G xs xs.length=xs.map (mT n G):=by unfold xsI;rw[List.take_length,List.drop_length,List.append_nil]
theorem vM {n:Str}{G:LT->LT}{xs:List cD}{k:Nat}{x:cD} (h:xs[k]? =some x):xsI n G xs k=(xs.take k).map (mT n G)++x::xs.drop (k+1)/\xsI n G xs (k+1)=(xs.take k).map (mT n G)++mT n G x::xs.drop (k+1):=by
 have hl:k<xs.length:=(List.getElem?_eq_some_iff.mp h).1;have hx:xs[k]=x:=(List.getElem?_eq_some_iff.mp h).2;unfold xsI;refine⟨by rw[List.drop_eq_getElem_cons hl,hx],by rw[gJ h,List.map_append,List.append_assoc];rfl⟩
theorem V9 (n:Str)(G:LT->LT)(xs:List cD)(k:Nat):(xsI n G xs k).map (·.2)=xs.map (·.2):=by
 unfold xsI;rw[List.map_append,List.map_map]
 conv=>rhs;rw[←List.take_append_drop k xs,List.map_append]
 rfl
theorem MB {n:Str}{G:LT->LT}{xs:List cD}{k:Nat}{x:cD} (h:xs[k]? =some x):(xsI n G xs k)[k]? =some x:=by
 have hl:k<xs.length:=(List.getElem?_eq_some_iff.mp h).1;rw[(vM h).1,List.getElem?_append_right (by rw[List.length_map,List.length_take];lia),List.length_map,List.length_take,show k - min k xs.length=0 by lia];rfl
theorem cH {α β:Type}{F:α->β->Prop}:∀{l:List α}{m:List β}{y:β},Paired F l m->y∈m->∃x∈l,F x y
 | _,_,_,.cons r t,h=>by
  rcases List.mem_cons.mp h with rfl|h
  ·exact⟨_,.head _,r⟩
  ·obtain⟨x,hx,f⟩:=cH t h;exact⟨x,List.mem_cons_of_mem _ hx,f⟩
 | _,_,_,.nil,h=>nomatch h
theorem yZ {H H':Hp}{d':aL}{x:cD}:∀{A:List cD}{us:List V}{B:List cD},RecsAt H us (A++x::B)->((A++x::B).map (·.2)).Nodup->SameBut x.2 H H'->H' x.2=some (.lst (L20 d'))->d'.1=x.1.1->d'.2.1=x.1.2.1->d'.2.2.1=x.1.2.2.1->RecsAt H' us (A++(d',x.2)::B)
 | [],_,B,.cons ⟨q,e,g1,g2⟩ t,nd,sb,hl,h1,h2,h3=>by
  refine .cons ⟨q,e,?_,hl⟩ ?_
  ·rw[h1,h2,h3];exact sb _ _ g1 fun z=>by rw[z,g2]at g1;cases g1
  ·have nd':x.2∉B.map (·.2):=(List.nodup_cons.mp nd).1;clear nd;have key:∀{us:List V}{B:List cD},RecsAt H us B->x.2∉B.map (·.2)->RecsAt H' us B:=by
    intro us B t
    induction t with
    | nil=>exact fun _=> .nil
    | cons r _ ih =>
     intro hn;walk_at"g1";obtain⟨q',e',k1,k2⟩:=r;walk_at"g2";refine .cons ⟨q',e',sb _ _ k1 (fun z=> ?_),sb _ _ k2 (fun z=>hn (by rw[←z];exact .head _))⟩ (ih fun c=>hn (.tail _ c));rw[z,g2]at k1;cases k1
   exact key t nd'
 | y::A,_,B,.cons ⟨q,e,g1,g2⟩ t,nd,sb,hl,h1,h2,h3=>by
  obtain⟨nd1,nd2⟩:=List.nodup_cons.mp nd;have hx:∃o,H x.2=some o/\∃l,o= .lst l:=by
   walk_at"g1";obtain⟨v,hv,q',e',k1,k2⟩:=cH t (List.mem_append_right A (List.Mem.head B));walk_at"g2";exact⟨_,k2,_,rfl⟩
  walk_at"g1";obtain⟨o,ho,l,rfl⟩:=hx;walk_at"g2";refine .cons ⟨q,e,sb _ _ g1 (fun z=>by rw[z,ho]at g1;cases g1),sb _ _ g2 (fun z=>nd1 (List.mem_map.mpr ⟨x,List.mem_append_right _ (.head _),z.symm⟩))⟩ (yZ t nd2 sb hl h1 h2 h3)
def mid (f g:Int->Int)(T j:Nat):List V:=(List.range 20).map fun (i:Nat)=>V.int (if T<=i/\i<T+j then g (i:Int) else f (i:Int))
theorem w9 (f g:Int->Int)(T j:Nat):(mid f g T j).length=20:=by unfold mid;rw[List.length_map,List.length_range]
theorem CO {f g:Int->Int}{T j:Nat} (h:T+j<20):(mid f g T j)[T+j]? =some (.int (f ((T+j:Nat):Int))):=by
 unfold mid;rw[List.getElem?_map,List.getElem?_range h];show some (V.int (if T<=T+j/\T+j<T+j then _ else _))=_;rw[if_neg (by lia)]
theorem CZ {f g:Int->Int}{T j:Nat} (h:T+j<20):(mid f g T j).set (T+j) (.int (g ((T+j:Nat):Int)))=mid f g T (j+1):=by
 refine List.ext_getElem? fun i=> ?_;rw[List.getElem?_set,w9];unfold mid
 by_cases e:T+j=i
 ·subst e;rw[if_pos rfl,if_pos h,List.getElem?_map,List.getElem?_range h];show some (V.int (g _))=some (V.int (if T<=T+j/\T+j<T+(j+1) then _ else _));rw[if_pos (by lia)]
 ·rw[if_neg e,List.getElem?_map,List.getElem?_map]
  by_cases hi:i<20
  ·rw[List.getElem?_range hi];show some (V.int (if T<=i/\i<T+j then _ else _))=some (V.int (if T<=i/\i<T+(j+1) then _ else _))
   by_cases c:T<=i/\i<T+j
   ·rw[if_pos c,if_pos (by lia)]
   ·rw[if_neg c,if_neg (by lia)]
  ·rw[List.getElem?_eq_none (by rw[List.length_range];lia)];rfl
theorem RT {f g:Int->Int}{T j:Nat} (h:T+j<20) (e:g ((T+j:Nat):Int)=f ((T+j:Nat):Int)):mid f g T j=mid f g T (j+1):=by
 rw[←CZ h,e];refine List.ext_getElem? fun i=> ?_;rw[List.getElem?_set,w9]
 by_cases c:T+j=i
 ·subst c;rw[if_pos rfl,if_pos h,CO h]
 ·rw[if_neg c]
theorem VY (d:aL)(g:Int->Int)(T:Nat):mid d.2.2.2.f g T 0=L20 d:=by
 unfold mid L20;refine List.map_congr_left fun i _=> ?_;rw[if_neg (by lia)]
theorem MH {f g h:Int->Int}{T:Nat} (e:∀i:Nat,i<20->h (i:Int)=if T<=i then g (i:Int) else f (i:Int)):mid f g T (20 - T)=(List.range 20).map fun (i:Nat)=>V.int (h (i:Int)):=by
 unfold mid;refine List.map_congr_left fun i hi=> ?_;have hi:=List.mem_range.mp hi;rw[e i hi]
 by_cases c:T<=i
 ·rw[if_pos c,if_pos (by lia)]
 ·rw[if_neg c,if_neg (by lia)]
theorem WN {H H':Hp}{bad:List Addr}{v:V}{d:aL} (h:(aI P w K mg base (some 20)).at' H v d) (hb:∀b∈bad,∃o,H b=some o/\yR o) (s:FrB bad H H'):(aI P w K mg base (some 20)).at' H' v d:=by
 walk_at"g1";obtain⟨p,C,dx,fs,fp,e,hp,dc,l1,l2,l3,l4,l5,mc,hf,lt⟩:=h;walk_at"g2";refine⟨p,C,dx,fs,fp,e,s _ _ hp (fun z=> ?_),dc,l1,l2,l3,l4,l5,mc,fun x hx=>⟨s _ _ (hf x hx).1 (fun z=> ?_),(hf x hx).2⟩,lt⟩
 ·obtain⟨o,ho,so⟩:=hb _ z;rw[hp]at ho;cases ho;exact yQ l1 so
 ·obtain⟨o,ho,so⟩:=hb _ z;rw[(hf x hx).1]at ho;cases ho;exact(hf x hx).2 so
theorem Book.soft {rz:List (Str×Int)}{a sp mo:Addr}{H:Hp}{us:List V}{xs:List cD}{g gm:Str->Int} (b:Book rz a sp mo H us xs g gm):∀p∈gN a sp mo xs,∃o,H p=some o/\yR o/\∀l,o≠ .tup l:=fun p hp=>by
 obtain⟨ks,h1,h2⟩:=b.hs;obtain⟨km,h3,h4⟩:=b.hm;rcases List.mem_cons.mp hp with rfl|hp
 ·exact⟨_,b.ha,trivial,fun _ z=>by cases z⟩
 rcases List.mem_cons.mp hp with rfl|hp
 ·exact⟨_,h1,trivial,fun _ z=>by cases z⟩
 rcases List.mem_cons.mp hp with rfl|hp
 ·exact⟨_,h3,trivial,fun _ z=>by cases z⟩
 obtain⟨x,hx,rfl⟩:=List.mem_map.mp hp;walk_at"g1";obtain⟨v,_,q,_,_,k2⟩:=cH b.hx hx;walk_at"g2";exact⟨_,k2,trivial,fun _ z=>by cases z⟩
theorem AO {rz:List (Str×Int)}{a sp mo:Addr}{H H':Hp}{us:List V}{xs:List cD}{g gm:Str->Int} (b:Book rz a sp mo H us xs g gm) (s:FrB (gN a sp mo xs) H H') {v:V}:∀{h:Hap},HapAt (aI P w K mg base (some 20)) H v h->HapAt (aI P w K mg base (some 20)) H' v h:=by
 have tp:∀{q:Addr}{l:List V},H q=some (.tup l)->H' q=some (.tup l):=fun {q l} e=>s _ _ e fun z=>by
  walk_at"g1";obtain⟨o,ho,_,so⟩:=b.soft _ z;walk_at"g2";rw[e]at ho;cases ho;exact so _ rfl
 intro h x;cases h with
 | shut n t=>obtain⟨q,e,g⟩:=x;exact⟨q,e,tp g⟩
 | wider n t i=>obtain⟨q,e,g⟩:=x;exact⟨q,e,tp g⟩
 | found z i=>obtain⟨q,e,g⟩:=x;exact⟨q,e,tp g⟩
 | door d=>obtain⟨q,u,e,g,hd⟩:=x;exact⟨q,u,e,tp g,WN hd (fun p hp=>by obtain⟨o,h1,h2,_⟩:=b.soft p hp;exact⟨o,h1,h2⟩) s⟩
theorem RecsAt.fr {H H':Hp}{us:List V}{xs:List cD} (h:RecsAt H us xs) (s:∀b o,H b=some o->(∀k,o≠ .dK k)->H' b=some o):RecsAt H' us xs:=Paired.imp' (fun _ _ ⟨q,e,g1,g2⟩=>⟨q,e,s _ _ g1 (fun _ z=>by cases z),s _ _ g2 (fun _ z=>by cases z)⟩) h
theorem RecsAt.but {H H':Hp}{a:Addr}{us':List V} (ha:H a=some (.lst us')) (sb:SameBut a H H'):∀{us:List V}{xs:List cD},RecsAt H us xs->a∉xs.map (·.2)->RecsAt H' us xs
 | _,_,.nil,_=> .nil
 | _,_,.cons ⟨q,e,g1,g2⟩ t,hn=> .cons ⟨q,e,sb _ _ g1 (fun z=>by rw[z,ha]at g1;cases g1),sb _ _ g2 (fun z=>hn (by rw[←z];exact .head _))⟩ (RecsAt.but ha sb t fun c=>hn (.tail _ c))
theorem MF {n j:Nat}(h:j<n):ixN n (j:Int)=some j:=by
 unfold ixN;rw[if_pos (by lia),if_pos (by lia),Int.toNat_natCast]
theorem FrB.mono {b1 b2:List Addr}{H H':Hp} (s:FrB b1 H H') (h:∀b∈b1,b∈b2):FrB b2 H H':=fun b o e hn=>s b o e fun c=>hn (h b c)
def xsS (xs:List cD)(lq:Addr):Hap->List cD
 | .door d=>xs++[(d,lq)]
 | _=>xs
inductive GL (P:Program)(w:World)(K:W.Frag)(mg:Str->Option Value)(base:Heap)(vs:List V)(H:Hp)(Q:VK)(E:XK):Prop
 | mk (q a sp mo:Addr) (us:List V) (xs:List cD) (rz:List (Str×Int)) (g gm:Str->Int) (hp:Hap) (_:vs=[.ref q,.ref a,.ref sp,.ref mo]) (_:Book rz a sp mo H us xs g gm) (_:rz.length<=5) (_:HapAt (aI P w K mg base (some 20)) H (.ref q) hp) (_:MQ rz (xs.map (·.1.1)) g hp) (_:(∀d,hp= .door d->xs.length<16)) (_:∀H' us' xs',FrB (gN a sp mo xs) H H'->Book rz a sp mo H' us' xs' (gS g hp) (gM gm hp)->xs'.map (·.1)=aft (xs.map (·.1)) hp->(∀x∈xs',x.2∈xs.map (·.2)∨H x.2=none)->Q .non H'):GL P w K mg base vs H Q E
theorem CP (m:M K mg):FnOk P w K mg base CX0 22 m.oR m.oQ ["_law_happening_here","_law_doors","_law_space","_law_more"] (GL P w K mg base):=by
 refine m.k6.ok sc__law_befall (fun vs H Q E h=> ?_) (fun cdv A outer s H vs Q E hr h=> ?_)
 ·walk_at"g1";obtain⟨q,a,sp,mo,us,xs,rz,g,gm,hp,rfl,bk,lr5,hA,hG,h16,k⟩:=h;walk_at"g2";rfl
 ·walk_at"g1";obtain⟨q,a,sp,mo,us,xs,rz,g,gm,hp,rfl,bk,lr5,hA,hG,h16,k⟩:=h;walk_at"g2";have nd:=sc__law_befall.nd;walk_at"hu";refine⟨_,(aD (bO (aT gZ (bC b9 (pv 0) aE (fun _ _=>rfl)) cC (aX _)) (aD (aV (i:=4) nd rfl (by walk_at"oi") (bC b9 (pv 0) aE (fun _ _=>rfl)))
   (aF (bR (uH PySem.F.plainAttrs_list PySem.F.slot_list_append PySem.F.type_list_append jS (pv 1) (aA (cB (aA (aW (pv 4) rfl) (aA (aW (pv 4) rfl) (aA (aW (pv 4) rfl) (aA (cF (N:=["_law_turn","_law_door_here"]) (nl:=1) (ci:=[4]) rfl (blk (s.heap.objs.size+1) rfl rfl rfl (by kernel_rfl)) (gH rfl m.gD (aA aE aB)) (fun _ _ _ _=>(aG (i:=0) (show (["_law_turn","_law_door_here"]:List Str).Nodup by decide +kernel) rfl (by walk_at"oi"))) (fun _ _ _ _=>cI) (fun _ _ _ _=>(qR (P:=P) (w:=w) (K:=K) (mg:=mg) (base:=base) 20 hr (pv 1) (aA (pv 0) aB)))) aB))))) aB))))) (aF (bO (aT gZ (bC b9 (pv 0) aE (fun _ _=>rfl)) cC (aX _)) (aD (hU hu1 (pv 2) (bC b9 (pv 0) aE (fun _ _=>rfl)) (aN qF (dF hu1 (pv 2) (bC b9 (pv 0) aE (fun _ _=>rfl)) (fun _ _=>rfl)) (bC b9 (pv 0) aE (fun _ _=>rfl))) rfl)
   (aF (hU hu1 (pv 3) (bC b9 (pv 0) aE (fun _ _=>rfl)) (aN cA (dF hu1 (pv 3) (bC b9 (pv 0) aE (fun _ _=>rfl)) (fun _ _=>rfl)) (bC b9 (pv 0) aE (fun _ _=>rfl))) rfl))) bB)))
   (aF (c4 PassesOwn.never rfl (gH rfl m.gD (aA (bT fG rfl m.k4 iX (aA (pv 1) aB)) aB)) (aG (i:=5) nd rfl (by walk_at"oi")) (aD (IQ (bC fH (pv 1) (pv 5) (fun _ _=>rfl)) (l7 (n:=4) rfl (aY (aG (i:=6) nd rfl (by walk_at"oi")) (aY (aG (i:=7) nd rfl (by walk_at"oi")) (aY (aG (i:=8) nd rfl (by walk_at"oi")) (aY (aG (i:=9) nd rfl (by walk_at"oi")) dG))))))
   (aF (bO (PW.pt (A6 (aT D5 (bC b9 (pv 0) aE (fun _ _=>rfl)) (fU (aA cC (aA cC aB))) (by with_unfolding_all rfl)) (xD (aT gZ (pv 6) (bC b9 (pv 0) aE (fun _ _=>rfl)) (aX _))))) (aF (c4 PassesOwn.never rfl (wL rfl m.gD (aA (bC b9 (pv 0) aE (fun _ _=>rfl)) (aA aE aB))) (aG (i:=10) nd rfl (by walk_at"oi")) (aF (bO (aT gZ (bC b9 (pv 0) aE (fun _ _=>rfl)) cC (aX _)) (aF (IQ aE (QT (pv 9) (pv 10) HU))) (aF (bO (aT rW (bC fH (pv 9) (pv 10) (fun _ _=>rfl)) aE (aX _)) (aF (IQ (aN cA (bC fH (pv 9) (pv 10) (fun _ _=>rfl)) (bC b9 (pv 0) aE (fun _ _=>rfl))) (QT (pv 9) (pv 10) HU))) bB)))))) bB)))))),?_⟩
  refine aQ (σ:=[some (.ref q),some (.ref a),some (.ref sp),some (.ref mo),none,none,none,none,none,none,none]) rfl ?_;walk_at"cx";have hul:=Paired.length bk.hx;have hxl:=bk.len;refine C8 (fun σ' H'=>∃(us1:List V) (lq:Addr) (x4:Option V),FrB (gN a sp mo xs) H H'/\Book rz a sp mo H' us1 (xsS xs lq hp) (gS g hp) (gM gm hp)/\((∀d,hp≠ .door d)∨H lq=none)/\HapAt (aI P w K mg base (some 20)) H' (.ref q) hp/\σ'=[some (.ref q),some (.ref a),some (.ref sp),some (.ref mo),x4,none,none,none,none,none,none]) ?_ ?_
  rotate_left
  ·intro nx' hnx;cases hp with
   | shut n t =>
    obtain⟨q',e0,hq⟩:=id hA;cases e0;walk_at"go";exact hnx _ _ ⟨us,0,none,FrB.refl,bk,.inl (fun d z=>by cases z),hA,rfl⟩
   | wider n t i =>
    obtain⟨q',e0,hq⟩:=id hA;cases e0;walk_at"go";exact hnx _ _ ⟨us,0,none,FrB.refl,bk,.inl (fun d z=>by cases z),hA,rfl⟩
   | found z i =>
    obtain⟨q',e0,hq⟩:=id hA;cases e0;obtain⟨hz,i0,i1⟩:=hG;obtain⟨ks,hs1,hs2⟩:=bk.hs;obtain⟨km,hm1,hm2⟩:=bk.hm;have hsv:=hs2.2 z hz;have hmv:=hm2.2 z hz;have hqs:q≠sp:=fun c=>by rw[c,hs1]at hq;cases hq
    have hqm:q≠mo:=fun c=>by rw[c,hm1]at hq;cases hq
    have kl1:ks.length=rz.length:=by have:=congrArg List.length hs2.1;rw[List.length_map,List.length_map]at this;exact this
    have kl2:km.length=rz.length:=by have:=congrArg List.length hm2.1;rw[List.length_map,List.length_map]at this;exact this
    walk_at"go";refine fV (.inl hs1) hsv ?_;walk_at"go";refine mR hs1 (by rw[sizeLine_eq];lia) fun H2 B2 e2=> ?_;have hq2:=B2 _ _ hq hqs;have hm12:=B2 _ _ hm1 (Ne.symm bk.ne);walk_at"go";refine fV (.inl hm12) hmv ?_;walk_at"go";refine mR hm12 (by rw[sizeLine_eq];lia) fun H3 B3 e3=> ?_;have fr:FrB (gN a sp mo xs) H H3:=(FrB.refl.but B2 (.tail _ (.head _))).but B3 (.tail _ (.tail _ (.head _)));have oth:∀b o,H b=some o->(∀k,o≠ .dK k)->H3 b=some o:=fun b o hb hn=>B3 _ _ (B2 _ _ hb (fun c=>by rw[c,hs1]at hb;cases hb;exact hn _ rfl)) (fun c=>by rw[c,hm1]at hb;cases hb;exact hn _ rfl);have f1:(fun z'=>if z'=z then g z - i else g z')=gS g (.found z i):=funext fun z'=>by
     show _=if z'=z then g z' - i else g z'
     by_cases c:z'=z
     ·rw[if_pos c,if_pos c,c]
     ·rw[if_neg c,if_neg c]
    have f2:(fun z'=>if z'=z then gm z+i else gm z')=gM gm (.found z i):=funext fun z'=>by
     show _=if z'=z then gm z'+i else gm z'
     by_cases c:z'=z
     ·rw[if_pos c,if_pos c,c]
     ·rw[if_neg c,if_neg c]
    exact hnx _ _ ⟨us,0,none,fr,⟨oth _ _ bk.ha (fun _ c=>by cases c),bk.hx.fr oth,bk.nd,⟨_,B3 _ _ e2 bk.ne,f1▸LJ hs2 hz (g z - i)⟩,⟨_,e3,f2▸LJ hm2 hz (gm z+i)⟩,bk.ne,bk.len,bk.na⟩,.inl (fun d z=>by cases z),AO bk fr hA,rfl⟩
   | door d =>
    walk_at"g1";obtain⟨q',u,e0,hq,hd⟩:=id hA;walk_at"g2";cases e0;walk_at"g1";obtain⟨n,st,e,lt⟩:=d;walk_at"g2";walk_at"g1";obtain⟨q9,C9,dx,fs,fp,rfl,hq9,dcC,l1,l2,l3,l4,l5,mcE,hfp,hlt⟩:=DoorAt.ex hd;walk_at"g2";have ha:=bk.ha;have h16:=h16 _ rfl;walk_at"g1";obtain⟨hdk,sp0,mcL0,hsp⟩:=hlt _ rfl;walk_at"g2";have mcL:=Mc.mono mcL0 hdk;walk_at"go";refine uB (fun i=> .int (lt.f (i:Int))) (by decide) (rest:=[some (.ref q9)]) (by rfl) ?_ ?_
    ·intro i H2 hi s2 R hR;have hq2:=s2 _ _ hq9;rw[Int.zero_add];walk_at"go";exact hsp _ _ _ hq2 (fun x hx=>s2 _ _ (hfp x hx).1) (by lia) (hR _ (Same.refl _))
    ·intro H2 s2;walk_at"go";rename_i p3 H3 n3 S3 e3 p4 H4 n4 S4 e4;have s04:Same H H4:=(s2.trans S3).trans S4;have e3':H3 p3=some (.lst (L20 (n,st,e,lt))):=e3;obtain⟨ks,hs1,hs2⟩:=bk.hs;obtain⟨km,hm1,hm2⟩:=bk.hm;refine lO (s04 _ _ ha) (by rw[sizeLine_eq];lia) fun H5 B5 e5=> ?_;have np3:p3≠a:=fun c=>by rw[c,s2 _ _ ha]at n3;cases n3
     have np4:p4≠a:=fun c=>by rw[c,S3 _ _ (s2 _ _ ha)]at n4;cases n4
     have h3n:H p3=none:=cE s2 n3;have fr:FrB (gN a sp mo xs) H H5:=(FrB.refl.snoc s04).but B5 (.head _);have h3x:p3∉xs.map (·.2):=fun c=>by
      obtain⟨x,hx,hxe⟩:=List.mem_map.mp c;walk_at"g1";obtain⟨v,_,q1,_,_,k2⟩:=cH bk.hx hx;walk_at"g2";rw[show x.2=p3 from hxe,h3n]at k2;cases k2
     have hx5:RecsAt H5 us xs:=RecsAt.but (s04 _ _ ha) B5 (RecsAt.same bk.hx s04) bk.na;refine hnx _ _ ⟨us++[.ref p4],p3,_,fr,⟨e5,L2.Paired.snoc hx5 ⟨p4,rfl,B5 _ _ e4 np4,B5 _ _ (S4 _ _ e3') np3⟩,?_,⟨ks,B5 _ _ (s04 _ _ hs1) (fun c=>by rw[c,ha]at hs1;cases hs1),hs2⟩,⟨km,B5 _ _ (s04 _ _ hm1) (fun c=>by rw[c,ha]at hm1;cases hm1),hm2⟩,bk.ne,by show (xs++[_]).length<=16;rw[List.length_append];show xs.length+1<=16;lia,?_⟩,.inr h3n,AO bk fr hA,rfl⟩
     ·show ((xs++[_]).map _).Nodup;rw[List.map_append,List.nodup_append];refine⟨bk.nd,by simp,fun x hx y hy c=> ?_⟩;rw[c,List.mem_singleton.mp hy]at hx;exact h3x hx
     ·show a∉(xs++[_]).map _;rw[List.map_append,List.mem_append];rintro (c|c)
      ·exact bk.na c
      ·exact np3 (List.mem_singleton.mp c).symm
  rintro _ H1 hq_;walk_at"g1";obtain⟨us1,lq,x4,fr1,bk1,hlq,hA1,rfl⟩:=hq_;walk_at"g2";have ha1:=bk1.ha;have hul1:=Paired.length bk1.hx;have hu16:us1.length<=16:=by rw[hul1];exact bk1.len
  cases hp with
  | found z i =>
   obtain⟨q',e0,hq1⟩:=id hA1;cases e0;walk_at"go";let Pv1:Nat->St->Hp->Prop:=fun j σ' H'=>Same H1 H'/\∃x5 x6 x7 x8 x9:Option V,σ'=[some (.ref q),some (.ref a),some (.ref sp),some (.ref mo),x4,x5,x6,x7,x8,x9,none];refine iB Pv1 ⟨Same.refl _,_,_,_,_,_,rfl⟩ ?_ ?_
   ·rintro j _ H2 hj hq_;walk_at"g1";obtain⟨s2,x5,x6,x7,x8,x9,rfl⟩:=hq_;walk_at"g2";have ha2:=s2 _ _ ha1;have hq2:=s2 _ _ hq1;obtain⟨u0,hu0⟩:∃u0,us1[j]? =some u0:=⟨_,List.getElem?_eq_getElem (by lia)⟩
    obtain⟨y0,hy0⟩:∃y0,(xsS xs lq (.found z i))[j]? =some y0:=⟨_,List.getElem?_eq_getElem (by lia)⟩
    walk_at"g1";obtain⟨q2,rfl,ht,_⟩:=L2.Paired.at2 (RecsAt.same bk1.hx s2) hu0 hy0;walk_at"g2";walk_at"go";refine⟨a,us1,_,_,rfl,rfl,SqL.of ha2,d7 (by rw[Nat.zero_add];exact hu0),?_⟩;walk_at"go";rename_i p3 H3 n3 S3 e3;refine vS (ss:=[("shut" :Str),"wider"]) (SqL.of e3) ?_;rw[show decide (("found" :Str)∈([("shut" :Str),"wider"]:List Str))=false by decide +kernel];walk_at"go";exact⟨s2.trans S3,_,_,_,_,_,rfl⟩
   ·rintro _ H2 hq_;walk_at"g1";obtain⟨s2,x5,x6,x7,x8,x9,rfl⟩:=hq_;walk_at"g2";refine k H2 us1 _ (fr1.snoc s2) (bk1.same s2) rfl fun x hx=> .inl (List.mem_map.mpr ⟨x,hx,rfl⟩)
  | door d =>
   walk_at"g1";obtain⟨q',u,e0,hq1,hd1⟩:=id hA1;walk_at"g2";cases e0;walk_at"go";let Pv2:Nat->St->Hp->Prop:=fun j σ' H'=>Same H1 H'/\∃x5 x6 x7 x8 x9:Option V,σ'=[some (.ref q),some (.ref a),some (.ref sp),some (.ref mo),x4,x5,x6,x7,x8,x9,none];refine iB Pv2 ⟨Same.refl _,_,_,_,_,_,rfl⟩ ?_ ?_
   ·rintro j _ H2 hj hq_;walk_at"g1";obtain⟨s2,x5,x6,x7,x8,x9,rfl⟩:=hq_;walk_at"g2";have ha2:=s2 _ _ ha1;have hq2:=s2 _ _ hq1;obtain⟨u0,hu0⟩:∃u0,us1[j]? =some u0:=⟨_,List.getElem?_eq_getElem (by lia)⟩
    obtain⟨y0,hy0⟩:∃y0,(xsS xs lq (.door d))[j]? =some y0:=⟨_,List.getElem?_eq_getElem (by lia)⟩
    walk_at"g1";obtain⟨q2,rfl,ht,_⟩:=L2.Paired.at2 (RecsAt.same bk1.hx s2) hu0 hy0;walk_at"g2";walk_at"go";refine⟨a,us1,_,_,rfl,rfl,SqL.of ha2,d7 (by rw[Nat.zero_add];exact hu0),?_⟩;walk_at"go";rename_i p3 H3 n3 S3 e3;refine vS (ss:=[("shut" :Str),"wider"]) (SqL.of e3) ?_;rw[show decide (("door" :Str)∈([("shut" :Str),"wider"]:List Str))=false by decide +kernel];walk_at"go";exact⟨s2.trans S3,_,_,_,_,_,rfl⟩
   ·rintro _ H2 hq_;walk_at"g1";obtain⟨s2,x5,x6,x7,x8,x9,rfl⟩:=hq_;walk_at"g2";refine k H2 us1 _ (fr1.snoc s2) (bk1.same s2) (List.map_append) fun x hx=> ?_;rcases List.mem_append.mp hx with h|h
    ·exact .inl (List.mem_map.mpr ⟨x,h,rfl⟩)
    ·rw[List.mem_singleton.mp h];rcases hlq with c|c
     ·exact absurd rfl (c d)
     ·exact .inr c
  | shut n t =>
   obtain⟨q',e0,hq1⟩:=id hA1;cases e0;obtain⟨hn,t0,t1⟩:=hG;have tup1:∀{b:Addr}{ll:List V},H1 b=some (.tup ll)->b∉xs.map (·.2):=fun {b ll} e c=>by
    obtain⟨x,hx,hxe⟩:=List.mem_map.mp c;walk_at"g1";obtain⟨v,_,q1,_,_,k2⟩:=cH bk1.hx hx;walk_at"g2";rw[show x.2=b from hxe,e]at k2;cases k2
   walk_at"go";let Pv3:Nat->St->Hp->Prop:=fun j σ' H'=>FrB (xs.map (·.2)) H1 H'/\RecsAt H' us1 (xsI n (jF t) xs j)/\∃x5 x6 x7 x8 x9 x10:Option V,σ'=[some (.ref q),some (.ref a),some (.ref sp),some (.ref mo),x4,x5,x6,x7,x8,x9,x10];refine iB Pv3 ⟨FrB.refl,bk1.hx,_,_,_,_,_,_,rfl⟩ ?_ ?_
   ·rintro j _ H2 hj hq_;walk_at"g1";obtain⟨f2,r2,x5,x6,x7,x8,x9,x10,rfl⟩:=hq_;walk_at"g2";have ha2:=f2 _ _ ha1 bk1.na;have hq2:=f2 _ _ hq1 (tup1 hq1);have hul2:us1.length=xs.length:=hul1;obtain⟨u0,hu0⟩:∃u0,us1[j]? =some u0:=⟨_,List.getElem?_eq_getElem (by lia)⟩
    obtain⟨y0,hy0⟩:∃y0,xs[j]? =some y0:=⟨_,List.getElem?_eq_getElem (by lia)⟩
    walk_at"g1";obtain⟨q2,rfl,ht,hl⟩:=L2.Paired.at2 r2 hu0 (MB hy0);walk_at"g2";have hyx:y0.2∈xs.map (·.2):=List.mem_map.mpr ⟨y0,List.mem_of_getElem? hy0,rfl⟩;walk_at"go";refine⟨a,us1,_,_,rfl,rfl,SqL.of ha2,d7 (by rw[Nat.zero_add];exact hu0),?_⟩;walk_at"go";rename_i p3 H3 n3 S3 e3;refine vS (ss:=[("shut" :Str),"wider"]) (SqL.of e3) ?_;rw[show decide (("shut" :Str)∈([("shut" :Str),"wider"]:List Str))=true by decide +kernel];have r3:=RecsAt.same r2 S3;have hq3:=S3 _ _ hq2;have hl3:=S3 _ _ hl;walk_at"go"
    by_cases hnm:y0.1.1=n
    ·rw[decide_eq_true hnm];walk_at"go";let Pv4:Nat->St->Hp->Prop:=fun j2 σ' H'=>SameBut y0.2 H3 H'/\H' y0.2=some (.lst (mid y0.1.2.2.2.f (fun _=>0) t.toNat j2))/\∃x10:Option V,σ'=[some (.ref q),some (.ref a),some (.ref sp),some (.ref mo),x4,some (.int (0+(j:Int))),some (.str y0.1.1),some (.str y0.1.2.1),some y0.1.2.2.1,some (.ref y0.2),x10];refine iB Pv4 ⟨SameBut.refl,by rw[VY];exact hl3,_,rfl⟩ ?_ ?_
     ·rintro j2 _ H4 hj2 hq_;walk_at"g1";obtain⟨sb4,hl4,x11,rfl⟩:=hq_;walk_at"g2";have hTj:t.toNat+j2<20:=by lia
      have eti:t+(j2:Int)=((t.toNat+j2:Nat):Int):=by lia
      have hq4:=sb4 _ _ hq3 (fun c=>by rw[c,hl3]at hq3;cases hq3);rw[eti];walk_at"go";refine yP hl4 (by rw[w9];exact MF hTj) fun H5 B5 e5=> ?_;exact⟨sb4.trans (fun b o hb hn=>B5 b o hb hn),by rw[e5];exact congrArg (fun z=>some (HO.lst z)) (CZ (g:=fun _=>0) hTj),_,rfl⟩
     ·rintro _ H4 hq_;walk_at"g1";obtain⟨sb4,hl4,x11,rfl⟩:=hq_;walk_at"g2";have el:(20 - t).toNat=20 - t.toNat:=by lia
      rw[el,MH (h:=(chg n (jF t) y0.1).2.2.2.f) (fun i hi=>by
       unfold chg;rw[if_pos hnm];show (if (i:Int)<t then _ else (0:Int))=if t.toNat<=i then 0 else _
       by_cases c:t.toNat<=i
       ·rw[if_pos c,if_neg (by lia)]
       ·rw[if_neg c,if_pos (by lia)])]at hl4
      refine⟨(f2.snoc S3).but sb4 hyx,?_,_,_,_,_,_,_,rfl⟩;have e1:=vM (n:=n) (G:=jF t) hy0;have hnd:((xsI n (jF t) xs j).map (·.2)).Nodup:=by rw[V9];exact bk1.nd
      rw[e1.1]at r3 hnd;have c1:=GB n (jF t) y0.1;rw[e1.2];exact yZ r3 hnd sb4 hl4 c1.1 c1.2.1 c1.2.2
    ·rw[decide_eq_false hnm];walk_at"go";refine⟨f2.snoc S3,?_,_,_,_,_,_,_,rfl⟩;have e1:=vM (n:=n) (G:=jF t) hy0;rw[e1.2,show mT n (jF t) y0=y0 from by unfold mT chg;rw[if_neg hnm],←e1.1];exact r3
   ·rintro _ H2 hq_;walk_at"g1";obtain⟨f2,r2,x5,x6,x7,x8,x9,x10,rfl⟩:=hq_;walk_at"g2";rw[show ((us1.length:Nat):Int).toNat=xs.length by rw[Int.toNat_natCast];exact hul1,L4]at r2;have e2:(xs.map (mT n (jF t))).map (·.2)=xs.map (·.2):=by rw[List.map_map];rfl
    have notl:∀{b:Addr}{kk:List (Key×V)},H1 b=some (.dK kk)->b∉xs.map (·.2):=fun {b kk} e c=>by
     obtain⟨x,hx,hxe⟩:=List.mem_map.mp c;walk_at"g1";obtain⟨v,_,q1,_,_,k2⟩:=cH bk1.hx hx;walk_at"g2";rw[show x.2=b from hxe,e]at k2;cases k2
    obtain⟨ks,hs1,hs2⟩:=bk1.hs;obtain⟨km,hm1,hm2⟩:=bk1.hm;refine k H2 us1 (xs.map (mT n (jF t))) (fr1.trans (f2.mono fun b hb=> .tail _ (.tail _ (.tail _ hb)))) ⟨f2 _ _ ha1 bk1.na,r2,by rw[e2];exact bk1.nd,⟨ks,f2 _ _ hs1 (notl hs1),hs2⟩,⟨km,f2 _ _ hm1 (notl hm1),hm2⟩,bk1.ne,by rw[List.length_map];exact bk1.len,by rw[e2];exact bk1.na⟩ ?_ fun x hx=> .inl ?_
    ·rw[List.map_map];show _=(xs.map (·.1)).map (chg n (jF t));rw[List.map_map];rfl
    ·rw[←e2];exact List.mem_map.mpr ⟨x,hx,rfl⟩
  | wider n t i =>
   obtain⟨q',e0,hq1⟩:=id hA1;cases e0;walk_at"g1";obtain⟨hn,t0,t1,i0⟩:=hG;walk_at"g2";have tup1:∀{b:Addr}{ll:List V},H1 b=some (.tup ll)->b∉xs.map (·.2):=fun {b ll} e c=>by
    obtain⟨x,hx,hxe⟩:=List.mem_map.mp c;walk_at"g1";obtain⟨v,_,q1,_,_,k2⟩:=cH bk1.hx hx;walk_at"g2";rw[show x.2=b from hxe,e]at k2;cases k2
   walk_at"go";let Pv5:Nat->St->Hp->Prop:=fun j σ' H'=>FrB (xs.map (·.2)) H1 H'/\RecsAt H' us1 (xsI n (gE t i) xs j)/\∃x5 x6 x7 x8 x9 x10:Option V,σ'=[some (.ref q),some (.ref a),some (.ref sp),some (.ref mo),x4,x5,x6,x7,x8,x9,x10];refine iB Pv5 ⟨FrB.refl,bk1.hx,_,_,_,_,_,_,rfl⟩ ?_ ?_
   ·rintro j _ H2 hj hq_;walk_at"g1";obtain⟨f2,r2,x5,x6,x7,x8,x9,x10,rfl⟩:=hq_;walk_at"g2";have ha2:=f2 _ _ ha1 bk1.na;have hq2:=f2 _ _ hq1 (tup1 hq1);have hul2:us1.length=xs.length:=hul1;obtain⟨u0,hu0⟩:∃u0,us1[j]? =some u0:=⟨_,List.getElem?_eq_getElem (by lia)⟩
    obtain⟨y0,hy0⟩:∃y0,xs[j]? =some y0:=⟨_,List.getElem?_eq_getElem (by lia)⟩
    walk_at"g1";obtain⟨q2,rfl,ht,hl⟩:=L2.Paired.at2 r2 hu0 (MB hy0);walk_at"g2";have hyx:y0.2∈xs.map (·.2):=List.mem_map.mpr ⟨y0,List.mem_of_getElem? hy0,rfl⟩;walk_at"go";refine⟨a,us1,_,_,rfl,rfl,SqL.of ha2,d7 (by rw[Nat.zero_add];exact hu0),?_⟩;walk_at"go";rename_i p3 H3 n3 S3 e3;refine vS (ss:=[("shut" :Str),"wider"]) (SqL.of e3) ?_;rw[show decide (("wider" :Str)∈([("shut" :Str),"wider"]:List Str))=true by decide +kernel];have r3:=RecsAt.same r2 S3;have hq3:=S3 _ _ hq2;have hl3:=S3 _ _ hl;walk_at"go"
    by_cases hnm:y0.1.1=n
    ·rw[decide_eq_true hnm];walk_at"go";let Pv6:Nat->St->Hp->Prop:=fun j2 σ' H'=>SameBut y0.2 H3 H'/\H' y0.2=some (.lst (mid y0.1.2.2.2.f (fun z=>if 0<y0.1.2.2.2.f z then y0.1.2.2.2.f z+i else y0.1.2.2.2.f z) t.toNat j2))/\∃x10:Option V,σ'=[some (.ref q),some (.ref a),some (.ref sp),some (.ref mo),x4,some (.int (0+(j:Int))),some (.str y0.1.1),some (.str y0.1.2.1),some y0.1.2.2.1,some (.ref y0.2),x10];refine iB Pv6 ⟨SameBut.refl,by rw[VY];exact hl3,_,rfl⟩ ?_ ?_
     ·rintro j2 _ H4 hj2 hq_;walk_at"g1";obtain⟨sb4,hl4,x11,rfl⟩:=hq_;walk_at"g2";have hTj:t.toNat+j2<20:=by lia
      have eti:t+(j2:Int)=((t.toNat+j2:Nat):Int):=by lia
      have hq4:=sb4 _ _ hq3 (fun c=>by rw[c,hl3]at hq3;cases hq3);rw[eti];walk_at"go";refine⟨_,_,_,_,rfl,rfl,SqL.of hl4,d7 (CO hTj),?_⟩;walk_at"go";refine gK (fun hc=> ?_) (fun hc=> ?_)
      ·walk_at"go";refine⟨_,_,_,_,rfl,rfl,SqL.of hl4,d7 (CO hTj),?_⟩;walk_at"go";refine yP hl4 (by rw[w9];exact MF hTj) fun H5 B5 e5=> ?_;refine⟨sb4.trans (fun b o hb hn=>B5 b o hb hn),?_,_,rfl⟩;rw[e5,←CZ hTj];show _=some (HO.lst (List.set _ _ (V.int (if 0<y0.1.2.2.2.f ((t.toNat+j2:Nat):Int) then _ else _))));rw[if_pos hc]
      ·walk_at"go";refine⟨sb4,?_,_,rfl⟩;rw[hl4,RT hTj];show (if 0<y0.1.2.2.2.f ((t.toNat+j2:Nat):Int) then _ else _)=_;rw[if_neg hc]
     ·rintro _ H4 hq_;walk_at"g1";obtain⟨sb4,hl4,x11,rfl⟩:=hq_;walk_at"g2";have el:(20 - t).toNat=20 - t.toNat:=by lia
      rw[el,MH (h:=(chg n (gE t i) y0.1).2.2.2.f) (fun i hi=>by
       unfold chg;rw[if_pos hnm];show (if t<=(i:Int)/\0<y0.1.2.2.2.f (i:Int) then _ else _)=if t.toNat<=i then (if 0<y0.1.2.2.2.f (i:Int) then _ else _) else _
       by_cases c:t.toNat<=i
       ·rw[if_pos c]
        by_cases c2:0<y0.1.2.2.2.f (i:Int)
        ·rw[if_pos ⟨by lia,c2⟩,if_pos c2]
        ·rw[if_neg (fun z=>c2 z.2),if_neg c2]
       ·rw[if_neg c,if_neg (fun z=>c (by lia))])]at hl4
      refine⟨(f2.snoc S3).but sb4 hyx,?_,_,_,_,_,_,_,rfl⟩;have e1:=vM (n:=n) (G:=gE t i) hy0;have hnd:((xsI n (gE t i) xs j).map (·.2)).Nodup:=by rw[V9];exact bk1.nd
      rw[e1.1]at r3 hnd;have c1:=GB n (gE t i) y0.1;rw[e1.2];exact yZ r3 hnd sb4 hl4 c1.1 c1.2.1 c1.2.2
    ·rw[decide_eq_false hnm];walk_at"go";refine⟨f2.snoc S3,?_,_,_,_,_,_,_,rfl⟩;have e1:=vM (n:=n) (G:=gE t i) hy0;rw[e1.2,show mT n (gE t i) y0=y0 from by unfold mT chg;rw[if_neg hnm],←e1.1];exact r3
   ·rintro _ H2 hq_;walk_at"g1";obtain⟨f2,r2,x5,x6,x7,x8,x9,x10,rfl⟩:=hq_;walk_at"g2";rw[show ((us1.length:Nat):Int).toNat=xs.length by rw[Int.toNat_natCast];exact hul1,L4]at r2;have e2:(xs.map (mT n (gE t i))).map (·.2)=xs.map (·.2):=by rw[List.map_map];rfl
    have notl:∀{b:Addr}{kk:List (Key×V)},H1 b=some (.dK kk)->b∉xs.map (·.2):=fun {b kk} e c=>by
     obtain⟨x,hx,hxe⟩:=List.mem_map.mp c;walk_at"g1";obtain⟨v,_,q1,_,_,k2⟩:=cH bk1.hx hx;walk_at"g2";rw[show x.2=b from hxe,e]at k2;cases k2
    obtain⟨ks,hs1,hs2⟩:=bk1.hs;obtain⟨km,hm1,hm2⟩:=bk1.hm;refine k H2 us1 (xs.map (mT n (gE t i))) (fr1.trans (f2.mono fun b hb=> .tail _ (.tail _ (.tail _ hb)))) ⟨f2 _ _ ha1 bk1.na,r2,by rw[e2];exact bk1.nd,⟨ks,f2 _ _ hs1 (notl hs1),hs2⟩,⟨km,f2 _ _ hm1 (notl hm1),hm2⟩,bk1.ne,by rw[List.length_map];exact bk1.len,by rw[e2];exact bk1.na⟩ ?_ fun x hx=> .inl ?_
    ·rw[List.map_map];show _=(xs.map (·.1)).map (chg n (gE t i));rw[List.map_map];rfl
    ·rw[←e2];exact List.mem_map.mpr ⟨x,hx,rfl⟩
theorem B4 (m:M K mg):Fc P w K mg base "_law_befall" 22 ["_law_happening_here","_law_doors","_law_space","_law_more"] (GL P w K mg base):=⟨_,_,m.FJ,m.k6.kp,m.F1,CP m⟩
def BU (H:Hp)(p:Addr):Prop:=∀o,H p=some o->∃ps,o= .tbl ps
def FrT (bad:List Addr)(H H':Hp):Prop:=∀b o,H b=some o->b∉bad->(∀ps,o≠ .tbl ps)->H' b=some o
theorem FrT.snocT {bad:List Addr}{H H1 H2:Hp} (a:FrT bad H H1) (b:SameT H1 H2):FrT bad H H2:=fun c o h hc hn=>b c o (a c o h hc hn) hn
theorem FrT.fr {bad b2:List Addr}{H H1 H2:Hp} (a:FrT bad H H1) (b:FrB b2 H1 H2) (h:∀x∈b2,x∈bad∨BU H x):FrT bad H H2:=fun c o hc hn ho=>b c o (a c o hc hn ho) fun z=>by
 rcases h c z with h|h
 ·exact hn h
 ·obtain⟨ps,e⟩:=h o hc;exact ho ps e
theorem FrT.but {bad:List Addr}{H H1 H2:Hp}{p:Addr} (a:FrT bad H H1) (b:SameBut p H1 H2) (h:H p=none):FrT bad H H2:=fun c o hc hn ho=>b c o (a c o hc hn ho) fun z=>by rw[z,h]at hc;cases hc
theorem Book.t {rz:List (Str×Int)}{a sp mo:Addr}{H H':Hp}{us:List V}{xs:List cD}{g gm:Str->Int} (b:Book rz a sp mo H us xs g gm) (s:SameT H H'):Book rz a sp mo H' us xs g gm:=by
 obtain⟨ks,h1,h2⟩:=b.hs;obtain⟨km,h3,h4⟩:=b.hm;exact⟨s _ _ b.ha (fun _ z=>by cases z),RecsAt.t b.hx s,b.nd,⟨ks,s _ _ h1 (fun _ z=>by cases z),h2⟩,⟨km,s _ _ h3 (fun _ z=>by cases z),h4⟩,b.ne,b.len,b.na⟩
theorem HapAt.t {H H':Hp}{v:V} (s:SameT H H'):∀{h:Hap},HapAt (aI P w K mg base (some 20)) H v h->HapAt (aI P w K mg base (some 20)) H' v h
 | .shut _ _,⟨q,e,g⟩=>⟨q,e,s _ _ g (fun _ z=>by cases z)⟩
 | .wider _ _ _,⟨q,e,g⟩=>⟨q,e,s _ _ g (fun _ z=>by cases z)⟩
 | .found _ _,⟨q,e,g⟩=>⟨q,e,s _ _ g (fun _ z=>by cases z)⟩
 | .door _,⟨q,u,e,g,d⟩=>⟨q,u,e,s _ _ g (fun _ z=>by cases z),AX d s⟩
theorem Book.but {rz:List (Str×Int)}{a sp mo p:Addr}{H H':Hp}{us:List V}{xs:List cD}{g gm:Str->Int} (b:Book rz a sp mo H us xs g gm) {o:HO} (hp:H p=some o) (hb:p∉gN a sp mo xs) (ht:∀l,o≠ .tup l) (s:SameBut p H H'):Book rz a sp mo H' us xs g gm:=by
 obtain⟨ks,h1,h2⟩:=b.hs;obtain⟨km,h3,h4⟩:=b.hm;refine⟨s _ _ b.ha (fun z=>hb (by rw[z];exact .head _)),?_,b.nd,⟨ks,s _ _ h1 (fun z=>hb (by rw[z];exact .tail _ (.head _))),h2⟩,⟨km,s _ _ h3 (fun z=>hb (by rw[z];exact .tail _ (.tail _ (.head _)))),h4⟩,b.ne,b.len,b.na⟩;have hn:∀x∈xs,x.2≠p:=fun x hx z=>hb (.tail _ (.tail _ (.tail _ (List.mem_map.mpr ⟨x,hx,z⟩))));have key:∀{us:List V}{xs:List cD},RecsAt H us xs->(∀x∈xs,x.2≠p)->RecsAt H' us xs:=by
  intro us xs t
  induction t with
  | nil=>exact fun _=> .nil
  | cons r _ ih =>
   intro hn;walk_at"g1";obtain⟨q,e,g1,g2⟩:=r;walk_at"g2";exact .cons ⟨q,e,s _ _ g1 (fun z=>by rw[z,hp]at g1;cases g1;exact ht _ rfl),s _ _ g2 (hn _ (.head _))⟩ (ih fun x hx=>hn x (.tail _ hx))
 exact key b.hx hn
theorem OX {rz:List (Str×Int)}{n:Str}{G:LT->LT}{d:aL} (h:DOk rz d) (hG:∀lt:LT,(∀t,0<=lt.f t)->∀t,0<=(G lt).f t):DOk rz (chg n G d):=by
 have c:=GB n G d;refine⟨by rw[c.1];exact h.hn,by rw[c.2.1];exact h.hs,by rw[c.2.2];exact h.he,?_,?_⟩
 ·unfold qO;rw[c.2.1,c.2.2];exact h.hin
 ·unfold chg
  split
  ·exact hG _ h.pos
  ·exact h.pos
theorem LL {n:Str}{G:LT->LT}{d:aL}{k:Nat} (h:d.2.2.2.dep<=k) (hG:∀lt:LT,(G lt).dep=lt.dep+1):(chg n G d).2.2.2.dep<=k+1:=by
 unfold chg
 split
 ·show (G _).dep<=_;rw[hG];lia
 ·lia
theorem XO {rz:List (Str×Int)}{ds:List aL}{k:Nat} (o:zG rz ds k) {h:Hap} (hk:AY rz ds h) (hd:∀d,h= .door d->DOk rz d/\ds.length<16) (hw:∀n t i,h= .wider n t i->0<=i):zG rz (aft ds h) (k+1):=by
 cases h with
 | found z i=>exact⟨o.nd,o.ok,fun d hd=>by have:=o.dep d hd;lia,o.len⟩
 | door d =>
  obtain⟨h1,h2⟩:=hk.dn d rfl;obtain⟨h3,h4⟩:=hd d rfl;refine⟨?_,fun x hx=> ?_,fun x hx=> ?_,by show (ds++[d]).length<=16;rw[List.length_append];show ds.length+1<=16;lia⟩
  ·show ((ds++[d]).map _).Nodup;rw[List.map_append,List.nodup_append];refine⟨o.nd,by simp,fun x hx y hy c=> ?_⟩;rw[c,List.mem_singleton.mp hy]at hx;exact h1 hx
  ·rcases List.mem_append.mp hx with h|h
   ·exact o.ok x h
   ·rw[List.mem_singleton.mp h];exact h3
  ·rcases List.mem_append.mp hx with h|h
   ·have:=o.dep x h;lia
   ·rw[List.mem_singleton.mp h,h2];lia
 | shut n t =>
  refine⟨by show ((ds.map _).map _).Nodup;rw[ED];exact o.nd,fun x hx=> ?_,fun x hx=> ?_,by show (ds.map _).length<=16;rw[List.length_map];exact o.len⟩
  ·obtain⟨d,hd,rfl⟩:=List.mem_map.mp hx;exact OX (o.ok d hd) fun lt hp t'=>by show 0<=if t'<t then lt.f t' else 0;split;exact hp _;decide
  ·obtain⟨d,hd,rfl⟩:=List.mem_map.mp hx;exact LL (o.dep d hd) fun _=>rfl
 | wider n t i =>
  have hi:=hw n t i rfl;refine⟨by show ((ds.map _).map _).Nodup;rw[ED];exact o.nd,fun x hx=> ?_,fun x hx=> ?_,by show (ds.map _).length<=16;rw[List.length_map];exact o.len⟩
  ·obtain⟨d,hd,rfl⟩:=List.mem_map.mp hx;exact OX (o.ok d hd) fun lt hp t'=>by
    show 0<=if t<=t'/\0<lt.f t' then lt.f t'+i else lt.f t';have:=hp t'
    split<;>lia
  ·obtain⟨d,hd,rfl⟩:=List.mem_map.mp hx;exact LL (o.dep d hd) fun _=>rfl
theorem WJ {rz:List (Str×Int)}{ds:List aL}{hs:List Hap} (g:wC rz ds hs) (hl:hs.length<12) {h:Hap} (hk:AY rz (hs.foldl aft ds) h) (hd:∀d,h= .door d->DOk rz d/\(hs.foldl aft ds).length<16) (hw:∀n t i,h= .wider n t i->0<=i):wC rz ds (hs++[h]):=by
 have eA:∀i,i<=hs.length->dsA ds (hs++[h]) i=dsA ds hs i:=fun i hi=>by unfold dsA;rw[List.take_append_of_le_length hi]
 have eE:dsA ds hs hs.length=hs.foldl aft ds:=by unfold dsA;rw[List.take_length]
 refine⟨by rw[List.length_append];show hs.length+1<=12;lia,fun i hi=> ?_,fun i x hx=> ?_⟩
 ·rw[List.length_append]at hi;have hi:i<=hs.length+1:=hi
  by_cases c:i=hs.length+1
  ·subst c;have e:dsA ds (hs++[h]) (hs.length+1)=aft (hs.foldl aft ds) h:=by
    unfold dsA;rw[List.take_of_length_le (by rw[List.length_append];exact Nat.le_refl _),List.foldl_append];rfl
   rw[e];exact XO (eE▸g.dsok hs.length (Nat.le_refl _)) hk hd hw
  ·rw[eA i (by lia)];exact g.dsok i (by lia)
 ·by_cases c:i<hs.length
  ·rw[List.getElem?_append_left c]at hx;rw[eA i (by lia)];exact g.hok i x hx
  ·rw[List.getElem?_append_right (by lia)]at hx;have:i - hs.length=0:=by
    rcases Nat.eq_zero_or_pos (i - hs.length) with h|h
    ·exact h
    ·rw[List.getElem?_eq_none (by show 1<=_;lia)]at hx;cases hx
   have hi:i=hs.length:=by lia
   subst hi;rw[Nat.sub_self]at hx;cases hx;rw[eA _ (Nat.le_refl _),eE];exact hk
theorem UF {rz:List (Str×Int)}{ds:List aL}{g:Str->Int}{h:Hap} (hG:MQ rz (ds.map (·.1)) g h) (hd:∀d,h= .door d->d.1∉ds.map (·.1)):AY rz ds h:=by
 refine⟨fun n t e=> ?_,fun n t i e=> ?_,fun z i e=> ?_,fun d e=> ?_⟩
 ·subst e;exact⟨hG.1,hG.2.1⟩
 ·subst e;exact⟨hG.1,hG.2.1,hG.2.2.2⟩
 ·subst e;exact⟨hG.1,hG.2.1⟩
 ·subst e;exact⟨hd d rfl,hG.2⟩
theorem aC4 {rz:List (Str×Int)}{ns:List Str}{g:Str->Int}{h:Hap} (hG:MQ rz ns g h) (h0:∀z,0<=g z):∀z,0<=gS g h z:=fun z=>by
 cases h with
 | found z0 i =>
  show 0<=if z=z0 then g z - i else g z
  split
  ·rename_i e;have:=hG.2.2;rw[←e]at this;lia
  ·exact h0 z
 | _=>exact h0 z
theorem Book.kind {rz:List (Str×Int)}{a sp mo:Addr}{H:Hp}{us:List V}{xs:List cD}{g gm:Str->Int} (b:Book rz a sp mo H us xs g gm):∀p∈gN a sp mo xs,∃o,H p=some o/\((∃l,o= .lst l)∨∃k,o= .dK k):=fun p hp=>by
 obtain⟨ks,h1,h2⟩:=b.hs;obtain⟨km,h3,h4⟩:=b.hm;rcases List.mem_cons.mp hp with rfl|hp
 ·exact⟨_,b.ha,.inl ⟨_,rfl⟩⟩
 rcases List.mem_cons.mp hp with rfl|hp
 ·exact⟨_,h1,.inr ⟨_,rfl⟩⟩
 rcases List.mem_cons.mp hp with rfl|hp
 ·exact⟨_,h3,.inr ⟨_,rfl⟩⟩
 obtain⟨x,hx,rfl⟩:=List.mem_map.mp hp;walk_at"g1";obtain⟨v,_,q,_,_,k2⟩:=cH b.hx hx;walk_at"g2";exact⟨_,k2,.inl ⟨_,rfl⟩⟩
theorem SS {H H':Hp}{PL:Addr}{pos:Pos}{qual:Str} (x:TabS H PL pos qual) (s:∀b o,H b=some o->(∀l,o≠ .lst l)->(∀k,o≠ .dK k)->H' b=some o):TabS H' PL pos qual:=by
 rcases x with h|⟨c',oc,fv,t,h1,h2,h3⟩
 ·exact .inl (s _ _ h (fun _ z=>by cases z) (fun _ z=>by cases z))
 ·exact .inr ⟨c',oc,fv,t,s _ _ h1 (fun _ z=>by cases z) (fun _ z=>by cases z),s _ _ h2 (fun _ z=>by cases z) (fun _ z=>by cases z),h3⟩
structure HapsI (P:Program)(w:World)(K:W.Frag)(mg:Str->Option Value)(base:Heap)(PL:Addr)(rz:List (Str×Int))(a sp mo pf:Addr)(xs:List cD)(g gm:Str->Int)(H H':Hp)(vh:List V)(hs:List Hap)(us':List V)(xs':List cD):Prop where
 fr:FrT (gN a sp mo xs) H H'
 bk:Book rz a sp mo H' us' xs' (hs.foldl gS g) (hs.foldl gM gm)
 hf:H' pf=some (.lst vh)
 nf:H pf=none
 pfx:pf∉gN a sp mo xs'
 hh:Paired (HapAt (aI P w K mg base (some 20)) H') vh hs
 go:wC rz (xs.map (·.1)) hs
 ex:xs'.map (·.1)=hs.foldl aft (xs.map (·.1))
 nw:∀x∈xs',x.2∈xs.map (·.2)∨BU H x.2
 tb:TabS H' PL iU qL
 g0:∀z,0<=hs.foldl gS g z
section
variable {PL:Addr}{rz:List (Str×Int)}{a sp mo pf:Addr}{xs:List cD}{g gm:Str->Int}{H H1 H2:Hp}{vh:List V}{hs:List Hap}{us':List V}{xs':List cD}
theorem HapsI.t (i:HapsI P w K mg base PL rz a sp mo pf xs g gm H H1 vh hs us' xs')(s:SameT H1 H2)(ht:TabS H2 PL iU qL):HapsI P w K mg base PL rz a sp mo pf xs g gm H H2 vh hs us' xs' :=
 ⟨i.fr.snocT s,i.bk.t s,s _ _ i.hf (fun _ z=>by cases z),i.nf,i.pfx,Paired.imp' (fun _ _ x=>HapAt.t s x) i.hh,i.go,i.ex,i.nw,ht,i.g0⟩
theorem HapsI.same (i:HapsI P w K mg base PL rz a sp mo pf xs g gm H H1 vh hs us' xs')(s:Same H1 H2):HapsI P w K mg base PL rz a sp mo pf xs g gm H H2 vh hs us' xs':=i.t (Same.t s) (i.tb.same s)
end
inductive BX (P:Program)(w:World)(K:W.Frag)(mg:Str->Option Value)(base:Heap)(C PL:Addr)(vs:List V)(H:Hp)(Q:VK)(E:XK):Prop
 | mk (cs a r sp mo h:Addr) (ns:List Int) (us ws:List V) (xs:List cD) (rz ps:List (Str×Int)) (ds:List aL) (f l:Int) (g gm:Str->Int) (H0:Hp) (_:vs=[.ref cs,.ref a,.ref r,.ref sp,.ref mo,.ref h]) (_:H cs=some (.lst (ns.map V.int))) (_:cs∉gN a sp mo xs) (_:ns.length<=12) (_:Book rz a sp mo H us xs g gm) (_:(∀z,0<=g z)) (_:zG rz (xs.map (·.1)) 0) (_:HW rz) (_:SameT H0 H) (_:(∀b∈gN a sp mo xs,H0 b=none)) (_:SqL K H0 r ws) (_:RoomsAt H0 ws rz) (_:bG C (aI P w K mg base (some 20)) H0 h f l rz ps ds) (_:0<=f) (_:f<=l) (_:l<=20) (_:TabS H PL iU qL) (_:∀p vh hs us' xs' H',HapsI P w K mg base PL rz a sp mo p xs g gm H H' vh hs us' xs'->Q (.ref p) H'):BX P w K mg base C PL vs H Q E
theorem wK (m:M K mg){cL PL:Addr}(hcL:m.c8.code= .ref cL)(hCL:W.CodeHd base cL PL)(hBL:base.BuiltinsAt mg PL):FnOk P w K mg base CX0 23 m.kG m.kE ["_law_cells","_law_doors","_law_rooms","_law_space","_law_more","_law_house"] (BX P w K mg base m.aO PL):=by
 refine m.g7.ok sc__law_happenings (fun vs H Q E h=> ?_) (fun cdv A outer s H vs Q E hr h=> ?_)
 ·walk_at"g1";obtain⟨cs,a,r,sp,mo,h,ns,us,ws,xs,rz,ps,ds,f,l,g,gm,H0,rfl,hcs,ncs,nl,bk,g0,dok,rzo,s0,hbad,hr0,hrz,hh,f0,f1,l20,hT,k⟩:=h;walk_at"g2";rfl
 ·walk_at"g1";obtain⟨cs,a,r,sp,mo,h,ns,us,ws,xs,rz,ps,ds,f,l,g,gm,H0,rfl,hcs,ncs,nl,bk,g0,dok,rzo,s0,hbad,hr0,hrz,hh,f0,f1,l20,hT,k⟩:=h;walk_at"g2";have nd:=sc__law_happenings.nd;walk_at"hu";have k6:= @B4 P w K mg base m;have iR:=xO (P:=P) (w:=w) (base:=base) m hcL hCL hBL;refine⟨_,(aD (aV (i:=6) nd rfl (by walk_at"oi") (fU aB))
   (aD (c4 PassesOwn.never rfl (gH rfl m.gD (aA (bT fG rfl m.k4 iX (aA (pv 0) aB)) aB)) (aG (i:=7) nd rfl (by walk_at"oi")) (aD (aV (i:=8) nd rfl (by walk_at"oi") (bD iR hr (aA (bC fH (pv 0) (pv 7) (fun _ _=>rfl)) (aA (pv 1) (aA (pv 2) (aA (pv 3) (aA (pv 5) (aA (pv 7) aB))))))))
   (aD (iN (i:=9) nd rfl (by walk_at"oi") (N:=["_law_door_here"]) (nl:=1) (ci:=[]) rfl (blk (s.heap.objs.size+1) rfl rfl rfl (by kernel_rfl)) (bJ (pv 1)) (fun _ _ _ _=>(aG (i:=0) (show (["_law_door_here"]:List Str).Nodup by decide +kernel) rfl (by walk_at"oi"))) (fun _ _ _ _=>cI) (fun _ _ _ _=>(bC (fZ (K:=K)) (pv 0) aE (fun _ _=>rfl))))
   (aD (aV (i:=10) nd rfl (by walk_at"oi") (jZ MK (pv 8) oH (aX _)))
   (aD (bO (PW.pt (A6 (kJ (pv 10)) (xD (aT gZ (bC b9 (pv 8) aE (fun _ _=>rfl)) cC (aX _))))) (aF (aV (i:=10) nd rfl (by walk_at"oi") (z5 (jZ qP (aW (bC b9 (pv 8) aE (fun _ _=>rfl)) rfl) (pv 9) (by with_unfolding_all rfl)) (AJ (jZ lW (bT fG rfl m.k4 iX (aA (pv 1) aB)) aE (aX _)))))) bB)
   (aF (bO (kJ (pv 10)) (aD (bR (bD k6 hr (aA (pv 8) (aA (pv 1) (aA (pv 3) (aA (pv 4) aB))))))
   (aF (bR (uH PySem.F.plainAttrs_list PySem.F.slot_list_append PySem.F.type_list_append jS (pv 6) (aA (pv 8) aB))))) bB)))))))
   (aF (aU (pv 6))))),?_⟩
  refine aQ (σ:=[some (.ref cs),some (.ref a),some (.ref r),some (.ref sp),some (.ref mo),some (.ref h),none,none,none,none,none]) rfl ?_;walk_at"cx";have nl':(ns.map V.int).length<=12:=by rw[List.length_map];exact nl
  walk_at"go";rename_i pf H1 n1 S1 e1;have i0:HapsI P w K mg base PL rz a sp mo pf xs g gm H H1 [] [] us xs:=⟨fun b o e _ _=>S1 _ _ e,bk.same S1,e1,n1,(fun c=>by obtain⟨o,ho,_⟩:=bk.soft _ c;rw[n1]at ho;cases ho),.nil,⟨by decide,(fun i hi=>(show i=0 by simpa using hi)▸dok),fun i x hx=>(nomatch hx)⟩,rfl,fun x hx=> .inl (List.mem_map.mpr ⟨x,hx,rfl⟩),hT.same S1,g0⟩
  let Pv1:Nat->St->Hp->Prop:=fun j σ' H'=>∃(vh:List V) (hs:List Hap) (us':List V) (xs':List cD) (x7 x8 x9 x10:Option V),hs.length<=j/\HapsI P w K mg base PL rz a sp mo pf xs g gm H H' vh hs us' xs'/\σ'=[some (.ref cs),some (.ref a),some (.ref r),some (.ref sp),some (.ref mo),some (.ref h),some (.ref pf),x7,x8,x9,x10];refine iB Pv1 ⟨[],[],us,xs,_,_,_,_,Nat.le_refl _,i0,rfl⟩ ?_ ?_
  ·rintro j _ H2 hj hq_;walk_at"g1";obtain⟨vh,hs,us',xs',x7,x8,x9,x10,hjl,i2,rfl⟩:=hq_;walk_at"g2";rw[List.length_map]at hj;have hj':j<ns.length:=by simpa using hj
   have hcs2:=i2.fr _ _ hcs ncs (fun _ z=>by cases z);have s02:SameT H0 H2:=fun b o e n=>i2.fr _ _ (s0 _ _ e n) (fun c=>by rw[hbad _ c]at e;cases e) n;have hh2:=LS hh s02;have hr2:=s02.seq hr0;have hrz2:=Same.roomsT hrz s02;obtain⟨c0,hc0⟩:∃c0,ns[j]? =some c0:=⟨_,List.getElem?_eq_getElem hj'⟩
   have bk2:=i2.bk;obtain⟨ks,hs1,hs2⟩:=bk2.hs;walk_at"go";refine⟨cs,_,_,_,rfl,rfl,SqL.of hcs2,d7 (j:=0+j) (v:= .int c0) (by rw[Nat.zero_add,List.getElem?_map,hc0];rfl),?_⟩;walk_at"go";refine⟨c0,_,a,r,sp,h,us',ws,xs',rz,ps,ds,f,l,_,ks,rfl,by lia,by lia,bk2.ha,bk2.hx,hr2,hrz2,rzo,hs1,hs2,i2.g0,hh2,f0,f1,l20,i2.tb,fun H3 T3 t3 hx3=> ?_,fun q hp H3 T3 t3 hA hG=> ?_⟩
   ·have i3:=i2.t T3 t3;have bk3:=i3.bk;have ha3:=bk3.ha;have xl3:=bk3.len
    try dsimp only
    walk_at"go";refine dH (BD H3) (fun _=>true) (fun x y _=>y=V.str x.1.1) (fun _ _ _ _ h _=>h) (by rw[sizeLine_eq];lia) (rest:=[]) (by rfl) (SqL.of ha3) bk3.hx ?_ ?_ ?_
    ·intro v x H4 _ _ _ R hR;exact hR _ (Same.refl _)
    ·rintro v x H4 ⟨q4,rfl,hq4,_⟩ hm - s4 R hR;have hq4:=s4 _ _ hq4;walk_at"go";exact hR _ _ rfl (Same.refl _)
    intro ys H4 s4 hys;rw[List.filter_eq_self.mpr (fun _ _=>rfl)]at hys;obtain rfl:=d3 hys;walk_at"go";rename_i p5 H5 n5 S5 e5;exact⟨vh,hs,us',xs',_,_,_,_,by lia,i3.same (s4.trans S5),rfl⟩
   ·have i3:=i2.t T3 t3;have bk3:=i3.bk;have ha3:=bk3.ha;have xl3:=bk3.len;have ul3:=Paired.length bk3.hx
    try dsimp only
    walk_at"go";refine dH (BD H3) (fun _=>true) (fun x y _=>y=V.str x.1.1) (fun _ _ _ _ h _=>h) (by rw[sizeLine_eq];lia) (rest:=[]) (by rfl) (SqL.of ha3) bk3.hx ?_ ?_ ?_
    ·intro v x H4 _ _ _ R hR;exact hR _ (Same.refl _)
    ·rintro v x H4 ⟨q4,rfl,hq4,_⟩ hm - s4 R hR;have hq4:=s4 _ _ hq4;walk_at"go";exact hR _ _ rfl (Same.refl _)
    intro ys H4 s4 hys;rw[List.filter_eq_self.mpr (fun _ _=>rfl)]at hys;obtain rfl:=d3 hys;walk_at"gs";rename_i p5 H5 n5 S5 e5;have s35:=s4.trans S5;have i5:=i3.same s35;have hA5:=hA.same s35;have e5':H5 p5=some (.lst ((xs'.map (·.1.1)).map V.str)):=by rw[e5,List.map_map];rfl
    refine C8 (fun σ' G=>Same H5 G/\∃bb:Bool,(bb=true->∀d,hp= .door d->d.1∉xs'.map (·.1.1)/\xs'.length<16)/\σ'=[some (.ref cs),some (.ref a),some (.ref r),some (.ref sp),some (.ref mo),some (.ref h),some (.ref pf),some (.int (0+(j:Int))),some (.ref q),some (.ref p5),some (.bl bb)]) ?_ ?_
    rotate_left
    ·intro nx' hnx;cases hp with
     | door d =>
      walk_at"g1";obtain⟨q',u,e0,hq,hd⟩:=id hA5;walk_at"g2";cases e0;walk_at"g1";obtain⟨n1,st1,e1',lt1⟩:=d;walk_at"g2";walk_at"g1";obtain⟨q9,C9,dx,fs,fp,rfl,hq9,dcC,l1,l2,l3,l4,l5,mcE,hfp,hlt⟩:=DoorAt.ex hd;walk_at"g2";have ha5:=i5.bk.ha;walk_at"go";refine DW (SqL.of e5') ?_
      by_cases c:n1∈xs'.map (·.1.1)
      ·rw[decide_eq_true c];walk_at"go";exact hnx _ _ ⟨Same.refl _,false,(fun z=>by cases z),rfl⟩
      ·rw[decide_eq_false c];walk_at"go";exact hnx _ _ ⟨Same.refl _,_,(fun z d hd=>by
        cases hd;exact⟨c,by have:=of_decide_eq_true z;lia⟩),rfl⟩
     | shut n t =>
      obtain⟨q',e0,hq⟩:=id hA5;cases e0;walk_at"go";exact hnx _ _ ⟨Same.refl _,true,(fun _ d z=>by cases z),rfl⟩
     | wider n t i =>
      obtain⟨q',e0,hq⟩:=id hA5;cases e0;walk_at"go";exact hnx _ _ ⟨Same.refl _,true,(fun _ d z=>by cases z),rfl⟩
     | found z i =>
      obtain⟨q',e0,hq⟩:=id hA5;cases e0;walk_at"go";exact hnx _ _ ⟨Same.refl _,true,(fun _ d z=>by cases z),rfl⟩
    rintro _ H6 hq_;walk_at"g1";obtain⟨s6,bb,hbb,rfl⟩:=hq_;walk_at"g2";cases bb with
    | false =>
     walk_at"go";exact⟨vh,hs,us',xs',_,_,_,_,by lia,i5.same s6,rfl⟩
    | true =>
     have hbb:=hbb rfl;have i6:=i5.same s6;have hA6:=hA5.same s6;have hx11:xs'.map (·.1.1)=(xs'.map (·.1)).map (·.1):=by rw[List.map_map];rfl
     walk_at"go";refine⟨q,a,sp,mo,us',xs',rz,_,_,hp,rfl,i6.bk,rzo.le,hA6,hG,(fun d hd=>(hbb d hd).2),fun H7 us7 xs7 f7 b7 x7e n7=> ?_⟩;have hbad6:∀x∈gN a sp mo xs',x∈gN a sp mo xs∨BU H x:=fun x hx=>by
      rcases List.mem_cons.mp hx with rfl|hx
      ·exact .inl (.head _)
      rcases List.mem_cons.mp hx with rfl|hx
      ·exact .inl (.tail _ (.head _))
      rcases List.mem_cons.mp hx with rfl|hx
      ·exact .inl (.tail _ (.tail _ (.head _)))
      obtain⟨y,hy,rfl⟩:=List.mem_map.mp hx;rcases i6.nw y hy with h|h
      ·exact .inl (.tail _ (.tail _ (.tail _ h)))
      ·exact .inr h
     have hf7:=f7 _ _ i6.hf i6.pfx;have nf6:∀x∈xs7,x.2≠pf:=fun x hx z=>by
      rcases n7 x hx with h|h
      ·exact i6.pfx (.tail _ (.tail _ (.tail _ (z▸h))))
      ·rw[z,i6.hf]at h;cases h
     have pfx7:pf∉gN a sp mo xs7:=fun c=>by
      rcases List.mem_cons.mp c with rfl|c
      ·exact i6.pfx (.head _)
      rcases List.mem_cons.mp c with rfl|c
      ·exact i6.pfx (.tail _ (.head _))
      rcases List.mem_cons.mp c with rfl|c
      ·exact i6.pfx (.tail _ (.tail _ (.head _)))
      obtain⟨y,hy,hye⟩:=List.mem_map.mp c;exact nf6 y hy hye
     have vl:vh.length=hs.length:=Paired.length i6.hh;walk_at"go";refine lO hf7 (by rw[sizeLine_eq];lia) fun H8 B8 e8=> ?_;have fr6:FrT (gN a sp mo xs) H H7:=i6.fr.fr f7 hbad6;have hok:=UF (rz:=rz) (ds:=xs'.map (·.1)) (g:=hs.foldl gS g) (h:=hp) (hx11▸hG) fun d hd=>hx11▸(hbb d hd).1;rw[i6.ex]at hok;have len6:(hs.foldl aft (xs.map (·.1))).length=xs'.length:=by rw[←i6.ex,List.length_map]
     have sob:∀{v:V}{hh:Hap},HapAt (aI P w K mg base (some 20)) H7 v hh->HapAt (aI P w K mg base (some 20)) H8 v hh:=fun {v hh} x=>by
      have tp:∀{q:Addr}{l:List V},H7 q=some (.tup l)->H8 q=some (.tup l):=fun {q l} e=>B8 _ _ e fun z=>by rw[z,hf7]at e;cases e
      cases hh with
      | shut n t=>obtain⟨q,e,g⟩:=x;exact⟨q,e,tp g⟩
      | wider n t i=>obtain⟨q,e,g⟩:=x;exact⟨q,e,tp g⟩
      | found z i=>obtain⟨q,e,g⟩:=x;exact⟨q,e,tp g⟩
      | door d=>obtain⟨q,u,e,g,hd⟩:=x;exact⟨q,u,e,tp g,(aI P w K mg base (some 20)).but hd hf7 trivial B8⟩
     refine⟨vh++[.ref q],hs++[hp],us7,xs7,_,_,_,_,by rw[List.length_append];show hs.length+1<=j+1;lia,⟨fr6.but B8 i6.nf,?_,e8,i6.nf,pfx7,?_,?_,?_,fun x hx=> ?_,?_,?_⟩,rfl⟩
     ·rw[List.foldl_append,List.foldl_append];exact b7.but hf7 pfx7 (fun _ z=>by cases z) B8
     ·exact L2.Paired.snoc (Paired.imp' (fun _ _ x=>sob (AO i6.bk f7 x)) i6.hh) (sob (AO i6.bk f7 hA6))
     ·refine WJ i6.go (by lia) hok (fun d hd=>⟨?_,by rw[len6];exact(hbb d hd).2⟩) fun n t i e=> ?_
      ·subst hd;exact hG.1
      ·subst e;exact hG.2.2.2
     ·rw[List.foldl_append,x7e,i6.ex];rfl
     ·rcases n7 x hx with h|h
      ·obtain⟨y,hy,hye⟩:=List.mem_map.mp h;rcases i6.nw y hy with h'|h'
       ·exact .inl (hye▸h')
       ·exact .inr (hye▸h')
      ·by_cases hb:x.2∈gN a sp mo xs
       ·rcases List.mem_cons.mp hb with hb|hb
        ·rw[hb,i6.bk.ha]at h;cases h
        rcases List.mem_cons.mp hb with hb|hb
        ·obtain⟨ks6,g1,_⟩:=i6.bk.hs;rw[hb,g1]at h;cases h
        rcases List.mem_cons.mp hb with hb|hb
        ·obtain⟨ks6,g1,_⟩:=i6.bk.hm;rw[hb,g1]at h;cases h
        exact .inl hb
       ·refine .inr fun o e=>Classical.byContradiction fun hn=> ?_;have:=i6.fr _ _ e hb (fun ps z=>hn ⟨ps,z⟩);rw[h]at this;cases this
     ·refine SS i6.tb fun b o e n1 n2=>B8 _ _ (f7 _ _ e fun c=> ?_) fun z=> ?_
      ·obtain⟨o',h1,h2⟩:=i6.bk.kind _ c;rw[e]at h1;cases h1;rcases h2 with⟨l2,h2⟩|⟨k2,h2⟩
       ·exact n1 _ h2
       ·exact n2 _ h2
      ·rw[z,i6.hf]at e;cases e;exact n1 _ rfl
     ·rw[List.foldl_append];exact aC4 hG i6.g0
  ·rintro _ H2 hq_;walk_at"g1";obtain⟨vh,hs,us',xs',x7,x8,x9,x10,hjl,i2,rfl⟩:=hq_;walk_at"g2";walk_at"go";exact k _ _ _ _ _ _ i2
theorem vL (m:M K mg){cL PL:Addr}(hcL:m.c8.code= .ref cL)(hCL:W.CodeHd base cL PL)(hBL:base.BuiltinsAt mg PL):Fc P w K mg base "_law_happenings" 23 ["_law_cells","_law_doors","_law_rooms","_law_space","_law_more","_law_house"] (BX P w K mg base m.aO PL):=⟨_,_,m.xU,m.g7.kp,m.yA,wK m hcL hCL hBL⟩
theorem uU (ss:List Str):(ss.map V.str).all pO=true:=by
 rw[List.all_eq_true];intro x hx;obtain⟨z,_,rfl⟩:=List.mem_map.mp hx;rfl
theorem BA {α:Type}(l:List α)(f:α->Int):(l.map fun x=>V.int (f x)).all pO=true:=by
 rw[List.all_eq_true];intro x hx;obtain⟨z,_,rfl⟩:=List.mem_map.mp hx;rfl
theorem Q7 {e:V}(h:fY e):pO e=true:=by
 rcases h with rfl|⟨z,rfl,_⟩<;>rfl
theorem aCG (d:aL){t l:Int}(t0:0<=t)(t1:t<=l)(l20:l<=20):mO (L20 d) (some t) (some l)=(List.range (l - t).toNat).map fun (i:Nat)=>V.int (d.2.2.2.f (t+(i:Int))):=by
 have hl:(L20 d).length=20:=by unfold L20;rw[List.length_map,List.length_range]
 obtain⟨T,rfl⟩:∃T:Nat,t=T:=⟨t.toNat,by lia⟩
 obtain⟨U,rfl⟩:∃U:Nat,l=U:=⟨l.toNat,by lia⟩
 unfold mO;rw[HT.sIx_nat,HT.sIx_nat,hl,show min T 20=T by lia,show min U 20=U by lia,show ((U:Int) - (T:Int)).toNat=U - T by lia];refine List.ext_getElem? fun i=> ?_
 by_cases hi:i<U - T
 ·rw[List.getElem?_take_of_lt hi,List.getElem?_drop,List.getElem?_map,List.getElem?_range hi];unfold L20;rw[List.getElem?_map,List.getElem?_range (by lia)];show some (V.int (d.2.2.2.f ((T+i:Nat):Int)))=some (V.int (d.2.2.2.f ((T:Int)+(i:Int))));rw[Int.natCast_add]
 ·rw[List.getElem?_eq_none (by rw[List.length_take,List.length_drop,hl];lia),List.getElem?_eq_none (by rw[List.length_map,List.length_range];lia)]
inductive zA (P:Program)(w:World)(K:W.Frag)(mg:Str->Option Value)(base:Heap)(C:Addr)(vs:List V)(H:Hp)(Q:VK)(E:XK):Prop
 | mk (h2 h r pp a mo:Addr) (t f l:Int) (ws us:List V) (xs:List cD) (rz ps ps2:List (Str×Int)) (ds:List aL) (gp gm:Str->Int) (kp km:List (Key×V)) (_:vs=[.ref h2,.ref h,.int t,.ref r,.ref pp,.ref a,.ref mo]) (_:bG C (aI P w K mg base (some 20)) H h2 t l rz ps2 (xs.map (·.1))) (_:bG C (aI P w K mg base (some 20)) H h f l rz ps ds) (_:(rz.map (·.1)).Nodup) (_:((xs.map (·.1)).map (·.1)).Nodup) (_:(∀x∈xs,DOk rz x.1)) (_:rz.length<=5) (_:xs.length<=16) (_:0<=t) (_:t<=l) (_:l<=20) (_:SqL K H r ws) (_:RoomsAt H ws rz) (_:H pp=some (.dK kp)) (_:t5 rz gp kp) (_:H mo=some (.dK km)) (_:t5 rz gm km) (_:(∀z∈rz.map (·.1),bE ps2 z=gp z+gm z)) (_:H a=some (.lst us)) (_:RecsAt H us xs) (_:∀H',Same H H'->Q (.bl true) H'):zA P w K mg base C vs H Q E
theorem E5 (m:M K mg):FnOk P w K mg base CX0 24 m.rH m.rB ["_law_later","_law_house","_law_turn","_law_rooms","_law_people","_law_doors","_law_more"] (zA P w K mg base m.aO):=by
 refine m.mF.ok sc__law_right (fun vs H Q E h=> ?_) (fun cdv A outer s H vs Q E hr h=> ?_)
 ·walk_at"g1";obtain⟨h2,h,r,pp,a,mo,t,f,l,ws,us,xs,rz,ps,ps2,ds,gp,gm,kp,km,rfl,hh2,hh,nr,nx,dok,lr5,l16,t0,t1,l20,hr1,hrz,hpp,np,hmo,nm,hsum,ha,hx,k⟩:=h;walk_at"g2";rfl
 ·walk_at"g1";obtain⟨h2,h,r,pp,a,mo,t,f,l,ws,us,xs,rz,ps,ps2,ds,gp,gm,kp,km,rfl,hh2,hh,nr,nx,dok,lr5,l16,t0,t1,l20,hr1,hrz,hpp,np,hmo,nm,hsum,ha,hx,k⟩:=h;walk_at"g2";have nd:=sc__law_right.nd;walk_at"hu";have w_dc_House:=m.bK;have w_mc_House_rooms:= @tI P w K mg base m;have w_mc_House_doors:= @j3 P w K mg base m;have w_mc_House_holds:= @mX P w K mg base m;have w_mc_House_found:= @tN P w K mg base m;have w_mc_House_door:= @iY P w K mg base m;have w_mc_House_lets:= @FF P w K mg base m;refine⟨_,(aD (bO (PW.pt (rU (aT z4 (aW (pv 0) rfl) (pv 2) (aX _)) (rU (aT z4 (aW (pv 0) rfl) (aW (pv 1) rfl) (aX _)) (qG (aT (tJ hu9) (fJ 1 hr (pv 0)) (cF (N:=["_law_room"]) (nl:=1) (ci:=[]) rfl (blk (s.heap.objs.size+1) rfl rfl rfl (by kernel_rfl)) (bJ (pv 3)) (fun _ _ _ _=>(aG (i:=0) (show (["_law_room"]:List Str).Nodup by decide +kernel) rfl (by walk_at"oi"))) (fun _ _ _ _=>cI) (fun _ _ _ _=>(bC (fZ (K:=K)) (pv 0) aE (fun _ _=>rfl)))) (aX _)))))) (aF (aU nT)) bB)
   (aD (bO (aT (tJ hu9) (fJ 1 hr (pv 0)) (cF (N:=["_law_door_here"]) (nl:=1) (ci:=[]) rfl (blk (s.heap.objs.size+1) rfl rfl rfl (by kernel_rfl)) (bJ (pv 5)) (fun _ _ _ _=>(aG (i:=0) (show (["_law_door_here"]:List Str).Nodup by decide +kernel) rfl (by walk_at"oi"))) (fun _ _ _ _=>cI) (fun _ _ _ _=>(bC (fZ (K:=K)) (pv 0) aE (fun _ _=>rfl)))) (aX _)) (aF (aU nT)) bB)
   (aD (c4 PassesOwn.never rfl (bJ (pv 3)) (l7 (n:=2) rfl (aY (aG (i:=7) nd rfl (by walk_at"oi")) (aY (aG (i:=8) nd rfl (by walk_at"oi")) dG))) (aF (bO (PW.pt (rU (aT z4 (jH 3 hr (pv 0) (aA (pv 7) aB)) (pv 8) (aX _)) (qG (aT z4 (jH 3 hr (pv 0) (aA (pv 7) aB)) (aN cA (dF hu1 (pv 4) (pv 7) (fun _ _=>rfl)) (dF hu1 (pv 6) (pv 7) (fun _ _=>rfl))) (aX _))))) (aF (aU nT)) bB)))
   (aD (c4 PassesOwn.never rfl (bJ (pv 5)) (l7 (n:=4) rfl (aY (aG (i:=7) nd rfl (by walk_at"oi")) (aY (aG (i:=9) nd rfl (by walk_at"oi")) (aY (aG (i:=10) nd rfl (by walk_at"oi")) (aY (aG (i:=11) nd rfl (by walk_at"oi")) dG))))) (aD (aV (i:=12) nd rfl (by walk_at"oi") (jH 1 hr (pv 0) (aA (pv 7) aB)))
   (aD (bO (PW.pt (rU (aT (tJ hu9) (fU (aA (aW (pv 12) rfl) (aA (aW (pv 12) rfl) (aA (aW (pv 12) rfl) aB)))) (fU (aA (pv 7) (aA (pv 9) (aA (pv 10) aB)))) (aX _)) (qG (aT z4 (fJ 1 hr (pv 12)) (jZ G6 (pv 10) oH (aX _)) (aX _))))) (aF (aU nT)) bB)
   (aF (bO (aT (tJ hu9) (cF (N:=["_law_at","_law_name_here","_law_later"]) (nl:=1) (ci:=[7,0]) rfl (blk (s.heap.objs.size+1) rfl rfl rfl (by kernel_rfl)) (wL rfl m.gD (aA (pv 2) (aA (aW (pv 1) rfl) aB))) (fun _ _ _ _=>(aG (i:=0) (show (["_law_at","_law_name_here","_law_later"]:List Str).Nodup by decide +kernel) rfl (by walk_at"oi"))) (fun _ _ _ _=>cI) (fun _ _ _ _=>(qR (P:=P) (w:=w) (K:=K) (mg:=mg) (base:=base) 22 hr (pv 2) (aA (pv 1) (aA (pv 0) aB))))) (iP xI (pv 11) (iE (pv 2)) (iE (aW (pv 1) rfl))) (aX _)) (aF (aU nT)) bB)))))
   (aF (aU nT)))))),?_⟩
  refine aQ (σ:=[some (.ref h2),some (.ref h),some (.int t),some (.ref r),some (.ref pp),some (.ref a),some (.ref mo),none,none,none,none,none,none]) rfl ?_;walk_at"cx";walk_at"g1";obtain⟨dx,qs,qp,qd,nk,kvs,e1,_⟩:=id hh.ex;walk_at"g2";walk_at"g1";obtain⟨dx2,qs2,qp2,qd2,nk2,kvs2,e12,_⟩:=id hh2.ex;walk_at"g2";have hl:=Paired.length hrz;have hul:=Paired.length hx;walk_at"go";refine mY hh2 fun p1 H1 n1 S1 f1=> ?_;walk_at"go";refine dH (bY H) (fun _=>true) (fun x y _=>y=V.str x.1) (fun _ _ _ _ h _=>h) (by rw[sizeLine_eq];lia) (rest:=[]) (by rfl) (S1.seq hr1) hrz ?_ ?_ ?_
  ·intro v x H2 _ _ _ R hR;exact hR _ (Same.refl _)
  ·rintro v x H2 ⟨q2,rfl,hq2⟩ hm - s2 R hR;have hq2:=s2 _ _ (S1 _ _ hq2);walk_at"go";exact hR _ _ rfl (Same.refl _)
  intro ys H2 s2 hys;rw[List.filter_eq_self.mpr (fun _ _=>rfl)]at hys;obtain rfl:=d3 hys;walk_at"go";rename_i p3 H3 n3 S3 f3;have s03:Same H H3:=S1.trans (s2.trans S3);have f3':H3 p3=some (.lst ((rz.map (·.1)).map V.str)):=by rw[f3,List.map_map];rfl
  refine lB (SqL.of ((s2.trans S3) _ _ f1)) (SqL.of f3') (iJ (uU _)) ?_;have hh23:=bN hh2 s03;have e123:=s03 _ _ e12;have ha3:=s03 _ _ ha;have hx3:=RecsAt.same hx s03;walk_at"go";refine mY hh23 fun p4 H4 n4 S4 f4=> ?_;walk_at"go";refine dH (BD H3) (fun _=>true) (fun x y _=>y=V.str x.1.1) (fun _ _ _ _ h _=>h) (by rw[sizeLine_eq];lia) (rest:=[]) (by rfl) (SqL.of (S4 _ _ ha3)) hx3 ?_ ?_ ?_
  ·intro v x H5 _ _ _ R hR;exact hR _ (Same.refl _)
  ·rintro v x H5 ⟨q2,rfl,hq2,_⟩ hm - s5 R hR;have hq2:=s5 _ _ (S4 _ _ hq2);walk_at"go";exact hR _ _ rfl (Same.refl _)
  intro ys H5 s5 hys;rw[List.filter_eq_self.mpr (fun _ _=>rfl)]at hys;obtain rfl:=d3 hys;walk_at"go";rename_i p6 H6 n6 S6 f6;have s06:Same H H6:=s03.trans (S4.trans (s5.trans S6));have f6':H6 p6=some (.lst (((xs.map (·.1)).map (·.1)).map V.str)):=by rw[f6,List.map_map,List.map_map];rfl
  refine lB (SqL.of ((s5.trans S6) _ _ f4)) (SqL.of f6') (iJ (uU _)) ?_;walk_at"go";let Pv1:Nat->St->Hp->Prop:=fun i σ' H'=>Same H6 H'/\∃x7 x8:Option V,σ'=[some (.ref h2),some (.ref h),some (.int t),some (.ref r),some (.ref pp),some (.ref a),some (.ref mo),x7,x8,none,none,none,none];refine gB ws Pv1 ⟨Same.refl _,_,_,rfl⟩ (fun i σ' H' _ g=>(s06.trans g.1).seq hr1) ?_ ?_
  ·rintro i v _ H7 hv hq_;walk_at"g1";obtain⟨s7,x7,x8,rfl⟩:=hq_;walk_at"g2";have hi:i<ws.length:=(List.getElem?_eq_some_iff.mp hv).1;obtain⟨⟨z,sz⟩,hz⟩:∃y,rz[i]? =some y:=⟨_,List.getElem?_eq_getElem (by lia)⟩
   obtain⟨q7,rfl,hq7⟩:=L2.Paired.at2 hrz hv hz;have s07:=s06.trans s7;have hq7:=s07 _ _ hq7;have e127:=s07 _ _ e12;have hm:=List.mem_of_getElem? hz;have hzm:z∈rz.map (·.1):=List.mem_map.mpr ⟨_,hm,rfl⟩;walk_at"go";refine C0 (i:=sz) (bN hh2 s07) nr hm fun H8 S8=> ?_;have e128:=S8 _ _ e127;walk_at"go";refine ML (bN hh2 (s07.trans S8)) nr hzm fun H9 S9=> ?_;have s09:=(s07.trans S8).trans S9;walk_at"go";refine fV (.inl (s09 _ _ hpp)) (np.2 z hzm) ?_;walk_at"go";refine fV (.inl (s09 _ _ hmo)) (nm.2 z hzm) ?_;have hsz:=hsum z hzm;walk_at"go";exact⟨s7.trans (S8.trans S9),_,_,rfl⟩
  rintro _ H7 hq_;walk_at"g1";obtain⟨s7,x7,x8,rfl⟩:=hq_;walk_at"g2";have s07:=s06.trans s7;walk_at"go";let Pv2:Nat->St->Hp->Prop:=fun i σ' H'=>Same H7 H'/\∃y7 y9 y10 y11 y12:Option V,σ'=[some (.ref h2),some (.ref h),some (.int t),some (.ref r),some (.ref pp),some (.ref a),some (.ref mo),y7,x8,y9,y10,y11,y12];refine gB us Pv2 ⟨Same.refl _,_,_,_,_,_,rfl⟩ (fun i σ' H' _ g=>SqL.of ((s07.trans g.1) _ _ ha)) ?_ ?_
  ·rintro i v _ H8 hv hq_;walk_at"g1";obtain⟨s8,y7,y9,y10,y11,y12,rfl⟩:=hq_;walk_at"g2";have hi:i<us.length:=(List.getElem?_eq_some_iff.mp hv).1;obtain⟨⟨d,lq⟩,hz⟩:∃y,xs[i]? =some y:=⟨_,List.getElem?_eq_getElem (by lia)⟩
   walk_at"g1";obtain⟨q8,rfl,hq8,hl8⟩:=L2.Paired.at2 hx hv hz;walk_at"g2";have s08:=s07.trans s8;have hq8:=s08 _ _ hq8;have hl8:=s08 _ _ hl8;have e128:=s08 _ _ e12;have e18:=s08 _ _ e1;have hm:=List.mem_of_getElem? hz;have hdm:d∈xs.map (·.1):=List.mem_map.mpr ⟨_,hm,rfl⟩;have hdo:=dok _ hm;walk_at"g1";obtain⟨n1,st1,en1,lt1⟩:=d;walk_at"g2";have hee:=Q7 hdo.he;have hh28:=bN hh2 s08;walk_at"go";refine IW (d:=(n1,st1,en1,lt1)) hh28 nx hdm fun v9 hv9=> ?_;walk_at"g1";obtain⟨q9,C9,dx9,fs9,fp9,rfl,hq9,dcC,l1,l2,l3,l4,l5,mcE,hfp,hlt⟩:=DoorAt.ex hv9;walk_at"g2";walk_at"go";rename_i pA HA nA SA eA pB HB nB SB eB;have eB':HB pB=some (.lst [.str n1,.str st1,en1]):=eB;have sAB:=SA.trans SB;refine lB (SqL.of (SB _ _ eA)) (SqL.of eB') (.cons (DeepEq.self rfl) (.cons (DeepEq.self rfl) (.cons (DeepEq.self hee) .nil))) ?_;have hq9B:=sAB _ _ hq9;have e18B:=sAB _ _ e18;have hl8B:=sAB _ _ hl8;walk_at"go";refine⟨q9,C9,dx9,fs9,en1,rfl,dcC,hq9B,l3,?_⟩;walk_at"go"
   first|rw[if_neg (by show ¬(!decide (decide (en1=V.non)=decide (en1=V.non)))=true;rw[decide_eq_true rfl];exact Bool.false_ne_true)]|skip
   have s0B:=s08.trans sAB;have hh2B:=bN hh2 s0B;have e12B:=s0B _ _ e12;walk_at"go";refine uB (fun i=> .int (lt1.f (t+(i:Int)))) (by rw[sizeLine_eq];lia) (rest:=[some (.str n1),some (.ref h2)]) (by rfl) ?_ ?_
   ·intro i2 HC hi2 sC R hR;have e12C:=sC _ _ e12B;walk_at"go";refine XS (d:=(n1,st1,en1,lt1)) (bN hh2B sC) nx hdm t0 fun HD SD=> ?_;rw[show sI t l (n1,st1,en1,lt1) (t+(i2:Int))=lt1.f (t+(i2:Int)) by unfold sI;rw[if_pos (by lia)]];exact hR _ SD
   ·intro HC sC;have hl8C:=sC _ _ hl8B;have e18C:=sC _ _ e18B;walk_at"go";rename_i pD HD nD SD eD pE HE nE SE eE;have eE':HE pE=some (.lst ((List.range (l - t).toNat).map fun (i:Nat)=>V.int (lt1.f (t+(i:Int))))):=by rw[eE];exact congrArg (fun z=>some (HO.lst z)) (aCG (n1,st1,en1,lt1) t0 t1 l20)
    refine lB (SqL.of (SE _ _ eD)) (SqL.of eE') (iJ (BA _ _)) ?_;walk_at"go";exact⟨s8.trans (sAB.trans (sC.trans (SD.trans SE))),_,_,_,_,_,rfl⟩
  ·rintro _ H8 hq_;walk_at"g1";obtain⟨s8,y7,y9,y10,y11,y12,rfl⟩:=hq_;walk_at"g2";walk_at"go";exact k _ (s07.trans s8)
theorem E2 (m:M K mg):Fc P w K mg base "_law_right" 24 ["_law_later","_law_house","_law_turn","_law_rooms","_law_people","_law_doors","_law_more"] (zA P w K mg base m.aO):=⟨_,_,m.JP,m.mF.kp,m.JM,E5 m⟩
def TBut (p:Addr)(H H':Hp):Prop:=∀b u,H b=some u->(∀ps,u≠ .tbl ps)->b≠p->H' b=some u
theorem TBut.refl (p:Addr)(H:Hp):TBut p H H:=fun _ _ e _ _=>e
theorem TBut.t {p:Addr}{H H1 H2:Hp} (t:TBut p H H1) (s:SameT H1 H2):TBut p H H2:=fun b u e n hb=>s b u (t b u e n hb) n
theorem TBut.but {p:Addr}{H H1 H2:Hp} (t:TBut p H H1) (s:SameBut p H1 H2):TBut p H H2:=fun b u e n hb=>s b u (t b u e n hb) hb
theorem TBut.out {p:Addr}{H H1 H2:Hp} (n:H p=none) (s:Same H H1) (t:TBut p H1 H2):SameT H H2:=fun b u e hn=>t b u (s b u e) hn fun z=>by rw[z,n]at e;cases e
theorem UK {H H':Hp}{PL p:Addr}{pos:Pos}{q:Str}{xs:List V} (h:TabS H PL pos q) (e:H p=some (.lst xs)) (s:SameBut p H H'):TabS H' PL pos q:=by
 rcases h with h|⟨c',oc,fv,t,h1,h2,h3⟩
 ·exact .inl (s _ _ h fun z=>by rw[z,e]at h;cases h)
 ·exact .inr ⟨c',oc,fv,t,s _ _ h1 (fun z=>by rw[z,e]at h1;cases h1),s _ _ h2 (fun z=>by rw[z,e]at h2;cases h2),h3⟩
theorem yI (c b:Int)(n:Nat)(h0:0<=b)(hb:b+n<=26):((List.range n).map fun k:Nat=>jG c ((k:Int)+b)).Nodup:=by
 rw[List.Nodup,List.pairwise_map];refine List.Pairwise.imp_of_mem ?_ (List.nodup_range (n:=n));intro i j hi hj hne z;have hi':=List.mem_range.mp hi;have hj':=List.mem_range.mp hj;have:=EI (by lia) (by lia) (by lia) (by lia) z
 lia
theorem TQ (c k:Int):bA (jG c k)=true:=by
 have hl:=LG;refine MD (x:=Txt.slice "abcdefghijklmnopqrstuvwxyz" (some (cG c 1%20)) none) (b:=cG c 2%8) (jV tR) (by lia) (by lia) rfl ?_ ?_ ?_
 ·exact Int.emod_nonneg _ (by lia)
 ·exact Int.emod_lt_of_pos _ (by lia)
 ·refine yN tR ?_;rw[uQ,List.mem_range'_1]
  lia
def jY (c sh:Int)(i:Nat):Str×Int:=(jG c (i:Int),cG sh (i:Int)%21)
def y8 (c sh c3:Int)(i:Nat):Str×Int:=(jG c (i:Int),cG c3 (i:Int)%(cG sh (i:Int)%21/3+1))
abbrev qB (ps:List (Str×Int)):List (Key×V):=ps.map fun p:Str×Int=>((Sum.inr p.1:Key),V.int p.2)
theorem KI {ps:List (Str×Int)}{z:Str} (h:z∉ps.map (·.1)):bM (qB ps) (.inr z)=none:=by
 induction ps with
 | nil=>rfl
 | cons p ps ih =>
  rw[List.map_cons,List.mem_cons,not_or]at h;show bM ((Sum.inr p.1,V.int p.2)::qB ps) (.inr z)=none;rw[cR (fun e:(Sum.inr p.1:Key)=Sum.inr z=>h.1 (Sum.inr.inj e).symm)];exact ih h.2
def bkK:List Key->Str×Int
 | [.inr z,.inl i]=>(z,i)
 | _=>(Str.empty,0)
theorem aAJ (p:Str×Int):bkK (iO p)=p:=rfl
theorem IE {H:Hp}:∀{ps:List (Str×Int)}{ys:List V},KRows H ys (ps.map iO)->Paired (bY H) ys ps
 | [],_,h=>by cases h;exact .nil
 | _::_,_,h=>by
  cases h with
  | cons a t=>exact .cons a (IE t)
theorem RE {H:Hp}{ys:List V}{rows:List (List Key)}{ps0:List (Str×Int)} (k:KRows H ys rows) (p:rows.Perm (ps0.map iO)):∃ps,ps.Perm ps0/\Paired (bY H) ys ps:=by
 refine⟨rows.map bkK,?_,?_⟩
 ·have h:=p.map bkK;rw[List.map_map,show bkK∘iO=id from funext aAJ,List.map_id]at h;exact h
 ·refine IE ?_;rw[List.map_map,List.map_congr_left (g:=id) (fun x hx=> ?_),List.map_id]
  ·exact k
  ·obtain⟨q,_,rfl⟩:=List.mem_map.mp (p.mem_iff.mp hx);rfl
theorem dB (p:Str×Int)(ps:List (Str×Int))(z:Str):bE (p::ps) z=(if p.1=z then p.2 else 0)+bE ps z:=by
 unfold bE
 by_cases h:p.1=z
 ·rw[List.filter_cons_of_pos (by simpa using h),if_pos h];rfl
 ·rw[List.filter_cons_of_neg (by simpa using h),if_neg h,Int.zero_add]
theorem rT {ps qs:List (Str×Int)}(h:ps.Perm qs)(z:Str):bE ps z=bE qs z:=by
 induction h with
 | nil=>rfl
 | cons x _ ih=>rw[dB,dB,ih]
 | swap x y l=>rw[dB,dB,dB,dB];lia
 | trans _ _ h1 h2=>rw[h1,h2]
theorem CF {ps:List (Str×Int)}{z:Str} (h:z∉ps.map (·.1)):bE ps z=0:=by
 induction ps with
 | nil=>rfl
 | cons p ps ih =>
  rw[List.map_cons,List.mem_cons,not_or]at h;rw[dB,if_neg (fun e=>h.1 e.symm),ih h.2];rfl
theorem k8 {ps:List (Str×Int)}(nd:(ps.map (·.1)).Nodup){z:Str}{v:Int} (h:(z,v)∈ps):bE ps z=v:=by
 induction ps with
 | nil=>nomatch h
 | cons p ps ih =>
  rw[List.map_cons,List.nodup_cons]at nd;rw[dB];rcases List.mem_cons.mp h with e|e
  ·rw[←e]at nd ⊢;rw[if_pos rfl,CF nd.1,Int.add_zero]
  ·have hm:z∈ps.map (·.1):=List.mem_map.mpr ⟨_,e,rfl⟩;rw[if_neg (fun c:p.1=z=>nd.1 (c▸hm)),Int.zero_add];exact ih nd.2 e
theorem AN {ps:List (Str×Int)}(nd:(ps.map (·.1)).Nodup){z:Str}{v:Int} (h:(z,v)∈ps):bM (qB ps) (.inr z)=some (.int v):=by
 induction ps with
 | nil=>nomatch h
 | cons p ps ih =>
  rw[List.map_cons,List.nodup_cons]at nd;show bM ((Sum.inr p.1,V.int p.2)::qB ps) (.inr z)=_;rcases List.mem_cons.mp h with e|e
  ·rw[←e,dO rfl]
  ·have hm:z∈ps.map (·.1):=List.mem_map.mpr ⟨_,e,rfl⟩;rw[cR (fun c:(Sum.inr p.1:Key)=Sum.inr z=>nd.1 (Sum.inr.inj c▸hm))];exact ih nd.2 e
theorem O4 {H:Hp}{Q:VK}{p:Addr}{xs:List V}{i:Nat}{v:V} (e:SqL K H p xs) (hv:xs[i]? =some v) (h:Q v H):N8 K (.ref p) (.int (i:Int)) H Q:=⟨p,_,_,_,rfl,rfl,e,d7 hv,h⟩
theorem WU {te:TE}{σ:St}{ci:List Nat}{rest:St}{fin:List V->Hp->Prop}{H:Hp}{a:Addr}{vs:List V} (I:Nat->List V->Hp->Prop) (hn:vs.length<=sizeLine) (hr:ci.map (fun i=>(σ[i]?).join)=rest) (hl:∀i ys H1,I i ys H1->SqL K H1 a vs) (h0:I 0 [] H)
  (he:∀(i:Nat) v ys H1,vs[i]? =some v->I i ys H1->∀R:VK,(∀y H2,I (i+1) (ys++[y]) H2->R y H2)->te (some v::rest) H1 R)
  (hf:∀ys H1,I vs.length ys H1->fin ys H1):fE (Itl K a) (cJ 0) vO te (bP 1 ci σ) fin H:=by
 rw[wH hr];refine⟨fun i m ys H1=>i+m=vs.length/\ys.length=i/\I i ys H1,⟨vs.length,by lia,rfl,h0⟩,?_⟩;rintro i m ys H1 ⟨e1,e2,hI⟩;cases m with
 | zero =>
  have ei:i=vs.length:=by lia
  subst ei;exact .inl ⟨⟨vs,hl _ _ _ hI,Nat.le_refl _⟩,hf _ _ hI⟩
 | succ m =>
  have hi:i<vs.length:=by lia
  refine .inr ⟨⟨vs,vs[i],hl _ _ _ hI,List.getElem?_eq_getElem hi⟩,fun v H' y=> ?_⟩;obtain⟨rfl,e3⟩:=y;have ev:=e3 vs (hl _ _ _ hI);refine⟨⟨rfl,fun j v hv=> ?_⟩,?_⟩
  ·cases j with
   | zero=>cases hv
   | succ j=>exact hv
  ·show te (some v::rest) H' _;exact he i v ys _ ev hI _ fun y H2 h2=>⟨by lia,m,by lia,by lia,by rw[List.length_append,e2];rfl,h2⟩
def BefAt (H0 H:Hp)(y:V)(d:aL):Prop:=∃q c,y= .ref q/\H0 q=none/\H0 c=none/\H q=some (.tup [.str d.1,.ref c])/\H c=some (.lst (L20 d))
theorem BefAt.same {H0 H H':Hp}{y:V}{d:aL} (h:BefAt H0 H y d) (s:Same H H'):BefAt H0 H' y d:=by
 walk_at"g1";obtain⟨q,c,e,g1,g2,h1,h2⟩:=h;walk_at"g2";exact⟨q,c,e,g1,g2,s _ _ h1,s _ _ h2⟩
theorem UE (a b:List (Str×Int))(z:Str):bE (a++b) z=bE a z+bE b z:=by unfold bE;rw[List.filter_append,List.map_append,List.sum_append]
theorem XJ {ps:List (Str×Int)}(h:∀p∈ps,0<=p.2)(z:Str):0<=bE ps z:=by
 induction ps with
 | nil=>exact Int.le_refl _
 | cons p ps ih =>
  rw[dB];have h1:=ih fun q hq=>h q (List.mem_cons_of_mem _ hq);have h2:=h p (.head _)
  split<;>lia
theorem tK (z:Str):∀(hs:List Hap) (g:Str->Int),hs.foldl gS g z=g z - bE (mD hs) z
 | [],g=>by show g z=g z - 0;lia
 | .found z0 i::hs,g=>by
  rw[List.foldl_cons,tK z hs];show (if z=z0 then g z - i else g z) - _=g z - bE ((z0,i)::mD hs) z;rw[dB]
  by_cases h:z=z0
  ·rw[if_pos h,if_pos h.symm];show _=g z - (i+_);lia
  ·rw[if_neg h,if_neg (fun c=>h c.symm)];lia
 | .shut n t::hs,g=>by rw[List.foldl_cons,tK z hs];rfl
 | .wider n t i::hs,g=>by rw[List.foldl_cons,tK z hs];rfl
 | .door d::hs,g=>by rw[List.foldl_cons,tK z hs];rfl
theorem tP (z:Str):∀(hs:List Hap) (g:Str->Int),hs.foldl gM g z=g z+bE (mD hs) z
 | [],g=>by show g z=g z+0;lia
 | .found z0 i::hs,g=>by
  rw[List.foldl_cons,tP z hs];show (if z=z0 then g z+i else g z)+_=g z+bE ((z0,i)::mD hs) z;rw[dB]
  by_cases h:z=z0
  ·rw[if_pos h,if_pos h.symm];show _=g z+(i+_);lia
  ·rw[if_neg h,if_neg (fun c=>h c.symm)];lia
 | .shut n t::hs,g=>by rw[List.foldl_cons,tP z hs];rfl
 | .wider n t i::hs,g=>by rw[List.foldl_cons,tP z hs];rfl
 | .door d::hs,g=>by rw[List.foldl_cons,tP z hs];rfl
theorem sW {p:Str×Int}:∀{hs:List Hap},p∈mD hs->Hap.found p.1 p.2∈hs
 | [],h=>nomatch h
 | .found z i::hs,h=>by
  rcases List.mem_cons.mp h with rfl|h
  ·exact .head _
  ·exact List.mem_cons_of_mem _ (sW h)
 | .shut n t::hs,h=>List.mem_cons_of_mem _ (sW (hs:=hs) h)
 | .wider n t i::hs,h=>List.mem_cons_of_mem _ (sW (hs:=hs) h)
 | .door d::hs,h=>List.mem_cons_of_mem _ (sW (hs:=hs) h)
theorem P8 {rz:List (Str×Int)}{ds:List aL}{hs:List Hap} (g:wC rz ds hs) {p:Str×Int} (h:p∈mD hs):p.1∈rz.map (·.1)/\0<=p.2:=by
 obtain⟨i,hi,e⟩:=List.getElem_of_mem (sW h);exact(g.hok i _ (by rw[List.getElem?_eq_getElem hi,e])).fo _ _ rfl
theorem LH {rz ps:List (Str×Int)}(nr:(rz.map (·.1)).Nodup)(hs:List Hap){z:Str}(hz:z∈rz.map (·.1)):bE (psA rz ps hs) z=bE ps z+bE (mD hs) z:=by
 unfold psA;rw[UE];obtain⟨e,he,rfl⟩:=List.mem_map.mp hz;rw[k8 (ps:=rz.map fun e=>(e.1,bE ps e.1)) (v:=bE ps e.1) (by rw[List.map_map];exact nr) (List.mem_map.mpr ⟨e,he,rfl⟩)]
theorem aCp (ns:List Int):(BR ns (some 5) (some 17)).length<=12:=by
 unfold BR;rw[List.length_take,show (5:Int)=((5:Nat):Int) from rfl,show (17:Int)=((17:Nat):Int) from rfl,HT.sIx_nat,HT.sIx_nat]
 lia
theorem OV {rz:List (Str×Int)}(nd:(rz.map (·.1)).Nodup)(g:Str->Int):t5 rz g (szK (rz.map fun e=>(e.1,g e.1))):=by
 have hm:(rz.map fun e=>(e.1,g e.1)).map (·.1)=rz.map (·.1):=by rw[List.map_map];rfl
 refine⟨by unfold szK;rw[List.map_map,List.map_map];rfl,fun z hz=> ?_⟩;obtain⟨e,he,rfl⟩:=List.mem_map.mp hz;exact AN (by rw[hm];exact nd) (List.mem_map.mpr ⟨e,he,rfl⟩)
theorem CG {H H':Hp}{g:Str->Int} (s:Same H H'):∀{rz:List (Str×Int)}{ys:List V},Paired (fun (x:Str×Int) y=>∃q,y=V.ref q/\H q=some (.tup [.str x.1,.int (g x.1)])) rz ys->A7 H' ys (szK (rz.map fun e=>(e.1,g e.1)))
 | _,_,.nil=> .nil
 | _,_,.cons ⟨q,e,h⟩ t=> .cons ⟨q,e,s _ _ h⟩ (CG s t)
theorem EM {D:bL}{H:Hp}:∀{vh:List V}{hs:List Hap},Paired (HapAt D H) vh hs->vh.all pO=true
 | _,_,.nil=>rfl
 | v::_,hp::_,.cons h t=>by
  rw[List.all_cons,EM t,Bool.and_true];cases hp with
  | shut n t=>obtain⟨q,rfl,_⟩:=h;rfl
  | wider n t i=>obtain⟨q,rfl,_⟩:=h;rfl
  | found z i=>obtain⟨q,rfl,_⟩:=h;rfl
  | door d=>obtain⟨q,u,rfl,_⟩:=h;rfl
theorem GV {K:W.Frag}{H H0 H1:Hp}:∀{xs:List cD}{ya yb:List V},Paired (fun d y=>BefAt H0 H y d) (xs.map (·.1)) ya->Paired (fun x y=>BefAt H1 H y x.1) xs yb->Paired (DeepEq K H 4) ya yb
 | [],_,_,h1,h2=>by cases h1;cases h2;exact .nil
 | x::xs,_,_,h1,h2=>by
  cases h1 with
  | cons a1 t1 =>
   cases h2 with
   | cons a2 t2 =>
    walk_at"g1";obtain⟨q,c,rfl,_,_,g1,g2⟩:=a1;walk_at"g2";walk_at"g1";obtain⟨q',c',rfl,_,_,g3,g4⟩:=a2;walk_at"g2";exact .cons (DeepEq.tup g1 g3 (.cons (DeepEq.self rfl) (.cons (DeepEq.lst (SqL.of g2) (SqL.of g4) (iJ (BA _ _))) .nil))) (GV t1 t2)
theorem R9 {rz ps ps0:List (Str×Int)}(pm:ps.Perm ps0)(hpn:ps0.map (·.1)=rz.map (·.1))(nd:(rz.map (·.1)).Nodup):BE rz ps=(ps0.map (·.2)).sum:=by
 unfold BE;have e:rz.map (fun e=>bE ps e.1)=(rz.map (·.1)).map (bE ps):=by rw[List.map_map];rfl
 rw[e,←hpn,List.map_map]
 congr 1
 exact List.map_congr_left fun x hx=>by
  show bE ps x.1=x.2;rw[rT pm];exact k8 (by rw[hpn];exact nd) hx
inductive vY (K:W.Frag)(PL:Addr)(vs:List V)(H:Hp)(Q:VK)(E:XK):Prop
 | mk (a:Addr) (ns:List Int) (_:vs=[.ref a]) (_:SqL K H a (ns.map V.int)) (_:ns.length<=63) (_:H PL=some (.tbl #[])) (_:∀H',Q (.bl true) H'):vY K PL vs H Q E
theorem ZW (m:M K mg){cL PL:Addr}(hcL:m.c8.code= .ref cL)(hCL:W.CodeHd base cL PL)(hBL:base.BuiltinsAt mg PL):FnOk P w K mg base CX0 32 m.OO m.OI ["_law_script"] (vY K PL):=by
 refine m.aCN.ok sc_law (fun vs H Q E h=> ?_) (fun cdv A outer s H vs Q E hr h=> ?_)
 ·walk_at"g1";obtain⟨a,ns,rfl,hS,hlen,hPL,k⟩:=h;walk_at"g2";rfl
 ·walk_at"g1";obtain⟨a,ns,rfl,hS,hlen,hPL,k⟩:=h;walk_at"g2";have nd:=sc_law.nd;walk_at"hu";have cP:= @z7 P w K mg base m;have i9:=wI (P:=P) (w:=w) (base:=base) m hcL hCL hBL;have bF:= @kS P w K mg base m;have g7:=vL (P:=P) (w:=w) (base:=base) m hcL hCL hBL;have gX:= @v3 P w K mg base m;have mF:= @E2 P w K mg base m;have BL:= @YV P w K mg base m;have K_House_0:= @A0 P w K mg base m;have w_dc_House:=m.bK;have w_mc_House_doors:= @j3 P w K mg base m;have w_mc_House_total:= @DB P w K mg base m;refine⟨_,(aD (aV (i:=1) nd rfl (by walk_at"oi") (bD cP hr (aA (pv 0) (aA aE aB))))
   (aD (aV (i:=2) nd rfl (by walk_at"oi") (aN bV (aN j4 (bD cP hr (aA (pv 0) (aA aE aB))) aE) aE))
   (aD (iN (i:=3) nd rfl (by walk_at"oi") (N:=["_law_k","_law_cell","_law_script"]) (nl:=1) (ci:=[1,0]) rfl (blk (s.heap.objs.size+1) rfl rfl rfl (by kernel_rfl)) (gH rfl m.gD (aA (aN cA aE (aN bV (pv 1) aE)) aB)) (fun _ _ _ _=>(aG (i:=0) (show (["_law_k","_law_cell","_law_script"]:List Str).Nodup by decide +kernel) rfl (by walk_at"oi"))) (fun _ _ _ _=>cI) (fun _ _ _ _=>(cB (aA (bD gX hr (aA (pv 1) (aA (pv 0) aB))) (aA (aN bV (bD bF hr (aA (bD cP hr (aA (pv 2) (aA aE aB))) (aA (pv 0) aB))) aE) aB)))))
   (aD (aV (i:=4) nd rfl (by walk_at"oi") (fU aB))
   (aD (c4 PassesOwn.never rfl (gH rfl m.gD (aA (aN bV (bD bF hr (aA (pv 1) (aA aE aB))) aE) aB)) (aG (i:=5) nd rfl (by walk_at"oi")) (aF (bR (uH PySem.F.plainAttrs_list PySem.F.slot_list_append PySem.F.type_list_append jS (pv 4) (aA (bD i9 hr (aA (bD bF hr (aA (pv 1) (aA (aN cA aE (pv 5)) aB))) (aA (bD gX hr (aA (pv 1) (aA (aN cA (pv 5) aE) aB))) (aA (pv 3) aB)))) aB)))))
   (aD (aV (i:=6) nd rfl (by walk_at"oi") uM)
   (aD (c4 PassesOwn.never rfl (gH rfl m.gD (aA (bT fG rfl m.k4 iX (aA (pv 3) aB)) aB)) (aG (i:=5) nd rfl (by walk_at"oi")) (aF (hU hu1 (pv 6) (bC b9 (bC fH (pv 3) (pv 5) (fun _ _=>rfl)) aE (fun _ _=>rfl)) (aN bV (bD bF hr (aA (bD cP hr (aA (pv 0) (aA aE aB))) (aA (pv 5) aB))) (aN cA (aN j4 (bC b9 (bC fH (pv 3) (pv 5) (fun _ _=>rfl)) aE (fun _ _=>rfl)) aE) aE)) rfl)))
   (aD (aV (i:=7) nd rfl (by walk_at"oi") (uS K_House_0 hr (aA (pv 3) (aA (pv 4) (aA (bT (E4 rfl) rfl m.JY D0 (aA (NM (pv 6)) aB)) (aA (aN cA (aN cA (pv 2) aE) (aN bV (bD cP hr (aA (pv 0) (aA aE aB))) aE)) (aA (pv 2) aB)))))))
   (aD (yH (i:=8) nd rfl (by walk_at"oi") (N:=["_law_door_here"]) (nl:=1) (ci:=[]) rfl (aBo "_law_door_here" (s.heap.objs.size+1) rfl rfl rfl (by kernel_rfl)) (bJ (pv 4)) (fun _ _ _ _=>(aG (i:=0) (show (["_law_door_here"]:List Str).Nodup by decide +kernel) rfl (by walk_at"oi"))) (fun _ _ _ _=>cI) (fun _ _ _ _=>(cB (aA (i7 (K:=K) (pv 0) rfl) (aA (i7 (K:=K) (pv 0) rfl) (aA (i7 (K:=K) (pv 0) rfl) (aA (cF (N:=["_law_turn","_law_door_here"]) (nl:=1) (ci:=[0]) rfl (aAb rfl rfl rfl (by kernel_rfl)) (gH rfl m.gD (aA aE aB)) (fun _ _ _ _=>(aG (i:=0) (show (["_law_turn","_law_door_here"]:List Str).Nodup by decide +kernel) rfl (by walk_at"oi"))) (fun _ _ _ _=>cI) (fun _ _ _ _=>(qR (P:=P) (w:=w) (K:=K) (mg:=mg) (base:=base) 20 hr (pv 1) (aA (pv 0) aB)))) aB)))))))
   (aD (iN (i:=9) nd rfl (by walk_at"oi") (N:=["_law_door_here"]) (nl:=1) (ci:=[]) rfl (blk (s.heap.objs.size+1) rfl rfl rfl (by kernel_rfl)) (bJ (pv 8)) (fun _ _ _ _=>(aG (i:=0) (show (["_law_door_here"]:List Str).Nodup by decide +kernel) rfl (by walk_at"oi"))) (fun _ _ _ _=>cI) (fun _ _ _ _=>(cB (aA (bC (fZ (K:=K)) (pv 0) aE (fun _ _=>rfl)) (aA (jR (KQ K rfl) rfl m.BH w4 (aA (bC (fZ (K:=K)) (pv 0) aE (fun _ _=>rfl)) aB)) aB)))))
   (aD (aV (i:=10) nd rfl (by walk_at"oi") (aN cA (pv 2) (aN bV (bD cP hr (aA (pv 0) (aA aE aB))) (aN cA (aN qF (aW (pv 7) rfl) (pv 2)) aE))))
   (aD (aV (i:=11) nd rfl (by walk_at"oi") (jR (uW rfl) rfl m.JN CY (aA (cF (N:=["_law_name_here","_law_holds","_law_people"]) (nl:=2) (ci:=[6]) rfl (blk (s.heap.objs.size+1) rfl rfl rfl (by kernel_rfl)) (bJ (pv 3)) (fun _ _ _ _=>(lN (K:=K) (n:=2) rfl (aY (aG (i:=0) (show (["_law_name_here","_law_holds","_law_people"]:List Str).Nodup by decide +kernel) rfl (by walk_at"oi")) (aY (aG (i:=1) (show (["_law_name_here","_law_holds","_law_people"]:List Str).Nodup by decide +kernel) rfl (by walk_at"oi")) dG)))) (fun _ _ _ _=>cI) (fun _ _ _ _=>(cB (aA (pv 0) (aA (aN qF (pv 1) (dF hu1 (pv 2) (pv 0) (fun _ _=>rfl))) aB))))) aB)))
   (aD (aV (i:=12) nd rfl (by walk_at"oi") (jR (uW rfl) rfl m.JN CY (aA (cF (N:=["_law_name_here","_law_holds"]) (nl:=2) (ci:=[]) rfl (blk (s.heap.objs.size+1) rfl rfl rfl (by kernel_rfl)) (bJ (pv 3)) (fun _ _ _ _=>(lN (K:=K) (n:=2) rfl (aY (aG (i:=0) (show (["_law_name_here","_law_holds"]:List Str).Nodup by decide +kernel) rfl (by walk_at"oi")) (aY (aG (i:=1) (show (["_law_name_here","_law_holds"]:List Str).Nodup by decide +kernel) rfl (by walk_at"oi")) dG)))) (fun _ _ _ _=>cI) (fun _ _ _ _=>(cB (aA (pv 0) (aA aE aB))))) aB)))
   (aD (aV (i:=13) nd rfl (by walk_at"oi") (bD g7 hr (aA (iP xI (pv 0) (iE aE) (iE aE)) (aA (pv 8) (aA (pv 3) (aA (pv 11) (aA (pv 12) (aA (pv 7) aB))))))))
   (aD (aV (i:=14) nd rfl (by walk_at"oi") (jR AW rfl m.BH w4 (aA (pv 13) aB)))
   (aD (c4 PassesOwn.never rfl (gH rfl m.gD (aA aE aB)) (aG (i:=5) nd rfl (by walk_at"oi")) (aF (bO (tH (kJ (bD mF hr (aA (bD BL hr (aA (pv 7) (aA (fU aB) (aA (pv 10) (aA (pv 14) aB))))) (aA (pv 7) (aA (pv 10) (aA (pv 3) (aA (pv 6) (aA (pv 8) (aA (pv 12) aB)))))))))) (aF (aU nT)) bB)))
   (aD (yH (i:=15) nd rfl (by walk_at"oi") (N:=["_law_door_here"]) (nl:=1) (ci:=[]) rfl (aBo "_law_door_here" (s.heap.objs.size+1) rfl rfl rfl (by kernel_rfl)) (bJ (pv 4)) (fun _ _ _ _=>(aG (i:=0) (show (["_law_door_here"]:List Str).Nodup by decide +kernel) rfl (by walk_at"oi"))) (fun _ _ _ _=>cI) (fun _ _ _ _=>(cB (aA (i7 (K:=K) (pv 0) rfl) (aA (cF (N:=["_law_at","_law_door_here"]) (nl:=1) (ci:=[0]) rfl (aAb rfl rfl rfl (by kernel_rfl)) (gH rfl m.gD (aA aE aB)) (fun _ _ _ _=>(aG (i:=0) (show (["_law_at","_law_door_here"]:List Str).Nodup by decide +kernel) rfl (by walk_at"oi"))) (fun _ _ _ _=>cI) (fun _ _ _ _=>(qR (P:=P) (w:=w) (K:=K) (mg:=mg) (base:=base) 20 hr (pv 1) (aA (pv 0) aB)))) aB)))))
   (aD (bO (PW.pt (rU (aT (tJ hu9) (pv 14) (pv 13) (aX _)) (qG (aT (tJ hu9) (pv 15) (pv 9) (aX _))))) (aF (aU nT)) bB)
   (aF (aU (z5 (jZ (ZU hu9) (fJ 1 hr (pv 7)) (cF (N:=["_law_door_here"]) (nl:=1) (ci:=[]) rfl (blk (s.heap.objs.size+1) rfl rfl rfl (by kernel_rfl)) (bJ (pv 4)) (fun _ _ _ _=>(aG (i:=0) (show (["_law_door_here"]:List Str).Nodup by decide +kernel) rfl (by walk_at"oi"))) (fun _ _ _ _=>cI) (fun _ _ _ _=>(i7 (K:=K) (pv 0) rfl))) (aX _)) (AJ (jZ gZ (fJ 1 hr (pv 7)) (bT (EQ rfl) rfl m.WC P4 (aA (AT (pv 6)) aB)) (aX _)))))))))))))))))))))))),?_⟩
  refine aQ (σ:=[some (.ref a),none,none,none,none,none,none,none,none,none,none,none,none,none,none,none]) rfl ?_;walk_at"cx";walk_at"go";generalize hcc:kR ns 0=c0;generalize hfc:kR ns 1/9%4=f;have hf0:0<=f:=by lia
  have hf3:f<=3:=by lia
  generalize hsh:kR ns 2=sh;generalize hne:(1+c0%5).toNat=n;have hn0:0<n:=by lia
  have hn5:n<=5:=by lia
  refine aAO (fun i y H=>bY H y (jY c0 sh i)) (fun _ _ _ _ ⟨q,e,h⟩ s=>⟨q,e,s _ _ h⟩) (by rw[sizeLine_eq];lia) (rest:=[some (.int c0),some (.ref a)]) (by rfl) ?_ ?_
  ·intro i H3 hi s3 R hR;have hS3:=s3.seq hS;walk_at"go";rename_i z dz hz n' dn hn0' hn1' q4 H4 n4 S4 e4;subst hsh;rw[Int.zero_add]at dz dn;subst dz dn;exact hR _ _ ⟨q4,rfl,e4⟩ S4
  intro ws H3 s3 hws;have hra:RoomsAt H3 ws ((List.range n).map (jY c0 sh)):=zJ (jY c0 sh) hws;have hwl:ws.length=n:=by rw[Paired.length hra,List.length_map,List.length_range]
  have hrn:((List.range n).map (jY c0 sh)).map (·.1)=(List.range n).map fun k:Nat=>jG c0 ((k:Int)+0):=by rw[List.map_map];exact List.map_congr_left fun k _=>by rw[Int.add_zero];rfl
  have hnr:(((List.range n).map (jY c0 sh)).map (·.1)).Nodup:=by rw[hrn];exact yI c0 0 n (Int.le_refl _) (by lia)
  have hmem:∀i:Nat,i<n->jG c0 (i:Int)∈((List.range n).map (jY c0 sh)).map (·.1):=fun i hi=>List.mem_map.mpr ⟨jY c0 sh i,List.mem_map.mpr ⟨i,List.mem_range.mpr hi,rfl⟩,rfl⟩;have rzo:HW ((List.range n).map (jY c0 sh)):=⟨by rw[List.length_map,List.length_range];exact hn0,by rw[List.length_map,List.length_range];exact hn5,fun x hx=>by obtain⟨i,_,rfl⟩:=List.mem_map.mp hx;exact TQ c0 _⟩
  have hlz:((List.range n).map (jY c0 sh)).length=n:=by rw[List.length_map,List.length_range]
  have hrat:∀i:Nat,i<n->((List.range n).map (jY c0 sh))[i]? =some (jY c0 sh i):=fun i hi=>by rw[List.getElem?_map,List.getElem?_range hi];rfl
  generalize hrz:(List.range n).map (jY c0 sh)=rz at hra hrn hnr hmem rzo hlz hrat;clear hws;walk_at"go";rename_i pW H4 n4 S4 eW p H5 n5 S5 ep nn dn hn1 hn2;have eW5:=S5 _ _ eW;have s05:Same H H5:=s3.trans (S4.trans S5);have hPL5:TabS H5 PL iU qL:= .inl (s05 _ _ hPL);have hra5:=hra.sm (S4.trans S5);let Pv1:Nat->St->Hp->Prop:=fun i σ' H'=>TBut p H5 H'/\TabS H' PL iU qL/\(∃us ds,H' p=some (.lst us)/\Paired ((aI P w K mg base (some 20)).at' H') us ds/\(∀d∈ds,DOk rz d)/\(∀d∈ds,d.2.2.2.dep=4)/\ds.map (·.1)=(List.range i).map fun k:Nat=>jG c0 ((k:Int)+8))/\∃x,σ'=[some (.ref a),some (.int c0),some (.int f),some (.ref pW),some (.ref p),x,none,none,none,none,none,none,none,none,none,none];refine iB Pv1 ⟨TBut.refl _ _,hPL5,⟨[],[],ep,.nil,(fun _ z=>nomatch z),(fun _ z=>nomatch z),rfl⟩,_,rfl⟩ ?_ ?_
  ·rintro i _ H' hi hq_;walk_at"g1";obtain⟨tb,hT,⟨us,ds,eu,hud,hds,hdt,hnm2⟩,x1,rfl⟩:=hq_;walk_at"g2";have hi8:i<8:=by lia
   have hul:us.length=i:=by
    have h5:ds.length=i:=by rw[←List.length_map (f:=fun d:aL=>d.1),hnm2,List.length_map,List.length_range]
    rw[Paired.length hud];exact h5
   have hpW:pW≠p:=fun z=>by rw[z,ep]at eW5;cases eW5;exact absurd hwl (by show ¬0=n;lia)
   have eW':=tb _ _ eW5 (fun ps z=>by cases z) hpW;have hra':RoomsAt H' ws rz:=Paired.imp' (fun _ _ ⟨q,e,h⟩=>⟨q,e,tb _ _ h (fun ps z=>by cases z) (fun z=>by rw[z,ep]at h;cases h)⟩) hra5;walk_at"go";rename_i dd ed hd0 hd1 zn ezn hzn;refine LW hd0 hzn (SqL.of eW') hra' rzo hT fun v6 st6 e6 lt6 H6 T6 hT6 hd6 hlt6 hdp=> ?_;have eu6:=T6 _ _ eu (fun ps z=>by cases z);walk_at"go";refine lO eu6 (by rw[sizeLine_eq];lia) fun H7 B7 e7=> ?_;walk_at"go";refine⟨(tb.t T6).but B7,UK hT6 eu6 B7,⟨us++[v6],ds++[(zn,st6,e6,lt6)],e7,L2.Paired.snoc (Paired.imp' (fun _ _ h=>(aI P w K mg base (some 20)).but (AX h T6) eu6 trivial B7) hud) ((aI P w K mg base (some 20)).but hd6 eu6 trivial B7),?_,?_,?_⟩,_,rfl⟩
   ·intro d' hd';rcases List.mem_append.mp hd' with hd'|hd'
    ·exact hds d' hd'
    ·cases List.mem_singleton.mp hd';exact hlt6
   ·intro d' hd';rcases List.mem_append.mp hd' with hd'|hd'
    ·exact hdt d' hd'
    ·cases List.mem_singleton.mp hd';exact hdp
   ·rw[List.map_append,hnm2,List.range_succ,List.map_append,List.map_singleton,List.map_singleton,ezn,Int.zero_add]
  rintro _ H6 hq_;walk_at"g1";obtain⟨tb,hT6,⟨us,ds,eu,hud,hds,hdt,hnm2⟩,x1,rfl⟩:=hq_;walk_at"g2";have hdl:ds.length<=8:=by
   have:ds.length=(nn%9).toNat:=by rw[←List.length_map (f:=fun d:aL=>d.1),hnm2,List.length_map,List.length_range]
   lia
  have hnd:(ds.map (·.1)).Nodup:=by rw[hnm2];exact yI c0 8 _ (by decide) (by lia)
  have hpW:pW≠p:=fun z=>by rw[z,ep]at eW5;cases eW5;exact absurd hwl (by show ¬0=n;lia)
  have eW6:=tb _ _ eW5 (fun ps z=>by cases z) hpW;have hra6:RoomsAt H6 ws rz:=Paired.imp' (fun _ _ ⟨q,e,h⟩=>⟨q,e,tb _ _ h (fun ps z=>by cases z) (fun z=>by rw[z,ep]at h;cases h)⟩) hra5;have T6:SameT H H6:=TBut.out (by
   cases hq:H p with
   | none=>rfl
   | some u =>
    have:=(s3.trans S4) _ _ hq;rw[n5]at this;cases this) s05 tb
  have hS6:=T6.seq hS;clear tb hnm2 hra hra5 eW eW5 ep;walk_at"go";rename_i pp H7 n7 S7 ep7;generalize hc3:kR ns 3=c3;have hwat:∀i:Nat,i<n->∃q,ws[i]? =some (.ref q)/\H7 q=some (.tup [.str (jG c0 (i:Int)),.int (cG sh (i:Int)%21)]):=fun i hi=>by
   have h1:ws[i]? =some (ws[i]'(by lia)):=List.getElem?_eq_getElem _;obtain⟨q,e,h⟩:=L2.Paired.at2 hra6 h1 (hrat i hi);exact⟨q,by rw[h1,e],S7 _ _ h⟩
  have hW7:=S7 _ _ eW6;have hS7:=S7.seq hS6;let Pv2:Nat->St->Hp->Prop:=fun i σ' H'=>SameBut pp H7 H'/\H' pp=some (.dK (qB ((List.range i).map (y8 c0 sh c3))))/\∃x,σ'=[some (.ref a),some (.int c0),some (.int f),some (.ref pW),some (.ref p),x,some (.ref pp),none,none,none,none,none,none,none,none,none];refine iB Pv2 ⟨SameBut.refl,ep7,_,rfl⟩ ?_ ?_
  ·rintro i _ H' hi hq_;walk_at"g1";obtain⟨sb,eq,x2,rfl⟩:=hq_;walk_at"g2";have hin:i<n:=by lia
   have s6':Same H6 H':=SameBut.same n7 S7 sb;obtain⟨q,hq1,hq2⟩:=hwat i hin;have hqp:q≠pp:=fun z=>by rw[z,ep7]at hq2;cases hq2
   have hq3:=sb _ _ hq2 hqp;have eW':=s6' _ _ eW6;have hS':=s6'.seq hS6;walk_at"go";rename_i n8 d8 h80 h81;rw[Int.zero_add];refine O4 (SqL.of eW') hq1 ?_;walk_at"go";refine O4 (SqL.of eW') hq1 ?_;walk_at"go";refine mR eq (by rw[List.length_map,List.length_map,List.length_range,sizeLine_eq];lia) fun H9 B9 e9=> ?_;walk_at"go";refine⟨sb.trans B9,?_,_,rfl⟩;rw[e9,qJ _ (KI ?_),List.range_succ,List.map_append,List.map_singleton]
   ·rw[d8,Int.zero_add,hc3];unfold qB;rw[List.map_append,List.map_singleton];rfl
   ·intro hx;rw[List.map_map]at hx;obtain⟨j,hj,ej⟩:=List.mem_map.mp hx;have hj':=List.mem_range.mp hj;have:=EI (c:=c0) (k1:=(j:Int)) (k2:=(i:Int)) (by lia) (by lia) (by lia) (by lia) ej
    lia
  rintro _ H8 hq_;walk_at"g1";obtain⟨sb,eq,x2,rfl⟩:=hq_;walk_at"g2";rw[show ((ws.length:Nat):Int).toNat=n by lia]at eq;have s68:Same H6 H8:=SameBut.same n7 S7 sb;have T8:SameT H H8:=SameT.trans T6 (Same.t s68);have eW8:=s68 _ _ eW6;have hra8:=hra6.sm s68;have hS8:=s68.seq hS6;have eu8:=s68 _ _ eu;have hud8:=jK hud s68;have hT8:=hT6.same s68;clear hS6 hS7 hW7 eW6 hra6 hwat eu hud hT6;have hpn:(((List.range n).map (y8 c0 sh c3)).map (·.1))=rz.map (·.1):=by rw[hrn,List.map_map];exact List.map_congr_left fun k _=>by rw[Int.add_zero];rfl
  have hpl:((List.range n).map (y8 c0 sh c3)).length=n:=by rw[List.length_map,List.length_range]
  have hps0:∀e∈(List.range n).map (y8 c0 sh c3),0<=e.2:=fun e he=>by
   obtain⟨j,_,rfl⟩:=List.mem_map.mp he;exact Int.emod_nonneg _ (by lia)
  have hfit0:∀e∈rz,bE ((List.range n).map (y8 c0 sh c3)) e.1<=e.2:=fun e he=>by
   rw[←hrz]at he;obtain⟨j,hj,rfl⟩:=List.mem_map.mp he;rw[k8 (z:=(jY c0 sh j).1) (v:=(y8 c0 sh c3 j).2) (by rw[hpn];exact hnr) (List.mem_map.mpr ⟨j,hj,rfl⟩)];show cG c3 (j:Int)%(cG sh (j:Int)%21/3+1)<=cG sh (j:Int)%21;have h1:=Int.emod_lt_of_pos (cG c3 (j:Int)) (show 0<cG sh (j:Int)%21/3+1 by lia)
   lia
  generalize hPs:(List.range n).map (y8 c0 sh c3)=ps0 at eq hpn hpl hps0 hfit0;have hnk:t5 rz (bE ps0) (qB ps0):=⟨by
   rw[List.map_map];have:=congrArg (List.map (Sum.inr:Str->Key)) hpn;rw[List.map_map,List.map_map]at this;exact this,fun z hz=>by
   rw[←hpn]at hz;obtain⟨e,he,rfl⟩:=List.mem_map.mp hz;rw[AN (z:=e.1) (v:=e.2) (by rw[hpn];exact hnr) he,k8 (by rw[hpn];exact hnr) (v:=e.2) he]⟩
  walk_at"go";refine⟨_,rfl,pp,_,rfl,eq,fun pv nv=> ?_⟩;walk_at"go";have nvp:pp≠pv:=fun z=>by rw[z,nv]at eq;cases eq
  refine PB (rs:=ps0) aZ (by rw[aK nvp];exact eq) (by lia) fun pc H9 ys n9 S9 kr9 e9=> ?_;have S89:Same H8 H9:=(u3 nv).trans S9;obtain⟨ps,pm,hcs⟩:=RE (AU kr9) (M6 _);have eW9:=S89 _ _ eW8;have hS9:=S89.seq hS8;have eu9:=S89 _ _ eu8;walk_at"go";generalize hlc:f+1+kR ns 1%8=l;have hl1:f+1<=l:=by lia
  have hl2:l<=f+8:=by lia
  have hlp:ps.length=n:=by rw[pm.length_eq];exact hpl
  have hfit:sK rz ps:=⟨fun e he=>hps0 e (pm.mem_iff.mp he),fun e he=>by rw[rT pm];exact hfit0 e he⟩
  refine EJ (rz:=rz) (ps:=ps) (ds:=ds) (f:=f) (l:=l) rfl m.bK eW9 (hra8.sm S89) (SqL.of eu9) (jK hud8 S89) (SqL.of e9) hcs hnr hnd (fun d hd=>(hds d hd).hin) (fun e he=>by rw[←hpn];exact List.mem_map.mpr ⟨e,pm.mem_iff.mp he,rfl⟩) hfit (by lia) (by lia) (by lia) (by lia) (by lia) fun h HA nA SA hh=> ?_;have S8A:Same H8 HA:=S89.trans SA;have eWA:=S8A _ _ eW8;have hraA:=hra8.sm S8A;have hSA:=S8A.seq hS8;have euA:=S8A _ _ eu8;have hudA:=jK hud8 S8A;have hTA:=hT8.same S8A;have eqA:=S8A _ _ eq;have hul:us.length=ds.length:=Paired.length hudA;walk_at"g1";obtain⟨dx,qs,qp,qd,nk,kvs,e1,_⟩:=id hh.ex;walk_at"g2";clear n9 S9 kr9 e9 hcs eW9 hS9 eu9 nA SA S89 eW8 hra8 hS8 eu8 hud8 hT8 nv nvp eq;walk_at"go";refine WU (vs:=us) (fun i ys H1=>Same HA H1/\∃xs:List cD,xs.map (·.1)=ds.take i/\RecsAt H1 ys xs/\(xs.map (·.2)).Nodup/\∀x∈xs,HA x.2=none) (by rw[sizeLine_eq];lia) (rest:=[]) (by rfl) (fun i ys H1 hI=>hI.1.seq (SqL.of euA)) ⟨Same.refl _,[],rfl,.nil,List.nodup_nil,fun _ z=>nomatch z⟩ ?_ ?_
  ·rintro i v ys H1 hv ⟨s1,xs,hxd,hxr,hxn,hxe⟩ R hR;have hi:i<us.length:=(List.getElem?_eq_some_iff.mp hv).1;have hd0:ds[i]? =some (ds[i]'(by lia)):=List.getElem?_eq_getElem _;have hdv:=(aI P w K mg base (some 20)).same (L2.Paired.at2 hudA hv hd0) s1;generalize ds[i]'(by lia)=d at hd0 hdv;walk_at"g1";obtain⟨n',st,e,lt⟩:=d;walk_at"g2";walk_at"g1";obtain⟨q9,C9,dx9,fs,fp,rfl,hq9,dcC,l1,l2,l3,l4,l5,mcE,hfp,hlt⟩:=DoorAt.ex hdv;walk_at"g2";walk_at"g1";obtain⟨hdk,sp0,mcL0,hsp⟩:=hlt _ rfl;walk_at"g2";have mcL:=Mc.mono mcL0 hdk;walk_at"go";refine uB (fun i=> .int (lt.f (i:Int))) (by decide) (rest:=[some (.ref q9)]) (by rfl) ?_ ?_
   ·intro i H2 hi s2 R hR;have hq2:=s2 _ _ hq9;rw[Int.zero_add];walk_at"go";exact hsp _ _ _ hq2 (fun x hx=>s2 _ _ (hfp x hx).1) (by lia) (hR _ (Same.refl _))
   ·intro H2 s2;walk_at"go";rename_i p3 H3 n3 S3 e3 p4 H4 n4 S4 e4;have s14:Same H1 H4:=(s2.trans S3).trans S4;have e3':H3 p3=some (.lst (L20 (n',st,e,lt))):=e3;have h3n:H1 p3=none:=cE s2 n3;refine hR _ _ ⟨s1.trans s14,xs++[((n',st,e,lt),p3)],?_,L2.Paired.snoc (RecsAt.same hxr s14) ⟨p4,rfl,e4,S4 _ _ e3'⟩,?_,fun x hx=> ?_⟩
    ·rw[List.map_append,hxd,gJ hd0];rfl
    ·rw[List.map_append,List.nodup_append];refine⟨hxn,by simp,fun x hx y hy c=> ?_⟩;rw[c,List.mem_singleton.mp hy]at hx;obtain⟨x',hx',hxe'⟩:=List.mem_map.mp hx;walk_at"g1";obtain⟨v,_,q1,_,_,k2⟩:=cH hxr hx';walk_at"g2";rw[show x'.2=p3 from hxe',h3n]at k2;cases k2
    ·rcases List.mem_append.mp hx with hx|hx
     ·exact hxe x hx
     ·rw[List.mem_singleton.mp hx];exact cE s1 h3n
  rintro yr HB hq_;walk_at"g1";obtain⟨sB,xs,hxd,hxr,hxn,hxe⟩:=hq_;walk_at"g2";rw[hul,List.take_length]at hxd;walk_at"go";rename_i pD HC nC SC eD;have hxrC:=RecsAt.same hxr SC;have hxl:xs.length=ds.length:=by rw[←hxd,List.length_map]
  refine dH (BD HC) (fun _=>true) (fun x y H=>BefAt HC H y x.1) (fun _ _ _ _ h s=>h.same s) (by rw[sizeLine_eq];lia) (rest:=[]) (by rfl) (SqL.of eD) hxrC ?_ ?_ ?_
  ·intro v x H2 _ _ _ R hR;exact hR _ (Same.refl _)
  ·rintro v x H2 ⟨q2,rfl,hq2,hl2⟩ hm - s2 R hR;have hq2:=s2 _ _ hq2;have hl2:=s2 _ _ hl2;walk_at"go";rename_i p3 H3 n3 S3 e3 p4 H4 n4 S4 e4;exact hR _ _ ⟨p4,p3,rfl,cE (s2.trans S3) n4,cE s2 n3,e4,S4 _ _ e3⟩ (S3.trans S4)
  intro yb HD sD hyb;rw[List.filter_eq_self.mpr (fun _ _=>rfl)]at hyb;have sAD:Same HA HD:=sB.trans (SC.trans sD);have e1D:=sAD _ _ e1;have hSD:=sAD.seq hSA;have eWD:=sAD _ _ eWA;have eqD:=sAD _ _ eqA;have hraD:=hraA.sm sAD;have hnz:((rz.map fun e=>(e.1,0)).map (·.1):List Str)=rz.map (·.1):=by rw[List.map_map];rfl
  have hsp:∀e∈rz,e.2 - bE ps0 e.1=bE rz e.1 - bE ps0 e.1:=fun e he=>by rw[k8 (v:=e.2) hnr he]
  have hg0:∀z,0<=bE rz z - bE ps0 z:=fun z=>by
   by_cases hz:z∈rz.map (·.1)
   ·obtain⟨e,he,rfl⟩:=List.mem_map.mp hz;have h1:=hfit0 e he;have h2:=k8 (v:=e.2) hnr he
    lia
   ·rw[CF hz,CF (by rw[hpn];exact hz)];decide
  walk_at"go";rename_i pb HE nE SE eE t0 t1;generalize htt:f+kR ns 4%(l - f+1)=t at *;have eWE:=SE _ _ eWD;have hraE:=hraD.sm SE;have eqE:=SE _ _ eqD;refine mS (α:=Str×Int) (xs:=rz) (fun x=> .str x.1) (fun x=> .int x.2) (fun _=>true) (fun x y H=>∃q,y= .ref q/\H q=some (.tup [.str x.1,.int ((fun z=>bE rz z - bE ps0 z) x.1)])) (fun _ _ _ _ ⟨q,h1,h2⟩ s=>⟨q,h1,s _ _ h2⟩) (by rw[sizeLine_eq];lia) (rest:=[some (.ref pp)]) (by rfl) (SqL.of eWE) hraE ?_ ?_ ?_
  ·exact fun x H1 _ s1 R hR=>hR _ (Same.refl _)
  ·rintro ⟨z,sz⟩ H2 hm - s2 R hR;have hzm:z∈rz.map (·.1):=List.mem_map.mpr ⟨_,hm,rfl⟩;have hsz:=hsp _ hm;walk_at"go";refine fV (.inl (s2 _ _ eqE)) (hnk.2 z hzm) ?_;walk_at"go";rename_i q4 G4 m4 T4 e4;refine hR _ _ ⟨q4,rfl,?_⟩ T4;rw[e4];exact congrArg (fun x=>some (HO.tup [V.str z,V.int x])) hsz
  intro y1 HF sF hy1;rw[eY]at hy1;walk_at"go";rename_i pL1 HG nG SG eG;refine zI eG (CG (g:=fun z=>bE rz z - bE ps0 z) SG hy1) fun sp HI nI SI eI=> ?_;rw[y3 (by rw[List.map_map];exact hnr)]at eI;have sEI:Same HE HI:=sF.trans (SG.trans SI);have eWI:=sEI _ _ eWE;have hraI:=hraE.sm sEI;walk_at"go";refine mS (α:=Str×Int) (xs:=rz) (fun x=> .str x.1) (fun x=> .int x.2) (fun _=>true) (fun x y H=>∃q,y= .ref q/\H q=some (.tup [.str x.1,.int ((fun _=>(0:Int)) x.1)])) (fun _ _ _ _ ⟨q,h1,h2⟩ s=>⟨q,h1,s _ _ h2⟩) (by rw[sizeLine_eq];lia) (rest:=[]) (by rfl) (SqL.of eWI) hraI ?_ ?_ ?_
  ·exact fun x H1 _ s1 R hR=>hR _ (Same.refl _)
  ·rintro ⟨z,sz⟩ H2 hm - s2 R hR;walk_at"go";rename_i q4 G4 m4 T4 e4;exact hR _ _ ⟨q4,rfl,e4⟩ T4
  intro y2 HJ sJ hy2;rw[eY]at hy2;walk_at"go";rename_i pL2 HK nK SK eK;refine zI eK (CG (g:=fun _=>0) SK hy2) fun mo HL nL SL eL=> ?_;rw[y3 (by rw[List.map_map];exact hnr)]at eL;have sIL:Same HI HL:=sJ.trans (SK.trans SL);have sAL:Same HA HL:=sAD.trans (SE.trans (sEI.trans sIL));have hSL:=sAL.seq hSA;walk_at"go";rename_i cs HM nM SM eM;have sAM:Same HA HM:=sAL.trans SM;have sCM:Same HC HM:=sD.trans (SE.trans (sEI.trans (sIL.trans SM)));have nspD:HD sp=none:=cE (SE.trans (sF.trans SG)) nI;have nmoD:HD mo=none:=cE (SE.trans (sEI.trans (sJ.trans SK))) nL;have nDB:HA pD=none:=cE sB nC;have nspA:HA sp=none:=cE sAD nspD;have nmoA:HA mo=none:=cE sAD nmoD;have nspmo:sp≠mo:=fun c=>by
   have h1:=(sJ.trans SK) _ _ eI;rw[c,nL]at h1;cases h1
  have hxrM:RecsAt HM yr xs:=RecsAt.same hxrC sCM;have hDM:=sCM _ _ eD;have hspM:=(sIL.trans SM) _ _ eI;have hmoM:=SM _ _ eL;have naD:pD∉xs.map (·.2):=fun c=>by
   obtain⟨x,hx,hxe'⟩:=List.mem_map.mp c;walk_at"g1";obtain⟨v,_,q1,_,_,k2⟩:=cH hxr hx;walk_at"g2";rw[show x.2=pD from hxe',nC]at k2;cases k2
  have bk:Book rz pD sp mo HM yr xs (fun z=>bE rz z - bE ps0 z) (fun _=>0):=⟨hDM,hxrM,hxn,⟨_,hspM,OV hnr _⟩,⟨_,hmoM,OV hnr _⟩,nspmo,by lia,naD⟩
  have hbadA:∀b∈gN pD sp mo xs,HA b=none:=fun b hb=>by
   rcases List.mem_cons.mp hb with rfl|hb
   ·exact nDB
   rcases List.mem_cons.mp hb with rfl|hb
   ·exact nspA
   rcases List.mem_cons.mp hb with rfl|hb
   ·exact nmoA
   obtain⟨x,hx,rfl⟩:=List.mem_map.mp hb;exact hxe x hx
  have hncs:cs∉gN pD sp mo xs:=fun hb=>by
   have key:∀b∈gN pD sp mo xs,∃o,HL b=some o:=fun b hb=>by
    rcases List.mem_cons.mp hb with rfl|hb
    ·exact⟨_,(sD.trans (SE.trans (sEI.trans sIL))) _ _ eD⟩
    rcases List.mem_cons.mp hb with rfl|hb
    ·exact⟨_,sIL _ _ eI⟩
    rcases List.mem_cons.mp hb with rfl|hb
    ·exact⟨_,eL⟩
    obtain⟨x,hx,rfl⟩:=List.mem_map.mp hb;walk_at"g1";obtain⟨v,_,q1,_,_,k2⟩:=cH hxrC hx;walk_at"g2";exact⟨_,(sD.trans (SE.trans (sEI.trans sIL))) _ _ k2⟩
   obtain⟨o,ho⟩:=key cs hb;rw[nM]at ho;cases ho
  have hdsok:zG rz (xs.map (·.1)) 0:=by
   rw[hxd];exact⟨hnd,hds,fun d hd=>by rw[hdt d hd];exact Nat.le_refl _,by lia⟩
  refine⟨cs,pD,pW,sp,mo,h,BR ns (some 5) (some 17),yr,ws,xs,rz,ps,ds,f,l,_,_,HA,rfl,eM,hncs,aCp ns,bk,hg0,hdsok,rzo,Same.t sAM,hbadA,SqL.of eWA,hraA,hh,hf0,by lia,by lia,hTA.same sAM,fun ph vh hs us' xs' HN hI=> ?_⟩;have sAN:SameT HA HN:=fun b o e hn=>hI.fr b o (sAM _ _ e) (fun hb=>by rw[hbadA b hb]at e;cases e) hn;have hbefN:Paired (fun x y=>BefAt HC HN y x.1) xs yb:=by
   refine Paired.imp' (fun x y hx=> ?_) hyb;walk_at"g1";obtain⟨q,c,e,g1,g2,h1,h2⟩:=hx;walk_at"g2";have key:∀b o,HC b=none->HD b=some o->b∉gN pD sp mo xs:=fun b o n1 n2 hb=>by
    rcases List.mem_cons.mp hb with rfl|hb
    ·rw[eD]at n1;cases n1
    rcases List.mem_cons.mp hb with rfl|hb
    ·rw[nspD]at n2;cases n2
    rcases List.mem_cons.mp hb with rfl|hb
    ·rw[nmoD]at n2;cases n2
    obtain⟨x,hx,rfl⟩:=List.mem_map.mp hb;walk_at"g1";obtain⟨v,_,q1,_,_,k2⟩:=cH hxrC hx;walk_at"g2";rw[k2]at n1;cases n1
   have sDM:Same HD HM:=SE.trans (sEI.trans (sIL.trans SM));exact⟨q,c,e,g1,g2,hI.fr _ _ (sDM _ _ h1) (key _ _ g1 h1) (fun _ z=>by cases z),hI.fr _ _ (sDM _ _ h2) (key _ _ g2 h2) (fun _ z=>by cases z)⟩
  have hpbN:HN pb=some (.lst yb):=hI.fr _ _ ((sEI.trans (sIL.trans SM)) _ _ eE) (fun hb=>by
    rcases List.mem_cons.mp hb with z|hb
    ·rw[z,sD _ _ eD]at nE;cases nE
    rcases List.mem_cons.mp hb with z|hb
    ·rw[←z,(sF.trans SG) _ _ eE]at nI;cases nI
    rcases List.mem_cons.mp hb with z|hb
    ·rw[←z,(sEI.trans (sJ.trans SK)) _ _ eE]at nL;cases nL
    obtain⟨x,hx,z⟩:=List.mem_map.mp hb;walk_at"g1";obtain⟨v,_,q1,_,_,k2⟩:=cH hxrC hx;walk_at"g2";have k3:=sD _ _ k2;rw[show x.2=pb from z,nE]at k3;cases k3) (fun _ z=>by cases z)
  have hhN:=LS hh sAN;have eWN:=sAN _ _ eWA (fun _ z=>by cases z);have hraN:=Same.roomsT hraA sAN;have eqN:=sAN _ _ eqA (fun _ z=>by cases z);have euN:=sAN _ _ euA (fun _ z=>by cases z);have hudN:Paired ((aI P w K mg base (some 20)).at' HN) us ds:=Paired.imp' (fun _ _ x=>AX x sAN) hudA;have e1N:=sAN _ _ e1 (fun _ z=>by cases z);have hgo:=hI.go;have hex:=hI.ex;rw[hxd]at hgo hex;have hfN:=hI.hf;have hhpN:=hI.hh;have hbkN:=hI.bk;have hgN:=hI.g0;clear hI hyb hy1 hy2;walk_at"go";rename_i pk HQ nO SO eO;have hrl:rz.length=n:=hlz;have hoK:HOk f l rz ps ds:=⟨hnr,hnd,hf0,by lia,by lia,by lia,by lia,hfit⟩
  have hfn:=fun (e:Str×Int) (he:e∈mD hs)=>(P8 hgo he).1;have hfitA:sK rz (psA rz ps hs):=⟨fun e he=>by
   rcases List.mem_append.mp he with he|he
   ·obtain⟨e',_,rfl⟩:=List.mem_map.mp he;exact XJ hfit.1 _
   ·exact(P8 hgo he).2,fun e he=>by
   have hz:e.1∈rz.map (·.1):=List.mem_map.mpr ⟨e,he,rfl⟩;have h1:=hgN e.1;rw[tK]at h1;have h2:=k8 (v:=e.2) hnr he;rw[LH hnr hs hz,rT pm]
   lia⟩
  have hdA:dsA ds hs hs.length=xs'.map (·.1):=by rw[hex];unfold dsA;rw[List.take_length]
  have hdo:=hgo.dsok hs.length (Nat.le_refl _);rw[hdA]at hdo;obtain⟨km,hmoN,hmoK⟩:=hbkN.hm;have hsum:∀z∈rz.map (·.1),bE (psA rz ps hs) z=bE ps0 z+List.foldl gM (fun _=>0) hs z:=fun z hz=>by
   rw[LH hnr hs hz,tP,rT pm];lia
  let Pv3:Nat->St->Hp->Prop:=fun i σ' H'=>Same HQ H'/\∃x,σ'=[some (.ref a),some (.int c0),some (.int f),some (.ref pW),some (.ref p),x,some (.ref pp),some (.ref h),some (.ref pD),some (.ref pb),some (.int t),some (.ref sp),some (.ref mo),some (.ref ph),some (.ref pk),none];refine iB Pv3 ⟨Same.refl _,_,rfl⟩ ?_ ?_
  ·rintro i _ H1 hi ⟨s1,x3,rfl⟩;have sN1:=SO.trans s1;walk_at"go";rename_i pe H2 n2 S2 e2;have sN2:=sN1.trans S2;refine⟨h,pe,pk,f,l,t,rz,ps,ds,vh,hs,rfl,bN hhN sN2,hoK,by lia,SqL.of e2,SqL.of ((s1.trans S2) _ _ eO),Paired.imp' (fun _ _ x=>HapAt.same x sN2) hhpN,hgo,by lia,by lia,hfn,hfitA,fun h2 H3 n3 S3 hh3=> ?_⟩;rw[hdA]at hh3;have sN3:=sN2.trans S3;walk_at"go";refine⟨h2,h,pW,pp,pD,mo,t,f,l,ws,us',xs',rz,ps,psA rz ps hs,ds,bE ps0,_,_,_,rfl,hh3,bN hhN sN3,hnr,hdo.nd,fun x hx=>hdo.ok _ (List.mem_map.mpr ⟨x,hx,rfl⟩),by lia,hbkN.len,by lia,by lia,by lia,SqL.of (sN3 _ _ eWN),hraN.sm sN3,sN3 _ _ eqN,hnk,sN3 _ _ hmoN,hmoK,hsum,sN3 _ _ hbkN.ha,RecsAt.same hbkN.hx sN3,fun H4 S4=> ?_⟩;walk_at"go";exact⟨s1.trans (S2.trans (S3.trans S4)),_,rfl⟩
  clear hfitA hfn hoK hsum hmoK hmoN hdo hdA hgN hbkN hraN eWN hncs hbadA bk naD hmoM hspM hDM hxrM sAN hdsok;rintro _ H1 ⟨s1,x3,rfl⟩;have sN1:=SO.trans s1;have eu1:=sN1 _ _ euN;have hud1:=jK hudN sN1;walk_at"go";refine dH ((aI P w K mg base (some 20)).at' H1) (fun _=>true) (fun d y H=>BefAt HN H y d) (fun _ _ _ _ h s=>h.same s) (by rw[sizeLine_eq];lia) (rest:=[]) (by rfl) (SqL.of eu1) hud1 ?_ ?_ ?_
  ·intro v x H2 _ _ _ R hR;exact hR _ (Same.refl _)
  ·rintro v ⟨n',st,e,lt⟩ H2 hdv hm - s2 R hR;walk_at"g1";obtain⟨q9,C9,dx9,fs,fp,rfl,hq9,dcC,l1,l2,l3,l4,l5,mcE,hfp,hlt⟩:=DoorAt.ex ((aI P w K mg base (some 20)).same hdv s2);walk_at"g2";walk_at"g1";obtain⟨hdk,sp0,mcL0,hsp⟩:=hlt _ rfl;walk_at"g2";have mcL:=Mc.mono mcL0 hdk;walk_at"go";refine uB (fun i=> .int (lt.f (i:Int))) (by decide) (rest:=[some (.ref q9)]) (by rfl) ?_ ?_
   ·intro i H3 hi s3 R hR;have hq2:=s3 _ _ hq9;rw[Int.zero_add];walk_at"go";exact hsp _ _ _ hq2 (fun x hx=>s3 _ _ (hfp x hx).1) (by lia) (hR _ (Same.refl _))
   ·intro H3 s3;walk_at"go";rename_i p3 H4 n4 S4 e4 p5 H5 n5 S5 e5;have e4':H4 p3=some (.lst (L20 (n',st,e,lt))):=e4;have sN2:=sN1.trans s2;exact hR _ _ ⟨p5,p3,rfl,cE (sN2.trans (s3.trans S4)) n5,cE (sN2.trans s3) n4,e5,S5 _ _ e4'⟩ (s3.trans (S4.trans S5))
  intro ya H2 s2 hya;rw[List.filter_eq_self.mpr (fun _ _=>rfl)]at hya;have sN2:=sN1.trans s2;have eO2:=(s1.trans s2) _ _ eO;have hf2:=sN2 _ _ hfN;walk_at"go";rename_i pA H3 n3 S3 e3;have sN3:=sN2.trans S3;refine lB (SqL.of (S3 _ _ eO2)) (SqL.of (S3 _ _ hf2)) (iJ (EM hhpN)) ?_;walk_at"go";refine lB (SqL.of e3) (SqL.of (sN3 _ _ hpbN)) (GV (xs:=xs) (by rw[hxd];exact Paired.imp' (fun _ _ h=>h.same S3) hya) (Paired.imp' (fun _ _ h=>h.same sN3) hbefN)) ?_;have e13:=sN3 _ _ e1N;walk_at"go";refine mY (bN hhN sN3) fun p4 H4 n4 S4 f4=> ?_;have sN4:=sN3.trans S4;walk_at"go";refine dH ((aI P w K mg base (some 20)).at' H4) (fun _=>true) (fun d y _=>y=V.str d.1) (fun _ _ _ _ h _=>h) (by rw[sizeLine_eq];lia) (rest:=[]) (by rfl) (SqL.of (sN4 _ _ euN)) (jK hudN sN4) ?_ ?_ ?_
  ·intro v x H5 _ _ _ R hR;exact hR _ (Same.refl _)
  ·rintro v ⟨n',st,e,lt⟩ H5 hdv hm - s5 R hR;walk_at"g1";obtain⟨q9,C9,dx9,fs,fp,rfl,hq9,dcC,l1,l2,l3,l4,l5,mcE,hfp,hlt⟩:=DoorAt.ex ((aI P w K mg base (some 20)).same hdv s5);walk_at"g2";walk_at"go";exact hR _ _ rfl (Same.refl _)
  intro yn H5 s5 hyn;rw[List.filter_eq_self.mpr (fun _ _=>rfl)]at hyn;obtain rfl:=d3 hyn;walk_at"go";rename_i p6 H6 n6 S6 f6;have f6':H6 p6=some (.lst ((ds.map (·.1)).map V.str)):=by rw[f6,List.map_map];rfl
  refine lB (SqL.of ((s5.trans S6) _ _ f4)) (SqL.of f6') (iJ (uU _)) ?_;have sN6:=sN4.trans (s5.trans S6);have e16:=sN6 _ _ e1N;walk_at"go";refine XC (bN hhN sN6) hnr fun H7 S7=> ?_;have eq7:=(sN6.trans S7) _ _ eqN;walk_at"go";have htot:=R9 pm hpn hnr;refine IY (.inl eq7) fun pv2 HV nV SV ev=> ?_;walk_at"go";refine MG (ns:=ps0.map (·.2)) ev (.inl (SV _ _ eq7)) (by rw[List.map_map,List.map_map];rfl) ?_;rw[htot];walk_at"go"
  first
   | exact k _
   | (rw[decide_eq_true rfl];exact k _)
end
theorem all_mk {l:W.OpenLaw}{w:World}{K:W.Frag}{h:Heap}{mg:Str->Option Value}{fa:Addr} (X:K.In h) (G:h.Ns mainGlobals mg) (hfa:mg "law" =some (.ref fa))
  {zaa zab zac zad zae zaf zag zah zai zaj zak zal zam zan zao zap zaq zar zas zat zau zav zaw zax zay zaz zba zbb zbc zbd zbe zbf zbg zbh zbi zbj zbk zbl zbm zbn zbo zbp zbq zbr zbs zbt zbu zbv zbw zbx zby zbz zca zcb zcc zcd zce zcf zcg zch zci zcj zck zcl zcm zcn zco zcp zcq zcr zcs zct zcu zcv zcw zcx zcy:Addr}
  {zcz zda:Option Addr}{zdb:Array (Option Value)}{zdc zdd zde zdf zdg zdh:Value}
  {zdi zdj:Option Addr}{zdk:Array (Option Value)}{zdl zdm zdn zdo zdp zdq:Value}
  {zdr zds:Option Addr}{zdt:Array (Option Value)}{zdu zdv zdw zdx zdy zdz:Value}
  {zea zeb:Option Addr}{zec:Array (Option Value)}{zed zee zef zeg zeh zei:Value}
  {zej zek:Option Addr}{zel:Array (Option Value)}{zem zen zeo zep zeq zer:Value}
  {zes zet:Option Addr}{zeu:Array (Option Value)}{zev zew zex zey zez zfa:Value}
  {zfb zfc:Option Addr}{zfd:Array (Option Value)}{zfe zff zfg zfh zfi zfj:Value}
  {zfk zfl:Option Addr}{zfm:Array (Option Value)}{zfn zfo zfp zfq zfr zfs:Value}
  {zft zfu:Option Addr}{zfv:Array (Option Value)}{zfw zfx zfy zfz zga zgb:Value}
  {zgc zgd:Option Addr}{zge:Array (Option Value)}{zgf zgg zgh zgi zgj zgk:Value}
  {zgl zgm:Option Addr}{zgn:Array (Option Value)}{zgo zgp zgq zgr zgs zgt:Value}
  {zgu zgv:Option Addr}{zgw:Array (Option Value)}{zgx zgy zgz zha zhb zhc:Value}
  {zhd zhe:Option Addr}{zhf:Array (Option Value)}{zhg zhh zhi zhj zhk zhl:Value}
  {zhm zhn:Option Addr}{zho:Array (Option Value)}{zhp zhq zhr zhs zht zhu:Value}
  {zhv zhw:Option Addr}{zhx:Array (Option Value)}{zhy zhz zia zib zic zid:Value}
  {zie zif:Option Addr}{zig:Array (Option Value)}{zih zii zij zik zil zim:Value}
  {zin zio:Option Addr}{ziq:Array (Option Value)}{zir zis zit ziu ziv ziw:Value}
  {zix ziy:Option Addr}{ziz:Array (Option Value)}{zja zjb zjc zjd zje zjf:Value}
  {zjg zjh:Option Addr}{zji:Array (Option Value)}{zjj zjk zjl zjm zjn zjo:Value}
  {zjp zjq:Option Addr}{zjr:Array (Option Value)}{zjs zjt zju zjv zjw zjx:Value}
  {zjy zjz:Option Addr}{zka:Array (Option Value)}{zkb zkc zkd zke zkf zkg:Value}
  {zkh zki:Option Addr}{zkj:Array (Option Value)}{zkk zkl zkm zkn zko zkp:Value}
  {zkq zkr:Option Addr}{zks:Array (Option Value)}{zkt zku zkv zkw zkx zky:Value}
  {zkz zla:Option Addr}{zlb:Array (Option Value)}{zlc zld zle zlf zlg zlh:Value}
  {zli zlj:Option Addr}{zlk:Array (Option Value)}{zll zlm zln zlo zlp zlq:Value}
  {zlr zls:Option Addr}{zlt:Array (Option Value)}{zlu zlv zlw zlx zly zlz:Value}
  {zma:Addr}
  {zmb:Value}{zmc:Option Addr}{zmd:Nat}{zme:Array (Option Value)}
  {zmf zmg:Option Addr}{zmh:Array (Option Value)}{zmi zmj zmk zml zmm zmn:Value}
  {zmo zmp:Option Addr}{zmq:Array (Option Value)}{zmr zms zmt zmu zmv zmw:Value}
  {zmx zmy:Option Addr}{zmz:Array (Option Value)}{zna znb znc znd zne znf:Value}
  {zng znh:Option Addr}{zni:Array (Option Value)}{znj znk znl znm znn zno:Value}
  {znp znq:Option Addr}{znr:Array (Option Value)}{zns znt znu znv znw znx:Value}
  {zny znz:Option Addr}{zoa:Array (Option Value)}{zob zoc zod zoe zof zog:Value}
  {zoh zoi:Option Addr}{zoj:Array (Option Value)}{zok zol zom zon zoo zop:Value}
  {zoq zor:Option Addr}{zos:Array (Option Value)}{zot zou zov zow zox zoy:Value}
  {zoz zpa:Option Addr}{zpb:Array (Option Value)}{zpc zpd zpe zpf zpg zph:Value}
  {zpi zpj:Option Addr}{zpk:Array (Option Value)}{zpl zpm zpn zpo zpp zpq:Value}
  {zpr:Addr}
  {zps:Tok}
  {zpt:Value}{zpu:Option Addr}{zpv:Nat}{zpw:Array (Option Value)}
  {zpx zpy:Option Addr}{zpz:Array (Option Value)}{zqa zqb zqc zqd zqe zqf:Value}
  {zqg zqh:Option Addr}{zqi:Array (Option Value)}{zqj zqk zql zqm zqn zqo:Value}
  {zqp zqq:Option Addr}{zqr:Array (Option Value)}{zqs zqt zqu zqv zqw zqx:Value}
  {zqy zqz:Option Addr}{zra:Array (Option Value)}{zrb zrc zrd zre zrf zrg:Value}
  {zrh zri:Option Addr}{zrj:Array (Option Value)}{zrk zrl zrm zrn zro zrp:Value}
  {zrq zrr:Option Addr}{zrs:Array (Option Value)}{zrt zru zrv zrw zrx zry:Value}
  {zrz zsa:Option Addr}{zsb:Array (Option Value)}{zsc zsd zse zsf zsg zsh:Value}
  {zsi zsj:Option Addr}{zsk:Array (Option Value)}{zsl zsm zsn zso zsp zsq:Value}
  {zsr zss:Option Addr}{zst:Array (Option Value)}{zsu zsv zsw zsx zsy zsz:Value}
  {zta ztb:Option Addr}{ztc:Array (Option Value)}{ztd zte ztf ztg zth zti:Value}
  {ztj ztk:Option Addr}{ztl:Array (Option Value)}{ztm ztn zto ztp ztq ztr:Value}
  {zts ztt:Option Addr}{ztu:Array (Option Value)}{ztv ztw ztx zty ztz zua:Value}
  {zub zuc:Option Addr}{zud:Array (Option Value)}{zue zuf zug zuh zui zuj:Value}
  {zuk zul:Option Addr}{zum:Array (Option Value)}{zun zuo zup zuq zur zus:Value}
  {zut zuu:Option Addr}{zuv:Array (Option Value)}{zuw zux zuy zuz zva zvb:Value}
  {zvc zvd:Option Addr}{zve:Array (Option Value)}{zvf zvg zvh zvi zvj zvk:Value}
  {zvl:Addr}
  {zvm:Tok}
  {zvn:Value}{zvo:Option Addr}{zvp:Nat}{zvq:Array (Option Value)}
  {zvr zvs:Option Addr}{zvt:Array (Option Value)}{zvu zvv zvw zvx zvy zvz:Value}
  {zwa zwb:Option Addr}{zwc:Array (Option Value)}{zwd zwe zwf zwg zwh zwi:Value}
  {zwj zwk:Option Addr}{zwl:Array (Option Value)}{zwm zwn zwo zwp zwq zwr:Value}
  {zws zwt:Option Addr}{zwu:Array (Option Value)}{zwv zww zwx zwy zwz zxa:Value}
  {zxb zxc:Option Addr}{zxd:Array (Option Value)}{zxe zxf zxg zxh zxi zxj:Value}
  {zxk zxl:Option Addr}{zxm:Array (Option Value)}{zxn zxo zxp zxq zxr zxs:Value}
  {zxt zxu:Option Addr}{zxv:Array (Option Value)}{zxw zxx zxy zxz zya zyb:Value}
  {zyc zyd:Option Addr}{zye:Array (Option Value)}{zyf zyg zyh zyi zyj zyk:Value}
  {zyl zym:Option Addr}{zyn:Array (Option Value)}{zyo zyp zyq zyr zys zyt:Value}
  {zyu zyv:Option Addr}{zyw:Array (Option Value)}{zyx zyy zyz zza zzb zzc:Value}
  {zzd zze:Option Addr}{zzf:Array (Option Value)}{zzg zzh zzi zzj zzk zzl:Value}
  {zzm:Tok}
  (zzn:W.nsIn K mainGlobals "_wall" =some (some (.ref zaa)))
  (zzo:W.nsIn K mainGlobals "is_whole" =some (some (.ref zab)))
  (zzp:W.nsIn K mainGlobals "is_name" =some (some (.ref zac)))
  (zzq:W.nsIn K mainGlobals "need_name" =some (some (.ref zad)))
  (zzr:W.nsIn K mainGlobals "need_whole" =some (some (.ref zae)))
  (zzs:W.nsIn K mainGlobals "need_turns" =some (some (.ref zaf)))
  (zzt:W.nsIn K mainGlobals "need_each_once" =some (some (.ref zag)))
  (zzu:W.nsIn K mainGlobals "rooms_spoken_of" =some (some (.ref zah)))
  (zzv:W.nsIn K mainGlobals "need_rooms" =some (some (.ref zai)))
  (zzw:W.nsIn K mainGlobals "added_people" =some (some (.ref zaj)))
  (zzx:W.nsIn K mainGlobals "need_space" =some (some (.ref zak)))
  (zzy:W.nsIn K mainGlobals "added_up" =some (some (.ref zal)))
  (zzz:W.nsIn K mainGlobals "rows_that_count" =some (some (.ref zam)))
  (zbaa:W.nsIn K mainGlobals "leaving" =some (some (.ref zan)))
  (zbab:W.nsIn K mainGlobals "coming" =some (some (.ref zao)))
  (zbac:W.nsIn K mainGlobals "there" =some (some (.ref zap)))
  (zbad:W.nsIn K mainGlobals "most_through" =some (some (.ref zaq)))
  (zbae:W.nsIn K mainGlobals "door_faults" =some (some (.ref zar)))
  (zbaf:W.nsIn K mainGlobals "leave_faults" =some (some (.ref zas)))
  (zbag:W.nsIn K mainGlobals "full_faults" =some (some (.ref zat)))
  (zbah:W.nsIn K mainGlobals "faults" =some (some (.ref zau)))
  (zbai:W.nsIn K mainGlobals "need_lawful" =some (some (.ref zav)))
  (zbaj:W.nsIn K mainGlobals "place_of" =some (some (.ref zaw)))
  (zbak:W.nsIn K mainGlobals "changed_door" =some (some (.ref zax)))
  (zbal:W.nsIn K mainGlobals "doors_after" =some (some (.ref zay)))
  (zbam:W.nsIn K mainGlobals "anew" =some (some (.ref zaz)))
  (zban:W.nsIn K mainGlobals "_law_cell_at" =some (some (.ref zba)))
  (zbao:W.nsIn K mainGlobals "_law_drawn" =some (some (.ref zbb)))
  (zbap:W.nsIn K mainGlobals "_law_name" =some (some (.ref zbc)))
  (zbaq:W.nsIn K mainGlobals "_law_door" =some (some (.ref zbd)))
  (zbar:W.nsIn K mainGlobals "_law_happening" =some (some (.ref zbe)))
  (zbas:W.nsIn K mainGlobals "_law_befall" =some (some (.ref zbf)))
  (zbat:W.nsIn K mainGlobals "_law_right" =some (some (.ref zbg)))
  (zbau:W.nsIn K mainGlobals "_law_happenings" =some (some (.ref zbh)))
  (zbav:W.nsIn K mainGlobals "law" =some (some (.ref zbi)))
  (zbaw:W.nsIn K mainGlobals "Door" =some (some (.ref zbj)))
  (zbax:W.nsIn K mainGlobals "Since" =some (some (.ref zbk)))
  (zbay:W.nsIn K mainGlobals "Told" =some (some (.ref zbl)))
  (zbaz:W.nsIn K mainGlobals "Shut" =some (some (.ref zbm)))
  (zbba:W.nsIn K mainGlobals "Wider" =some (some (.ref zbn)))
  (zbbb:W.nsIn K mainGlobals "House" =some (some (.ref zbo)))
  (zbbc:W.nsIn K mainGlobals "OutError" =some (some (.ref zbp)))
  (zbbd:W.nsIn K mainGlobals "NoDoor" =some (some (.ref zbq)))
  (zbbe:W.nsIn K mainGlobals "NoHouse" =some (some (.ref zbr)))
  (zbbf:W.nsIn K mainGlobals "NoPlan" =some (some (.ref zbs)))
  (zbbg:W.nsIn K mainGlobals "NoTurn" =some (some (.ref zbt)))
  (zbbh:W.nsIn K mainGlobals "Twice" =some (some (.ref zbu)))
  (zbbi:W.nsIn K mainGlobals "NoRoom" =some (some (.ref zbv)))
  (zbbj:W.nsIn K mainGlobals "Unknown" =some (some (.ref zbw)))
  (zbbk:W.findIn K (.ref zbj) "__init__" =some (some (.ref zbx)))
  (zbbl:W.findIn K (.ref zbj) "lets" =some (some (.ref zby)))
  (zbbm:W.findIn K (.ref zbj) "is_exit" =some (some (.ref zbz)))
  (zbbn:W.findIn K (.ref zbj) "words" =some (some (.ref zca)))
  (zbbo:W.findIn K (.ref zbk) "__init__" =some (some (.ref zcb)))
  (zbbp:W.findIn K (.ref zbk) "lets" =some (some (.ref zcc)))
  (zbbq:W.findIn K (.ref zbk) "words" =some (some (.ref zcd)))
  (zbbr:W.findIn K (.ref zbl) "__init__" =some (some (.ref zce)))
  (zbbs:W.findIn K (.ref zbl) "lets" =some (some (.ref zcf)))
  (zbbt:W.findIn K (.ref zbl) "words" =some (some (.ref zcg)))
  (zbbu:W.findIn K (.ref zbm) "__init__" =some (some (.ref zch)))
  (zbbv:W.findIn K (.ref zbm) "lets" =some (some (.ref zci)))
  (zbbw:W.findIn K (.ref zbm) "words" =some (some (.ref zcj)))
  (zbbx:W.findIn K (.ref zbn) "__init__" =some (some (.ref zck)))
  (zbby:W.findIn K (.ref zbn) "lets" =some (some (.ref zcl)))
  (zbbz:W.findIn K (.ref zbn) "words" =some (some (.ref zcm)))
  (zbca:W.findIn K (.ref zbo) "__init__" =some (some (.ref zcn)))
  (zbcb:W.findIn K (.ref zbo) "rooms" =some (some (.ref zco)))
  (zbcc:W.findIn K (.ref zbo) "doors" =some (some (.ref zcp)))
  (zbcd:W.findIn K (.ref zbo) "need_room" =some (some (.ref zcq)))
  (zbce:W.findIn K (.ref zbo) "holds" =some (some (.ref zcr)))
  (zbcf:W.findIn K (.ref zbo) "found" =some (some (.ref zcs)))
  (zbcg:W.findIn K (.ref zbo) "into" =some (some (.ref zct)))
  (zbch:W.findIn K (.ref zbo) "from_room" =some (some (.ref zcu)))
  (zbci:W.findIn K (.ref zbo) "door" =some (some (.ref zcv)))
  (zbcj:W.findIn K (.ref zbo) "lets" =some (some (.ref zcw)))
  (zbck:W.findIn K (.ref zbo) "total" =some (some (.ref zcx)))
  (zbcl:W.findIn K (.ref zbo) "pairs" =some (some (.ref zcy)))
  (zbcm:K.lookup zaa=some ⟨zdc,zcz,.func (W.fnOf "_wall" "_wall" (aJ p8) (aH p8) (aC p8) .none zdd zde zdf zda zdg zdh),zdb⟩)
  (zbcn:W.codeIn K zdg "_wall" =true)
  (zbco:W.keepIn K (.ref zaa)=true)
  (zbcp:K.lookup zab=some ⟨zdl,zdi,.func (W.fnOf "is_whole" "is_whole" (aJ iL) (aH iL) (aC iL) .none zdm zdn zdo zdj zdp zdq),zdk⟩)
  (zbcq:W.codeIn K zdp "is_whole" =true)
  (zbcr:W.keepIn K (.ref zab)=true)
  (zbcs:K.lookup zac=some ⟨zdu,zdr,.func (W.fnOf "is_name" "is_name" (aJ jM) (aH jM) (aC jM) .none zdv zdw zdx zds zdy zdz),zdt⟩)
  (zbct:W.codeIn K zdy "is_name" =true)
  (zbcu:W.keepIn K (.ref zac)=true)
  (zbcv:K.lookup zad=some ⟨zed,zea,.func (W.fnOf "need_name" "need_name" (aJ gU) (aH gU) (aC gU) .none zee zef zeg zeb zeh zei),zec⟩)
  (zbcw:W.codeIn K zeh "need_name" =true)
  (zbcx:W.keepIn K (.ref zad)=true)
  (zbcy:K.lookup zae=some ⟨zem,zej,.func (W.fnOf "need_whole" "need_whole" (aJ fO) (aH fO) (aC fO) .none zen zeo zep zek zeq zer),zel⟩)
  (zbcz:W.codeIn K zeq "need_whole" =true)
  (zbda:W.keepIn K (.ref zae)=true)
  (zbdb:K.lookup zaf=some ⟨zev,zes,.func (W.fnOf "need_turns" "need_turns" (aJ fP) (aH fP) (aC fP) .none zew zex zey zet zez zfa),zeu⟩)
  (zbdc:W.codeIn K zez "need_turns" =true)
  (zbdd:W.keepIn K (.ref zaf)=true)
  (zbde:K.lookup zag=some ⟨zfe,zfb,.func (W.fnOf "need_each_once" "need_each_once" (aJ cZ) (aH cZ) (aC cZ) .none zff zfg zfh zfc zfi zfj),zfd⟩)
  (zbdf:W.codeIn K zfi "need_each_once" =true)
  (zbdg:W.keepIn K (.ref zag)=true)
  (zbdh:K.lookup zah=some ⟨zfn,zfk,.func (W.fnOf "rooms_spoken_of" "rooms_spoken_of" (aJ cT) (aH cT) (aC cT) .none zfo zfp zfq zfl zfr zfs),zfm⟩)
  (zbdi:W.codeIn K zfr "rooms_spoken_of" =true)
  (zbdj:W.keepIn K (.ref zah)=true)
  (zbdk:K.lookup zai=some ⟨zfw,zft,.func (W.fnOf "need_rooms" "need_rooms" (aJ fS) (aH fS) (aC fS) .none zfx zfy zfz zfu zga zgb),zfv⟩)
  (zbdl:W.codeIn K zga "need_rooms" =true)
  (zbdm:W.keepIn K (.ref zai)=true)
  (zbdn:K.lookup zaj=some ⟨zgf,zgc,.func (W.fnOf "added_people" "added_people" (aJ dU) (aH dU) (aC dU) .none zgg zgh zgi zgd zgj zgk),zge⟩)
  (zbdo:W.codeIn K zgj "added_people" =true)
  (zbdp:W.keepIn K (.ref zaj)=true)
  (zbdq:K.lookup zak=some ⟨zgo,zgl,.func (W.fnOf "need_space" "need_space" (aJ fK) (aH fK) (aC fK) .none zgp zgq zgr zgm zgs zgt),zgn⟩)
  (zbdr:W.codeIn K zgs "need_space" =true)
  (zbds:W.keepIn K (.ref zak)=true)
  (zbdt:K.lookup zal=some ⟨zgx,zgu,.func (W.fnOf "added_up" "added_up" (aJ iM) (aH iM) (aC iM) .none zgy zgz zha zgv zhb zhc),zgw⟩)
  (zbdu:W.codeIn K zhb "added_up" =true)
  (zbdv:W.keepIn K (.ref zal)=true)
  (zbdw:K.lookup zam=some ⟨zhg,zhd,.func (W.fnOf "rows_that_count" "rows_that_count" (aJ cQ) (aH cQ) (aC cQ) .none zhh zhi zhj zhe zhk zhl),zhf⟩)
  (zbdx:W.codeIn K zhk "rows_that_count" =true)
  (zbdy:W.keepIn K (.ref zam)=true)
  (zbdz:K.lookup zan=some ⟨zhp,zhm,.func (W.fnOf "leaving" "leaving" (aJ jT) (aH jT) (aC jT) .none zhq zhr zhs zhn zht zhu),zho⟩)
  (zbea:W.codeIn K zht "leaving" =true)
  (zbeb:W.keepIn K (.ref zan)=true)
  (zbec:K.lookup zao=some ⟨zhy,zhv,.func (W.fnOf "coming" "coming" (aJ lC) (aH lC) (aC lC) .none zhz zia zib zhw zic zid),zhx⟩)
  (zbed:W.codeIn K zic "coming" =true)
  (zbee:W.keepIn K (.ref zao)=true)
  (zbef:K.lookup zap=some ⟨zih,zie,.func (W.fnOf "there" "there" (aJ mM) (aH mM) (aC mM) .none zii zij zik zif zil zim),zig⟩)
  (zbeg:W.codeIn K zil "there" =true)
  (zbeh:W.keepIn K (.ref zap)=true)
  (zbei:K.lookup zaq=some ⟨zir,zin,.func (W.fnOf "most_through" "most_through" (aJ dQ) (aH dQ) (aC dQ) .none zis zit ziu zio ziv ziw),ziq⟩)
  (zbej:W.codeIn K ziv "most_through" =true)
  (zbek:W.keepIn K (.ref zaq)=true)
  (zbel:K.lookup zar=some ⟨zja,zix,.func (W.fnOf "door_faults" "door_faults" (aJ eV) (aH eV) (aC eV) .none zjb zjc zjd ziy zje zjf),ziz⟩)
  (zbem:W.codeIn K zje "door_faults" =true)
  (zben:W.keepIn K (.ref zar)=true)
  (zbeo:K.lookup zas=some ⟨zjj,zjg,.func (W.fnOf "leave_faults" "leave_faults" (aJ dM) (aH dM) (aC dM) .none zjk zjl zjm zjh zjn zjo),zji⟩)
  (zbep:W.codeIn K zjn "leave_faults" =true)
  (zbeq:W.keepIn K (.ref zas)=true)
  (zber:K.lookup zat=some ⟨zjs,zjp,.func (W.fnOf "full_faults" "full_faults" (aJ fC) (aH fC) (aC fC) .none zjt zju zjv zjq zjw zjx),zjr⟩)
  (zbes:W.codeIn K zjw "full_faults" =true)
  (zbet:W.keepIn K (.ref zat)=true)
  (zbeu:K.lookup zau=some ⟨zkb,zjy,.func (W.fnOf "faults" "faults" (aJ lD) (aH lD) (aC lD) .none zkc zkd zke zjz zkf zkg),zka⟩)
  (zbev:W.codeIn K zkf "faults" =true)
  (zbew:W.keepIn K (.ref zau)=true)
  (zbex:K.lookup zav=some ⟨zkk,zkh,.func (W.fnOf "need_lawful" "need_lawful" (aJ fB) (aH fB) (aC fB) .none zkl zkm zkn zki zko zkp),zkj⟩)
  (zbey:W.codeIn K zko "need_lawful" =true)
  (zbez:W.keepIn K (.ref zav)=true)
  (zbfa:K.lookup zaw=some ⟨zkt,zkq,.func (W.fnOf "place_of" "place_of" (aJ iK) (aH iK) (aC iK) .none zku zkv zkw zkr zkx zky),zks⟩)
  (zbfb:W.codeIn K zkx "place_of" =true)
  (zbfc:W.keepIn K (.ref zaw)=true)
  (zbfd:K.lookup zax=some ⟨zlc,zkz,.func (W.fnOf "changed_door" "changed_door" (aJ dN) (aH dN) (aC dN) .none zld zle zlf zla zlg zlh),zlb⟩)
  (zbfe:W.codeIn K zlg "changed_door" =true)
  (zbff:W.keepIn K (.ref zax)=true)
  (zbfg:K.lookup zay=some ⟨zll,zli,.func (W.fnOf "doors_after" "doors_after" (aJ eZ) (aH eZ) (aC eZ) .none zlm zln zlo zlj zlp zlq),zlk⟩)
  (zbfh:W.codeIn K zlp "doors_after" =true)
  (zbfi:W.keepIn K (.ref zay)=true)
  (zbfj:K.lookup zaz=some ⟨zlu,zlr,.func (W.fnOf "anew" "anew" (aJ oB) (aH oB) (aC oB) (.ref zma) zlv zlw zlx zls zly zlz),zlt⟩)
  (zbfk:W.codeIn K zly "anew" =true)
  (zbfl:W.keepIn K (.ref zaz)=true)
  (zbfm:K.lookup zma=some ⟨zmb,zmc,.seq #[.none] zmd,zme⟩)
  (zbfn:K.lookup zba=some ⟨zmi,zmf,.func (W.fnOf "_law_cell_at" "_law_cell_at" (aJ dP) (aH dP) (aC dP) .none zmj zmk zml zmg zmm zmn),zmh⟩)
  (zbfo:W.codeIn K zmm "_law_cell_at" =true)
  (zbfp:W.keepIn K (.ref zba)=true)
  (zbfq:K.lookup zbb=some ⟨zmr,zmo,.func (W.fnOf "_law_drawn" "_law_drawn" (aJ fT) (aH fT) (aC fT) .none zms zmt zmu zmp zmv zmw),zmq⟩)
  (zbfr:W.codeIn K zmv "_law_drawn" =true)
  (zbfs:W.keepIn K (.ref zbb)=true)
  (zbft:K.lookup zbc=some ⟨zna,zmx,.func (W.fnOf "_law_name" "_law_name" (aJ gO) (aH gO) (aC gO) .none znb znc znd zmy zne znf),zmz⟩)
  (zbfu:W.codeIn K zne "_law_name" =true)
  (zbfv:W.keepIn K (.ref zbc)=true)
  (zbfw:K.lookup zbd=some ⟨znj,zng,.func (W.fnOf "_law_door" "_law_door" (aJ c6) (aH c6) (aC c6) .none znk znl znm znh znn zno),zni⟩)
  (zbfx:W.codeIn K znn "_law_door" =true)
  (zbfy:W.keepIn K (.ref zbd)=true)
  (zbfz:K.lookup zbe=some ⟨zns,znp,.func (W.fnOf "_law_happening" "_law_happening" (aJ cX) (aH cX) (aC cX) .none znt znu znv znq znw znx),znr⟩)
  (zbga:W.codeIn K znw "_law_happening" =true)
  (zbgb:W.keepIn K (.ref zbe)=true)
  (zbgc:K.lookup zbf=some ⟨zob,zny,.func (W.fnOf "_law_befall" "_law_befall" (aJ eN) (aH eN) (aC eN) .none zoc zod zoe znz zof zog),zoa⟩)
  (zbgd:W.codeIn K zof "_law_befall" =true)
  (zbge:W.keepIn K (.ref zbf)=true)
  (zbgf:K.lookup zbg=some ⟨zok,zoh,.func (W.fnOf "_law_right" "_law_right" (aJ fQ) (aH fQ) (aC fQ) .none zol zom zon zoi zoo zop),zoj⟩)
  (zbgg:W.codeIn K zoo "_law_right" =true)
  (zbgh:W.keepIn K (.ref zbg)=true)
  (zbgi:K.lookup zbh=some ⟨zot,zoq,.func (W.fnOf "_law_happenings" "_law_happenings" (aJ cU) (aH cU) (aC cU) .none zou zov zow zor zox zoy),zos⟩)
  (zbgj:W.codeIn K zox "_law_happenings" =true)
  (zbgk:W.keepIn K (.ref zbh)=true)
  (zbgl:K.lookup zbi=some ⟨zpc,zoz,.func (W.fnOf "law" "law" (aJ nW) (aH nW) (aC nW) .none zpd zpe zpf zpa zpg zph),zpb⟩)
  (zbgm:W.codeIn K zpg "law" =true)
  (zbgn:W.keepIn K (.ref zbi)=true)
  (zbgo:K.lookup zbx=some ⟨zpl,zpi,.func (W.fnOf "__init__" "Door.__init__" (aJ cK) (aH cK) (aC cK) (.ref zpr) zpm zpn zpo zpj zpp zpq),zpk⟩)
  (zbgp:W.codeIn K zpp "Door.__init__" =true)
  (zbgq:W.keepIn K (.ref zbx)=true)
  (zbgr:K.lookup zpr=some ⟨zpt,zpu,.seq #[.none,.int 1 zps] zpv,zpw⟩)
  (zbgs:K.lookup zby=some ⟨zqa,zpx,.func (W.fnOf "lets" "Door.lets" (aJ gT) (aH gT) (aC gT) .none zqb zqc zqd zpy zqe zqf),zpz⟩)
  (zbgt:W.codeIn K zqe "Door.lets" =true)
  (zbgu:W.keepIn K (.ref zby)=true)
  (zbgv:K.lookup zbz=some ⟨zqj,zqg,.func (W.fnOf "is_exit" "Door.is_exit" (aJ dS) (aH dS) (aC dS) .none zqk zql zqm zqh zqn zqo),zqi⟩)
  (zbgw:W.codeIn K zqn "Door.is_exit" =true)
  (zbgx:W.keepIn K (.ref zbz)=true)
  (zbgy:K.lookup zca=some ⟨zqs,zqp,.func (W.fnOf "words" "Door.words" (aJ iA) (aH iA) (aC iA) .none zqt zqu zqv zqq zqw zqx),zqr⟩)
  (zbgz:W.codeIn K zqw "Door.words" =true)
  (zbha:W.keepIn K (.ref zca)=true)
  (zbhb:K.lookup zcb=some ⟨zrb,zqy,.func (W.fnOf "__init__" "Since.__init__" (aJ cW) (aH cW) (aC cW) .none zrc zrd zre zqz zrf zrg),zra⟩)
  (zbhc:W.codeIn K zrf "Since.__init__" =true)
  (zbhd:W.keepIn K (.ref zcb)=true)
  (zbhe:K.lookup zcc=some ⟨zrk,zrh,.func (W.fnOf "lets" "Since.lets" (aJ fR) (aH fR) (aC fR) .none zrl zrm zrn zri zro zrp),zrj⟩)
  (zbhf:W.codeIn K zro "Since.lets" =true)
  (zbhg:W.keepIn K (.ref zcc)=true)
  (zbhh:K.lookup zcd=some ⟨zrt,zrq,.func (W.fnOf "words" "Since.words" (aJ gA) (aH gA) (aC gA) .none zru zrv zrw zrr zrx zry),zrs⟩)
  (zbhi:W.codeIn K zrx "Since.words" =true)
  (zbhj:W.keepIn K (.ref zcd)=true)
  (zbhk:K.lookup zce=some ⟨zsc,zrz,.func (W.fnOf "__init__" "Told.__init__" (aJ c9) (aH c9) (aC c9) .none zsd zse zsf zsa zsg zsh),zsb⟩)
  (zbhl:W.codeIn K zsg "Told.__init__" =true)
  (zbhm:W.keepIn K (.ref zce)=true)
  (zbhn:K.lookup zcf=some ⟨zsl,zsi,.func (W.fnOf "lets" "Told.lets" (aJ gW) (aH gW) (aC gW) .none zsm zsn zso zsj zsp zsq),zsk⟩)
  (zbho:W.codeIn K zsp "Told.lets" =true)
  (zbhp:W.keepIn K (.ref zcf)=true)
  (zbhq:K.lookup zcg=some ⟨zsu,zsr,.func (W.fnOf "words" "Told.words" (aJ hV) (aH hV) (aC hV) .none zsv zsw zsx zss zsy zsz),zst⟩)
  (zbhr:W.codeIn K zsy "Told.words" =true)
  (zbhs:W.keepIn K (.ref zcg)=true)
  (zbht:K.lookup zch=some ⟨ztd,zta,.func (W.fnOf "__init__" "Shut.__init__" (aJ dA) (aH dA) (aC dA) .none zte ztf ztg ztb zth zti),ztc⟩)
  (zbhu:W.codeIn K zth "Shut.__init__" =true)
  (zbhv:W.keepIn K (.ref zch)=true)
  (zbhw:K.lookup zci=some ⟨ztm,ztj,.func (W.fnOf "lets" "Shut.lets" (aJ gR) (aH gR) (aC gR) .none ztn zto ztp ztk ztq ztr),ztl⟩)
  (zbhx:W.codeIn K ztq "Shut.lets" =true)
  (zbhy:W.keepIn K (.ref zci)=true)
  (zbhz:K.lookup zcj=some ⟨ztv,zts,.func (W.fnOf "words" "Shut.words" (aJ hJ) (aH hJ) (aC hJ) .none ztw ztx zty ztt ztz zua),ztu⟩)
  (zbia:W.codeIn K ztz "Shut.words" =true)
  (zbib:W.keepIn K (.ref zcj)=true)
  (zbic:K.lookup zck=some ⟨zue,zub,.func (W.fnOf "__init__" "Wider.__init__" (aJ cY) (aH cY) (aC cY) .none zuf zug zuh zuc zui zuj),zud⟩)
  (zbid:W.codeIn K zui "Wider.__init__" =true)
  (zbie:W.keepIn K (.ref zck)=true)
  (zbif:K.lookup zcl=some ⟨zun,zuk,.func (W.fnOf "lets" "Wider.lets" (aJ fL) (aH fL) (aC fL) .none zuo zup zuq zul zur zus),zum⟩)
  (zbig:W.codeIn K zur "Wider.lets" =true)
  (zbih:W.keepIn K (.ref zcl)=true)
  (zbii:K.lookup zcm=some ⟨zuw,zut,.func (W.fnOf "words" "Wider.words" (aJ f9) (aH f9) (aC f9) .none zux zuy zuz zuu zva zvb),zuv⟩)
  (zbij:W.codeIn K zva "Wider.words" =true)
  (zbik:W.keepIn K (.ref zcm)=true)
  (zbil:K.lookup zcn=some ⟨zvf,zvc,.func (W.fnOf "__init__" "House.__init__" (aJ cN) (aH cN) (aC cN) (.ref zvl) zvg zvh zvi zvd zvj zvk),zve⟩)
  (zbim:W.codeIn K zvj "House.__init__" =true)
  (zbin:W.keepIn K (.ref zcn)=true)
  (zbio:K.lookup zvl=some ⟨zvn,zvo,.seq #[.int 0 zvm] zvp,zvq⟩)
  (zbip:K.lookup zco=some ⟨zvu,zvr,.func (W.fnOf "rooms" "House.rooms" (aJ fA) (aH fA) (aC fA) .none zvv zvw zvx zvs zvy zvz),zvt⟩)
  (zbiq:W.codeIn K zvy "House.rooms" =true)
  (zbir:W.keepIn K (.ref zco)=true)
  (zbis:K.lookup zcp=some ⟨zwd,zwa,.func (W.fnOf "doors" "House.doors" (aJ eU) (aH eU) (aC eU) .none zwe zwf zwg zwb zwh zwi),zwc⟩)
  (zbit:W.codeIn K zwh "House.doors" =true)
  (zbiu:W.keepIn K (.ref zcp)=true)
  (zbiv:K.lookup zcq=some ⟨zwm,zwj,.func (W.fnOf "need_room" "House.need_room" (aJ cS) (aH cS) (aC cS) .none zwn zwo zwp zwk zwq zwr),zwl⟩)
  (zbiw:W.codeIn K zwq "House.need_room" =true)
  (zbix:W.keepIn K (.ref zcq)=true)
  (zbiy:K.lookup zcr=some ⟨zwv,zws,.func (W.fnOf "holds" "House.holds" (aJ eS) (aH eS) (aC eS) .none zww zwx zwy zwt zwz zxa),zwu⟩)
  (zbiz:W.codeIn K zwz "House.holds" =true)
  (zbja:W.keepIn K (.ref zcr)=true)
  (zbjb:K.lookup zcs=some ⟨zxe,zxb,.func (W.fnOf "found" "House.found" (aJ eX) (aH eX) (aC eX) .none zxf zxg zxh zxc zxi zxj),zxd⟩)
  (zbjc:W.codeIn K zxi "House.found" =true)
  (zbjd:W.keepIn K (.ref zcs)=true)
  (zbje:K.lookup zct=some ⟨zxn,zxk,.func (W.fnOf "into" "House.into" (aJ hZ) (aH hZ) (aC hZ) .none zxo zxp zxq zxl zxr zxs),zxm⟩)
  (zbjf:W.codeIn K zxr "House.into" =true)
  (zbjg:W.keepIn K (.ref zct)=true)
  (zbjh:K.lookup zcu=some ⟨zxw,zxt,.func (W.fnOf "from_room" "House.from_room" (aJ dD) (aH dD) (aC dD) .none zxx zxy zxz zxu zya zyb),zxv⟩)
  (zbji:W.codeIn K zya "House.from_room" =true)
  (zbjj:W.keepIn K (.ref zcu)=true)
  (zbjk:K.lookup zcv=some ⟨zyf,zyc,.func (W.fnOf "door" "House.door" (aJ fM) (aH fM) (aC fM) .none zyg zyh zyi zyd zyj zyk),zye⟩)
  (zbjl:W.codeIn K zyj "House.door" =true)
  (zbjm:W.keepIn K (.ref zcv)=true)
  (zbjn:K.lookup zcw=some ⟨zyo,zyl,.func (W.fnOf "lets" "House.lets" (aJ fN) (aH fN) (aC fN) .none zyp zyq zyr zym zys zyt),zyn⟩)
  (zbjo:W.codeIn K zys "House.lets" =true)
  (zbjp:W.keepIn K (.ref zcw)=true)
  (zbjq:K.lookup zcx=some ⟨zyx,zyu,.func (W.fnOf "total" "House.total" (aJ eQ) (aH eQ) (aC eQ) .none zyy zyz zza zyv zzb zzc),zyw⟩)
  (zbjr:W.codeIn K zzb "House.total" =true)
  (zbjs:W.keepIn K (.ref zcx)=true)
  (zbjt:K.lookup zcy=some ⟨zzg,zzd,.func (W.fnOf "pairs" "House.pairs" (aJ eT) (aH eT) (aC eT) .none zzh zzi zzj zze zzk zzl),zzf⟩)
  (zbju:W.codeIn K zzk "House.pairs" =true)
  (zbjv:W.keepIn K (.ref zcy)=true)
  (zbjw:W.plainGet K zbj Str.empty=true)
  (zbjx:W.hasDictIn K zbj=true)
  (zbjy:W.plainOver K zbj=true)
  (zbjz:W.findIn K (.ref zbj) "__setattr__" =some (some (.builtin "object.__setattr__")))
  (zbka:W.makesIn K zbj=true)
  (zbkb:W.keepIn K (.ref zbj)=true)
  (zbkc:W.findIn K (.ref zbj) "__class__" =some (some (.builtin "object.__class__")))
  (zbkd:W.mroIn K zbj (.type "object")=some true)
  (zbke:W.findIn K (.ref zbj) "name" =some none)
  (zbkf:W.findIn K (.ref zbj) "start" =some none)
  (zbkg:W.findIn K (.ref zbj) "end" =some none)
  (zbkh:W.findIn K (.ref zbj) "wide" =some none)
  (zbki:W.findIn K (.ref zbj) "since" =some none)
  (zbkj:W.findIn K (.ref zbj) "letting" =some none)
  (zbkk:W.findIn K (.ref zbj) "inner" =some none)
  (zbkl:W.findIn K (.ref zbj) "turn" =some none)
  (zbkm:W.findIn K (.ref zbj) "more" =some none)
  (zbkn:W.findIn K (.ref zbj) "first" =some none)
  (zbko:W.findIn K (.ref zbj) "last" =some none)
  (zbkp:W.findIn K (.ref zbj) "sizes" =some none)
  (zbkq:W.findIn K (.ref zbj) "people" =some none)
  (zbkr:W.findIn K (.ref zbj) "named_doors" =some none)
  (zbks:W.findIn K (.ref zbj) "__init__" =some (some (.ref zbx)))
  (zbkt:W.isFn K (.ref zbx)=true)
  (zbku:W.findIn K (.ref zbj) "lets" =some (some (.ref zby)))
  (zbkv:W.isFn K (.ref zby)=true)
  (zbkw:W.findIn K (.ref zbj) "is_exit" =some (some (.ref zbz)))
  (zbkx:W.isFn K (.ref zbz)=true)
  (zbky:W.findIn K (.ref zbj) "words" =some (some (.ref zca)))
  (zbkz:W.isFn K (.ref zca)=true)
  (zbla:W.plainGet K zbk Str.empty=true)
  (zblb:W.hasDictIn K zbk=true)
  (zblc:W.plainOver K zbk=true)
  (zbld:W.findIn K (.ref zbk) "__setattr__" =some (some (.builtin "object.__setattr__")))
  (zble:W.makesIn K zbk=true)
  (zblf:W.keepIn K (.ref zbk)=true)
  (zblg:W.findIn K (.ref zbk) "__class__" =some (some (.builtin "object.__class__")))
  (zblh:W.mroIn K zbk (.type "object")=some true)
  (zbli:W.findIn K (.ref zbk) "name" =some none)
  (zblj:W.findIn K (.ref zbk) "start" =some none)
  (zblk:W.findIn K (.ref zbk) "end" =some none)
  (zbll:W.findIn K (.ref zbk) "wide" =some none)
  (zblm:W.findIn K (.ref zbk) "since" =some none)
  (zbln:W.findIn K (.ref zbk) "letting" =some none)
  (zblo:W.findIn K (.ref zbk) "inner" =some none)
  (zblp:W.findIn K (.ref zbk) "turn" =some none)
  (zblq:W.findIn K (.ref zbk) "more" =some none)
  (zblr:W.findIn K (.ref zbk) "first" =some none)
  (zbls:W.findIn K (.ref zbk) "last" =some none)
  (zblt:W.findIn K (.ref zbk) "sizes" =some none)
  (zblu:W.findIn K (.ref zbk) "people" =some none)
  (zblv:W.findIn K (.ref zbk) "named_doors" =some none)
  (zblw:W.findIn K (.ref zbk) "__init__" =some (some (.ref zcb)))
  (zblx:W.isFn K (.ref zcb)=true)
  (zbly:W.findIn K (.ref zbk) "lets" =some (some (.ref zcc)))
  (zblz:W.isFn K (.ref zcc)=true)
  (zbma:W.findIn K (.ref zbk) "words" =some (some (.ref zcd)))
  (zbmb:W.isFn K (.ref zcd)=true)
  (zbmc:W.findIn K (.ref zbk) "is_exit" =some (some (.ref zbz)))
  (zbmd:W.isFn K (.ref zbz)=true)
  (zbme:W.plainGet K zbl Str.empty=true)
  (zbmf:W.hasDictIn K zbl=true)
  (zbmg:W.plainOver K zbl=true)
  (zbmh:W.findIn K (.ref zbl) "__setattr__" =some (some (.builtin "object.__setattr__")))
  (zbmi:W.makesIn K zbl=true)
  (zbmj:W.keepIn K (.ref zbl)=true)
  (zbmk:W.findIn K (.ref zbl) "__class__" =some (some (.builtin "object.__class__")))
  (zbml:W.mroIn K zbl (.type "object")=some true)
  (zbmm:W.findIn K (.ref zbl) "name" =some none)
  (zbmn:W.findIn K (.ref zbl) "start" =some none)
  (zbmo:W.findIn K (.ref zbl) "end" =some none)
  (zbmp:W.findIn K (.ref zbl) "wide" =some none)
  (zbmq:W.findIn K (.ref zbl) "since" =some none)
  (zbmr:W.findIn K (.ref zbl) "letting" =some none)
  (zbms:W.findIn K (.ref zbl) "inner" =some none)
  (zbmt:W.findIn K (.ref zbl) "turn" =some none)
  (zbmu:W.findIn K (.ref zbl) "more" =some none)
  (zbmv:W.findIn K (.ref zbl) "first" =some none)
  (zbmw:W.findIn K (.ref zbl) "last" =some none)
  (zbmx:W.findIn K (.ref zbl) "sizes" =some none)
  (zbmy:W.findIn K (.ref zbl) "people" =some none)
  (zbmz:W.findIn K (.ref zbl) "named_doors" =some none)
  (zbna:W.findIn K (.ref zbl) "__init__" =some (some (.ref zce)))
  (zbnb:W.isFn K (.ref zce)=true)
  (zbnc:W.findIn K (.ref zbl) "lets" =some (some (.ref zcf)))
  (zbnd:W.isFn K (.ref zcf)=true)
  (zbne:W.findIn K (.ref zbl) "words" =some (some (.ref zcg)))
  (zbnf:W.isFn K (.ref zcg)=true)
  (zbng:W.findIn K (.ref zbl) "is_exit" =some (some (.ref zbz)))
  (zbnh:W.isFn K (.ref zbz)=true)
  (zbni:W.plainGet K zbm Str.empty=true)
  (zbnj:W.hasDictIn K zbm=true)
  (zbnk:W.plainOver K zbm=true)
  (zbnl:W.findIn K (.ref zbm) "__setattr__" =some (some (.builtin "object.__setattr__")))
  (zbnm:W.makesIn K zbm=true)
  (zbnn:W.keepIn K (.ref zbm)=true)
  (zbno:W.findIn K (.ref zbm) "__class__" =some (some (.builtin "object.__class__")))
  (zbnp:W.mroIn K zbm (.type "object")=some true)
  (zbnq:W.findIn K (.ref zbm) "name" =some none)
  (zbnr:W.findIn K (.ref zbm) "start" =some none)
  (zbns:W.findIn K (.ref zbm) "end" =some none)
  (zbnt:W.findIn K (.ref zbm) "wide" =some none)
  (zbnu:W.findIn K (.ref zbm) "since" =some none)
  (zbnv:W.findIn K (.ref zbm) "letting" =some none)
  (zbnw:W.findIn K (.ref zbm) "inner" =some none)
  (zbnx:W.findIn K (.ref zbm) "turn" =some none)
  (zbny:W.findIn K (.ref zbm) "more" =some none)
  (zbnz:W.findIn K (.ref zbm) "first" =some none)
  (zboa:W.findIn K (.ref zbm) "last" =some none)
  (zbob:W.findIn K (.ref zbm) "sizes" =some none)
  (zboc:W.findIn K (.ref zbm) "people" =some none)
  (zbod:W.findIn K (.ref zbm) "named_doors" =some none)
  (zboe:W.findIn K (.ref zbm) "__init__" =some (some (.ref zch)))
  (zbof:W.isFn K (.ref zch)=true)
  (zbog:W.findIn K (.ref zbm) "lets" =some (some (.ref zci)))
  (zboh:W.isFn K (.ref zci)=true)
  (zboi:W.findIn K (.ref zbm) "words" =some (some (.ref zcj)))
  (zboj:W.isFn K (.ref zcj)=true)
  (zbok:W.findIn K (.ref zbm) "is_exit" =some (some (.ref zbz)))
  (zbol:W.isFn K (.ref zbz)=true)
  (zbom:W.plainGet K zbn Str.empty=true)
  (zbon:W.hasDictIn K zbn=true)
  (zboo:W.plainOver K zbn=true)
  (zbop:W.findIn K (.ref zbn) "__setattr__" =some (some (.builtin "object.__setattr__")))
  (zboq:W.makesIn K zbn=true)
  (zbor:W.keepIn K (.ref zbn)=true)
  (zbos:W.findIn K (.ref zbn) "__class__" =some (some (.builtin "object.__class__")))
  (zbot:W.mroIn K zbn (.type "object")=some true)
  (zbou:W.findIn K (.ref zbn) "name" =some none)
  (zbov:W.findIn K (.ref zbn) "start" =some none)
  (zbow:W.findIn K (.ref zbn) "end" =some none)
  (zbox:W.findIn K (.ref zbn) "wide" =some none)
  (zboy:W.findIn K (.ref zbn) "since" =some none)
  (zboz:W.findIn K (.ref zbn) "letting" =some none)
  (zbpa:W.findIn K (.ref zbn) "inner" =some none)
  (zbpb:W.findIn K (.ref zbn) "turn" =some none)
  (zbpc:W.findIn K (.ref zbn) "more" =some none)
  (zbpd:W.findIn K (.ref zbn) "first" =some none)
  (zbpe:W.findIn K (.ref zbn) "last" =some none)
  (zbpf:W.findIn K (.ref zbn) "sizes" =some none)
  (zbpg:W.findIn K (.ref zbn) "people" =some none)
  (zbph:W.findIn K (.ref zbn) "named_doors" =some none)
  (zbpi:W.findIn K (.ref zbn) "__init__" =some (some (.ref zck)))
  (zbpj:W.isFn K (.ref zck)=true)
  (zbpk:W.findIn K (.ref zbn) "lets" =some (some (.ref zcl)))
  (zbpl:W.isFn K (.ref zcl)=true)
  (zbpm:W.findIn K (.ref zbn) "words" =some (some (.ref zcm)))
  (zbpn:W.isFn K (.ref zcm)=true)
  (zbpo:W.findIn K (.ref zbn) "is_exit" =some (some (.ref zbz)))
  (zbpp:W.isFn K (.ref zbz)=true)
  (zbpq:W.plainGet K zbo Str.empty=true)
  (zbpr:W.hasDictIn K zbo=true)
  (zbps:W.plainOver K zbo=true)
  (zbpt:W.findIn K (.ref zbo) "__setattr__" =some (some (.builtin "object.__setattr__")))
  (zbpu:W.makesIn K zbo=true)
  (zbpv:W.keepIn K (.ref zbo)=true)
  (zbpw:W.findIn K (.ref zbo) "__class__" =some (some (.builtin "object.__class__")))
  (zbpx:W.mroIn K zbo (.type "object")=some true)
  (zbpy:W.findIn K (.ref zbo) "name" =some none)
  (zbpz:W.findIn K (.ref zbo) "start" =some none)
  (zbqa:W.findIn K (.ref zbo) "end" =some none)
  (zbqb:W.findIn K (.ref zbo) "wide" =some none)
  (zbqc:W.findIn K (.ref zbo) "since" =some none)
  (zbqd:W.findIn K (.ref zbo) "letting" =some none)
  (zbqe:W.findIn K (.ref zbo) "inner" =some none)
  (zbqf:W.findIn K (.ref zbo) "turn" =some none)
  (zbqg:W.findIn K (.ref zbo) "more" =some none)
  (zbqh:W.findIn K (.ref zbo) "first" =some none)
  (zbqi:W.findIn K (.ref zbo) "last" =some none)
  (zbqj:W.findIn K (.ref zbo) "sizes" =some none)
  (zbqk:W.findIn K (.ref zbo) "people" =some none)
  (zbql:W.findIn K (.ref zbo) "named_doors" =some none)
  (zbqm:W.findIn K (.ref zbo) "__init__" =some (some (.ref zcn)))
  (zbqn:W.isFn K (.ref zcn)=true)
  (zbqo:W.findIn K (.ref zbo) "rooms" =some (some (.ref zco)))
  (zbqp:W.isFn K (.ref zco)=true)
  (zbqq:W.findIn K (.ref zbo) "doors" =some (some (.ref zcp)))
  (zbqr:W.isFn K (.ref zcp)=true)
  (zbqs:W.findIn K (.ref zbo) "need_room" =some (some (.ref zcq)))
  (zbqt:W.isFn K (.ref zcq)=true)
  (zbqu:W.findIn K (.ref zbo) "holds" =some (some (.ref zcr)))
  (zbqv:W.isFn K (.ref zcr)=true)
  (zbqw:W.findIn K (.ref zbo) "found" =some (some (.ref zcs)))
  (zbqx:W.isFn K (.ref zcs)=true)
  (zbqy:W.findIn K (.ref zbo) "into" =some (some (.ref zct)))
  (zbqz:W.isFn K (.ref zct)=true)
  (zbra:W.findIn K (.ref zbo) "from_room" =some (some (.ref zcu)))
  (zbrb:W.isFn K (.ref zcu)=true)
  (zbrc:W.findIn K (.ref zbo) "door" =some (some (.ref zcv)))
  (zbrd:W.isFn K (.ref zcv)=true)
  (zbre:W.findIn K (.ref zbo) "lets" =some (some (.ref zcw)))
  (zbrf:W.isFn K (.ref zcw)=true)
  (zbrg:W.findIn K (.ref zbo) "total" =some (some (.ref zcx)))
  (zbrh:W.isFn K (.ref zcx)=true)
  (zbri:W.findIn K (.ref zbo) "pairs" =some (some (.ref zcy)))
  (zbrj:W.isFn K (.ref zcy)=true)
  (zbrk:W.specialIn K (.builtin "object.__class__") "__get__" =some (some (.builtin "getset_descriptor.__get__")))
  (zbrl:W.takesIn K (.builtin "object.__class__")=some true)
  (zbrm:W.specialIn K (.ref zbj) "__getattribute__" =some (some (.builtin "type.__getattribute__")))
  (zbrn:W.readsIn K zbj (.type "type")=true)
  (zbro:W.findCls K (.ref zbj) (.type "type") "__init__" =some (.val (.ref zbx)))
  (zbrp:W.nsIn K mainGlobals "ValueError" =some none)
  (zbrq:W.nsIn K mainGlobals "any" =some none)
  (zbrr:W.nsIn K mainGlobals "sorted" =some none)
  (zbrs:W.nsIn K mainGlobals "max" =some none)
  (zbrt:W.nsIn K mainGlobals "range" =some none)
  (zbru:W.nsIn K mainGlobals "dict" =some none)
  (zbrv:W.nsIn K mainGlobals "list" =some none)
  (zbrw:W.nsIn K mainGlobals "isinstance" =some none)
  (zbrx:W.nsIn K mainGlobals "int" =some none)
  (zbry:W.nsIn K mainGlobals "str" =some none)
  (zbrz:W.nsIn K mainGlobals "all" =some none)
  (zbsa:W.nsIn K mainGlobals "sum" =some none)
  (zbsb:W.nsIn K mainGlobals "len" =some none)
  (zbsc:W.nsIn K mainGlobals "bool" =some none)
  (zbsd:W.nsIn K mainGlobals "min" =some none)
  (zbse:W.nsIn K mainGlobals "LONGEST_NAME" =some (some (.int 8 zzm))) :
  ∃(fd:FuncData) (f2:Addr) (fd2:FuncData),mg "_law_door" =some (.ref f2)/\(∃oc od osl,K.lookup f2=some ⟨oc,od,.func fd2,osl⟩)/\(∀(s:Shared) (v:Value),BindsTo s fd ⟨[v],[]⟩ [("_law_script",v)])/\∀(zbsf:Heap) (cL PL:Addr),fd2.code= .ref cL->W.CodeHd zbsf cL PL->zbsf.BuiltinsAt mg PL->FnOk l.prog w K mg zbsf CX0 32 fa fd ["_law_script"] (vY K PL):=by
 have e:=hfa.symm.trans (W.mg_of X G zbav);cases e;have zbsg:=aP (st:=p8) zbcm zbcn zbco;have zbsh:=aR (K:=K) (x:= "_wall") (qual:= "_wall") (st:=p8) (kV:=zdd) (doc:=zde) (pm:=zdf) (an:=zda) (cdv:=zdg) (ct:=zdh) (ps:=["k"])<|aM 1 _ fun _=>rfl
 have zbsi:=aP (st:=iL) zbcp zbcq zbcr;have zbsj:=aR (K:=K) (x:= "is_whole") (qual:= "is_whole") (st:=iL) (kV:=zdm) (doc:=zdn) (pm:=zdo) (an:=zdj) (cdv:=zdp) (ct:=zdq) (ps:=["thing"])<|aM 1 _ fun _=>rfl
 have zbsk:=aP (st:=jM) zbcs zbct zbcu;have zbsl:=aR (K:=K) (x:= "is_name") (qual:= "is_name") (st:=jM) (kV:=zdv) (doc:=zdw) (pm:=zdx) (an:=zds) (cdv:=zdy) (ct:=zdz) (ps:=["thing"])<|aM 1 _ fun _=>rfl
 have zbsm:=aP (st:=gU) zbcv zbcw zbcx;have zbsn:=aR (K:=K) (x:= "need_name") (qual:= "need_name") (st:=gU) (kV:=zee) (doc:=zef) (pm:=zeg) (an:=zeb) (cdv:=zeh) (ct:=zei) (ps:=["part","thing"])<|aM 2 _ fun _ _=>rfl
 have zbso:=aP (st:=fO) zbcy zbcz zbda;have zbsp:=aR (K:=K) (x:= "need_whole") (qual:= "need_whole") (st:=fO) (kV:=zen) (doc:=zeo) (pm:=zep) (an:=zek) (cdv:=zeq) (ct:=zer) (ps:=["part","thing","least"])<|aM 3 _ fun _ _ _=>rfl
 have zbsq:=aP (st:=fP) zbdb zbdc zbdd;have zbsr:=aR (K:=K) (x:= "need_turns") (qual:= "need_turns") (st:=fP) (kV:=zew) (doc:=zex) (pm:=zey) (an:=zet) (cdv:=zez) (ct:=zfa) (ps:=["first","last"])<|aM 2 _ fun _ _=>rfl
 have zbss:=aP (st:=cZ) zbde zbdf zbdg;have zbst:=aR (K:=K) (x:= "need_each_once") (qual:= "need_each_once") (st:=cZ) (kV:=zff) (doc:=zfg) (pm:=zfh) (an:=zfc) (cdv:=zfi) (ct:=zfj) (ps:=["names"])<|aM 1 _ fun _=>rfl
 have zbsu:=aP (st:=cT) zbdh zbdi zbdj;have zbsv:=aR (K:=K) (x:= "rooms_spoken_of") (qual:= "rooms_spoken_of") (st:=cT) (kV:=zfo) (doc:=zfp) (pm:=zfq) (an:=zfl) (cdv:=zfr) (ct:=zfs) (ps:=["doors","people"])<|aM 2 _ fun _ _=>rfl
 have zbsw:=aP (st:=fS) zbdk zbdl zbdm;have zbsx:=aR (K:=K) (x:= "need_rooms") (qual:= "need_rooms") (st:=fS) (kV:=zfx) (doc:=zfy) (pm:=zfz) (an:=zfu) (cdv:=zga) (ct:=zgb) (ps:=["names","sizes"])<|aM 2 _ fun _ _=>rfl
 have zbsy:=aP (st:=dU) zbdn zbdo zbdp;have zbsz:=aR (K:=K) (x:= "added_people") (qual:= "added_people") (st:=dU) (kV:=zgg) (doc:=zgh) (pm:=zgi) (an:=zgd) (cdv:=zgj) (ct:=zgk) (ps:=["sizes","people"])<|aM 2 _ fun _ _=>rfl
 have zbta:=aP (st:=fK) zbdq zbdr zbds;have zbtb:=aR (K:=K) (x:= "need_space") (qual:= "need_space") (st:=fK) (kV:=zgp) (doc:=zgq) (pm:=zgr) (an:=zgm) (cdv:=zgs) (ct:=zgt) (ps:=["sizes","people"])<|aM 2 _ fun _ _=>rfl
 have zbtc:=aP (st:=iM) zbdt zbdu zbdv;have zbtd:=aR (K:=K) (x:= "added_up") (qual:= "added_up") (st:=iM) (kV:=zgy) (doc:=zgz) (pm:=zha) (an:=zgv) (cdv:=zhb) (ct:=zhc) (ps:=["plan"])<|aM 1 _ fun _=>rfl
 have zbte:=aP (st:=cQ) zbdw zbdx zbdy;have zbtf:=aR (K:=K) (x:= "rows_that_count") (qual:= "rows_that_count") (st:=cQ) (kV:=zhh) (doc:=zhi) (pm:=zhj) (an:=zhe) (cdv:=zhk) (ct:=zhl) (ps:=["house","plan"])<|aM 2 _ fun _ _=>rfl
 have zbtg:=aP (st:=jT) zbdz zbea zbeb;have zbth:=aR (K:=K) (x:= "leaving") (qual:= "leaving") (st:=jT) (kV:=zhq) (doc:=zhr) (pm:=zhs) (an:=zhn) (cdv:=zht) (ct:=zhu) (ps:=["house","plan"])<|aM 2 _ fun _ _=>rfl
 have zbti:=aP (st:=lC) zbec zbed zbee;have zbtj:=aR (K:=K) (x:= "coming") (qual:= "coming") (st:=lC) (kV:=zhz) (doc:=zia) (pm:=zib) (an:=zhw) (cdv:=zic) (ct:=zid) (ps:=["house","plan"])<|aM 2 _ fun _ _=>rfl
 have zbtk:=aP (st:=mM) zbef zbeg zbeh;have zbtl:=aR (K:=K) (x:= "there") (qual:= "there") (st:=mM) (kV:=zii) (doc:=zij) (pm:=zik) (an:=zif) (cdv:=zil) (ct:=zim) (ps:=["house","plan"])<|aM 2 _ fun _ _=>rfl
 have zbtm:=aP (st:=dQ) zbei zbej zbek;have zbtn:=aR (K:=K) (x:= "most_through") (qual:= "most_through") (st:=dQ) (kV:=zis) (doc:=zit) (pm:=ziu) (an:=zio) (cdv:=ziv) (ct:=ziw) (ps:=["house","turn","name"])<|aM 3 _ fun _ _ _=>rfl
 have zbto:=aP (st:=eV) zbel zbem zben;have zbtp:=aR (K:=K) (x:= "door_faults") (qual:= "door_faults") (st:=eV) (kV:=zjb) (doc:=zjc) (pm:=zjd) (an:=ziy) (cdv:=zje) (ct:=zjf) (ps:=["house","plan"])<|aM 2 _ fun _ _=>rfl
 have zbtq:=aP (st:=dM) zbeo zbep zbeq;have zbtr:=aR (K:=K) (x:= "leave_faults") (qual:= "leave_faults") (st:=dM) (kV:=zjk) (doc:=zjl) (pm:=zjm) (an:=zjh) (cdv:=zjn) (ct:=zjo) (ps:=["house","plan","inside"])<|aM 3 _ fun _ _ _=>rfl
 have zbts:=aP (st:=fC) zber zbes zbet;have zbtt:=aR (K:=K) (x:= "full_faults") (qual:= "full_faults") (st:=fC) (kV:=zjt) (doc:=zju) (pm:=zjv) (an:=zjq) (cdv:=zjw) (ct:=zjx) (ps:=["house","inside"])<|aM 2 _ fun _ _=>rfl
 have zbtu:=aP (st:=lD) zbeu zbev zbew;have zbtv:=aR (K:=K) (x:= "faults") (qual:= "faults") (st:=lD) (kV:=zkc) (doc:=zkd) (pm:=zke) (an:=zjz) (cdv:=zkf) (ct:=zkg) (ps:=["house","plan"])<|aM 2 _ fun _ _=>rfl
 have zbtw:=aP (st:=fB) zbex zbey zbez;have zbtx:=aR (K:=K) (x:= "need_lawful") (qual:= "need_lawful") (st:=fB) (kV:=zkl) (doc:=zkm) (pm:=zkn) (an:=zki) (cdv:=zko) (ct:=zkp) (ps:=["house","plan"])<|aM 2 _ fun _ _=>rfl
 have zbty:=aP (st:=iK) zbfa zbfb zbfc;have zbtz:=aR (K:=K) (x:= "place_of") (qual:= "place_of") (st:=iK) (kV:=zku) (doc:=zkv) (pm:=zkw) (an:=zkr) (cdv:=zkx) (ct:=zky) (ps:=["doors","name"])<|aM 2 _ fun _ _=>rfl
 have zbua:=aP (st:=dN) zbfd zbfe zbff;have zbub:=aR (K:=K) (x:= "changed_door") (qual:= "changed_door") (st:=dN) (kV:=zld) (doc:=zle) (pm:=zlf) (an:=zla) (cdv:=zlg) (ct:=zlh) (ps:=["door","happening"])<|aM 2 _ fun _ _=>rfl
 have zbuc:=aP (st:=eZ) zbfg zbfh zbfi;have zbud:=aR (K:=K) (x:= "doors_after") (qual:= "doors_after") (st:=eZ) (kV:=zlm) (doc:=zln) (pm:=zlo) (an:=zlj) (cdv:=zlp) (ct:=zlq) (ps:=["doors","happening"])<|aM 2 _ fun _ _=>rfl
 have zbue:=aP (st:=oB) zbfj zbfk zbfl;have zbuf:=mW 4 (K:=K) (x:= "anew") (qual:= "anew") (st:=oB) (kV:=zlv) (doc:=zlw) (pm:=zlx) (an:=zls) (cdv:=zly) (ct:=zlz) (ps:=["house","plan","turn","happenings"]) (ds:=[]) zbfm<|aM 4 _ fun _ _ _ _=>⟨_,rfl,rfl⟩
 have zbug:=mW 3 (K:=K) (x:= "anew") (qual:= "anew") (st:=oB) (kV:=zlv) (doc:=zlw) (pm:=zlx) (an:=zls) (cdv:=zly) (ct:=zlz) (ps:=["house","plan","turn","happenings"]) (ds:=[.none]) zbfm<|aM 3 _ fun _ _ _=>⟨_,rfl,rfl⟩
 have zbuh:=aP (st:=dP) zbfn zbfo zbfp;have zbui:=aR (K:=K) (x:= "_law_cell_at") (qual:= "_law_cell_at") (st:=dP) (kV:=zmj) (doc:=zmk) (pm:=zml) (an:=zmg) (cdv:=zmm) (ct:=zmn) (ps:=["_law_script","_law_k"])<|aM 2 _ fun _ _=>rfl
 have zbuj:=aP (st:=fT) zbfq zbfr zbfs;have zbuk:=aR (K:=K) (x:= "_law_drawn") (qual:= "_law_drawn") (st:=fT) (kV:=zms) (doc:=zmt) (pm:=zmu) (an:=zmp) (cdv:=zmv) (ct:=zmw) (ps:=["_law_cell","_law_k"])<|aM 2 _ fun _ _=>rfl
 have zbul:=aP (st:=gO) zbft zbfu zbfv;have zbum:=aR (K:=K) (x:= "_law_name") (qual:= "_law_name") (st:=gO) (kV:=znb) (doc:=znc) (pm:=znd) (an:=zmy) (cdv:=zne) (ct:=znf) (ps:=["_law_cell","_law_k"])<|aM 2 _ fun _ _=>rfl
 have zbun:=aP (st:=c6) zbfw zbfx zbfy;have zbuo:=aR (K:=K) (x:= "_law_door") (qual:= "_law_door") (st:=c6) (kV:=znk) (doc:=znl) (pm:=znm) (an:=znh) (cdv:=znn) (ct:=zno) (ps:=["_law_number","_law_name_here","_law_rooms"])<|aM 3 _ fun _ _ _=>rfl
 have zbup:=aP (st:=cX) zbfz zbga zbgb;have zbuq:=aR (K:=K) (x:= "_law_happening") (qual:= "_law_happening") (st:=cX) (kV:=znt) (doc:=znu) (pm:=znv) (an:=znq) (cdv:=znw) (ct:=znx) (ps:=["_law_cell","_law_doors","_law_rooms","_law_space","_law_house","_law_k"])<|aM 6 _ fun _ _ _ _ _ _=>rfl
 have zbur:=aP (st:=eN) zbgc zbgd zbge;have zbus:=aR (K:=K) (x:= "_law_befall") (qual:= "_law_befall") (st:=eN) (kV:=zoc) (doc:=zod) (pm:=zoe) (an:=znz) (cdv:=zof) (ct:=zog) (ps:=["_law_happening_here","_law_doors","_law_space","_law_more"])<|aM 4 _ fun _ _ _ _=>rfl
 have zbut:=aP (st:=fQ) zbgf zbgg zbgh;have zbuu:=aR (K:=K) (x:= "_law_right") (qual:= "_law_right") (st:=fQ) (kV:=zol) (doc:=zom) (pm:=zon) (an:=zoi) (cdv:=zoo) (ct:=zop) (ps:=["_law_later","_law_house","_law_turn","_law_rooms","_law_people","_law_doors","_law_more"])<|aM 7 _ fun _ _ _ _ _ _ _=>rfl
 have zbuv:=aP (st:=cU) zbgi zbgj zbgk;have zbuw:=aR (K:=K) (x:= "_law_happenings") (qual:= "_law_happenings") (st:=cU) (kV:=zou) (doc:=zov) (pm:=zow) (an:=zor) (cdv:=zox) (ct:=zoy) (ps:=["_law_cells","_law_doors","_law_rooms","_law_space","_law_more","_law_house"])<|aM 6 _ fun _ _ _ _ _ _=>rfl
 have zbux:=aP (st:=nW) zbgl zbgm zbgn;have zbuy:=aR (K:=K) (x:= "law") (qual:= "law") (st:=nW) (kV:=zpd) (doc:=zpe) (pm:=zpf) (an:=zpa) (cdv:=zpg) (ct:=zph) (ps:=["_law_script"])<|aM 1 _ fun _=>rfl
 have zbuz:=aP (st:=cK) zbgo zbgp zbgq;have zbva:=mW 5 (K:=K) (x:= "__init__") (qual:= "Door.__init__") (st:=cK) (kV:=zpm) (doc:=zpn) (pm:=zpo) (an:=zpj) (cdv:=zpp) (ct:=zpq) (ps:=["self","name","start","end","wide"]) (ds:=[]) zbgr<|aM 5 _ fun _ _ _ _ _=>⟨_,rfl,rfl⟩
 have zbvb:=mW 4 (K:=K) (x:= "__init__") (qual:= "Door.__init__") (st:=cK) (kV:=zpm) (doc:=zpn) (pm:=zpo) (an:=zpj) (cdv:=zpp) (ct:=zpq) (ps:=["self","name","start","end","wide"]) (ds:=[.int 1 zps]) zbgr<|aM 4 _ fun _ _ _ _=>⟨_,rfl,rfl⟩
 have zbvc:=mW 3 (K:=K) (x:= "__init__") (qual:= "Door.__init__") (st:=cK) (kV:=zpm) (doc:=zpn) (pm:=zpo) (an:=zpj) (cdv:=zpp) (ct:=zpq) (ps:=["self","name","start","end","wide"]) (ds:=[.none,.int 1 zps]) zbgr<|aM 3 _ fun _ _ _=>⟨_,rfl,rfl⟩
 have zbvd:=aP (st:=gT) zbgs zbgt zbgu;have zbve:=aR (K:=K) (x:= "lets") (qual:= "Door.lets") (st:=gT) (kV:=zqb) (doc:=zqc) (pm:=zqd) (an:=zpy) (cdv:=zqe) (ct:=zqf) (ps:=["self","turn"])<|aM 2 _ fun _ _=>rfl
 have zbvf:=aP (st:=dS) zbgv zbgw zbgx;have zbvg:=aR (K:=K) (x:= "is_exit") (qual:= "Door.is_exit") (st:=dS) (kV:=zqk) (doc:=zql) (pm:=zqm) (an:=zqh) (cdv:=zqn) (ct:=zqo) (ps:=["self"])<|aM 1 _ fun _=>rfl
 have zbvh:=aP (st:=iA) zbgy zbgz zbha;have zbvi:=aR (K:=K) (x:= "words") (qual:= "Door.words") (st:=iA) (kV:=zqt) (doc:=zqu) (pm:=zqv) (an:=zqq) (cdv:=zqw) (ct:=zqx) (ps:=["self"])<|aM 1 _ fun _=>rfl
 have zbvj:=aP (st:=cW) zbhb zbhc zbhd;have zbvk:=aR (K:=K) (x:= "__init__") (qual:= "Since.__init__") (st:=cW) (kV:=zrc) (doc:=zrd) (pm:=zre) (an:=zqz) (cdv:=zrf) (ct:=zrg) (ps:=["self","name","start","end","wide","since"])<|aM 6 _ fun _ _ _ _ _ _=>rfl
 have zbvl:=aP (st:=fR) zbhe zbhf zbhg;have zbvm:=aR (K:=K) (x:= "lets") (qual:= "Since.lets") (st:=fR) (kV:=zrl) (doc:=zrm) (pm:=zrn) (an:=zri) (cdv:=zro) (ct:=zrp) (ps:=["self","turn"])<|aM 2 _ fun _ _=>rfl
 have zbvn:=aP (st:=gA) zbhh zbhi zbhj;have zbvo:=aR (K:=K) (x:= "words") (qual:= "Since.words") (st:=gA) (kV:=zru) (doc:=zrv) (pm:=zrw) (an:=zrr) (cdv:=zrx) (ct:=zry) (ps:=["self"])<|aM 1 _ fun _=>rfl
 have zbvp:=aP (st:=c9) zbhk zbhl zbhm;have zbvq:=aR (K:=K) (x:= "__init__") (qual:= "Told.__init__") (st:=c9) (kV:=zsd) (doc:=zse) (pm:=zsf) (an:=zsa) (cdv:=zsg) (ct:=zsh) (ps:=["self","name","start","end","letting"])<|aM 5 _ fun _ _ _ _ _=>rfl
 have zbvr:=aP (st:=gW) zbhn zbho zbhp;have zbvs:=aR (K:=K) (x:= "lets") (qual:= "Told.lets") (st:=gW) (kV:=zsm) (doc:=zsn) (pm:=zso) (an:=zsj) (cdv:=zsp) (ct:=zsq) (ps:=["self","turn"])<|aM 2 _ fun _ _=>rfl
 have zbvt:=aP (st:=hV) zbhq zbhr zbhs;have zbvu:=aR (K:=K) (x:= "words") (qual:= "Told.words") (st:=hV) (kV:=zsv) (doc:=zsw) (pm:=zsx) (an:=zss) (cdv:=zsy) (ct:=zsz) (ps:=["self"])<|aM 1 _ fun _=>rfl
 have zbvv:=aP (st:=dA) zbht zbhu zbhv;have zbvw:=aR (K:=K) (x:= "__init__") (qual:= "Shut.__init__") (st:=dA) (kV:=zte) (doc:=ztf) (pm:=ztg) (an:=ztb) (cdv:=zth) (ct:=zti) (ps:=["self","door","turn"])<|aM 3 _ fun _ _ _=>rfl
 have zbvx:=aP (st:=gR) zbhw zbhx zbhy;have zbvy:=aR (K:=K) (x:= "lets") (qual:= "Shut.lets") (st:=gR) (kV:=ztn) (doc:=zto) (pm:=ztp) (an:=ztk) (cdv:=ztq) (ct:=ztr) (ps:=["self","turn"])<|aM 2 _ fun _ _=>rfl
 have zbvz:=aP (st:=hJ) zbhz zbia zbib;have zbwa:=aR (K:=K) (x:= "words") (qual:= "Shut.words") (st:=hJ) (kV:=ztw) (doc:=ztx) (pm:=zty) (an:=ztt) (cdv:=ztz) (ct:=zua) (ps:=["self"])<|aM 1 _ fun _=>rfl
 have zbwb:=aP (st:=cY) zbic zbid zbie;have zbwc:=aR (K:=K) (x:= "__init__") (qual:= "Wider.__init__") (st:=cY) (kV:=zuf) (doc:=zug) (pm:=zuh) (an:=zuc) (cdv:=zui) (ct:=zuj) (ps:=["self","door","turn","more"])<|aM 4 _ fun _ _ _ _=>rfl
 have zbwd:=aP (st:=fL) zbif zbig zbih;have zbwe:=aR (K:=K) (x:= "lets") (qual:= "Wider.lets") (st:=fL) (kV:=zuo) (doc:=zup) (pm:=zuq) (an:=zul) (cdv:=zur) (ct:=zus) (ps:=["self","turn"])<|aM 2 _ fun _ _=>rfl
 have zbwf:=aP (st:=f9) zbii zbij zbik;have zbwg:=aR (K:=K) (x:= "words") (qual:= "Wider.words") (st:=f9) (kV:=zux) (doc:=zuy) (pm:=zuz) (an:=zuu) (cdv:=zva) (ct:=zvb) (ps:=["self"])<|aM 1 _ fun _=>rfl
 have zbwh:=aP (st:=cN) zbil zbim zbin;have zbwi:=mW 6 (K:=K) (x:= "__init__") (qual:= "House.__init__") (st:=cN) (kV:=zvg) (doc:=zvh) (pm:=zvi) (an:=zvd) (cdv:=zvj) (ct:=zvk) (ps:=["self","rooms","doors","people","last","first"]) (ds:=[]) zbio<|aM 6 _ fun _ _ _ _ _ _=>⟨_,rfl,rfl⟩
 have zbwj:=mW 5 (K:=K) (x:= "__init__") (qual:= "House.__init__") (st:=cN) (kV:=zvg) (doc:=zvh) (pm:=zvi) (an:=zvd) (cdv:=zvj) (ct:=zvk) (ps:=["self","rooms","doors","people","last","first"]) (ds:=[.int 0 zvm]) zbio<|aM 5 _ fun _ _ _ _ _=>⟨_,rfl,rfl⟩
 have zbwk:=aP (st:=fA) zbip zbiq zbir;have zbwl:=aR (K:=K) (x:= "rooms") (qual:= "House.rooms") (st:=fA) (kV:=zvv) (doc:=zvw) (pm:=zvx) (an:=zvs) (cdv:=zvy) (ct:=zvz) (ps:=["self"])<|aM 1 _ fun _=>rfl
 have zbwm:=aP (st:=eU) zbis zbit zbiu;have zbwn:=aR (K:=K) (x:= "doors") (qual:= "House.doors") (st:=eU) (kV:=zwe) (doc:=zwf) (pm:=zwg) (an:=zwb) (cdv:=zwh) (ct:=zwi) (ps:=["self"])<|aM 1 _ fun _=>rfl
 have zbwo:=aP (st:=cS) zbiv zbiw zbix;have zbwp:=aR (K:=K) (x:= "need_room") (qual:= "House.need_room") (st:=cS) (kV:=zwn) (doc:=zwo) (pm:=zwp) (an:=zwk) (cdv:=zwq) (ct:=zwr) (ps:=["self","room"])<|aM 2 _ fun _ _=>rfl
 have zbwq:=aP (st:=eS) zbiy zbiz zbja;have zbwr:=aR (K:=K) (x:= "holds") (qual:= "House.holds") (st:=eS) (kV:=zww) (doc:=zwx) (pm:=zwy) (an:=zwt) (cdv:=zwz) (ct:=zxa) (ps:=["self","room"])<|aM 2 _ fun _ _=>rfl
 have zbws:=aP (st:=eX) zbjb zbjc zbjd;have zbwt:=aR (K:=K) (x:= "found") (qual:= "House.found") (st:=eX) (kV:=zxf) (doc:=zxg) (pm:=zxh) (an:=zxc) (cdv:=zxi) (ct:=zxj) (ps:=["self","room"])<|aM 2 _ fun _ _=>rfl
 have zbwu:=aP (st:=hZ) zbje zbjf zbjg;have zbwv:=aR (K:=K) (x:= "into") (qual:= "House.into") (st:=hZ) (kV:=zxo) (doc:=zxp) (pm:=zxq) (an:=zxl) (cdv:=zxr) (ct:=zxs) (ps:=["self","room"])<|aM 2 _ fun _ _=>rfl
 have zbww:=aP (st:=dD) zbjh zbji zbjj;have zbwx:=aR (K:=K) (x:= "from_room") (qual:= "House.from_room") (st:=dD) (kV:=zxx) (doc:=zxy) (pm:=zxz) (an:=zxu) (cdv:=zya) (ct:=zyb) (ps:=["self","room"])<|aM 2 _ fun _ _=>rfl
 have zbwy:=aP (st:=fM) zbjk zbjl zbjm;have zbwz:=aR (K:=K) (x:= "door") (qual:= "House.door") (st:=fM) (kV:=zyg) (doc:=zyh) (pm:=zyi) (an:=zyd) (cdv:=zyj) (ct:=zyk) (ps:=["self","name"])<|aM 2 _ fun _ _=>rfl
 have zbxa:=aP (st:=fN) zbjn zbjo zbjp;have zbxb:=aR (K:=K) (x:= "lets") (qual:= "House.lets") (st:=fN) (kV:=zyp) (doc:=zyq) (pm:=zyr) (an:=zym) (cdv:=zys) (ct:=zyt) (ps:=["self","name","turn"])<|aM 3 _ fun _ _ _=>rfl
 have zbxc:=aP (st:=eQ) zbjq zbjr zbjs;have zbxd:=aR (K:=K) (x:= "total") (qual:= "House.total") (st:=eQ) (kV:=zyy) (doc:=zyz) (pm:=zza) (an:=zyv) (cdv:=zzb) (ct:=zzc) (ps:=["self"])<|aM 1 _ fun _=>rfl
 have zbxe:=aP (st:=eT) zbjt zbju zbjv;have zbxf:=aR (K:=K) (x:= "pairs") (qual:= "House.pairs") (st:=eT) (kV:=zzh) (doc:=zzi) (pm:=zzj) (an:=zze) (cdv:=zzk) (ct:=zzl) (ps:=["self"])<|aM 1 _ fun _=>rfl
 have zbxg:ICls K zbj:=⟨⟨zbjw,zbjx,zbjy,zbjz⟩,zbkc,zbrk,zbrl,zbkd⟩
 have zbxh:ICls K zbk:=⟨⟨zbla,zblb,zblc,zbld⟩,zblg,zbrk,zbrl,zblh⟩
 have zbxi:ICls K zbl:=⟨⟨zbme,zbmf,zbmg,zbmh⟩,zbmk,zbrk,zbrl,zbml⟩
 have zbxj:ICls K zbm:=⟨⟨zbni,zbnj,zbnk,zbnl⟩,zbno,zbrk,zbrl,zbnp⟩
 have zbxk:ICls K zbn:=⟨⟨zbom,zbon,zboo,zbop⟩,zbos,zbrk,zbrl,zbot⟩
 have zbxl:ICls K zbo:=⟨⟨zbpq,zbpr,zbps,zbpt⟩,zbpw,zbrk,zbrl,zbpx⟩
 exact⟨W.fnOf "law" "law" (aJ nW) (aH nW) (aC nW) .none zpd zpe zpf zpa zpg zph,zbd,W.fnOf "_law_door" "_law_door" (aJ c6) (aH c6) (aC c6) .none znk znl znm znh znn zno,W.mg_of X G zbaq,⟨_,_,_,zbfw⟩,fun s v=> .of_eq rfl,fun zbsf cL PL h1 h2 h3=>ZW ⟨zaa,_,zbsg,zbsh,
  zab,_,zbsi,zbsj,
  zac,_,zbsk,zbsl,
  zad,_,zbsm,zbsn,
  zae,_,zbso,zbsp,
  zaf,_,zbsq,zbsr,
  zag,_,zbss,zbst,
  zah,_,zbsu,zbsv,
  zai,_,zbsw,zbsx,
  zaj,_,zbsy,zbsz,
  zak,_,zbta,zbtb,
  zal,_,zbtc,zbtd,
  zam,_,zbte,zbtf,
  zan,_,zbtg,zbth,
  zao,_,zbti,zbtj,
  zap,_,zbtk,zbtl,
  zaq,_,zbtm,zbtn,
  zar,_,zbto,zbtp,
  zas,_,zbtq,zbtr,
  zat,_,zbts,zbtt,
  zau,_,zbtu,zbtv,
  zav,_,zbtw,zbtx,
  zaw,_,zbty,zbtz,
  zax,_,zbua,zbub,
  zay,_,zbuc,zbud,
  zaz,_,zbue,zbuf,
  zba,_,zbuh,zbui,
  zbb,_,zbuj,zbuk,
  zbc,_,zbul,zbum,
  zbd,_,zbun,zbuo,
  zbe,_,zbup,zbuq,
  zbf,_,zbur,zbus,
  zbg,_,zbut,zbuu,
  zbh,_,zbuv,zbuw,
  fa,_,zbux,zbuy,
  zbx,_,zbuz,zbva,
  zby,_,zbvd,zbve,
  zbz,_,zbvf,zbvg,
  zca,_,zbvh,zbvi,
  zcb,_,zbvj,zbvk,
  zcc,_,zbvl,zbvm,
  zcd,_,zbvn,zbvo,
  zce,_,zbvp,zbvq,
  zcf,_,zbvr,zbvs,
  zcg,_,zbvt,zbvu,
  zch,_,zbvv,zbvw,
  zci,_,zbvx,zbvy,
  zcj,_,zbvz,zbwa,
  zck,_,zbwb,zbwc,
  zcl,_,zbwd,zbwe,
  zcm,_,zbwf,zbwg,
  zcn,_,zbwh,zbwi,
  zco,_,zbwk,zbwl,
  zcp,_,zbwm,zbwn,
  zcq,_,zbwo,zbwp,
  zcr,_,zbwq,zbwr,
  zcs,_,zbws,zbwt,
  zct,_,zbwu,zbwv,
  zcu,_,zbww,zbwx,
  zcv,_,zbwy,zbwz,
  zcw,_,zbxa,zbxb,
  zcx,_,zbxc,zbxd,
  zcy,_,zbxe,zbxf,
  W.mg_of X G zzn,
  W.mg_of X G zzo,
  W.mg_of X G zzp,
  W.mg_of X G zzq,
  W.mg_of X G zzr,
  W.mg_of X G zzs,
  W.mg_of X G zzt,
  W.mg_of X G zzu,
  W.mg_of X G zzv,
  W.mg_of X G zzw,
  W.mg_of X G zzx,
  W.mg_of X G zzy,
  W.mg_of X G zzz,
  W.mg_of X G zbaa,
  W.mg_of X G zbab,
  W.mg_of X G zbac,
  W.mg_of X G zbad,
  W.mg_of X G zbae,
  W.mg_of X G zbaf,
  W.mg_of X G zbag,
  W.mg_of X G zbah,
  W.mg_of X G zbai,
  W.mg_of X G zbaj,
  W.mg_of X G zbak,
  W.mg_of X G zbal,
  W.mg_of X G zbam,
  W.mg_of X G zban,
  W.mg_of X G zbao,
  W.mg_of X G zbap,
  W.mg_of X G zbaq,
  W.mg_of X G zbar,
  W.mg_of X G zbas,
  W.mg_of X G zbat,
  W.mg_of X G zbau,
  W.mg_of X G zbav,
  ⟨_,.cons rfl (.nil),zbug⟩,
  ⟨_,.cons ⟨_,rfl⟩ (.nil),zbvb⟩,
  ⟨_,.cons rfl (.cons ⟨_,rfl⟩ (.nil)),zbvc⟩,
  ⟨_,.cons ⟨_,rfl⟩ (.nil),zbwj⟩,
  zbj,W.mg_of X G zbaw,
  zbk,W.mg_of X G zbax,
  zbl,W.mg_of X G zbay,
  zbm,W.mg_of X G zbaz,
  zbn,W.mg_of X G zbba,
  zbo,W.mg_of X G zbbb,
  zbp,W.mg_of X G zbbc,
  zbq,W.mg_of X G zbbd,
  zbr,W.mg_of X G zbbe,
  zbs,W.mg_of X G zbbf,
  zbt,W.mg_of X G zbbg,
  zbu,W.mg_of X G zbbh,
  zbv,W.mg_of X G zbbi,
  zbw,W.mg_of X G zbbj,
  ⟨zbxg,zbke,zbkf,zbkg,zbkh,zbki,zbkj,zbkk,zbkl,zbkm,zbkn,zbko,zbkp,zbkq,zbkr⟩,
  ⟨zbka,zbks,zbkt,zbkb⟩,
  ⟨zbku,zbkv,zbgu⟩,
  ⟨zbkw,zbkx,zbgx⟩,
  ⟨zbky,zbkz,zbha⟩,
  ⟨zbxh,zbli,zblj,zblk,zbll,zblm,zbln,zblo,zblp,zblq,zblr,zbls,zblt,zblu,zblv⟩,
  ⟨zble,zblw,zblx,zblf⟩,
  ⟨zbly,zblz,zbhg⟩,
  ⟨zbma,zbmb,zbhj⟩,
  ⟨zbmc,zbmd,zbgx⟩,
  ⟨zbxi,zbmm,zbmn,zbmo,zbmp,zbmq,zbmr,zbms,zbmt,zbmu,zbmv,zbmw,zbmx,zbmy,zbmz⟩,
  ⟨zbmi,zbna,zbnb,zbmj⟩,
  ⟨zbnc,zbnd,zbhp⟩,
  ⟨zbne,zbnf,zbhs⟩,
  ⟨zbng,zbnh,zbgx⟩,
  ⟨zbxj,zbnq,zbnr,zbns,zbnt,zbnu,zbnv,zbnw,zbnx,zbny,zbnz,zboa,zbob,zboc,zbod⟩,
  ⟨zbnm,zboe,zbof,zbnn⟩,
  ⟨zbog,zboh,zbhy⟩,
  ⟨zboi,zboj,zbib⟩,
  ⟨zbok,zbol,zbgx⟩,
  ⟨zbxk,zbou,zbov,zbow,zbox,zboy,zboz,zbpa,zbpb,zbpc,zbpd,zbpe,zbpf,zbpg,zbph⟩,
  ⟨zboq,zbpi,zbpj,zbor⟩,
  ⟨zbpk,zbpl,zbih⟩,
  ⟨zbpm,zbpn,zbik⟩,
  ⟨zbpo,zbpp,zbgx⟩,
  ⟨zbxl,zbpy,zbpz,zbqa,zbqb,zbqc,zbqd,zbqe,zbqf,zbqg,zbqh,zbqi,zbqj,zbqk,zbql⟩,
  ⟨zbpu,zbqm,zbqn,zbpv⟩,
  ⟨zbqo,zbqp,zbir⟩,
  ⟨zbqq,zbqr,zbiu⟩,
  ⟨zbqs,zbqt,zbix⟩,
  ⟨zbqu,zbqv,zbja⟩,
  ⟨zbqw,zbqx,zbjd⟩,
  ⟨zbqy,zbqz,zbjg⟩,
  ⟨zbra,zbrb,zbjj⟩,
  ⟨zbrc,zbrd,zbjm⟩,
  ⟨zbre,zbrf,zbjp⟩,
  ⟨zbrg,zbrh,zbjs⟩,
  ⟨zbri,zbrj,zbjv⟩,
  ⟨zbrm,zbrn,zbro⟩,
  W.mg_none_of X G zbrp,
  W.mg_none_of X G zbrq,
  W.mg_none_of X G zbrr,
  W.mg_none_of X G zbrs,
  W.mg_none_of X G zbrt,
  W.mg_none_of X G zbru,
  W.mg_none_of X G zbrv,
  W.mg_none_of X G zbrw,
  W.mg_none_of X G zbrx,
  W.mg_none_of X G zbry,
  W.mg_none_of X G zbrz,
  W.mg_none_of X G zbsa,
  W.mg_none_of X G zbsb,
  W.mg_none_of X G zbsc,
  W.mg_none_of X G zbsd,
  ⟨zzm,W.mg_of X G zbse⟩⟩ h1 h2 h3⟩
theorem walk {l:W.OpenLaw}{q:Program}{loose:List Str}{XP:(Str->Option Value)->Heap->Prop}{YP:World->Heap->Prop}{d d2:DefRec}{K:Params->W.Frag} (hn:l.most=some 63) (hdf:d.params.defaults=[]) (hrec:d2∈PyProof.Rows.recsOf q) (hd2:d2.name= "_law_door") (hnt:∀w:World,W.noTabs (K w.params)=true)
  (hY:∀(w:World) (h:Heap),YP w h->(K w.params).In h)
  (F:∀(w:World) (mg:Str->Option Value) (fa:Addr) (h:Heap),(K w.params).In h->h.Ns mainGlobals mg->mg d.name=some (.ref fa) →
   ∃(fd:FuncData) (f2:Addr) (fd2:FuncData),mg "_law_door" =some (.ref f2)/\(∃oc od osl,(K w.params).lookup f2=some ⟨oc,od,.func fd2,osl⟩)/\(∀(s:Shared) (u:Value),BindsTo s fd ⟨[u],[]⟩ [("_law_script",u)])/\∀(zbsf:Heap) (cL PL:Addr),fd2.code= .ref cL->W.CodeHd zbsf cL PL->zbsf.BuiltinsAt mg PL->FnOk l.prog w (K w.params) mg zbsf CX0 32 fa fd ["_law_script"] (vY (K w.params) PL)) :
  W.WalkO q loose XP YP l.row.toRowW d [] (fun f vs=>PySem.call f vs) :=
 L2.walk_ofT2 (d2:=d2) (n:=63) (k:=32) (x:= "_law_script") (CX:=fun _=>CX0) (sp:=fun w PL=>vY (K w.params) PL) hn (by decide) hdf ⟨rfl,by decide,by decide⟩ hrec hnt hY (fun w mg fa h a b c=>by rw[hd2];exact F w mg fa h a b c) (fun _ _ _ a ns hl hS hP=>⟨a,ns,rfl,hS,hl,hP,fun _=>rfl⟩) fun _ _ _ _ _ z=>z
end Prf
open PySem PySem.W PyProof.Rows
set_option maxRecDepth 100000 in
set_option maxHeartbeats 0 in
theorem PySem.Challenge.cw_firstout_k62_what_happened_holds : PySem.Challenge.rw_firstout_k62_what_happened.Holds := by
 w_on;o_law;k_head;(case hw=>w_witness2)
 k_fill
 refine Prf.walk (l:=PySem.Challenge.rw_firstout_k62_what_happened) rfl rfl (List.mem_of_find?_eq_some (p:=fun e=>e.name==("_law_door" :Str)) rfl) rfl (fun w=>by kernel_rfl) (fun w h Y=>PySem.W.km_in_of Y) ?F
 case F =>
  intro w mg fa h KX G hmg;refine' Prf.all_mk KX G hmg ?zzn ?zzo ?zzp ?zzq ?zzr ?zzs ?zzt ?zzu ?zzv ?zzw ?zzx ?zzy ?zzz ?zbaa ?zbab ?zbac ?zbad ?zbae ?zbaf ?zbag ?zbah ?zbai ?zbaj ?zbak ?zbal ?zbam ?zban ?zbao ?zbap ?zbaq ?zbar ?zbas ?zbat ?zbau ?zbav ?zbaw ?zbax ?zbay ?zbaz ?zbba ?zbbb ?zbbc ?zbbd ?zbbe ?zbbf ?zbbg ?zbbh ?zbbi ?zbbj ?zbbk ?zbbl ?zbbm ?zbbn ?zbbo ?zbbp ?zbbq ?zbbr ?zbbs ?zbbt ?zbbu ?zbbv ?zbbw ?zbbx ?zbby ?zbbz ?zbca ?zbcb ?zbcc ?zbcd ?zbce ?zbcf ?zbcg ?zbch ?zbci ?zbcj ?zbck ?zbcl ?zbcm ?zbcn ?zbco ?zbcp ?zbcq ?zbcr ?zbcs ?zbct ?zbcu ?zbcv ?zbcw ?zbcx ?zbcy ?zbcz ?zbda ?zbdb ?zbdc ?zbdd ?zbde ?zbdf ?zbdg ?zbdh ?zbdi ?zbdj ?zbdk ?zbdl ?zbdm ?zbdn ?zbdo ?zbdp ?zbdq ?zbdr ?zbds ?zbdt ?zbdu ?zbdv ?zbdw ?zbdx ?zbdy ?zbdz ?zbea ?zbeb ?zbec ?zbed ?zbee ?zbef ?zbeg ?zbeh ?zbei ?zbej ?zbek ?zbel ?zbem ?zben ?zbeo ?zbep ?zbeq ?zber ?zbes ?zbet ?zbeu ?zbev ?zbew ?zbex ?zbey ?zbez ?zbfa ?zbfb ?zbfc ?zbfd ?zbfe ?zbff ?zbfg ?zbfh ?zbfi ?zbfj ?zbfk ?zbfl ?zbfm ?zbfn ?zbfo ?zbfp ?zbfq ?zbfr ?zbfs ?zbft ?zbfu ?zbfv ?zbfw ?zbfx ?zbfy ?zbfz ?zbga ?zbgb ?zbgc ?zbgd ?zbge ?zbgf ?zbgg ?zbgh ?zbgi ?zbgj ?zbgk ?zbgl ?zbgm ?zbgn ?zbgo ?zbgp ?zbgq ?zbgr ?zbgs ?zbgt ?zbgu ?zbgv ?zbgw ?zbgx ?zbgy ?zbgz ?zbha ?zbhb ?zbhc ?zbhd ?zbhe ?zbhf ?zbhg ?zbhh ?zbhi ?zbhj ?zbhk ?zbhl ?zbhm ?zbhn ?zbho ?zbhp ?zbhq ?zbhr ?zbhs ?zbht ?zbhu ?zbhv ?zbhw ?zbhx ?zbhy ?zbhz ?zbia ?zbib ?zbic ?zbid ?zbie ?zbif ?zbig ?zbih ?zbii ?zbij ?zbik ?zbil ?zbim ?zbin ?zbio ?zbip ?zbiq ?zbir ?zbis ?zbit ?zbiu ?zbiv ?zbiw ?zbix ?zbiy ?zbiz ?zbja ?zbjb ?zbjc ?zbjd ?zbje ?zbjf ?zbjg ?zbjh ?zbji ?zbjj ?zbjk ?zbjl ?zbjm ?zbjn ?zbjo ?zbjp ?zbjq ?zbjr ?zbjs ?zbjt ?zbju ?zbjv ?zbjw ?zbjx ?zbjy ?zbjz ?zbka ?zbkb ?zbkc ?zbkd ?zbke ?zbkf ?zbkg ?zbkh ?zbki ?zbkj ?zbkk ?zbkl ?zbkm ?zbkn ?zbko ?zbkp ?zbkq ?zbkr ?zbks ?zbkt ?zbku ?zbkv ?zbkw ?zbkx ?zbky ?zbkz ?zbla ?zblb ?zblc ?zbld ?zble ?zblf ?zblg ?zblh ?zbli ?zblj ?zblk ?zbll ?zblm ?zbln ?zblo ?zblp ?zblq ?zblr ?zbls ?zblt ?zblu ?zblv ?zblw ?zblx ?zbly ?zblz ?zbma ?zbmb ?zbmc ?zbmd ?zbme ?zbmf ?zbmg ?zbmh ?zbmi ?zbmj ?zbmk ?zbml ?zbmm ?zbmn ?zbmo ?zbmp ?zbmq ?zbmr ?zbms ?zbmt ?zbmu ?zbmv ?zbmw ?zbmx ?zbmy ?zbmz ?zbna ?zbnb ?zbnc ?zbnd ?zbne ?zbnf ?zbng ?zbnh ?zbni ?zbnj ?zbnk ?zbnl ?zbnm ?zbnn ?zbno ?zbnp ?zbnq ?zbnr ?zbns ?zbnt ?zbnu ?zbnv ?zbnw ?zbnx ?zbny ?zbnz ?zboa ?zbob ?zboc ?zbod ?zboe ?zbof ?zbog ?zboh ?zboi ?zboj ?zbok ?zbol ?zbom ?zbon ?zboo ?zbop ?zboq ?zbor ?zbos ?zbot ?zbou ?zbov ?zbow ?zbox ?zboy ?zboz ?zbpa ?zbpb ?zbpc ?zbpd ?zbpe ?zbpf ?zbpg ?zbph ?zbpi ?zbpj ?zbpk ?zbpl ?zbpm ?zbpn ?zbpo ?zbpp ?zbpq ?zbpr ?zbps ?zbpt ?zbpu ?zbpv ?zbpw ?zbpx ?zbpy ?zbpz ?zbqa ?zbqb ?zbqc ?zbqd ?zbqe ?zbqf ?zbqg ?zbqh ?zbqi ?zbqj ?zbqk ?zbql ?zbqm ?zbqn ?zbqo ?zbqp ?zbqq ?zbqr ?zbqs ?zbqt ?zbqu ?zbqv ?zbqw ?zbqx ?zbqy ?zbqz ?zbra ?zbrb ?zbrc ?zbrd ?zbre ?zbrf ?zbrg ?zbrh ?zbri ?zbrj ?zbrk ?zbrl ?zbrm ?zbrn ?zbro ?zbrp ?zbrq ?zbrr ?zbrs ?zbrt ?zbru ?zbrv ?zbrw ?zbrx ?zbry ?zbrz ?zbsa ?zbsb ?zbsc ?zbsd ?zbse
  (case zzn|zzo|zzp|zzq|zzr|zzs|zzt|zzu|zzv|zzw|zzx|zzy|zzz|zbaa|zbab|zbac|zbad|zbae|zbaf|zbag|zbah|zbai|zbaj|zbak|zbal|zbam|zban|zbao|zbap|zbaq|zbar|zbas|zbat|zbau|zbav|zbaw|zbax|zbay|zbaz|zbba|zbbb|zbbc|zbbd|zbbe|zbbf|zbbg|zbbh|zbbi|zbbj|zbbk|zbbl|zbbm|zbbn|zbbo|zbbp|zbbq|zbbr|zbbs|zbbt|zbbu|zbbv|zbbw|zbbx|zbby|zbbz|zbca|zbcb|zbcc|zbcd|zbce|zbcf|zbcg|zbch|zbci|zbcj|zbck|zbcl|zbcm|zbcn|zbco|zbcp|zbcq|zbcr|zbcs|zbct|zbcu|zbcv|zbcw|zbcx|zbcy|zbcz|zbda|zbdb|zbdc|zbdd|zbde|zbdf|zbdg|zbdh|zbdi|zbdj|zbdk|zbdl|zbdm|zbdn|zbdo|zbdp|zbdq|zbdr|zbds|zbdt|zbdu|zbdv|zbdw|zbdx|zbdy|zbdz|zbea|zbeb|zbec|zbed|zbee|zbef|zbeg|zbeh|zbei|zbej|zbek|zbel|zbem|zben|zbeo|zbep|zbeq|zber|zbes|zbet|zbeu|zbev|zbew|zbex|zbey|zbez|zbfa|zbfb|zbfc|zbfd|zbfe|zbff|zbfg|zbfh|zbfi|zbfj|zbfk|zbfl|zbfm|zbfn|zbfo|zbfp|zbfq|zbfr|zbfs|zbft|zbfu|zbfv|zbfw|zbfx|zbfy|zbfz|zbga|zbgb|zbgc|zbgd|zbge|zbgf|zbgg|zbgh|zbgi|zbgj|zbgk|zbgl|zbgm|zbgn|zbgo|zbgp|zbgq|zbgr|zbgs|zbgt|zbgu|zbgv|zbgw|zbgx|zbgy|zbgz|zbha|zbhb|zbhc|zbhd|zbhe|zbhf|zbhg|zbhh|zbhi|zbhj|zbhk|zbhl|zbhm|zbhn|zbho|zbhp|zbhq|zbhr|zbhs|zbht|zbhu|zbhv|zbhw|zbhx|zbhy|zbhz|zbia|zbib|zbic|zbid|zbie|zbif|zbig|zbih|zbii|zbij|zbik|zbil|zbim|zbin|zbio|zbip|zbiq|zbir|zbis|zbit|zbiu|zbiv|zbiw|zbix|zbiy|zbiz|zbja|zbjb|zbjc|zbjd|zbje|zbjf|zbjg|zbjh|zbji|zbjj|zbjk|zbjl|zbjm|zbjn|zbjo|zbjp|zbjq|zbjr|zbjs|zbjt|zbju|zbjv|zbjw|zbjx|zbjy|zbjz|zbka|zbkb|zbkc|zbkd|zbke|zbkf|zbkg|zbkh|zbki|zbkj|zbkk|zbkl|zbkm|zbkn|zbko|zbkp|zbkq|zbkr|zbks|zbkt|zbku|zbkv|zbkw|zbkx|zbky|zbkz|zbla|zblb|zblc|zbld|zble|zblf|zblg|zblh|zbli|zblj|zblk|zbll|zblm|zbln|zblo|zblp|zblq|zblr|zbls|zblt|zblu|zblv|zblw|zblx|zbly|zblz|zbma|zbmb|zbmc|zbmd|zbme|zbmf|zbmg|zbmh|zbmi|zbmj|zbmk|zbml|zbmm|zbmn|zbmo|zbmp|zbmq|zbmr|zbms|zbmt|zbmu|zbmv|zbmw|zbmx|zbmy|zbmz|zbna|zbnb|zbnc|zbnd|zbne|zbnf|zbng|zbnh|zbni|zbnj|zbnk|zbnl|zbnm|zbnn|zbno|zbnp|zbnq|zbnr|zbns|zbnt|zbnu|zbnv|zbnw|zbnx|zbny|zbnz|zboa|zbob|zboc|zbod|zboe|zbof|zbog|zboh|zboi|zboj|zbok|zbol|zbom|zbon|zboo|zbop|zboq|zbor|zbos|zbot|zbou|zbov|zbow|zbox|zboy|zboz|zbpa|zbpb|zbpc|zbpd|zbpe|zbpf|zbpg|zbph|zbpi|zbpj|zbpk|zbpl|zbpm|zbpn|zbpo|zbpp|zbpq|zbpr|zbps|zbpt|zbpu|zbpv|zbpw|zbpx|zbpy|zbpz|zbqa|zbqb|zbqc|zbqd|zbqe|zbqf|zbqg|zbqh|zbqi|zbqj|zbqk|zbql|zbqm|zbqn|zbqo|zbqp|zbqq|zbqr|zbqs|zbqt|zbqu|zbqv|zbqw|zbqx|zbqy|zbqz|zbra|zbrb|zbrc|zbrd|zbre|zbrf|zbrg|zbrh|zbri|zbrj|zbrk|zbrl|zbrm|zbrn|zbro|zbrp|zbrq|zbrr|zbrs|zbrt|zbru|zbrv|zbrw|zbrx|zbry|zbrz|zbsa|zbsb|zbsc|zbsd|zbse=>k_is)
