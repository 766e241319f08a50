import PyProof.Rows.All
import Wide.All
import OpenK.AllK
import Wide.FinOn
import Lean
import PyProof.EqAt
import PyProof.EqKinds
import PyProof.TupleCall
import KE.KSortTup
import PyProof.Rows.DictUnroll
import PyProof.DictItems
import KE.LcSums
import PyProof.IsiH_list
import KE.KDictOf
import PyProof.DictWalks
import PyProof.ListRange
import PyProof.EnumStmt
import PyProof.EnumMake
import KE.KDictSum
import PyProof.StrOps2
import PyProof.Rows.CallKwBuiltin
import KE.KRevSl
import PySem.Challenge.RW_firstout_k54_plans_that_cannot_be_walked
namespace PySem.W.Fast
def tw8076376653725509408:=()
def tw5036896568094637413:=()
def tw479355560528895975:=()
def tw6167884413985500586:=()
def tw6515417027586767247:=()
def tw8639352035908702672:=()
def tw10258097826152302288:=()
def tw12933173379668254130:=()
def tw11385648288457256051:=()
def tw3354404285092750901:=()
def tw12866402976073888630:=()
def tw4945111598846764343:=()
def tw555899444442092665:=()
def tw5937843421335191806:=()
def tw15785835073233307775:=()
def tw14301652725191518399:=()
def tw6665953402954685023:=()
def tw459058086922582655:=()
def tw5819762131823093284:=()
def tw3550736665276805956:=()
def tw2681852888106799292:=()
def tw3668700724355838506:=()
def tw3376678558737396222:=()
def tw11891761897404756715:=()
def tw5382473660450584719:=()
def tw15474686097885375044:=()
def tw17155767398336866280:=()
def tw4786539671945068485:=()
def tw5831764160219924409:=()
def tw919560259052998668:=()
def tw6742672491748341256:=()
def tw13210699386318117103:=()
def tw17189583997257691113:=()
def tw11384536415467882200:=()
def tw15789584342277910309:=()
def tw9054540173687568454:=()
def tw12702533927386181473:=()
def tw3960596968265546996:=()
def tw311725363204258577:=()
def tw11070687465247241448:=()
def tw5404862158990108900:=()
def tw8011668969599152036:=()
def tw3155668530840914512:=()
def tw9412053129087466:=()
def tw15506472963695908025:=()
def tw5001995251928903139:=()
def tw641894239749181007:=()
def tw5063828430369855742:=()
def tw14024984980023564933:=()
def tw7492236036346662273:=()
def tw6123995281822280604:=()
def tw14202758590964728173:=()
def tw11009482512541667093:=()
def tw16183969633693663096:=()
def tw1637043669221082520:=()
def tw16599347747832920802:=()
def tw14056591622535473300:=()
def tw1856796170354703160:=()
def tw1611156376936599862:=()
def tw6642213808950758517:=()
def tw13638494484530085947:=()
def tw12079455955384147064:=()
def tw18037345358191495515:=()
def tw7580365569146534313:=()
def tw13723735605022805575:=()
def tw17992429917875716515:=()
def tw13609615030299469504:=()
def tw16329604739189175661:=()
def tw17760460471925759458:=()
def tw7585471820430123683:=()
def tw10673360093154959004:=()
def tw8988017820701004266:=()
def tw2579868147796301450:=()
def tw1606023257927586539:=()
def tw9736520416217972409:=()
def tw9780560288290508907:=()
def tw9285355492414808949:=()
def tw5641926020044645408:=()
def tw16026382630086046826:=()
def tw668123654869383826:=()
def tw1116588708631237354:=()
def tw17786676301377166546:=()
def tw5771050884762050961:=()
def tw15021765083792941219:=()
def tw8928643482670095176:=()
def tw304127021511083386:=()
def tw11037931171039304354:=()
def tw2503665050397524915:=()
def tw10898984853084232157:=()
def tw16328734393663459814:=()
def tw17715342244690087415:=()
def tw5284188342416236449:=()
def tw1605347085199928253:=()
def tw323077516103968349:=()
def tw9343358722114469821:=()
def tw11522723818170898852:=()
def tw15633309069955592053:=()
def tw16945827734297438975:=()
def tw3850457952148576368:=()
def tw8791547922955992682:=()
def tw10834913337148736697:=()
def tw14853566828220940410:=()
def tw14897835234150325055:=()
def tw17418763695795522239:=()
def tw9021861559753401882:=()
def tw16840169988558122541:=()
def tw16947226014096014986:=()
def tw12821246970843587021:=()
def tw13794192937831077313:=()
def tw10350935544881371923:=()
def tw14873538166315611803:=()
def tw11803540036670594291:=()
def tw12777850146018373149:=()
def tw14764594991241045546:=()
def tw14575985703607700352:=()
def tw2311220437120516427:=()
def tw3384097041146578558:=()
def tw8652594027914335282:=()
def tw5921974107721381123:=()
def tw15331911756995186410:=()
def tw2052550789695968218:=()
def tw1971126804920415979:=()
def tw13566613634133070419:=()
def tw11428656314682718920:=()
def tw12418174915124378925:=()
def tw3661349356006787428:=()
def tw16182345489046695449:=()
def tw10453533796327605385:=()
def tw5769428184684412082:=()
def tw7364750728817318738:=()
def tw92222318749359793:=()
def tw11850395454396358028:=()
def tw2976896629492110299:=()
def tw15050664533330389603:=()
def tw15747328289166832072:=()
def tw4564359174309038154:=()
def tw9120836610948162527:=()
def tw9582957133869522667:=()
def tw16236145850871819272:=()
def tw10800464282865518966:=()
def tw10387265995673711673:=()
def tw15148234556589385459:=()
def tw7833424370302415983:=()
def tw2214286160210028673:=()
def tw4421838729118434849:=()
def tw11925683758809678175:=()
def tw7479233571668085023:=()
def tw1885320778351860458:=()
def tw11309916125257378729:=()
def tw14879309226408077100:=()
end PySem.W.Fast
set_option compiler.extract_closed false
local macro_rules| `(tactic| walk_at"oi")=> `(tactic| first|exact Or.inl rfl|exact Or.inr rfl)
set_option Elab.async false
set_option linter.all false
set_option maxRecDepth 100000
namespace L2
open PySem PySem.Spec PyProof.Rows
abbrev Key:=Sum Int Str
def uX:Key->Value->Bool
 | .inl k,v=>Value.isInt k v
 | .inr x,v=>Value.isStrOf x v
def aBV (w:World):Key->Int
 | .inl k=>hashInt k
 | .inr x=>hashStr w x
theorem c7:∀{k:Key}{v:Value},uX k v=true->(∃i t,k=Sum.inl i/\v=Value.int i t)∨(∃x t,k=Sum.inr x/\v=Value.str x t)
 | .inl i,v,h=>by
  obtain⟨t,e⟩:=Value.isInt_shape (k:=i) (v:=v) h;exact .inl ⟨i,t,rfl,e⟩
 | .inr x,v,h=>by
  obtain⟨t,e⟩:=Value.isStrOf_shape (x:=x) (v:=v) h;exact .inr ⟨x,t,rfl,e⟩
theorem OA (i:Int)(t:Tok):uX (.inl i) (.int i t)=true:=by simp[uX,Value.isInt]
theorem OG (x:Str)(t:Tok):uX (.inr x) (.str x t)=true:=by simp[uX,Value.isStrOf]
theorem YW (a b:Int):decide ((Sum.inl a:Key)=Sum.inl b)=(a==b):=by
 by_cases e:a=b
 ·subst e;simp
 ·have h:¬(Sum.inl a:Key)=Sum.inl b:=fun q=>e (Sum.inl.inj q);rw[decide_eq_false h];exact(beq_eq_false_iff_ne.mpr e).symm
theorem ZB (a b:Str):decide ((Sum.inr a:Key)=Sum.inr b)=decide (a=b):=by
 by_cases e:a=b
 ·subst e;simp
 ·have h:¬(Sum.inr a:Key)=Sum.inr b:=fun q=>e (Sum.inr.inj q);rw[decide_eq_false h,decide_eq_false e]
theorem aAq (a:Int)(b:Str):decide ((Sum.inl a:Key)=Sum.inr b)=false:=decide_eq_false (fun q=>nomatch q)
theorem aAa (a:Str)(b:Int):decide ((Sum.inr a:Key)=Sum.inl b)=false:=decide_eq_false (fun q=>nomatch q)
def bL (prog:Program)(w:World):PySem.KeyKind prog w Key where
 is:=uX
 hash:=aBV w
 inj:=fun v a b ha hb=>by
  rcases c7 ha with⟨i,t,rfl,rfl⟩|⟨x,t,rfl,rfl⟩
  ·rcases c7 hb with⟨j,u,rfl,e⟩|⟨y,u,rfl,e⟩
   ·injection e with e1 _;rw[e1]
   ·exact nomatch e
  ·rcases c7 hb with⟨j,u,rfl,e⟩|⟨y,u,rfl,e⟩
   ·exact nomatch e
   ·injection e with e1 _;rw[e1]
 byValue:=fun k v h=>by
  rcases c7 h with⟨i,t,rfl,rfl⟩|⟨x,t,rfl,rfl⟩<;>rfl
 pyHash:=fun hv h=>by
  rcases c7 hv with⟨i,t,rfl,rfl⟩|⟨x,t,rfl,rfl⟩
  ·exact wpAny_pyHash_int h
  ·exact wpAny_pyHash_str h
 eqBool:=fun hu hv h=>by
  rcases c7 hu with⟨i,t,rfl,rfl⟩|⟨x,t,rfl,rfl⟩
  ·rcases c7 hv with⟨j,u,rfl,rfl⟩|⟨y,u,rfl,rfl⟩
   ·rw[YW]at h;exact wpAny_eqBool_int h
   ·rw[aAq]at h;exact SeqAt.EqAt.int_str i t y u _ _ _ _ h
  ·rcases c7 hv with⟨j,u,rfl,rfl⟩|⟨y,u,rfl,rfl⟩
   ·rw[aAa]at h;exact SeqAt.EqAt.str_int x t j u _ _ _ _ h
   ·rw[ZB]at h;exact wpAny_eqBool_str h
 «strs»:=fun k x t v h=>by
  rcases c7 h with⟨i,u,rfl,e⟩|⟨y,u,rfl,e⟩
  ·exact nomatch e
  ·injection e with e1 _;subst e1;cases v<;>rfl
theorem HG (prog:Program)(w:World)(i:Int)(t:Tok):(bL prog w).is (.inl i) (.int i t)=true:=OA i t
theorem wC (prog:Program)(w:World)(x:Str)(t:Tok):(bL prog w).is (.inr x) (.str x t)=true:=OG x t
end L2
namespace L2
open PySem PySem.Spec PyProof.Rows
inductive V where
 | non|bl (b:Bool)|int (i:Int)|str (x:Str)|byt (b:Array UInt8)|flt (b:UInt64)|ref (a:Addr)|ty (n:String)
 deriving DecidableEq
def RelV:V->Value->Prop
 | .non,u=>u=Value.none
 | .bl b,u=>u=Value.bool b
 | .int i,u=>∃t,u=Value.int i t
 | .str x,u=>∃t,u=Value.str x t
 | .byt b,u=>∃t,u=Value.bytes b t
 | .flt b,u=>∃t,u=Value.float b t
 | .ref a,u=>u=Value.ref a
 | .ty n,u=>u=Value.type n
abbrev Vals:List V->List Value->Prop:=Paired RelV
theorem Vals.length {xs:List V}{us:List Value} (r:Vals xs us):xs.length=us.length:=Paired.length r
theorem Vals.get:∀{xs:List V}{us:List Value}{i:Nat}{x:V},Vals xs us->xs[i]? =some x->∃u,us[i]? =some u/\RelV x u
 | _,_,_,_,.nil,e=>by simp at e
 | _,_,0,_,.cons r _,e=>by simp at e;subst e;exact⟨_,rfl,r⟩
 | _,_,i+1,x,.cons _ t,e=>by
  obtain⟨u,h1,h2⟩:=Vals.get (i:=i) (x:=x) t (by simpa using e);exact⟨u,by simpa using h1,h2⟩
theorem Vals.append:∀{xs ys:List V}{us ws:List Value},Vals xs us->Vals ys ws->Vals (xs++ys) (us++ws)
 | _,_,_,_,.nil,s=>s
 | _,_,_,_,.cons r t,s=> .cons r (Vals.append t s)
theorem Vals.take:∀{xs:List V}{us:List Value} (n:Nat),Vals xs us->Vals (xs.take n) (us.take n)
 | _,_,0,_=> .nil
 | _,_,_+1,.nil=> .nil
 | _,_,n+1,.cons r t=> .cons r (Vals.take n t)
theorem Vals.drop:∀{xs:List V}{us:List Value} (n:Nat),Vals xs us->Vals (xs.drop n) (us.drop n)
 | _,_,0,r=>r
 | _,_,_+1,.nil=> .nil
 | _,_,n+1,.cons _ t=>Vals.drop n t
def RelO:Option V->Option Value->Prop
 | some v,some u=>RelV v u
 | none,none=>True
 | _,_=>False
def KV {κ:Type}:List (κ×V)->List (κ×Value)->Prop:=Paired fun (p:κ×V) (q:κ×Value)=>p.1=q.1/\RelV p.2 q.2
def kV:Key->V
 | .inl i=> .int i
 | .inr x=> .str x
inductive HO where
  | lst (xs:List V)
  | tup (xs:List V)
  | dK (kvs:List (Key×V))|dT (kvs:List (List Key×V))
  | set (S:Int->Bool) (n:Nat)
  | ins (C dx:Addr) (fs:List (Str×V))
  | own (x:Addr)
  | xd (fs:List (Str×V))
  | met (f x:Addr)
  | rng (lo hi:Int)
  | frz (o:Obj) (u:HO)
  | tbl (ps:Array Value)
  | ext (φ:Heap->Prop)
abbrev Hp:=Addr->Option HO
def upd (H:Hp)(a:Addr)(o:HO):Hp:=fun b=>if b=a then some o else H b
theorem bC {H:Hp}{a:Addr}{o:HO}:upd H a o a=some o:=by unfold upd;rw[if_pos rfl]
theorem aP {H:Hp}{a b:Addr}{o:HO} (h:b≠a):upd H a o b=H b:=by unfold upd;rw[if_neg h]
theorem VQ {H:Hp}{a:Addr}{o u:HO}:upd (upd H a o) a u=upd H a u:=by
 funext b;unfold upd;split<;>rfl
theorem aBI {H:Hp}{a b:Addr}{o u:HO} (h:H a=some o) (h':H b=some u) (d:o≠u):a≠b:=by
 intro e;subst e;rw[h]at h';exact d (Option.some.inj h')
theorem bF {H:Hp}{a b:Addr}{o:HO} (h:H a=some o) (h':H b=none):a≠b:=by
 intro e;subst e;rw[h]at h';cases h'
section
variable (P:Program)(w:World)
def ObjOk (H:Hp)(h:Heap)(a:Addr):HO->Prop
 | .lst xs=>xs.length<=sizeLine/\∃(its:List Value) (n:Nat),Vals xs its/\h.get? a=some { cls:= .type "list",data:= .seq its.toArray n }
 | .tup xs=>xs.length<=sizeLine/\∃its:List Value,Vals xs its/\IsTup h a its.toArray
 | .dK kvs=>kvs.length<=sizeLine/\(a==sysModules)=false/\∃vs,KV kvs vs/\h.DictOf (bL P w) a vs
 | .dT kvs=>kvs.length<=sizeLine/\(a==sysModules)=false/\∃xs:List (List Key×Addr×Value),
   Paired (fun (p:List Key×V) (q:List Key×Addr×Value)=>p.1=q.1/\H q.2.1=some (.tup (p.1.map kV))/\RelV p.2 q.2.2) kvs xs ∧
   ∃o es ep,h.get? a=some o/\o.ExactDict/\o.data= .dict es ep/\es.toList=xs.map (entryOfKey (tupleKind (bL P w)))/\(xs.map (·.1)).Nodup
 | .set S n=>h.SetOf (intKind P w) a S n
 | .ins C dx fs=>H dx=some (.own a)/\fs.length<=1000/\dx≠a/\h.get? a=some (PySem.W.instObj C dx) ∧
   ∃mA,h.Ns1 dx mA/\(∀f,RelO (fs.lookup f) (mA f))/\PySem.Within mA (fs.map (·.1))
 | .own _=>∃o,h.get? a=some o
 | .xd fs=>∃mA,h.Ns1 a mA/\∀f,RelO (fs.lookup f) (mA f)
 | .rng lo hi=>∃t u v,h.get? a=some { cls:= .type "range",data:= .fields #[.int lo t,.int hi u,.int 1 v] }
 | .frz o u=>h.get? a=some o/\ObjOk H h a u
 | .tbl ps=>h.get? a=some { cls:= .none,data:= .fields ps }
 | .met f x=>h.get? a=some (PySem.W.methodObj (.ref f) (.ref x))
 | .ext φ=>φ h/\(∃o,h.get? a=some o)/\∀h1 h2:Heap,φ h1->(∀o,h1.get? a=some o->h2.get? a=some o)->φ h2
def HOk (H:Hp)(h:Heap):Prop:=∀a o,H a=some o->ObjOk P w H h a o
end
section
variable {P:Program}{w:World}{H H':Hp}{h h':Heap}{a:Addr}{o:HO}
theorem ObjOk.lt (x:ObjOk P w H h a o):a<h.objs.size:=by
 cases o with
 | lst xs=>obtain⟨_,_,_,_,e⟩:=x;exact Heap.lt_size e
 | tup xs=>obtain⟨_,_,_,p⟩:=x;exact p.lt
 | dK kvs=>obtain⟨_,_,_,_,o,_,_,e,_⟩:=x;exact Heap.lt_size e
 | dT kvs=>obtain⟨_,_,_,_,o,_,_,e,_⟩:=x;exact Heap.lt_size e
 | set S n=>obtain⟨o,_,_,_,e,_⟩:=x;exact Heap.lt_size e
 | ins C dx fs=>obtain⟨_,_,_,e,_⟩:=x;exact Heap.lt_size e
 | own y=>obtain⟨_,e⟩:=x;exact Heap.lt_size e
 | xd fs=>obtain⟨_,⟨_,_,_,e,_⟩,_⟩:=x;exact Heap.lt_size e
 | rng lo hi=>obtain⟨_,_,_,e⟩:=x;exact Heap.lt_size e
 | frz ob u=>obtain⟨e,_⟩:=x;exact Heap.lt_size e
 | tbl ps=>exact Heap.lt_size (show h.get? a=some _ from x)
 | met f y=>exact Heap.lt_size (show h.get? a=some _ from x)
 | ext φ=>obtain⟨_,⟨_,e⟩,_⟩:=x;exact Heap.lt_size e
theorem Paired.mapP {α β:Type}{F G:α->β->Prop}:∀{l₁:List α}{l₂:List β},Paired F l₁ l₂->(∀a b,F a b->G a b)->Paired G l₁ l₂
 | _,_,.nil,_=> .nil
 | _,_,.cons r t,f=> .cons (f _ _ r) (Paired.mapP t f)
theorem Paired.imp' {α β:Type}{F G:α->β->Prop} (f:∀a b,F a b->G a b) {l₁:List α}{l₂:List β} (r:Paired F l₁ l₂):Paired G l₁ l₂:=Paired.mapP r f
theorem ObjOk.stay (x:ObjOk P w H h a o)(k:∀b u,(b=a∨H b=some (.own a))->h.get? b=some u->h'.get? b=some u)
  (ho:∀b,H b=some (.own a)->H' b=some (.own a))(ht:∀b xs,H b=some (.tup xs)->H' b=some (.tup xs)):ObjOk P w H' h' a o:=by
 induction o with
 | lst xs=>obtain⟨z,its,n,r,e⟩:=x;exact⟨z,its,n,r,k _ _ (.inl rfl) e⟩
 | tup xs=>obtain⟨z,its,r,ob,e,c⟩:=x;exact⟨z,its,r,ob,k _ _ (.inl rfl) e,c⟩
 | dK kvs=>obtain⟨z,y,vs,r,ob,es,ep,e,c⟩:=x;exact⟨z,y,vs,r,ob,es,ep,k _ _ (.inl rfl) e,c⟩
 | dT kvs =>
  obtain⟨z,y,xs,r,ob,es,ep,e,c⟩:=x;exact⟨z,y,xs,Paired.mapP r fun p q z=>⟨z.1,ht _ _ z.2.1,z.2.2⟩,ob,es,ep,k _ _ (.inl rfl) e,c⟩
 | set S n=>obtain⟨ob,es,ep,t,e,c⟩:=x;exact⟨ob,es,ep,t,k _ _ (.inl rfl) e,c⟩
 | ins C dx fs =>
  obtain⟨d,z,ne,e,mA,⟨od,es,ep,e2,c⟩,r⟩:=x;exact⟨ho _ d,z,ne,k _ _ (.inl rfl) e,mA,⟨od,es,ep,k _ _ (.inr d) e2,c⟩,r⟩
 | own y=>obtain⟨ob,e⟩:=x;exact⟨ob,k _ _ (.inl rfl) e⟩
 | xd fs=>obtain⟨mA,⟨od,es,ep,e,c⟩,r⟩:=x;exact⟨mA,⟨od,es,ep,k _ _ (.inl rfl) e,c⟩,r⟩
 | rng lo hi=>obtain⟨t,u,v,e⟩:=x;exact⟨t,u,v,k _ _ (.inl rfl) e⟩
 | frz ob u ih=>obtain⟨e,q⟩:=x;exact⟨k _ _ (.inl rfl) e,ih q⟩
 | tbl ps =>
  have e:h.get? a=some { cls:= .none,data:= .fields ps }:=x;show h'.get? a=some { cls:= .none,data:= .fields ps };exact k a _ (.inl rfl) e
 | met f y =>
  have e:h.get? a=some (PySem.W.methodObj (.ref f) (.ref y)):=x;show h'.get? a=some (PySem.W.methodObj (.ref f) (.ref y));exact k a _ (.inl rfl) e
 | ext φ=>obtain⟨p,⟨o,e⟩,st⟩:=x;exact⟨st _ _ p fun o q=>k _ _ (.inl rfl) q,⟨o,k _ _ (.inl rfl) e⟩,st⟩
theorem HOk.lt (x:HOk P w H h)(e:H a=some o):a<h.objs.size:=(x a o e).lt
theorem HOk.fresh (x:HOk P w H h)(e:h.objs.size<=a):H a=none:=by
 cases q:H a with
 | none=>rfl
 | some u=>exact absurd (Nat.lt_of_lt_of_le (x.lt q) e) (Nat.lt_irrefl _)
theorem HOk.kept (x:HOk P w H h)(k:∀b u,h.get? b=some u->h'.get? b=some u):HOk P w H h':=fun a o e =>
 (x a o e).stay (fun b u _ q=>k b u q) (fun _ q=>q) fun _ _ q=>q
theorem HOk.laid (x:HOk P w H h)(k:∀b u,h.get? b=some u->h'.get? b=some u)(hp:h.objs.size<=a)(new:ObjOk P w (upd H a o) h' a o):HOk P w (upd H a o) h':=fun b u e=>by
 have hn:=x.fresh hp
 by_cases hb:b=a
 ·subst hb;rw[bC]at e;cases e;exact new
 ·rw[aP hb]at e;exact(x b u e).stay (fun c v _ q=>k c v q) (fun c q=>by rw[aP (bF q hn)];exact q) fun c xs q=>by rw[aP (bF q hn)];exact q
end
def Rd (H:Hp)(a:Addr)(u:HO):Prop:=H a=some u∨∃o,H a=some (.frz o u)
theorem Rd.ok {P:Program}{w:World}{H:Hp}{h:Heap}{a:Addr}{u:HO} (r:Rd H a u) (x:HOk P w H h):ObjOk P w H h a u:=by
 rcases r with r|⟨o,r⟩
 ·exact x a u r
 ·obtain⟨_,q⟩:=x a _ r;exact q
def Mut:Option HO->Prop
 | some (.lst _)=>True
 | some (.dK _)=>True
 | some (.dT _)=>True
 | some (.set _ _)=>True
 | some (.ins _ _ _)=>True
 | some (.ext _)=>True
 | _=>False
section
variable {P:Program}{w:World}{H:Hp}{h h':Heap}{x e:Addr}{o':HO}
theorem HOk.write (ok:HOk P w H h)(mu:Mut (H x))(he:e=x∨H e=some (.own x))(k:∀b u,b≠e->h.get? b=some u->h'.get? b=some u)(heo:∃u,h'.get? e=some u)
  (new:ObjOk P w (upd H x o') h' x o'):HOk P w (upd H x o') h':=fun b u q=>by
 have nown:∀c y,H c=some (.own y)->c≠x:=fun c y r z=>by subst z;rw[r]at mu;exact mu
 have ntup:∀c xs,H c=some (.tup xs)->c≠x:=fun c xs r z=>by subst z;rw[r]at mu;exact mu
 by_cases hb:b=x
 ·subst hb;rw[bC]at q;cases q;exact new
 ·rw[aP hb]at q
  by_cases hbe:b=e
  ·have q':H b=some (.own x):=by
    rcases he with z|z
    ·exact absurd (hbe.trans z) hb
    ·rw[hbe];exact z
   rw[q]at q';cases q';obtain⟨v,hv⟩:=heo;exact⟨v,by rw[hbe];exact hv⟩
  ·refine(ok b u q).stay (fun c v hc r=>k c v ?_ r) (fun c r=>by rw[aP (nown c b r)];exact r) fun c xs r=>by rw[aP (ntup c xs r)];exact r
   rcases hc with rfl|hc
   ·exact hbe
   ·rintro rfl;rcases he with z|z
    ·exact nown c b hc z
    ·rw[hc]at z;cases z;exact hb rfl
end
structure Un (fs ex:List Addr)(H H':Hp)(h h':Heap):Prop where
 keep:∀b o,h.get? b=some o->H b=none->b∉fs->b∉ex->h'.get? b=some o
 slot:∀b o,h.get? b=some o->H b=none->b∈fs->b∉ex->∃sl,h'.get? b=some { o with slots:=sl }
 free:∀b o,h.get? b=some o->H b=none->b∉ex->H' b=none
 there:∀b o,h.get? b=some o->b∉ex->∃o',h'.get? b=some o'
 tups:∀b xs,H b=some (.tup xs)->H' b=some (.tup xs)
 frzs:∀b o u,H b=some (.frz o u)->H' b=some (.frz o u)
 tbls:∀b ps,H b=some (.tbl ps)->∃more,H' b=some (.tbl (ps++more))
section
variable {fs fs' ex ex':List Addr}{H H1 H2:Hp}{h h1 h2 h':Heap}{a x e:Addr}{o:HO}
theorem Un.any (u:Un fs ex H H1 h h1){b:Addr}{ob:Obj} (q:h.get? b=some ob) (n:H b=none) (hx:b∉ex):∃sl,h1.get? b=some { ob with slots:=sl }:=by
 by_cases hb:b∈fs
 ·exact u.slot b ob q n hb hx
 ·exact⟨ob.slots,u.keep b ob q n hb hx⟩
theorem Un.kept (k:∀b u,h.get? b=some u->h'.get? b=some u):Un fs ex H H h h' :=
 ⟨fun b ob q _ _ _=>k b ob q,fun b ob q _ _ _=>⟨ob.slots,k b ob q⟩,fun _ _ _ n _=>n,fun b ob q _=>⟨ob,k b ob q⟩,fun _ _ q=>q,fun _ _ _ q=>q,fun _ ps q=>⟨#[],by rw[q];simp⟩⟩
theorem Un.refl:Un fs ex H H h h:=Un.kept fun _ _ q=>q
theorem Un.laid (k:∀b u,h.get? b=some u->h'.get? b=some u)(hp:h.objs.size<=a)(hn:H a=none):Un fs ex H (upd H a o) h h' where
 keep:=fun b u q _ _ _=>k b u q
 slot:=fun b u q _ _ _=>⟨u.slots,k b u q⟩
 free:=fun b u q n _=>by rw[aP (Nat.ne_of_lt (Nat.lt_of_lt_of_le (Heap.lt_size q) hp))];exact n
 there:=fun b u q _=>⟨u,k b u q⟩
 tups:=fun b xs q=>by rw[aP (bF q hn)];exact q
 frzs:=fun b u xs q=>by rw[aP (bF q hn)];exact q
 tbls:=fun b ps q=>⟨#[],by rw[aP (bF q hn),q];simp⟩
theorem Un.write (mu:Mut (H x))(he:e=x∨H e=some (.own x))(k:∀b u,b≠e->h.get? b=some u->h'.get? b=some u)(heo:∃u,h'.get? e=some u):Un fs ex H (upd H x o) h h':=by
 have hx:∀b,H b=none->b≠x:=fun b n z=>by subst z;rw[n]at mu;exact mu
 have hb:∀b,H b=none->b≠e:=fun b n z=>by
  subst z;rcases he with r|r
  ·exact hx b n r
  ·rw[n]at r;cases r
 have hm:∀b u,H b=some u->¬Mut (some u)->b≠x:=fun b u q nm z=>by subst z;rw[q]at mu;exact nm mu
 refine⟨fun b u q n _ _=>k b u (hb b n) q,fun b u q n _ _=>⟨u.slots,k b u (hb b n) q⟩,fun b u q n _=>by rw[aP (hx b n)];exact n,fun b u q _=> ?_,
  fun b xs q=>by rw[aP (hm b _ q fun z=>z)];exact q,fun b u xs q=>by rw[aP (hm b _ q fun z=>z)];exact q,fun b ps q=>⟨#[],by rw[aP (hm b _ q fun z=>z),q];simp⟩⟩
 by_cases hbe:b=e
 ·subst hbe;exact heo
 ·exact⟨u,k b u hbe q⟩
end
def trk (h:Heap)(H:Hp):List Addr:=(List.range h.objs.size).filter fun a=>(H a).isSome
def sM (h:Heap)(H:Hp):Heap:=PySem.W.hideAll h (trk h H)
theorem NR (h:Heap)(H:Hp):(sM h H).objs.size=h.objs.size:=PySem.W.hideAll_size _ _
theorem Q5 {h:Heap}{H:Hp}{b:Addr}{o:Obj} (e:h.get? b=some o) (n:H b=none):(sM h H).get? b=some o :=
 PySem.W.hideAll_get _ e fun hm=>by
  have q:(H b).isSome=true:=(List.mem_filter.mp hm).2;rw[n]at q;simp at q
theorem VD {h:Heap}{H:Hp}{b:Addr}{o:Obj} (e:(sM h H).get? b=some o):h.get? b=some o/\H b=none:=by
 have e':h.get? b=some o:=PySem.W.of_hideAll (trk h H) e;refine⟨e',?_⟩;cases q:H b with
 | none=>rfl
 | some x =>
  have hm:b∈trk h H:=List.mem_filter.mpr ⟨List.mem_range.mpr (Heap.lt_size e'),by simp[q]⟩;have z:(sM h H).get? b=none:=PySem.W.hideAll_none (trk h H) hm;rw[z]at e;cases e
end L2
namespace L2
open PySem PySem.Spec PyProof.Rows
structure Mod (K:PySem.W.Frag)(mg:Str->Option Value)(base:Heap):Prop where
 kin:K.In base
 glob:base.Ns mainGlobals mg
 blt:∃mb,base.Ns builtinsNs mb/\∀x:Str,x≠ "__name__" ->mb x=bootBuiltins x
 nolimit:base.NoLimit
structure Cx where
 prog:Program
 w:World
 K:PySem.W.Frag
 mg:Str->Option Value
 base:Heap
 A:Around
 N:List Str
 s₀:Shared
 H₀:Hp
 env:Env
 outer:List Env
 stack:List Env
 ex:List Addr
 fn:Str->Bool
 calm:Bool
 pn:List (Addr×Obj)
 xe:Value->Shared->Prop
def frs (l:List Env):List Addr:=l.filterMap (·.frame)
abbrev Cx.fs (X:Cx):List Addr:=frs X.outer
def Vis (sc:Scope)(x:Str):Prop:=sc.names.lookup x=some .local∨sc.names.lookup x=some .cell∨sc.names.lookup x=some .free
def Loc (sc:Scope)(x:Str):Prop:=sc.names.lookup x=some .local∨sc.names.lookup x=some .cell
def aB3 (env:Env)(h:Heap)(m:Str->Option Value)(x:Str)(u:Value):Prop :=
 (env.kindOf x=some .local/\m x=some u)∨((env.kindOf x=some .cell∨env.kindOf x=some .free)/\∃c,env.cells.lookup x=some c/\h.IsCell c (some u))
structure Cx.Ok (X:Cx):Prop where
 mod:Mod X.K X.mg X.base
 kind:X.env.scope.kind= .function
 glob:X.env.globals=mainGlobals
 blt:X.env.builtins=builtinsNs
 above:X.s₀.heap.objs.size<=X.env.locals
 inj:∀x y c,X.env.cells.lookup x=some c->X.env.cells.lookup y=some c->x=y
 has:∀x,(X.env.kindOf x=some .cell∨X.env.kindOf x=some .free)->∃c,X.env.cells.lookup x=some c
 cab:∀x c,X.fn x=true->X.env.cells.lookup x=some c->X.s₀.heap.objs.size<=c
 hd:X.calm=true->X.A.handled=none
 frames:X.A.frames=some X.stack
 stk:X.stack=X.outer∨(X.stack=X.env::X.outer/\X.env.frame=some X.env.locals)
 exf:∀b∈X.ex,b≠X.env.locals/\∀x c,X.env.cells.lookup x=some c->c≠b
 bs:∀b o,X.base.get? b=some o->X.s₀.heap.get? b=some o/\X.H₀ b=none
 bsz:X.base.objs.size<=X.s₀.heap.objs.size
 noex:∀b o,X.base.get? b=some o->b∉X.ex
 exfs:∀b∈X.ex,b∉X.fs
 funs:X.s₀.heap.FunFrames X.base X.outer
 frf:∀b∈X.fs,X.H₀ b=none
structure Inv (X:Cx)(pins:List (Addr×Obj))(σ:List (Option V))(H:Hp)(s:Shared):Prop where
 ok:X.Ok
 os:s.os=X.s₀.os
 bare:AllBare s.gens
 base:Un X.fs X.ex X.H₀ H X.s₀.heap s.heap
 loc:∃m,s.heap.Ns X.env.locals m/\∀(i:Nat) (x:Str) (v:V),X.N[i]? =some x->σ[i]? =some (some v)->Vis X.env.scope x->∃u,RelV v u/\aB3 X.env s.heap m x u
 cell:∀x c,X.env.cells.lookup x=some c->∃v,s.heap.IsCell c v
 free:H X.env.locals=none
 freeC:∀x c,X.env.cells.lookup x=some c->H c=none
 pin:∀p∈X.pn++pins,s.heap.get? p.1=some p.2/\H p.1=none/\p.1≠X.env.locals/\p.1∉X.fs/\∀v,p.2.data≠ .cell v
 hok:HOk X.prog X.w H s.heap
 len:σ.length=X.N.length
section
variable {X:Cx}{pins:List (Addr×Obj)}{σ:List (Option V)}{H H':Hp}{s:Shared}{h':Heap}
theorem Cx.Ok.nofr (ok:X.Ok){b:Addr}{o:Obj} (e:X.base.get? b=some o):b∉X.fs:=fun hb=>by
 have:=(ok.funs.mem hb).1;rw[e]at this;cases this
theorem Inv.bs (I:Inv X pins σ H s):∀b o,X.base.get? b=some o->s.heap.get? b=some o/\H b=none:=fun b o e =>
 ⟨I.base.keep b o (I.ok.bs b o e).1 (I.ok.bs b o e).2 (I.ok.nofr e) (I.ok.noex b o e),I.base.free b o (I.ok.bs b o e).1 (I.ok.bs b o e).2 (I.ok.noex b o e)⟩
theorem Inv.bk (I:Inv X pins σ H s):∀b o,X.base.get? b=some o->s.heap.get? b=some o:=fun b o e=>(I.bs b o e).1
theorem Inv.mod (I:Inv X pins σ H s):Mod X.K X.mg X.base:=I.ok.mod
theorem Inv.kIn (I:Inv X pins σ H s):X.K.In s.heap:=I.ok.mod.kin.keeps I.bk
theorem Inv.lt (I:Inv X pins σ H s):X.env.locals<s.heap.objs.size:=let ⟨_,hn,_⟩:=I.loc;hn.lt
theorem Inv.sz (I:Inv X pins σ H s):X.s₀.heap.objs.size<=s.heap.objs.size:=Nat.le_trans I.ok.above (Nat.le_of_lt I.lt)
theorem Inv.nofs (I:Inv X pins σ H s){a:Addr}(h:s.heap.objs.size<=a):a∉X.fs:=fun hb=>by
 obtain⟨_,o,ho,_⟩:=I.ok.funs.mem hb;exact absurd (Nat.lt_of_lt_of_le (Heap.lt_size ho) (Nat.le_trans I.sz h)) (Nat.lt_irrefl _)
theorem Inv.cne (I:Inv X pins σ H s):∀x c,X.env.cells.lookup x=some c->c≠X.env.locals:=fun x c e z=>by
 obtain⟨v,o,ho,hd⟩:=I.cell x c e;obtain⟨m,⟨o',es,ep,ho',hd',_⟩,_⟩:=I.loc;rw[z,ho']at ho;cases ho;rw[hd']at hd;cases hd
theorem Inv.funs (I:Inv X pins σ H s):s.heap.FunFrames X.base X.outer:=by
 have all:∀(l:List Env),(∀b∈frs l,b∈X.fs)->X.s₀.heap.FunFrames X.base l->s.heap.FunFrames X.base l:=by
  intro l
  induction l with
  | nil=>intro _ _;trivial
  | cons env r ih =>
   intro hs hl;obtain⟨hk,⟨L,o,hf,hn,ho,hd⟩,hr⟩:=hl;have hL:L∈X.fs:=hs L (by unfold frs;rw[List.filterMap_cons,hf];exact List.mem_cons_self);obtain⟨sl,e⟩:=I.base.slot L o ho (I.ok.frf L hL) hL fun z=>I.ok.exfs L z hL;exact⟨hk,⟨L,_,hf,hn,e,hd⟩,ih (fun b hb=>hs b (by unfold frs;rw[List.filterMap_cons,hf];exact List.mem_cons_of_mem _ hb)) hr⟩
 exact all X.outer (fun _ hb=>hb) I.ok.funs
theorem Inv.stack (I:Inv X pins σ H s):s.heap.FunFrames X.base X.stack:=by
 rcases I.ok.stk with e|⟨e,hf⟩
 ·rw[e];exact I.funs
 ·rw[e];obtain⟨m,hn,_⟩:=I.loc;refine .cons (by rw[I.ok.kind];decide) hf hn ?_ I.funs;exact Heap.get?_none_of_le (Nat.le_trans I.ok.bsz I.ok.above)
theorem Inv.stkSub (I:Inv X pins σ H s):∀b∈frs X.stack,b∈X.env.locals::X.fs:=fun b hb=>by
 rcases I.ok.stk with e|⟨e,hf⟩
 ·rw[e]at hb;exact List.mem_cons_of_mem _ hb
 ·rw[e]at hb;unfold frs at hb;rw[List.filterMap_cons,hf]at hb;exact hb
theorem Inv.stkFree (I:Inv X pins σ H s):∀b∈frs X.stack,H b=none:=fun b hb=>by
 rcases List.mem_cons.mp (I.stkSub b hb) with e|hb
 ·rw[e];exact I.free
 ·obtain⟨_,o,ho,_⟩:=I.ok.funs.mem hb;exact I.base.free b o ho (I.ok.frf b hb) fun z=>I.ok.exfs b z hb
theorem Inv.step {g':Array GenState}{t':Nat}{d':Drawn}{ch:List Addr} (I:Inv X pins σ H s)
  (hch:∀b∈ch,(b∈X.ex∨X.s₀.heap.objs.size<=b)/\b≠X.env.locals/\(∀x c,X.env.cells.lookup x=some c->c≠b)/\∀p∈X.pn++pins,p.1≠b)
  (keep:∀b o,b≠X.env.locals->b∉X.fs->b∉ch->s.heap.get? b=some o->H b=none->h'.get? b=some o)
  (slot:∀b o,b≠X.env.locals->b∈X.fs->b∉ch->s.heap.get? b=some o->H b=none->∃sl,h'.get? b=some { o with slots:=sl })(free:∀b o,b∉ch->s.heap.get? b=some o->H b=none->H' b=none)
  (there:∀b o,b∉ch->s.heap.get? b=some o->∃o',h'.get? b=some o')
  (tups:∀b xs,H b=some (.tup xs)->H' b=some (.tup xs))(frzs:∀b o u,H b=some (.frz o u)->H' b=some (.frz o u))(tbls:∀b ps,H b=some (.tbl ps)->∃more,H' b=some (.tbl (ps++more)))
  (ns:∀m,s.heap.Ns X.env.locals m->h'.Ns X.env.locals m)(hok:HOk X.prog X.w H' h')(hg:AllBare g') :
  Inv X pins σ H' { s with heap:=h',gens:=g',drawn:=d',toks:=t' }:=by
 have neL:∀b o,X.s₀.heap.get? b=some o->b≠X.env.locals:=fun b o e=>Nat.ne_of_lt (Nat.lt_of_lt_of_le (Heap.lt_size e) I.ok.above);have neC:∀b o,X.s₀.heap.get? b=some o->b∉X.ex->b∉ch:=fun b o e hx hb=>by
  rcases (hch b hb).1 with z|z
  ·exact hx z
  ·exact absurd (Nat.lt_of_lt_of_le (Heap.lt_size e) z) (Nat.lt_irrefl _)
 have cellK:∀x c,X.env.cells.lookup x=some c->∀v,s.heap.IsCell c v->h'.IsCell c v:=fun x c e v ⟨o,ho,hd⟩=>by
  have nch:c∉ch:=fun z=>(hch c z).2.2.1 x c e rfl
  by_cases hc:c∈X.fs
  ·obtain⟨sl,q⟩:=slot c o (I.cne x c e) hc nch ho (I.freeC x c e);exact⟨_,q,hd⟩
  ·exact⟨o,keep c o (I.cne x c e) hc nch ho (I.freeC x c e),hd⟩
 refine⟨I.ok,I.os,hg,⟨fun b o e n hb hx=> ?_,fun b o e n hb hx=> ?_,fun b o e n hx=> ?_,fun b o e hx=> ?_,fun b xs e=>tups b xs (I.base.tups b xs e),fun b o xs e=>frzs b o xs (I.base.frzs b o xs e),fun b ps e=> ?_⟩,?_,fun x c e=> ?_,?_,fun x c e=> ?_,fun p hp=> ?_,hok,I.len⟩
 ·exact keep b o (neL b o e) hb (neC b o e hx) (I.base.keep b o e n hb hx) (I.base.free b o e n hx)
 ·obtain⟨sl,e1⟩:=I.base.slot b o e n hb hx;obtain⟨sl',e2⟩:=slot b _ (neL b o e) hb (neC b o e hx) e1 (I.base.free b o e n hx);exact⟨sl',e2⟩
 ·obtain⟨o',e1⟩:=I.base.there b o e hx;exact free b o' (neC b o e hx) e1 (I.base.free b o e n hx)
 ·obtain⟨o',e1⟩:=I.base.there b o e hx;exact there b o' (neC b o e hx) e1
 ·obtain⟨m1,e1⟩:=I.base.tbls b ps e;obtain⟨m2,e2⟩:=tbls b _ e1;exact⟨m1++m2,by rw[e2,Array.append_assoc]⟩
 ·obtain⟨m,hn,hl⟩:=I.loc;refine⟨m,ns m hn,fun i x v e1 e2 e3=> ?_⟩;obtain⟨u,r,l⟩:=hl i x v e1 e2 e3;refine⟨u,r,?_⟩;rcases l with l|⟨k,c,e,z⟩
  ·exact .inl l
  ·exact .inr ⟨k,c,e,cellK x c e _ z⟩
 ·obtain⟨v,z⟩:=I.cell x c e;exact⟨v,cellK x c e v z⟩
 ·obtain⟨m,⟨o,_,_,ho,_⟩,_⟩:=I.loc;exact free _ o (fun z=>(hch _ z).2.1 rfl) ho I.free
 ·obtain⟨v,o,ho,hd⟩:=I.cell x c e;exact free c o (fun z=>(hch c z).2.2.1 x c e rfl) ho (I.freeC x c e)
 ·obtain⟨e,n,ne,nf,d⟩:=I.pin p hp;have nch:p.1∉ch:=fun z=>(hch p.1 z).2.2.2 p hp rfl;exact⟨keep p.1 p.2 ne nf nch e n,free p.1 p.2 nch e n,ne,nf,d⟩
theorem Inv.un {t':Nat}(I:Inv X pins σ H s)(u:Un X.fs [] H H' s.heap h')(hok:HOk X.prog X.w H' h'):Inv X pins σ H' { s with heap:=h',toks:=t' }:=by
 obtain⟨m,⟨o,es,ep,ho,r⟩,_⟩:=id I.loc;obtain⟨sl,hL⟩:=u.any ho I.free (by simp);exact I.step (g':=s.gens) (d':=s.drawn) (ch:=[]) (fun _ z=>nomatch z) (fun b o _ hb _ e n=>u.keep b o e n hb (by simp)) (fun b o _ hb _ e n=>u.slot b o e n hb (by simp)) (fun b o _ e n=>u.free b o e n (by simp)) (fun b o _ e=>u.there b o e (by simp)) u.tups u.frzs u.tbls (fun m' hm=>by
  obtain⟨o',es',ep',ho',r'⟩:=hm;rw[ho]at ho';cases ho';exact⟨_,es',ep',hL,r'⟩) hok I.bare
theorem Inv.call {g':Array GenState}{t':Nat}{d':Drawn}{ch:List Addr} (I:Inv X pins σ H s) (u:Un (frs X.stack) ch H H' s.heap h') (hok:HOk X.prog X.w H' h') (hg:AllBare g')
  (hch:∀b∈ch,(b∈X.ex∨X.s₀.heap.objs.size<=b)/\b≠X.env.locals/\(∀x c,X.env.cells.lookup x=some c->c≠b)/\∀p∈X.pn++pins,p.1≠b) :
  Inv X pins σ H' { s with heap:=h',gens:=g',drawn:=d',toks:=t' }:=by
 obtain⟨m,⟨o,es,ep,ho,r⟩,_⟩:=id I.loc;obtain⟨sl,hL⟩:=u.any ho I.free fun z=>(hch _ z).2.1 rfl;exact I.step (ch:=ch) hch (fun b o hL hb hc e n=>u.keep b o e n (fun z=>(List.mem_cons.mp (I.stkSub b z)).elim hL hb) hc) (fun b o _ _ hc e n=>u.any e n hc) (fun b o hc e n=>u.free b o e n hc) (fun b o hc e=>u.there b o e hc) u.tups u.frzs u.tbls (fun m' hm=>by
  obtain⟨o',es',ep',ho',r'⟩:=hm;rw[ho]at ho';cases ho';exact⟨_,es',ep',hL,r'⟩) hok hg
theorem Inv.turned {t':Nat}{it:Addr} (I:Inv X pins σ H s) (k:∀b o,b≠it->s.heap.get? b=some o->h'.get? b=some o) (hn:H it=none) (hL:it≠X.env.locals)
  (h1:it∈X.ex∨X.s₀.heap.objs.size<=it)(h2:∀x c,X.env.cells.lookup x=some c->c≠it)(h3:∀p∈X.pn++pins,p.1≠it):Inv X pins σ H { s with heap:=h',toks:=t' }:=by
 have nit:∀b u,H b=some u->b≠it:=fun b u e z=>by rw[z,hn]at e;cases e
 refine I.step (g':=s.gens) (d':=s.drawn) (ch:=[it]) (fun b hb=> ?_) (fun b o _ _ hc e _=>k b o (fun z=>hc (by simp[z])) e) (fun b o _ _ hc e _=>⟨o.slots,k b o (fun z=>hc (by simp[z])) e⟩) (fun _ _ _ _ n=>n)
  (fun b o hc e=>⟨o,k b o (fun z=>hc (by simp[z])) e⟩) (fun _ _ e=>e) (fun _ _ _ e=>e) (fun b ps e=>⟨#[],by rw[e];simp⟩) (fun m hm=> ?_) (fun b u e=> ?_) I.bare
 ·have e:b=it:=by simpa using hb
  subst e;exact⟨h1,hL,h2,h3⟩
 ·obtain⟨o,es,ep,ho,r⟩:=hm;exact⟨o,es,ep,k _ o (Ne.symm hL) ho,r⟩
 ·refine(I.hok b u e).stay (fun c v hc q=>k c v ?_ q) (fun _ q=>q) fun _ _ q=>q;rcases hc with z|z
  ·rw[z];exact nit b u e
  ·exact nit c _ z
theorem Inv.tok (I:Inv X pins σ H s)(t:Nat):Inv X pins σ H { s with toks:=t }:=I.un (h':=s.heap) (t':=t) Un.refl I.hok
theorem Inv.kept {t':Nat}(I:Inv X pins σ H s)(k:∀b u,s.heap.get? b=some u->h'.get? b=some u):Inv X pins σ H { s with heap:=h',toks:=t' }:=I.un (Un.kept k) (I.hok.kept k)
theorem Inv.laid {a:Addr}{o:HO}{t':Nat} (I:Inv X pins σ H s) (k:∀b u,s.heap.get? b=some u->h'.get? b=some u) (hp:s.heap.objs.size<=a) (new:ObjOk X.prog X.w (upd H a o) h' a o) :
  Inv X pins σ (upd H a o) { s with heap:=h',toks:=t' }:=I.un (Un.laid k hp (I.hok.fresh hp)) (I.hok.laid k hp new)
theorem Inv.write {x e:Addr}{o:HO}{t':Nat} (I:Inv X pins σ H s) (mu:Mut (H x)) (he:e=x∨H e=some (.own x)) (k:∀b u,b≠e->s.heap.get? b=some u->h'.get? b=some u) (heo:∃u,h'.get? e=some u)
  (new:ObjOk X.prog X.w (upd H x o) h' x o):Inv X pins σ (upd H x o) { s with heap:=h',toks:=t' }:=I.un (Un.write mu he k heo) (I.hok.write mu he k heo new)
theorem Inv.weak {σ':List (Option V)}(I:Inv X pins σ H s)(hl:σ'.length=σ.length)(w:∀(i:Nat) v,σ'[i]? =some (some v)->σ[i]? =some (some v)):Inv X pins σ' H s :=
 ⟨I.ok,I.os,I.bare,I.base,let ⟨m,hn,hl'⟩:=I.loc;⟨m,hn,fun i x v e1 e2 e3=>hl' i x v e1 (w i v e2) e3⟩,I.cell,I.free,I.freeC,I.pin,I.hok,hl.trans I.len⟩
theorem Inv.pins_of {pins':List (Addr×Obj)}(I:Inv X pins σ H s)(h:∀p∈pins',s.heap.get? p.1=some p.2/\H p.1=none/\p.1≠X.env.locals/\p.1∉X.fs/\∀v,p.2.data≠ .cell v):Inv X pins' σ H s :=
 ⟨I.ok,I.os,I.bare,I.base,I.loc,I.cell,I.free,I.freeC,fun p hp=>(List.mem_append.mp hp).elim (fun z=>I.pin p (List.mem_append_left _ z)) (h p),I.hok,I.len⟩
theorem wW {N:List Str}(hN:N.Nodup){i j:Nat}{x:Str} (a:N[i]? =some x) (b:N[j]? =some x):i=j:=by
 obtain⟨h1,e1⟩:=List.getElem?_eq_some_iff.mp a;obtain⟨h2,e2⟩:=List.getElem?_eq_some_iff.mp b;exact(List.getElem_inj hN).mp (e1.trans e2.symm)
theorem NZ {M:Model}{A:Around}{E:Value->Shared->Prop}{i:Nat}{x:Str}{v:V}{u:Value}{Q:Unit->Shared->Prop} (I:Inv X pins σ H s) (hN:X.N.Nodup) (hi:X.N[i]? =some x) (hx:Loc X.env.scope x) (r:RelV v u)
  (h:∀s',Inv X pins (σ.set i (some v)) H s'->(∃a,Heap.SameBut a s.heap s'.heap/\(a=X.env.locals∨X.env.cells.lookup x=some a))->Q () s')(hf:X.fn x=true∨X.env.scope.names.lookup x=some .local:=by first|exact .inl rfl|exact .inr rfl|assumption):wpAny M A (storeName X.env x u) Q E s:=by
 obtain⟨m,hn,hl⟩:=id I.loc;have hcls:(X.env.scope.kind== .class||(X.env.scope.kind== .module&&X.env.locals !=X.env.globals))=false:=by rw[I.ok.kind];rfl
 have hiσ:i<σ.length:=by rw[I.len];exact(List.getElem?_eq_some_iff.mp hi).1
 have cne:=I.cne;have tracked:∀{a:Addr}{h':Heap},(∃o,s.heap.get? a=some o/\H a=none)->Heap.SameBut a s.heap h'->HOk X.prog X.w H h':=fun {a h'} ha hs b ob e=>by
  obtain⟨_,_,hfree⟩:=ha;refine(I.hok b ob e).stay (fun c w' hc q=>(hs.2 c ?_).trans q) (fun _ q=>q) fun _ _ q=>q;rintro rfl;rcases hc with rfl|hc
  ·rw[hfree]at e;cases e
  ·rw[hfree]at hc;cases hc
 rcases hx with hk|hk
 ·refine wpAny_storeName_local hk hn (fun h' hn' hs=> ?_) hcls;obtain⟨oL,_,_,hoL,_⟩:=id hn;refine h _ ⟨I.ok,I.os,I.bare,⟨fun b o e n hb hx=> ?_,fun b o e n hb hx=> ?_,I.base.free,fun b o e hx=> ?_,I.base.tups,I.base.frzs,I.base.tbls⟩,⟨_,hn',fun j y v' e1 e2 e3=> ?_⟩,fun y c e=> ?_,I.free,I.freeC,fun p hp=> ?_,tracked ⟨oL,hoL,I.free⟩ hs,by simpa using I.len⟩ ⟨_,hs,.inl rfl⟩
  ·exact(hs.2 b (Nat.ne_of_lt (Nat.lt_of_lt_of_le (Heap.lt_size e) I.ok.above))).trans (I.base.keep b o e n hb hx)
  ·obtain⟨sl,e1⟩:=I.base.slot b o e n hb hx;exact⟨sl,(hs.2 b (Nat.ne_of_lt (Nat.lt_of_lt_of_le (Heap.lt_size e) I.ok.above))).trans e1⟩
  ·obtain⟨o',e1⟩:=I.base.there b o e hx;exact⟨o',(hs.2 b (Nat.ne_of_lt (Nat.lt_of_lt_of_le (Heap.lt_size e) I.ok.above))).trans e1⟩
  ·by_cases hj:j=i
   ·subst hj;rw[hi]at e1;cases e1;rw[List.getElem?_set_self hiσ]at e2;cases e2;exact⟨u,r,.inl ⟨hk,by simp⟩⟩
   ·rw[List.getElem?_set_ne (Ne.symm hj)]at e2;obtain⟨u',r',q⟩:=hl j y v' e1 e2 e3;refine⟨u',r',?_⟩;rcases q with⟨k,e⟩|⟨k,c,e,z⟩
    ·refine .inl ⟨k,?_⟩;have:y≠x:=fun e=>hj (wW hN e1 (e▸hi));simp[this,e]
    ·exact .inr ⟨k,c,e,z.sameBut hs (cne y c e)⟩
  ·obtain⟨w',z⟩:=I.cell y c e;exact⟨w',z.sameBut hs (cne y c e)⟩
  ·obtain⟨e,n,ne,nf,d⟩:=I.pin p hp;exact⟨(hs.2 p.1 ne).trans e,n,ne,nf,d⟩
 ·have hfn:X.fn x=true:=by
   rcases hf with z|z
   ·exact z
   ·rw[z]at hk;cases hk
  obtain⟨c,hc⟩:=I.ok.has x (.inl hk);obtain⟨w',z⟩:=I.cell x c hc;refine wpAny_storeName_cell I.ok.kind hk hc z (fun h' hc' hs=> ?_);obtain⟨oc,hoc,hocd⟩:=id z;refine h { s with heap:=h' } ⟨I.ok,I.os,I.bare,⟨fun b o e n hb hx=> ?_,fun b o e n hb hx=> ?_,I.base.free,fun b o e hx=> ?_,I.base.tups,I.base.frzs,I.base.tbls⟩,⟨m,hn.sameBut hs (Ne.symm (cne x c hc)),fun j y v' e1 e2 e3=> ?_⟩,fun y c' e=> ?_,I.free,I.freeC,fun p hp=> ?_,tracked ⟨oc,hoc,I.freeC x c hc⟩ hs,by simpa using I.len⟩ ⟨c,hs,.inr hc⟩
  ·exact(hs.2 b (Nat.ne_of_lt (Nat.lt_of_lt_of_le (Heap.lt_size e) (I.ok.cab x c hfn hc)))).trans (I.base.keep b o e n hb hx)
  ·obtain⟨sl,e1⟩:=I.base.slot b o e n hb hx;exact⟨sl,(hs.2 b (Nat.ne_of_lt (Nat.lt_of_lt_of_le (Heap.lt_size e) (I.ok.cab x c hfn hc)))).trans e1⟩
  ·obtain⟨o',e1⟩:=I.base.there b o e hx;exact⟨o',(hs.2 b (Nat.ne_of_lt (Nat.lt_of_lt_of_le (Heap.lt_size e) (I.ok.cab x c hfn hc)))).trans e1⟩
  ·by_cases hj:j=i
   ·subst hj;rw[hi]at e1;cases e1;rw[List.getElem?_set_self hiσ]at e2;cases e2;exact⟨u,r,.inr ⟨.inl hk,c,hc,hc'⟩⟩
   ·rw[List.getElem?_set_ne (Ne.symm hj)]at e2;obtain⟨u',r',q⟩:=hl j y v' e1 e2 e3;refine⟨u',r',?_⟩;rcases q with q|⟨k,c',e,z'⟩
    ·exact .inl q
    ·refine .inr ⟨k,c',e,z'.sameBut hs ?_⟩;rintro rfl;exact hj (wW hN e1 (I.ok.inj _ _ _ e hc▸hi))
  ·by_cases hcc:c'=c
   ·subst hcc;exact⟨_,hc'⟩
   ·obtain⟨w2,z2⟩:=I.cell y c' e;exact⟨w2,z2.sameBut hs hcc⟩
  ·obtain⟨e,n,ne,nf,d⟩:=I.pin p hp;refine⟨(hs.2 p.1 ?_).trans e,n,ne,nf,d⟩;intro q;rw[q,hoc]at e;have q':oc=p.2:=Option.some.inj e;exact d w' (by rw[←q'];exact hocd)
theorem rJ {M:Model}{A:Around}{E:Value->Shared->Prop}{i:Nat}{x:Str}{v:V}{u:Value}{Q:Unit->Shared->Prop} (I:Inv X pins σ H s) (hN:X.N.Nodup) (hi:X.N[i]? =some x) (hx:Loc X.env.scope x) (r:RelV v u)
  (h:∀s',Inv X pins (σ.set i (some v)) H s'->Q () s')(hf:X.fn x=true∨X.env.scope.names.lookup x=some .local:=by first|exact .inl rfl|exact .inr rfl|assumption):wpAny M A (storeName X.env x u) Q E s :=
 NZ I hN hi hx r (fun s' I' _=>h s' I') hf
theorem Inv.call' {s':Shared}{ch:List Addr} (I:Inv X pins σ H s) (ho:s'.os=s.os) (u:Un (frs X.stack) ch H H' s.heap s'.heap) (hok:HOk X.prog X.w H' s'.heap) (hg:AllBare s'.gens)
  (hch:∀b∈ch,(b∈X.ex∨X.s₀.heap.objs.size<=b)/\b≠X.env.locals/\(∀x c,X.env.cells.lookup x=some c->c≠b)/\∀p∈X.pn++pins,p.1≠b):Inv X pins σ H' s':=by
 obtain⟨h',g',d',t',o'⟩:=s';have e:o'=s.os:=ho;subst e;exact I.call (g':=g') (t':=t') (d':=d') u hok hg hch
end
abbrev XK:=Value->Option Addr->Hp->Prop
abbrev St:=List (Option V)
abbrev VK:=V->Hp->Prop
abbrev TE:=St->Hp->VK->Prop
abbrev TT:=St->Hp->(Bool->Hp->Prop)->Prop
abbrev TA:=St->Hp->(List V->Hp->Prop)->Prop
structure kJ where
 nx:St->Hp->Prop
 rt:VK
 bk:St->Hp->Prop:=fun _ _=>False
 ct:St->Hp->Prop:=fun _ _=>False
abbrev TS:=kJ->St->Hp->Prop
def EP (X:Cx)(pins:List (Addr×Obj))(σ:St)(Q:VK)(u:Value)(s':Shared):Prop:=∃v H',Inv X pins σ H' s'/\RelV v u/\Q v H'
def TP (X:Cx)(pins:List (Addr×Obj))(σ:St)(Q:Bool->Hp->Prop)(b:Bool)(s':Shared):Prop:=∃H',Inv X pins σ H' s'/\Q b H'
def AP (X:Cx)(pins:List (Addr×Obj))(σ:St)(Q:List V->Hp->Prop)(us:List Value)(s':Shared):Prop:=∃vs H',Inv X pins σ H' s'/\Vals vs us/\Q vs H'
def SP (X:Cx)(pins:List (Addr×Obj))(D:kJ)(f:Flow)(s':Shared):Prop :=
 match f with
 | .next=>∃σ' H',Inv X pins σ' H' s'/\D.nx σ' H'
 | .brk=>∃σ' H',Inv X pins σ' H' s'/\D.bk σ' H'
 | .cont=>∃σ' H',Inv X pins σ' H' s'/\D.ct σ' H'
 | .ret u=>∃v σ' H',Inv X pins σ' H' s'/\RelV v u/\D.rt v H'
def PE (X:Cx)(e:Expr)(t:TE):Prop :=
 ∀(pins:List (Addr×Obj)) (s:Shared) (σ:St) (H:Hp) (Q:VK),Inv X pins σ H s->t σ H Q->wpAny (model X.prog X.w) X.A (eval e X.env) (EP X pins σ Q) X.xe s
def PT (X:Cx)(e:Expr)(t:TT):Prop :=
 ∀(pins:List (Addr×Obj)) (s:Shared) (σ:St) (H:Hp) (Q:Bool->Hp->Prop),Inv X pins σ H s->t σ H Q->wpAny (model X.prog X.w) X.A (isTrue e X.env (eval e X.env)) (TP X pins σ Q) X.xe s
def PW (X:Cx)(e:Expr)(t:TT):Prop :=
 ∀(whole:Sem Value) (pins:List (Addr×Obj)) (s:Shared) (σ:St) (H:Hp) (Q:Bool->Hp->Prop),Inv X pins σ H s->t σ H Q->wpAny (model X.prog X.w) X.A (isTrue e X.env whole) (TP X pins σ Q) X.xe s
theorem PW.pt {X:Cx}{e:Expr}{t:TT} (h:PW X e t):PT X e t:=h _
def PA (X:Cx)(es:List Expr)(t:TA):Prop :=
 ∀(pos:Pos) (pins:List (Addr×Obj)) (s:Shared) (σ:St) (H:Hp) (Q:List V->Hp->Prop),Inv X pins σ H s->t σ H Q->wpAny (model X.prog X.w) X.A (spliced (backTo pos (starEach es X.env))) (AP X pins σ Q) X.xe s
def PS (X:Cx)(st:Stmt)(t:TS):Prop :=
 ∀(pins:List (Addr×Obj)) (s:Shared) (σ:St) (H:Hp) (D:kJ),Inv X pins σ H s->t D σ H->wpAny (model X.prog X.w) X.A (exec st X.env) (SP X pins D) X.xe s
def PSs (X:Cx)(st:List Stmt)(t:TS):Prop :=
 ∀(pins:List (Addr×Obj)) (s:Shared) (σ:St) (H:Hp) (D:kJ),Inv X pins σ H s->t D σ H->wpAny (model X.prog X.w) X.A (execs st X.env) (SP X pins D) X.xe s
theorem thn {α:Type}{t:Sem α}{Q Q':α->Shared->Prop}{M:Model}{A:Around}{E:Value->Shared->Prop}{s:Shared} (h:wpAny M A t Q E s) (hQ:∀a s,Q a s->Q' a s):wpAny M A t Q' E s:=wpAny_mono h hQ fun _ _ x=>x
end L2
namespace L2
open PySem PySem.Spec PyProof.Rows
section
variable {X:Cx}
def k7 (i:Nat):TE:=fun σ H Q=>∃v,σ[i]? =some (some v)/\Q v H
def tC (v:V):TE:=fun _ H Q=>Q v H
theorem Z5 {i:Nat}{x:Str}{pos:Pos} (hN:X.N[i]? =some x) (hv:Vis X.env.scope x) (hd:(x==("__debug__" :Str))=false:=by decide) (hcd:(x==("__classdict__" :Str))=false:=by decide):PE X (.Name x pos) (k7 i):=by
 intro pins s σ H Q I h;obtain⟨v,e,h⟩:=h;obtain⟨m,hn,hl⟩:=I.loc;obtain⟨u,r,l⟩:=hl i x v hN e hv;have fin:EP X pins σ Q u s:=⟨v,H,I,r,h⟩
 rcases l with⟨hk,hm⟩|⟨hk,c,hc,hcell⟩
 ·exact wpAny_Name (wpAny_loadName_local I.ok.kind hk hn hm fin) hd
 ·rcases hk with hk|hk
  ·exact wpAny_Name (wpAny_loadName_cell I.ok.kind hk hc hcell fin) hd
  ·exact wpAny_Name (wpAny_loadName_free I.ok.kind hk hc hcell fin hcd) hd
theorem aG {i j pos}:PE X (.Constant (.int i) j pos) (tC (.int i)):=fun _ _ _ H _ I h=>wpAny_Constant_int ⟨.int i,H,I.tok _,⟨_,rfl⟩,h⟩
theorem DR {b j pos}:PE X (.Constant (.bool b) j pos) (tC (.bl b)):=fun _ _ _ H _ I h=>Constant_bool ⟨.bl b,H,I,rfl,h⟩
theorem mJ {j pos}:PE X (.Constant .none j pos) (tC .non):=fun _ _ _ H _ I h=>Constant_none ⟨.non,H,I,rfl,h⟩
theorem gR {x j pos}:PE X (.Constant (.str x) j pos) (tC (.str x)):=fun _ _ _ H _ I h=>Calls.Constant_str ⟨.str x,H,I.tok _,⟨_,rfl⟩,h⟩
def Gl (X:Cx)(x:Str):Prop:=X.env.kindOf x=some .globalImplicit
theorem nX {E:Value->Shared->Prop}{pins:List (Addr×Obj)}{s:Shared}{σ:St}{H:Hp}{x:Str}{u:Value}{pos:Pos}{Q:Value->Shared->Prop} (I:Inv X pins σ H s) (hg:Gl X x) (hm:X.mg x=some u) (h:Q u s)
  (hd:(x==("__debug__" :Str))=false:=by decide):wpAny (model X.prog X.w) X.A (eval (.Name x pos) X.env) Q E s :=
 Calls.Name_function_global I.ok.kind hg (Calls.loadGlobal_global (by rw[I.ok.glob];exact I.mod.glob.keeps I.bk) hm h) hd
theorem tQ {E:Value->Shared->Prop}{pins:List (Addr×Obj)}{s:Shared}{σ:St}{H:Hp}{x:Str}{u:Value}{pos:Pos}{Q:Value->Shared->Prop} (I:Inv X pins σ H s) (hg:Gl X x) (hm:X.mg x=none) (hv:bootBuiltins x=some u) (h:Q u s)
  (hn:x≠ "__name__" :=by decide)(hd:(x==("__debug__" :Str))=false:=by decide):wpAny (model X.prog X.w) X.A (eval (.Name x pos) X.env) Q E s:=by
 obtain⟨mb,h1,h2⟩:=I.mod.blt;exact Calls.Name_function_global I.ok.kind hg (Calls.loadGlobal_builtin (by rw[I.ok.glob];exact I.mod.glob.keeps I.bk) hm (by rw[I.ok.blt];exact h1.keeps I.bk) ((h2 x hn).trans hv) h) hd
theorem JL {x:Str}{v:V}{u:Value}{pos:Pos} (hg:Gl X x) (hm:X.mg x=some u) (r:RelV v u) (hd:(x==("__debug__" :Str))=false:=by decide):PE X (.Name x pos) (tC v) :=
 fun _ _ _ H _ I h=>nX I hg hm ⟨v,H,I,r,h⟩ hd
theorem WO {x:Str}{v:V}{u:Value}{pos:Pos} (hg:Gl X x) (hm:X.mg x=none) (hv:bootBuiltins x=some u) (r:RelV v u) (hn:x≠ "__name__" :=by decide) (hd:(x==("__debug__" :Str))=false:=by decide):PE X (.Name x pos) (tC v) :=
 fun _ _ _ H _ I h=>tQ I hg hm hv ⟨v,H,I,r,h⟩ hn hd
variable {a b:Expr}{ta tb:TE}{pos:Pos}
def PC (X:Cx)(op:CmpOp)(a b:Expr)(t:TE):Prop :=
 ∀(pins:List (Addr×Obj)) (s:Shared) (σ:St) (H:Hp) (Q:VK),Inv X pins σ H s->t σ H Q →
  wpAny (model X.prog X.w) X.A (eval a X.env) (fun v s₁=>wpAny (model X.prog X.w) X.A (eval b X.env) (fun u s₂=>wpAny (model X.prog X.w) X.A (compareOp op v u) (EP X pins σ Q) X.xe s₂) X.xe s₁) X.xe s
def tB (t:TE):TT:=fun σ H Q=>t σ H fun x H1=>∃c,x= .bl c/\Q c H1
theorem D8 {op:CmpOp}{t:TE} (h:PC X op a b t) (h1:behindInMarks op b=false:=by first|exact nobehind _ (by decide) (by decide)|rfl):PT X (.Compare a [op] [b] pos) (tB t):=by
 intro pins s σ H Q I hw;refine wpAny_isTrue_Compare1 (thn (h pins s σ H _ I hw) fun v s1 h1=>thn h1 fun u s2 h2=>thn h2 fun c s3 ⟨x,H1,I1,r1,q1⟩=> ?_) h1;obtain⟨d,rfl,q⟩:=q1;cases r1;exact wpAny_truthy_bool ⟨H1,I1,q⟩
theorem i6 {e:Expr}{t:TE} (h:PE X e t) (he:∀whole,isTrue e X.env whole=(do let v ←whole;standAt e.pos;holding [v] (truthy v)):=by intro _;rfl):PT X e (tB t):=by
 intro pins s σ H Q I hw;refine isTrue_plain (thn (h pins s σ H _ I hw) fun v s1 ⟨x,H1,I1,r1,q1⟩=> ?_) (he _);obtain⟨d,rfl,q⟩:=q1;cases r1;exact wpAny_truthy_bool ⟨H1,I1,q⟩
variable {tA tB':TT}{rest:List Expr}
def aAk (t u:TT):TT:=fun σ H Q=>t σ H fun c H1=>if c=true then u σ H1 Q else Q false H1
def tOr (t u:TT):TT:=fun σ H Q=>t σ H fun c H1=>if c=true then Q true H1 else u σ H1 Q
def YJ (t:TT):TT:=fun σ H Q=>t σ H fun c H1=>Q (!c) H1
theorem IL (ha:PT X a tA):PW X (.BoolOp .And [a] pos) tA:=by
 intro wh pins s σ H Q I h;refine isTrue_and (thn (ha pins s σ H Q I h) fun c s1 e=> ?_);cases c with
 | true=>exact isTrue_and_nil e
 | false=>exact e
theorem EX (ha:PT X a tA):PW X (.BoolOp .Or [a] pos) tA:=by
 intro wh pins s σ H Q I h;refine isTrue_or (thn (ha pins s σ H Q I h) fun c s1 e=> ?_);cases c with
 | false=>exact isTrue_or_nil e
 | true=>exact e
theorem PH (ha:PT X a tA)(hb:PW X (.BoolOp .And (b::rest) pos) tB'):PW X (.BoolOp .And (a::b::rest) pos) (aAk tA tB'):=by
 intro wh pins s σ H Q I h;refine isTrue_and (thn (ha pins s σ H _ I h) fun c s1 ⟨H1,I1,q1⟩=> ?_);cases c with
 | true=>exact hb wh pins s1 σ H1 Q I1 q1
 | false=>exact⟨H1,I1,q1⟩
theorem DS (ha:PT X a tA)(hb:PW X (.BoolOp .Or (b::rest) pos) tB'):PW X (.BoolOp .Or (a::b::rest) pos) (tOr tA tB'):=by
 intro wh pins s σ H Q I h;refine isTrue_or (thn (ha pins s σ H _ I h) fun c s1 ⟨H1,I1,q1⟩=> ?_);cases c with
 | true=>exact⟨H1,I1,q1⟩
 | false=>exact hb wh pins s1 σ H1 Q I1 q1
theorem tK (ha:PT X a tA):PT X (.UnaryOp .Not a pos) (YJ tA):=by
 intro pins s σ H Q I h;exact isTrue_not (ha pins s σ H (fun c H1=>Q (!c) H1) I h)
def TN (ta tb:TE):TE:=fun σ H Q=>ta σ H fun x H1=>∃c,x= .bl c/\if c=true then tb σ H1 Q else Q (.bl false) H1
def aBi (ta:TE):TE:=fun σ H Q=>ta σ H fun x H1=>∃c,x= .bl c/\Q (.bl (!c)) H1
theorem EN {op}{t:TE} (h:PE X a t):PE X (.BoolOp op [a] pos) t:=fun pins s σ H Q I hw=>BoolOp_one (h pins s σ H Q I hw)
theorem ED (ha:PE X a ta)(hb:PE X (.BoolOp .And (b::rest) pos) tb):PE X (.BoolOp .And (a::b::rest) pos) (TN ta tb):=by
 intro pins s σ H Q I h;refine BoolOp_and (thn (ha pins s σ H _ I h) fun v s1 ⟨x,H1,I1,r1,q1⟩=> ?_);obtain⟨c,rfl,q1⟩:=q1;cases r1;refine wpAny_truthy_bool ?_;cases c with
 | true=>exact hb pins s1 σ H1 Q I1 q1
 | false=>exact⟨.bl false,H1,I1,rfl,q1⟩
theorem aAO (ha:PE X a ta):PE X (.UnaryOp .Not a pos) (aBi ta):=by
 intro pins s σ H Q I h;refine UnaryOp_ (thn (ha pins s σ H _ I h) fun v s1 ⟨x,H1,I1,r1,q1⟩=> ?_);obtain⟨c,rfl,q1⟩:=q1;cases r1;exact not_of (wpAny_truthy_bool ⟨.bl (!c),H1,I1,rfl,q1⟩)
end
end L2
namespace L2
open PySem PySem.Spec PyProof.Rows
def SqL (K:PySem.W.Frag)(H:Hp)(a:Addr)(xs:List V):Prop :=
 Rd H a (.lst xs) ∨
  ∃(o:Obj) (its:Array Value) (n:Nat),K.lookup a=some o/\o.cls= .type "list" /\o.dict=none/\o.data= .seq its n/\its.size<=sizeLine/\Vals xs its.toList
def SqT (K:PySem.W.Frag)(H:Hp)(a:Addr)(xs:List V):Prop :=
 Rd H a (.tup xs) ∨
  ∃(o:Obj) (its:Array Value) (n:Nat),K.lookup a=some o/\o.cls= .type "tuple" /\o.data= .seq its n/\its.size<=sizeLine/\Vals xs its.toList
def aB1:Value->Option V
 | .none=>some .non
 | .bool b=>some (.bl b)
 | .int i _=>some (.int i)
 | .str x _=>some (.str x)
 | .bytes b _=>some (.byt b)
 | .float b _=>some (.flt b)
 | .ref a=>some (.ref a)
 | .type n=>some (.ty n)
 | _=>none
theorem RelV.abs {x:V}{u:Value} (r:RelV x u):aB1 u=some x:=by
 cases x with
 | non=>cases r;rfl
 | bl _=>cases r;rfl
 | int _=>obtain⟨t,rfl⟩:=r;rfl
 | str _=>obtain⟨t,rfl⟩:=r;rfl
 | byt _=>obtain⟨t,rfl⟩:=r;rfl
 | flt _=>obtain⟨t,rfl⟩:=r;rfl
 | ref _=>cases r;rfl
 | ty _=>cases r;rfl
theorem RelV.inj {x y:V}{u:Value} (r:RelV x u) (q:RelV y u):x=y:=Option.some.inj (r.abs.symm.trans q.abs)
theorem Vals.inj:∀{xs ys:List V}{us:List Value},Vals xs us->Vals ys us->xs=ys
 | _,_,_,.nil,.nil=>rfl
 | _,_,_,.cons r t,.cons r' t'=>by rw[r.inj r',Vals.inj t t']
section
variable {X:Cx}{pins:List (Addr×Obj)}{σ:St}{H:Hp}{s:Shared}{a:Addr}{xs ys:List V}
theorem SqL.of {K:PySem.W.Frag}(h:H a=some (.lst xs)):SqL K H a xs:= .inl (.inl h)
theorem SqT.of {K:PySem.W.Frag}(h:H a=some (.tup xs)):SqT K H a xs:= .inl (.inl h)
theorem Inv.list (I:Inv X pins σ H s)(h:SqL X.K H a xs):∃its:List Value,Vals xs its/\PlainL s.heap a its.toArray/\xs.length<=sizeLine:=by
 rcases h with h|⟨o,its,n,hk,hc,hd,hs,hz,r⟩
 ·obtain⟨z,its,n,r,e⟩:=h.ok I.hok;exact⟨its,r,⟨_,n,e,rfl,rfl,rfl⟩,z⟩
 ·refine⟨its.toList,r,⟨o,n,I.kIn a o hk,hc,hd,by simpa using hs⟩,?_⟩;have e:=r.length;simp only[Array.length_toList]at e
  lia
theorem Inv.tuple (I:Inv X pins σ H s)(h:SqT X.K H a xs):∃its:List Value,Vals xs its/\IsTup s.heap a its.toArray/\xs.length<=sizeLine:=by
 rcases h with h|⟨o,its,n,hk,hc,hs,hz,r⟩
 ·obtain⟨z,its,r,p⟩:=h.ok I.hok;exact⟨its,r,p,z⟩
 ·refine⟨its.toList,r,⟨o,I.kIn a o hk,hc,n,by simpa using hs⟩,?_⟩;have e:=r.length;simp only[Array.length_toList]at e
  lia
theorem Inv.list_inj (I:Inv X pins σ H s)(h:SqL X.K H a xs)(h':SqL X.K H a ys):xs=ys:=by
 obtain⟨its,r,⟨o,n,e,_,_,d⟩,_⟩:=I.list h;obtain⟨its',r',⟨o',n',e',_,_,d'⟩,_⟩:=I.list h';rw[e]at e';cases e';rw[d]at d';injection d' with d1 _;have:its=its':=by simpa using congrArg Array.toList d1
 subst this;exact r.inj r'
end
abbrev Cx.wish (X:Cx)(E:Value->Shared->Prop):Cx:={ X with xe:=E }
abbrev Cx.nox (X:Cx):Cx:=X.wish fun _ _=>False
theorem Cx.Ok.wish {X:Cx}(ok:X.Ok)(E:Value->Shared->Prop):(X.wish E).Ok :=
 ⟨ok.mod,ok.kind,ok.glob,ok.blt,ok.above,ok.inj,ok.has,ok.cab,ok.hd,ok.frames,ok.stk,ok.exf,ok.bs,ok.bsz,ok.noex,ok.exfs,ok.funs,ok.frf⟩
theorem Cx.Ok.unwish {X:Cx}{E:Value->Shared->Prop} (ok:(X.wish E).Ok):X.Ok :=
 ⟨ok.mod,ok.kind,ok.glob,ok.blt,ok.above,ok.inj,ok.has,ok.cab,ok.hd,ok.frames,ok.stk,ok.exf,ok.bs,ok.bsz,ok.noex,ok.exfs,ok.funs,ok.frf⟩
section
variable {X:Cx}{pins:List (Addr×Obj)}{σ:St}{H:Hp}{s:Shared}{E:Value->Shared->Prop}
theorem Inv.wish (I:Inv X pins σ H s)(E:Value->Shared->Prop):Inv (X.wish E) pins σ H s:=⟨I.ok.wish E,I.os,I.bare,I.base,I.loc,I.cell,I.free,I.freeC,I.pin,I.hok,I.len⟩
theorem Inv.unwish (I:Inv (X.wish E) pins σ H s):Inv X pins σ H s:=⟨I.ok.unwish,I.os,I.bare,I.base,I.loc,I.cell,I.free,I.freeC,I.pin,I.hok,I.len⟩
theorem SP.unwish {D:kJ}{f:Flow}{s':Shared} (h:SP (X.wish E) pins D f s'):SP X pins D f s':=by
 cases f with
 | next=>obtain⟨σ',H',I,q⟩:=h;exact⟨σ',H',I.unwish,q⟩
 | brk=>obtain⟨σ',H',I,q⟩:=h;exact⟨σ',H',I.unwish,q⟩
 | cont=>obtain⟨σ',H',I,q⟩:=h;exact⟨σ',H',I.unwish,q⟩
 | ret u=>obtain⟨v,σ',H',I,r,q⟩:=h;exact⟨v,σ',H',I.unwish,r,q⟩
theorem PSs.nox {st:List Stmt}{t:TS} (h:PSs X.nox st t):PSs X st t:=fun pins s σ H D I hw =>
 wpAny_mono (h pins s σ H D (I.wish _) hw) (fun _ _ q=>q.unwish) fun _ _ z=>False.elim z
end
section
variable {X:Cx}{st:Stmt}{rest:List Stmt}{t u:TS}{e:Expr}{te:TE}{pos:Pos}
def UW:TS:=fun D σ H=>D.nx σ H
def EI (t u:TS):TS:=fun D σ H=>t { D with nx:=u D } σ H
theorem b5:PSs X [] UW:=fun _ _ σ H _ I h=>wpAny_execs_nil ⟨σ,H,I,h⟩
theorem aD (h1:PS X st t)(h2:PSs X rest u):PSs X (st::rest) (EI t u):=by
 intro pins s σ H D I h;refine wpAny_execs_cons (thn (h1 pins s σ H { D with nx:=u D } I h) fun f s1 q=> ?_);cases f with
 | next =>
  obtain⟨σ',H',I',q⟩:=q;exact h2 pins s1 σ' H' D I' q
 | ret v=>exact q
 | brk=>exact q
 | cont=>exact q
theorem aE (h1:PS X st t):PSs X [st] t:=by
 intro pins s σ H D I h;refine wpAny_execs_cons (thn (h1 pins s σ H D I h) fun f s1 q=> ?_);cases f with
 | next=>exact wpAny_execs_nil q
 | ret v=>exact q
 | brk=>exact q
 | cont=>exact q
theorem Inv.quiet {pins:List (Addr×Obj)}{σ:St}{H:Hp}{s:Shared} (I:Inv X pins σ H s):interactive X.env=false:=by simp[interactive,I.ok.kind]
def UY (te:TE):TS:=fun D σ H=>te σ H fun _ H1=>D.nx σ H1
theorem bR (he:PE X e te)(hs:swapsWith e none pos.line X.env=pure false:=by rfl):PS X (.Expr e pos) (UY te):=by
 intro pins s σ H D I h;exact wpAny_Expr_any (thn (he pins s σ H _ I h) fun v s1 ⟨x,H1,I1,r1,q1⟩=>⟨σ,H1,I1,q1⟩) I.quiet hs
def YL (te:TE):TS:=fun D σ H=>te σ H D.rt
theorem aZ (he:PE X e te):PS X (.Return (some e) pos) (YL te):=by
 intro pins s σ H D I h;exact wpAny_Return_some (thn (he pins s σ H _ I h) fun v s1 ⟨x,H1,I1,r1,q1⟩=>⟨x,σ,H1,I1,r1,q1⟩)
def JZ (c:TT)(t u:TS):TS:=fun D σ H=>c σ H fun b H1=>if b=true then t D σ H1 else u D σ H1
theorem dE {c:Expr}{a b:List Stmt}{tc:TT} (hc:PT X c tc) (ha:PSs X a t) (hb:PSs X b u):PS X (.If c a b pos) (JZ tc t u):=by
 intro pins s σ H D I h;refine wpAny_If (thn (hc pins s σ H _ I h) fun d s1 ⟨H1,I1,q1⟩=> ?_);cases d with
 | true=>exact ha pins s1 σ H1 D I1 q1
 | false=>exact hb pins s1 σ H1 D I1 q1
def Z7:TS:=fun _ _ _=>False
theorem gO:PS X st Z7:=fun _ _ _ _ _ _ h=>h.elim
end
abbrev TG:=V->St->Hp->(St->Hp->Prop)->Prop
abbrev TGs:=List V->St->Hp->(St->Hp->Prop)->Prop
def PG (X:Cx)(target:Expr)(t:TG):Prop :=
 ∀(pins:List (Addr×Obj)) (s:Shared) (σ:St) (H:Hp) (v:V) (u:Value) (Q:St->Hp->Prop),Inv X pins σ H s->RelV v u->t v σ H Q →
  wpAny (model X.prog X.w) X.A (assign target X.env u) (fun _ s'=>∃σ' H',Inv X pins σ' H' s'/\Q σ' H') X.xe s
def PGs (X:Cx)(ts:List Expr)(t:TGs):Prop :=
 ∀(pins:List (Addr×Obj)) (s:Shared) (σ:St) (H:Hp) (vs:List V) (us:List Value) (Q:St->Hp->Prop),Inv X pins σ H s->Vals vs us->t vs σ H Q →
  wpAny (model X.prog X.w) X.A (assignInOrder ((assignEach ts X.env).map (·.2)) us) (fun _ s'=>∃σ' H',Inv X pins σ' H' s'/\Q σ' H') X.xe s
abbrev TIp:=V->V->Hp->VK->Prop
def PIp (X:Cx)(op:Operator)(t:TIp):Prop :=
 ∀(pins:List (Addr×Obj)) (s:Shared) (σ:St) (H:Hp) (x y:V) (v u:Value) (Q:VK),Inv X pins σ H s->RelV x v->RelV y u->t x y H Q →
  wpAny (model X.prog X.w) X.A (inplaceOp op v u) (EP X pins σ Q) X.xe s
section
variable {X:Cx}{pos:Pos}
def bX (i:Nat):TG:=fun v σ H Q=>Q (σ.set i (some v)) H
theorem aI {i:Nat}{x:Str} (hN:X.N.Nodup) (hi:X.N[i]? =some x) (hx:Loc X.env.scope x) (hf:X.fn x=true∨X.env.scope.names.lookup x=some .local:=by first|exact .inl rfl|exact .inr rfl|assumption):PG X (.Name x pos) (bX i):=by
 intro pins s σ H v u Q I r h;exact wpAny_assign_Name (rJ I hN hi hx r (fun s' I'=>⟨_,H,I',h⟩) hf)
def wJ:TGs:=fun vs σ H Q=>vs=[]/\Q σ H
def iH (t:TG)(u:TGs):TGs:=fun vs σ H Q=>∃v r,vs=v::r/\t v σ H fun σ' H'=>u r σ' H' Q
theorem cY:PGs X [] wJ:=by
 intro pins s σ H vs us Q I r h;obtain⟨e,h⟩:=h;subst e;cases r;exact assignInOrder_nil ⟨σ,H,I,h⟩
theorem aW {e:Expr}{es:List Expr}{t:TG}{u:TGs} (h1:PG X e t) (h2:PGs X es u)
  (hs:(assignEach (e::es) X.env).map (·.2)=assign e X.env::(assignEach es X.env).map (·.2):=by rfl):PGs X (e::es) (iH t u):=by
 intro pins s σ H vs us Q I r h;obtain⟨v,vr,e1,h⟩:=h;subst e1;cases r with
 | cons r rr =>
  rw[hs];refine assignInOrder_cons (thn (h1 pins s σ H _ _ _ I r h) fun _ s1 ⟨σ1,H1,I1,q1⟩=> ?_);exact h2 pins s1 σ1 H1 _ _ Q I1 rr q1
def tL (K:PySem.W.Frag)(n:Nat)(t:TGs):TG:=fun v σ H Q=>∃a xs,v= .ref a/\SqT K H a xs/\xs.length=n/\t xs σ H Q
theorem mK {es:List Expr}{k:Nat}{t:TGs}{n:Nat} (hc:X.calm=true) (h:PGs X es t)
  (hn:(assignEach es X.env).length=n:=by rfl)(hst:(assignEach es X.env).findIdx? (·.1)=none:=by rfl):PG X (.Tuple es k pos) (tL X.K n t):=by
 intro pins s σ H v u Q I r hw;obtain⟨a,xs,e1,hq,hl,hw⟩:=hw;subst e1;cases r;obtain⟨its,rv,ht,hz⟩:=I.tuple hq;refine assign_Tuple_tuple (I.ok.hd hc) ht (by simp[hn,←hl,rv.length]) hst fun h' hx=> ?_;have I1:Inv X pins σ H { s with heap:=h' }:=I.kept (t':=s.toks) fun b o e=>hx b o (Nat.ne_of_lt (Heap.lt_size e)) e;exact h pins _ σ H xs _ Q I1 (by simpa using rv) hw
def RF (te:TE)(g:TG):TS:=fun D σ H=>te σ H fun x H1=>g x σ H1 D.nx
theorem aX {i:Nat}{x:Str}{e:Expr}{te:TE}{pos':Pos} (hN:X.N.Nodup) (hi:X.N[i]? =some x) (hx:Loc X.env.scope x) (he:PE X e te) (hs:swapsWith e (some (.Name x pos')) pos.line X.env=pure false:=by rfl) (hf:X.fn x=true∨X.env.scope.names.lookup x=some .local:=by first|exact .inl rfl|exact .inr rfl|assumption) :
  PS X (.Assign [.Name x pos'] e pos) (RF te (bX i)):=by
 intro pins s σ H D I h;refine wpAny_Assign_Name (thn (he pins s σ H _ I h) fun v s1 ⟨y,H1,I1,r1,q1⟩=> ?_) hs;exact rJ I1 hN hi hx r1 (fun s2 I2=>⟨_,H1,I2,q1⟩) hf
def YH (i:Nat)(te:TE)(ti:TIp):TS:=fun D σ H=>∃x,σ[i]? =some (some x)/\te σ H fun y H1=>ti x y H1 fun z H2=>D.nx (σ.set i (some z)) H2
theorem aAH {i:Nat}{x:Str}{e:Expr}{te:TE}{op:Operator}{ti:TIp}{pos':Pos} (hN:X.N.Nodup) (hi:X.N[i]? =some x) (hx:Loc X.env.scope x) (he:PE X e te) (ho:PIp X op ti) (hf:X.fn x=true∨X.env.scope.names.lookup x=some .local:=by first|exact .inl rfl|exact .inr rfl|assumption) :
  PS X (.AugAssign (.Name x pos') op e pos) (YH i te ti):=by
 intro pins s σ H D I h;obtain⟨v,e1,h⟩:=h;obtain⟨m,hn,hl⟩:=I.loc;have vis:Vis X.env.scope x:=by rcases hx with k|k;exact .inl k;exact .inr (.inl k)
 obtain⟨u,r,l⟩:=hl i x v hi e1 vis;refine wpAny_AugAssign_Name ?_;have go:wpAny (model X.prog X.w) X.A (eval e X.env) (fun w s₂=>wpAny (model X.prog X.w) X.A (inplaceOp op u w) (fun r s₃=>wpAny (model X.prog X.w) X.A (storeName X.env x r) (fun _=>SP X pins D .next) X.xe s₃) X.xe s₂) X.xe s:=by
  refine thn (he pins s σ H _ I h) fun w s1 ⟨y,H1,I1,r1,q1⟩=> ?_;refine thn (ho pins s1 σ H1 v y u w _ I1 r r1 q1) fun z s2 ⟨zv,H2,I2,r2,q2⟩=> ?_;exact rJ I2 hN hi hx r2 (fun s3 I3=>⟨_,H2,I3,q2⟩) hf
 rcases l with⟨hk,hm⟩|⟨hk,c,hc,hcell⟩
 ·exact wpAny_loadName_local I.ok.kind hk hn hm go
 ·rcases hk with hk|hk
  ·exact wpAny_loadName_cell I.ok.kind hk hc hcell go
  ·rcases hx with k|k
   ·have:X.env.scope.names.lookup x=some .free:=hk;rw[k]at this;cases this
   ·have:X.env.scope.names.lookup x=some .free:=hk;rw[k]at this;cases this
def ipI (f:Int->Int->Int):TIp:=fun x y H Q=>∃i j,x= .int i/\y= .int j/\Q (.int (f i j)) H
theorem aAj:PIp X .Sub (ipI fun i j=>i - j):=by
 intro pins s σ H x y v u Q I r1 r2 h;obtain⟨i,j,e1,e2,q⟩:=h;subst e1;subst e2;obtain⟨t,rfl⟩:=r1;obtain⟨t',rfl⟩:=r2;exact isub_int ⟨.int _,H,I.tok _,⟨_,rfl⟩,q⟩
end
section
variable {X:Cx}{pos:Pos}
end
structure It where
 go:Nat->Hp->Prop
 yld:Nat->Hp->V->Hp->Prop
 stop:Nat->Hp->Prop
def oJ (X:Cx)(pins:List (Addr×Obj))(H:Hp)(b:Addr):Prop :=
 H b=none/\b≠X.env.locals/\b∉X.fs/\(b∈X.ex∨X.s₀.heap.objs.size<=b)/\(∀x c,X.env.cells.lookup x=some c->c≠b)/\∀p∈X.pn++pins,p.1≠b
theorem Inv.fpOk {X:Cx}{pins:List (Addr×Obj)}{σ:St}{H H':Hp}{s:Shared}{b:Addr} (I:Inv X pins σ H s) (hb:s.heap.objs.size<=b) (hn:H' b=none):oJ X pins H' b:=by
 refine⟨hn,Nat.ne_of_gt (Nat.lt_of_lt_of_le I.lt hb),I.nofs hb,.inr (Nat.le_trans I.sz hb),fun x c e z=> ?_,fun p hp z=> ?_⟩
 ·obtain⟨v,q⟩:=I.cell x c e;exact absurd (Nat.lt_of_lt_of_le q.lt (by rw[z];exact hb)) (Nat.lt_irrefl _)
 ·exact absurd (Nat.lt_of_lt_of_le (Heap.lt_size (I.pin p hp).1) (by rw[z];exact hb)) (Nat.lt_irrefl _)
structure qD (P:Program)(w:World)(K:PySem.W.Frag)(tg:Expr)(J:It)(fp:List Addr)(it:Addr)(tn:Nat->Heap->Prop):Prop where
 mem:it∈fp
 obj:∀i h,tn i h->∀b∈fp,∃o,h.get? b=some o/\∀v,o.data≠ .cell v
 keep:∀i h h',tn i h->(∀b∈fp,∀o,h.get? b=some o->h'.get? b=some o)->tn i h'
 item:∀(X:Cx),X.prog=P->X.w=w->X.K=K->X.calm=true->∀(i:Nat) (pins:List (Addr×Obj)) (s:Shared) (σ:St) (H:Hp) (E:Value->Shared->Prop),Inv X pins σ H s->(∀b∈fp,oJ X pins H b)->tn i s.heap->J.go i H →
  wpAny (model P w) X.A (pyNext (.ref it)) (fun r s1=>∃u,r=some u ∧
   wpAny (model P w) X.A (letOwnedTupleGo tg (.ref it) u) (fun _ s2=>∃x H',Inv X pins σ H' s2/\RelV x u/\J.yld i H x H'/\tn (i+1) s2.heap/\∀b∈fp,H' b=none) E s1) E s
 done:∀(X:Cx),X.prog=P->X.w=w->X.K=K->X.calm=true->∀(i:Nat) (pins:List (Addr×Obj)) (s:Shared) (σ:St) (H:Hp) (E:Value->Shared->Prop),Inv X pins σ H s->(∀b∈fp,oJ X pins H b)->tn i s.heap->J.stop i H →
  wpAny (model P w) X.A (pyNext (.ref it)) (fun r s1=>r=none/\Inv X pins σ H s1) E s
 self:∀(A:Around) (i:Nat) (s:Shared) (Q:Value->Shared->Prop) (E:Value->Shared->Prop),tn i s.heap->Q (.ref it) s->wpAny (model P w) A (pyIter (.ref it)) Q E s
abbrev TI:=St->Hp->(It->Hp->Prop)->Prop
def PIE (X:Cx)(pins:List (Addr×Obj))(σ:St)(tg:Expr)(R:It->Hp->Prop)(itv:Value)(s2:Shared):Prop :=
 ∃(it:Addr) (fp:List Addr) (tn:Nat->Heap->Prop) (J:It) (H':Hp),itv= .ref it/\Inv X pins σ H' s2/\qD X.prog X.w X.K tg J fp it tn/\tn 0 s2.heap/\(∀b∈fp,oJ X pins H' b)/\R J H'
def PI (X:Cx)(tg iter:Expr)(wi:TI):Prop :=
 ∀(pins:List (Addr×Obj)) (s:Shared) (σ:St) (H:Hp) (R:It->Hp->Prop),Inv X pins σ H s->wi σ H R →
  wpAny (model X.prog X.w) X.A (eval iter X.env) (fun v s1=>wpAny (model X.prog X.w) X.A (pyIter v) (PIE X pins σ tg R) X.xe s1) X.xe s
theorem KL {M:Model}{A:Around}{E:Value->Shared->Prop}{s:Shared}{tg:Expr}{it:Addr}{u:Value}{o:Obj}{n:String}{vs:Array Value}{Q:Unit->Shared->Prop} (ho:s.heap.get? it=some o) (hc:o.cls= .type n) (hd:o.data= .fields vs)
  (hn:["enumerate","zip","dict_itemiterator","dict_reverseitemiterator","odict_iterator","itertools.zip_longest","itertools.pairwise"].contains n=false)(hQ:Q () s):wpAny M A (letOwnedTupleGo tg (.ref it) u) Q E s:=by
 unfold letOwnedTupleGo;cases tg<;>first
  | exact wpAny_pure hQ
  | (cases u<;>first
    | exact wpAny_pure hQ
    | (refine wpAny_bind (wpAny_load ho ?_);rw[hc,hd];show wpAny M A (if (["enumerate","zip","dict_itemiterator","dict_reverseitemiterator","odict_iterator","itertools.zip_longest","itertools.pairwise"].contains n&&vs[0]? ==some (rawInt _))=true then _ else _) Q E s;rw[if_neg (by intro h;rw[hn,Bool.false_and]at h;cases h)];exact wpAny_pure hQ))
def Itl (K:PySem.W.Frag)(a:Addr):It :=
 ⟨fun i H=>∃xs x,SqL K H a xs/\xs[i]? =some x,fun i H x H'=>H'=H/\∀xs,SqL K H a xs->xs[i]? =some x,fun i H=>∃xs,SqL K H a xs/\xs.length<=i⟩
def Itr (lo:Int)(n:Nat):It:=⟨fun i _=>i<n,fun i H x H'=>H'=H/\x= .int (lo+i),fun i _=>n<=i⟩
theorem OV {P:Program}{w:World}{K:PySem.W.Frag}{tg:Expr} (a it:Addr):qD P w K tg (Itl K a) [it] it (fun i h=>h.IsListIter it a i) where
 mem:=by simp
 obj:=fun i h st b hb=>by
  have e:b=it:=by simpa using hb
  subst e;obtain⟨o,e,c,d⟩:=st;exact⟨o,e,fun v z=>by rw[d]at z;cases z⟩
 keep:=fun i h h' st k=>st.at fun o e=>k it (by simp) o e
 item:=by
  intro X hP hw hK hc i pins s σ H E I hf st hg;subst hP hw hK;obtain⟨xs,x,hq,hx⟩:=hg;obtain⟨its,rv,p,hz⟩:=I.list hq;obtain⟨u,hu,ru⟩:=rv.get hx;obtain⟨f0,f1,f2,f3,f4,f5⟩:=hf it (by simp);refine wpAny_pyNext_list_item st p.isList (x:=u) (by simpa using hu) fun h' st' sb=> ?_;have I1:Inv X pins σ H { s with heap:=h' }:=I.turned (t':=s.toks) (fun b o hb e=>(sb.2 b hb).trans e) f0 f1 f3 f4 f5;obtain⟨o,e,c,d⟩:=id st';exact⟨u,rfl,KL (s:={ s with heap:=h' }) e c d (by decide) ⟨x,H,I1,ru,⟨rfl,fun ys hy=>by rw[I.list_inj hy hq];exact hx⟩,st',fun b hb=>(hf b hb).1⟩⟩
 done:=by
  intro X hP hw hK hc i pins s σ H E I hf st hg;subst hP hw hK;obtain⟨xs,hq,hx⟩:=hg;obtain⟨its,rv,p,hz⟩:=I.list hq;obtain⟨f0,f1,f2,f3,f4,f5⟩:=hf it (by simp);have hl:=rv.length;exact wpAny_pyNext_list_end (I.ok.hd hc) st p.isList (by simp;lia) fun h' eb=>⟨rfl,I.turned (t':=s.toks) (fun b o hb e=>eb b o hb e) f0 f1 f3 f4 f5⟩
 self:=fun _ _ _ _ _ st h=>wpAny_pyIter_listiter st h
theorem JX {P:Program}{w:World}{K:PySem.W.Frag}{tg:Expr} (it:Addr) (lo:Int) (n:Nat):qD P w K tg (Itr lo n) [it] it (fun i h=>IsRangeIter h it (lo+(i:Nat) * 1) ((n:Int) - (i:Nat)) 1) where
 mem:=by simp
 obj:=fun i h st b hb=>by
  have e:b=it:=by simpa using hb
  subst e;exact⟨_,st,fun v z=>by
   have z':Data.fields _=Data.cell v:=z;cases z'⟩
 keep:=fun i h h' st k=>k it (by simp) _ st
 item:=by
  intro X hP hw hK hc i pins s σ H E I hf st hg;subst hP hw hK;obtain⟨f0,f1,f2,f3,f4,f5⟩:=hf it (by simp);have W:=Walks.range (prog:=X.prog) (w:=X.w) (I.ok.hd hc) it lo 1 n;refine W.item i s _ _ hg st fun v h' tk hv st' kk=> ?_;obtain⟨t,rfl⟩:=hv;have I1:Inv X pins σ H { s with heap:=h',toks:=tk }:=I.turned (fun b o hb e=>kk b o (by simpa using hb) e) f0 f1 f3 f4 f5;refine⟨_,rfl,KL (s:={ s with heap:=h',toks:=tk }) (n:= "range_iterator") st' rfl rfl (by decide) ⟨.int (lo+i),H,I1,⟨t,?_⟩,⟨rfl,rfl⟩,st',fun b hb=>(hf b hb).1⟩⟩;rw[Int.mul_one]
 done:=by
  intro X hP hw hK hc i pins s σ H E I hf st hg;subst hP hw hK;obtain⟨f0,f1,f2,f3,f4,f5⟩:=hf it (by simp);exact wpAny_pyNext_range_end (I.ok.hd hc) st (by have:n<=i:=hg;lia) fun h' eb=>⟨rfl,I.turned (t':=s.toks) (fun b o hb e=>eb b o hb e) f0 f1 f3 f4 f5⟩
 self:=fun _ _ _ _ _ st h=>wpAny_pyIter_rangeiter st h
end L2
namespace L2
open PySem PySem.Spec PyProof.Rows
section
variable {X:Cx}{tg:Expr}
def UC (K:PySem.W.Frag)(tl:TE):TI:=fun σ H R=>tl σ H fun x H1=>∃a,x= .ref a/\(∃xs,SqL K H1 a xs)/\R (Itl K a) H1
theorem bM {l:Expr}{tl:TE} (hl:PE X l tl):PI X tg l (UC X.K tl):=by
 intro pins s σ H R I h;refine thn (hl pins s σ H _ I h) fun v s1 ⟨x,H1,I1,r1,q1⟩=> ?_;obtain⟨a,e,⟨xs,hq⟩,q⟩:=q1;subst e;cases r1;obtain⟨its,rv,p,hz⟩:=I1.list hq;refine wpAny_pyIter_list p.isList ?_;refine⟨s1.heap.objs.size,[s1.heap.objs.size],_,_,H1,rfl,I1.kept (t':=s1.toks) fun b o e=>Heap.get?_push_of_some _ e,OV a _,⟨_,Heap.get?_push_size _ rfl,rfl,rfl⟩,fun b hb=> ?_,q⟩;have e:b=s1.heap.objs.size:=by simpa using hb
 subst e;exact I1.fpOk (Nat.le_refl _) (I1.hok.fresh (Nat.le_refl _))
theorem FN {pins:List (Addr×Obj)}{σ:St}{H:Hp}{s:Shared}{R:It->Hp->Prop}{E:Value->Shared->Prop}{lo hi:Int}{t u v:Tok}{tk:Nat} (I:Inv X pins σ H s) (h1: -(2^62)<=lo) (h2:lo<2^62) (h3: -(2^62)<=hi) (h4:hi<2^62)
  (q:R (Itr lo (hi - lo).toNat) H):wpAny (model X.prog X.w) X.A (pyIter (.ref s.heap.objs.size)) (PIE X pins σ tg R) E { s with heap:=s.heap.push { cls:= .type "range",data:= .fields #[.int lo t,.int hi u,.int 1 v] },toks:=tk }:=by
 refine wpAny_pyIter_range (IsRange.new ..) (small_one h1 h2 h3 h4) ?_;have I1:Inv X pins σ H { s with heap:=s.heap.push { cls:= .type "range",data:= .fields #[.int lo t,.int hi u,.int 1 v] },toks:=tk }:=I.kept fun b o e=>Heap.get?_push_of_some _ e;refine⟨(s.heap.push { cls:= .type "range",data:= .fields #[.int lo t,.int hi u,.int 1 v] }).objs.size,[(s.heap.push { cls:= .type "range",data:= .fields #[.int lo t,.int hi u,.int 1 v] }).objs.size],_,_,H,rfl,
  I1.kept (t':=tk) fun b o e=>Heap.get?_push_of_some _ e,JX _ lo (hi - lo).toNat,?_,fun b hb=> ?_,q⟩
 ·have e1:lo+((0:Nat):Int) * 1=lo:=by simp
  have e2:(((hi - lo).toNat:Nat):Int) - ((0:Nat):Int)=Builtin.Range.rangeSize lo hi 1:=by rw[rangeSize_one];split<;>lia
  show IsRangeIter _ _ (lo+((0:Nat):Int) * 1) ((((hi - lo).toNat:Nat):Int) - ((0:Nat):Int)) 1;rw[e1,e2];exact Heap.get?_push_size _ rfl
 ·have e:b=(s.heap.push { cls:= .type "range",data:= .fields #[.int lo t,.int hi u,.int 1 v] }).objs.size:=by simpa using hb
  subst e;exact I1.fpOk (Nat.le_refl _) (I1.hok.fresh (Nat.le_refl _))
def TX (ta:TA):TI:=fun σ H R=>ta σ H fun vs H1=>∃j:Int,vs=[.int j]/\ -(2^62)<=j/\j<2^62/\R (Itr 0 j.toNat) H1
def UB (ta:TA):TI:=fun σ H R=>ta σ H fun vs H1=>∃i j:Int,vs=[.int i,.int j]/\(-(2^62)<=i/\i<2^62/\ -(2^62)<=j/\j<2^62)/\R (Itr i (j - i).toNat) H1
theorem pQ {a:Expr}{ta:TA}{p pos:Pos} (hg:Gl X "range") (hm:X.mg "range" =none) (ha:PA X [a] ta) (hs:starEach [a] X.env=[(false,eval a X.env)]:=by rfl):PI X tg (.Call (.Name "range" p) [a] [] pos) (TX ta):=by
 intro pins s σ H R I h;refine Call_ (tQ I hg hm boot_range (PyProof.Rows.callWith_type1 (thn (ha pos pins s σ H _ I h) fun us s1 ⟨vs,H1,I1,r1,q1⟩=> ?_) hs rfl));obtain⟨j,e,q1,q2,q⟩:=q1;subst e;cases r1 with
 | cons r rr =>
  cases rr;obtain⟨t,rfl⟩:=r;exact call_range_1 (FN I1 (by lia) (by lia) q1 q2 (by simpa using q))
theorem BY {a b:Expr}{ta:TA}{p pos:Pos} (hg:Gl X "range") (hm:X.mg "range" =none) (ha:PA X [a,b] ta) (hs:starEach [a,b] X.env=[(false,eval a X.env),(false,eval b X.env)]:=by rfl) (hs2:starEach [b] X.env=[(false,eval b X.env)]:=by rfl) :
  PI X tg (.Call (.Name "range" p) [a,b] [] pos) (UB ta):=by
 intro pins s σ H R I h;refine Call_ (tQ I hg hm boot_range (PyProof.Rows.callWith_type1 (thn (ha pos pins s σ H _ I h) fun us s1 ⟨vs,H1,I1,r1,q1⟩=> ?_) (by rw[hs,hs2]) (by rw[hs2];rfl)));obtain⟨i,j,e,⟨q1,q2,q3,q4⟩,q⟩:=q1;subst e;cases r1 with
 | cons r rr =>
  cases rr with
  | cons r' rr =>
   cases rr;obtain⟨t,rfl⟩:=r;obtain⟨t',rfl⟩:=r';exact call_range_2 (FN I1 q1 q2 q3 q4 q)
def aAp (wi:TI)(g:TG)(tb:TS):TS:=fun D σ H=>wi σ H fun J H1=>∃W:Nat->Nat->St->Hp->Prop,(∃m,W 0 m σ H1)/\∀i m σ H,W i m σ H →
 (J.stop i H/\D.nx σ H)∨(J.go i H/\∃N:St->Hp->Prop,(∀σ' H',N σ' H'->∃m',m'<m/\W (i+1) m' σ' H')/\∀x H',J.yld i H x H'->g x σ H' fun σ2 H2=>tb { D with nx:=N,ct:=N,bk:=D.nx } σ2 H2)
def mP (fp:List Addr)(h:Heap):List (Addr×Obj):=fp.filterMap fun b=>(h.get? b).map fun o=>(b,o)
theorem kB {fp:List Addr}{h:Heap}{b:Addr}{o:Obj} (hb:b∈fp) (e:h.get? b=some o):(b,o)∈mP fp h:=List.mem_filterMap.mpr ⟨b,hb,by rw[e];rfl⟩
theorem BV {fp:List Addr}{h:Heap}{p:Addr×Obj} (hp:p∈mP fp h):p.1∈fp/\h.get? p.1=some p.2:=by
 obtain⟨b,hb,e⟩:=List.mem_filterMap.mp hp;cases q:h.get? b with
 | none=>rw[q]at e;cases e
 | some o =>
  rw[q]at e;have e':(b,o)=p:=Option.some.inj e;subst e';exact⟨hb,q⟩
theorem Inv.pinned {pins:List (Addr×Obj)}{σ:St}{H:Hp}{s:Shared}{fp:List Addr} (I:Inv X pins σ H s) (hf:∀b∈fp,oJ X pins H b) (ho:∀b∈fp,∃o,s.heap.get? b=some o/\∀v,o.data≠ .cell v):Inv X (pins++mP fp s.heap) σ H s :=
 I.pins_of fun p hp=>(List.mem_append.mp hp).elim (fun z=>I.pin p (List.mem_append_right _ z)) fun z=>by
  obtain⟨hb,e⟩:=BV z;obtain⟨f0,f1,f2,_⟩:=hf p.1 hb;obtain⟨o,e',d⟩:=ho p.1 hb;rw[e]at e';cases e';exact⟨e,f0,f1,f2,d⟩
theorem Inv.unpinned {pins pl:List (Addr×Obj)}{σ:St}{H:Hp}{s:Shared} (I:Inv X (pins++pl) σ H s):Inv X pins σ H s:=I.pins_of fun p hp=>I.pin p (List.mem_append_right _ (List.mem_append_left _ hp))
theorem cX {iter:Expr}{body:List Stmt}{wi:TI}{g:TG}{tb:TS}{pos:Pos} (hp:PassesOwn (model X.prog X.w) X.A X.env X.xe) (hc:X.calm=true) (hi:PI X tg iter wi) (hg:PG X tg g) (hb:PSs X body tb)
  (hs:∀x,foldedSetIterable iter X.env x=pure x:=by intro _;rfl):PS X (.For tg iter body [] pos) (aAp wi g tb):=by
 intro pins s σ H D I h;refine wpAny_For (thn (hi pins s σ H _ I h) fun v s1 h1=>thn h1 fun itv s2 h2=> ?_) hs;obtain⟨it,fp,tn,J,H2,e,I2,T,st2,f2,W,⟨m0,w0⟩,turn⟩:=h2;subst e;have stat:∀{H':Hp},(∀b∈fp,H' b=none)->∀b∈fp,oJ X pins H' b:=fun hn b hb=>⟨hn b hb,(f2 b hb).2⟩
 refine codeAny_forLoop_any (fun n s'=>∃i σ' H',Inv X pins σ' H' s'/\tn i s'.heap/\(∀b∈fp,H' b=none)/\W i n σ' H') ?_ m0 ⟨0,σ,H2,I2,st2,fun b hb=>(f2 b hb).1,w0⟩;rintro n s3 ⟨i,σ3,H3,I3,st3,fr3,w3⟩;rcases turn i n σ3 H3 w3 with⟨stop,qn⟩|⟨go,N,hN,step⟩
 ·refine wpAny_passesOwn hp (thn (T.done X rfl rfl rfl hc i pins s3 σ3 H3 X.xe I3 (stat fr3) st3 stop) fun r s4 ⟨hr,I4⟩=> ?_);subst hr;exact wpAny_execs_nil ⟨σ3,H3,I4,qn⟩
 ·refine wpAny_passesOwn hp (thn (T.item X rfl rfl rfl hc i pins s3 σ3 H3 X.xe I3 (stat fr3) st3 go) fun r s4 ⟨u,hr,h4⟩=> ?_);subst hr;refine wpAny_passesOwn hp (thn h4 fun _ s5 ⟨x,H5,I5,r5,y5,st5,fr5⟩=> ?_);have I5':=I5.pinned (stat fr5) (T.obj _ _ st5);refine wpAny_passesOwn hp (thn (hg _ s5 σ3 H5 x u _ I5' r5 (step x H5 y5)) fun _ s6 ⟨σ6,H6,I6,q6⟩=> ?_);refine wpAny_passesOwn hp (thn (hb _ s6 σ6 H6 _ I6 q6) fun f s7 q7=> ?_);have again:∀{σ7:St}{H7:Hp},Inv X (pins++mP fp s5.heap) σ7 H7 s7->N σ7 H7->∃m,m<n/\∃i σ' H',Inv X pins σ' H' s7/\tn i s7.heap/\(∀b∈fp,H' b=none)/\W i m σ' H':=fun {σ7 H7} I7 n7=>by
   obtain⟨m',hm,w7⟩:=hN σ7 H7 n7;refine⟨m',hm,i+1,σ7,H7,I7.unpinned,T.keep _ _ _ st5 fun b hb o e=>(I7.pin (b,o) (List.mem_append_right _ (List.mem_append_right _ (kB hb e)))).1,fun b hb=> ?_,w7⟩;obtain⟨o,e,d⟩:=T.obj _ _ st5 b hb;exact(I7.pin (b,o) (List.mem_append_right _ (List.mem_append_right _ (kB hb e)))).2.1
  cases f with
  | next=>obtain⟨σ7,H7,I7,n7⟩:=q7;exact again I7 n7
  | cont=>obtain⟨σ7,H7,I7,n7⟩:=q7;exact again I7 n7
  | brk=>obtain⟨σ7,H7,I7,q7⟩:=q7;exact⟨σ7,H7,I7.unpinned,q7⟩
  | ret v=>obtain⟨x7,σ7,H7,I7,r7,q7⟩:=q7;exact⟨x7,σ7,H7,I7.unpinned,r7,q7⟩
end
theorem Q6 {K:PySem.W.Frag}{a:Addr}{xs:List V}{g:TG}{tb:TS}{D:kJ}{σ:St}{H:Hp} (Pv:Nat->St->Hp->Prop) (h0:Pv 0 σ H) (hl:∀i σ H,i<=xs.length->Pv i σ H->SqL K H a xs)
  (hs:∀i x σ H,xs[i]? =some x->Pv i σ H->g x σ H fun σ2 H2=>tb { D with nx:=Pv (i+1),ct:=Pv (i+1),bk:=D.nx } σ2 H2)(hd:∀σ H,Pv xs.length σ H->D.nx σ H) :
  ∃W:Nat->Nat->St->Hp->Prop,(∃m,W 0 m σ H)/\∀i m σ H,W i m σ H →
   ((Itl K a).stop i H/\D.nx σ H)∨((Itl K a).go i H/\∃N:St->Hp->Prop,(∀σ' H',N σ' H'->∃m',m'<m/\W (i+1) m' σ' H')/\∀x H',(Itl K a).yld i H x H'->g x σ H' fun σ2 H2=>tb { D with nx:=N,ct:=N,bk:=D.nx } σ2 H2):=by
 refine⟨fun i m σ H=>m=xs.length - i/\i<=xs.length/\Pv i σ H,⟨xs.length,by simp,Nat.zero_le _,h0⟩,?_⟩;rintro i m σ H ⟨rfl,hi,p⟩;have q:=hl i σ H hi p
 by_cases hlt:i<xs.length
 ·refine .inr ⟨⟨xs,xs[i],q,by simp[hlt]⟩,Pv (i+1),fun σ' H' p'=>⟨xs.length - (i+1),by lia,rfl,hlt,p'⟩,fun x H' y=> ?_⟩;obtain⟨e,y⟩:=y;subst e;exact hs i x σ _ (y xs q) p
 ·have e:i=xs.length:=by lia
  subst e;exact .inl ⟨⟨xs,q,Nat.le_refl _⟩,hd σ H p⟩
theorem M7 {lo:Int}{n:Nat}{g:TG}{tb:TS}{D:kJ}{σ:St}{H:Hp} (Pv:Nat->St->Hp->Prop) (h0:Pv 0 σ H)
  (hs:∀i σ H,i<n->Pv i σ H->g (.int (lo+i)) σ H fun σ2 H2=>tb { D with nx:=Pv (i+1),ct:=Pv (i+1),bk:=D.nx } σ2 H2)(hd:∀σ H,Pv n σ H->D.nx σ H) :
  ∃W:Nat->Nat->St->Hp->Prop,(∃m,W 0 m σ H)/\∀i m σ H,W i m σ H →
   ((Itr lo n).stop i H/\D.nx σ H)∨((Itr lo n).go i H/\∃N:St->Hp->Prop,(∀σ' H',N σ' H'->∃m',m'<m/\W (i+1) m' σ' H')/\∀x H',(Itr lo n).yld i H x H'->g x σ H' fun σ2 H2=>tb { D with nx:=N,ct:=N,bk:=D.nx } σ2 H2):=by
 refine⟨fun i m σ H=>m=n - i/\i<=n/\Pv i σ H,⟨n,by simp,Nat.zero_le _,h0⟩,?_⟩;rintro i m σ H ⟨rfl,hi,p⟩
 by_cases hlt:i<n
 ·refine .inr ⟨hlt,Pv (i+1),fun σ' H' p'=>⟨n - (i+1),by lia,rfl,hlt,p'⟩,fun x H' y=> ?_⟩;obtain⟨e,y⟩:=y;subst e y;exact hs i σ _ hlt p
 ·have e:i=n:=by lia
  subst e;exact .inl ⟨Nat.le_refl _,hd σ H p⟩
end L2
namespace L2
open PySem PySem.Spec PyProof.Rows
abbrev R2:=V->V->Hp->VK->Prop
def OpR (X:Cx)(f:Value->Value->Sem Value)(r:R2):Prop :=
 ∀(pins:List (Addr×Obj)) (s:Shared) (σ:St) (H:Hp) (x y:V) (v u:Value) (Q:VK),Inv X pins σ H s->RelV x v->RelV y u->r x y H Q →
  wpAny (model X.prog X.w) X.A (f v u) (EP X pins σ Q) X.xe s
def c6 (X:Cx)(f:Value)(r:List V->Hp->VK->Prop):Prop :=
 ∀(pins:List (Addr×Obj)) (s:Shared) (σ:St) (H:Hp) (xs:List V) (us:List Value) (Q:VK),Inv X pins σ H s->Vals xs us->r xs H Q →
  wpAny (model X.prog X.w) X.A (call f us) (EP X pins σ Q) X.xe s
def tOp (r:R2)(ta tb:TE):TE:=fun σ H Q=>ta σ H fun x H1=>tb σ H1 fun y H2=>r x y H2 Q
def rI (C:Int->Int->Prop)(g:Int->Int->V):R2:=fun x y H Q=>∃i j,x= .int i/\y= .int j/\C i j/\Q (g i j) H
def rI0 (g:Int->Int->V):R2:=fun x y H Q=>∃i j,x= .int i/\y= .int j/\Q (g i j) H
section
variable {X:Cx}{a b c:Expr}{ta tb tc:TE}{pos:Pos}
theorem QN (ha:PE X a ta)(hb:PE X b tb){pins:List (Addr×Obj)}{s:Shared}{σ:St}{H:Hp}{R:V->V->Hp->Prop} (I:Inv X pins σ H s)
  (h:ta σ H fun x H1=>tb σ H1 fun y H2=>R x y H2){Q:Value->Shared->Prop}{f:Value->Value->Sem Value}
  (hf:∀v u s2 x y H2,Inv X pins σ H2 s2->RelV x v->RelV y u->R x y H2->wpAny (model X.prog X.w) X.A (f v u) Q X.xe s2) :
  wpAny (model X.prog X.w) X.A (eval a X.env) (fun v s₁=>wpAny (model X.prog X.w) X.A (eval b X.env) (fun u s₂=>wpAny (model X.prog X.w) X.A (f v u) Q X.xe s₂) X.xe s₁) X.xe s:=by
 refine thn (ha pins s σ H _ I h) fun v s1 ⟨x,H1,I1,r1,q1⟩=> ?_;refine thn (hb pins s1 σ H1 _ I1 q1) fun u s2 ⟨y,H2,I2,r2,q2⟩=> ?_;exact hf v u s2 x y H2 I2 r1 r2 q2
theorem aU {op:Operator}{r:R2} (ho:OpR X (binaryOp op) r) (ha:PE X a ta) (hb:PE X b tb):PE X (.BinOp a op b pos) (tOp r ta tb):=by
 intro pins s σ H Q I h;exact wpAny_BinOp (QN ha hb I h fun v u s2 x y H2 I2 rx ry q=>ho pins s2 σ H2 x y v u Q I2 rx ry q)
theorem opI {f:Value->Value->Sem Value}{C:Int->Int->Prop}{g:Int->Int->Int}
  (rule:∀(i j:Int) (t u:Tok) (s:Shared) (Q:Value->Shared->Prop) (E:Value->Shared->Prop),C i j->Q (.int (g i j) s.toks) { s with toks:=s.toks+1 }->wpAny (model X.prog X.w) X.A (f (.int i t) (.int j u)) Q E s) :
  OpR X f (rI C fun i j=> .int (g i j)):=by
 intro pins s σ H x y v u Q I rx ry h;obtain⟨i,j,rfl,rfl,hc,q⟩:=h;obtain⟨t,rfl⟩:=rx;obtain⟨t',rfl⟩:=ry;exact rule i j t t' s _ _ hc ⟨.int (g i j),H,I.tok _,⟨_,rfl⟩,q⟩
theorem aAR {f:Value->Value->Sem Value}{g:Int->Int->Int}
  (rule:∀(i j:Int) (t u:Tok) (s:Shared) (Q:Value->Shared->Prop) (E:Value->Shared->Prop),Q (.int (g i j) s.toks) { s with toks:=s.toks+1 }->wpAny (model X.prog X.w) X.A (f (.int i t) (.int j u)) Q E s) :
  OpR X f (rI0 fun i j=> .int (g i j)):=by
 intro pins s σ H x y v u Q I rx ry h;obtain⟨i,j,rfl,rfl,q⟩:=h;obtain⟨t,rfl⟩:=rx;obtain⟨t',rfl⟩:=ry;exact rule i j t t' s _ _ ⟨.int (g i j),H,I.tok _,⟨_,rfl⟩,q⟩
theorem KF {f:Value->Value->Sem Value}{g:Int->Int->Bool}
  (rule:∀(i j:Int) (t u:Tok) (s:Shared) (Q:Value->Shared->Prop) (E:Value->Shared->Prop),Q (.bool (g i j)) s->wpAny (model X.prog X.w) X.A (f (.int i t) (.int j u)) Q E s) :
  OpR X f (rI0 fun i j=> .bl (g i j)):=by
 intro pins s σ H x y v u Q I rx ry h;obtain⟨i,j,rfl,rfl,q⟩:=h;obtain⟨t,rfl⟩:=rx;obtain⟨t',rfl⟩:=ry;exact rule i j t t' s _ _ ⟨.bl (g i j),H,I,rfl,q⟩
def Y7 (i j:Int):Prop:=0<j/\j<1073741824
def CMul (i j:Int):Prop:=(-(2^64)<i/\i<2^64)∨(-(2^64)<j/\j<2^64)
theorem CMul.ok {i j:Int}(h:CMul i j):IntMulOk i j:=by
 rcases h with⟨h1,h2⟩|⟨h1,h2⟩
 ·exact .of_left (intBits_le_64 h1 h2)
 ·exact .of_right (intBits_le_64 h1 h2)
theorem cG:OpR X (binaryOp .Add) (rI0 fun i j=> .int (i+j)):=aAR fun _ _ _ _ _ _ _ q=>add_int q
theorem tT:OpR X (binaryOp .Sub) (rI0 fun i j=> .int (i - j)):=aAR fun _ _ _ _ _ _ _ q=>sub_int q
theorem rA:OpR X (binaryOp .Mult) (rI CMul fun i j=> .int (i * j)):=opI fun _ _ _ _ _ _ _ hc q=>mul_int q hc.ok
theorem rD:OpR X (binaryOp .FloorDiv) (rI Y7 fun i j=> .int (i/j)):=opI fun i j _ _ _ _ _ hc q=>by
 have h1:(0:Int)<j:=hc.1;have h2:j<1073741824:=hc.2;exact floordiv_int (by lia) (by rw[Int.fdiv_eq_ediv_of_nonneg i (by lia)];exact q) (.inl (PyProof.noPylong_small (by lia)))
theorem cI:OpR X (binaryOp .Mod) (rI (fun _ j=>0<j) fun i j=> .int (i%j)):=opI fun i j _ _ _ _ _ hc q=>by
 have h1:(0:Int)<j:=hc;exact mod_int' (by lia) (by rw[Int.fmod_eq_emod_of_nonneg i (by lia)];exact q)
end
def aBT:V->V->Bool
 | .non,.non=>true| .non,.int _=>true| .int _,.non=>true| .non,.bl _=>true| .bl _,.non=>true| .non,.str _=>true| .str _,.non=>true
 | .int _,.int _=>true| .bl _,.bl _=>true| .str _,.str _=>true| .byt _,.byt _=>true
 | .int _,.str _=>true| .str _,.int _=>true| .bl _,.str _=>true| .str _,.bl _=>true
 | _,_=>false
def rEq:R2:=fun x y H Q=>aBT x y=true/\Q (.bl (decide (x=y))) H
theorem XF {i j:Int}:decide (V.int i=V.int j)=(i==j):=by
 rw[Bool.eq_iff_iff];simp
theorem ZY {i j:Bool}:decide (V.bl i=V.bl j)=(i==j):=by
 rw[Bool.eq_iff_iff];simp
theorem XC {i j:Str}:decide (V.str i=V.str j)=(i==j):=by
 rw[Bool.eq_iff_iff];simp
theorem VE {i j:Array UInt8}:decide (V.byt i=V.byt j)=(i.toList==j.toList):=by
 rw[Bool.eq_iff_iff];cases i;cases j;simp
section
variable {X:Cx}{a b c:Expr}{ta tb tc:TE}{pos:Pos}
theorem dX {pins:List (Addr×Obj)}{σ:St}{H:Hp}{s:Shared}{Q:VK}{k k':Bool} (I:Inv X pins σ H s) (q:Q (.bl k) H) (e:k=k'):EP X pins σ Q (.bool k') s:=by
 subst e;exact⟨.bl k,H,I,rfl,q⟩
theorem yJ:OpR X (compareOp .Eq) rEq:=by
 intro pins s σ H x y v u Q I rx ry h;obtain⟨hs,q⟩:=h;cases x with
 | non =>
  cases rx;cases y with
  | non=>cases ry;exact PySem.EqNone.eq_none_none (dX I q (by simp))
  | bl j=>cases ry;exact PySem.EqNone.eq_none_bool (dX I q (by simp))
  | int j=>obtain⟨t',rfl⟩:=ry;exact PySem.EqNone.eq_none_int (dX I q (by simp))
  | str j=>obtain⟨t',rfl⟩:=ry;exact PySem.EqNone.eq_none_str (dX I q (by simp))
  | _=>exact absurd (show false=true from hs) Bool.false_ne_true
 | bl i =>
  cases rx;cases y with
  | non=>cases ry;exact PySem.EqNone.eq_bool_none (dX I q (by simp))
  | bl j=>cases ry;exact eq_bool (dX I q ZY)
  | str j=>obtain⟨t',rfl⟩:=ry;exact PySem.EqMixed.eq_bool_str (dX I q (by simp))
  | _=>exact absurd (show false=true from hs) Bool.false_ne_true
 | int i =>
  obtain⟨t,rfl⟩:=rx;cases y with
  | non=>cases ry;exact PySem.EqNone.eq_int_none (dX I q (by simp))
  | int j=>obtain⟨t',rfl⟩:=ry;exact eq_int (dX I q XF)
  | str j=>obtain⟨t',rfl⟩:=ry;exact PySem.EqMixed.eq_int_str (dX I q (by simp))
  | _=>exact absurd (show false=true from hs) Bool.false_ne_true
 | str i =>
  obtain⟨t,rfl⟩:=rx;cases y with
  | non=>cases ry;exact PySem.EqNone.eq_str_none (dX I q (by simp))
  | bl j=>cases ry;exact PySem.EqMixed.eq_str_bool (dX I q (by simp))
  | int j=>obtain⟨t',rfl⟩:=ry;exact PySem.EqMixed.eq_str_int (dX I q (by simp))
  | str j=>obtain⟨t',rfl⟩:=ry;exact eq_str (dX I q XC)
  | _=>exact absurd (show false=true from hs) Bool.false_ne_true
 | byt i =>
  obtain⟨t,rfl⟩:=rx;cases y with
  | byt j=>obtain⟨t',rfl⟩:=ry;exact PySem.W.eq_bytes (dX I q VE)
  | _=>exact absurd (show false=true from hs) Bool.false_ne_true
 | _=>cases y<;>exact absurd (show false=true from hs) Bool.false_ne_true
theorem pM:OpR X (compareOp .Lt) (rI0 fun i j=> .bl (decide (i<j))):=KF fun _ _ _ _ _ _ _ q=>lt_int q
theorem J0:OpR X (compareOp .LtE) (rI0 fun i j=> .bl (decide (i<=j))):=KF fun _ _ _ _ _ _ _ q=>le_int q
theorem pK:OpR X (compareOp .Gt) (rI0 fun i j=> .bl (decide (j<i))):=KF fun _ _ _ _ _ _ _ q=>gt_int q
theorem aBq:OpR X (compareOp .GtE) (rI0 fun i j=> .bl (decide (j<=i))):=KF fun _ _ _ _ _ _ _ q=>ge_int q
theorem ZI:OpR X (compareOp .Is) (fun x y H Q=>y= .non/\Q (.bl (decide (x= .non))) H):=by
 intro pins s σ H x y v u Q I rx ry h;obtain⟨rfl,q⟩:=h;cases ry;refine is_none_gen (dX I q ?_);cases x<;>first
  | (cases rx;rfl)
  | (obtain⟨t,rfl⟩:=rx;rfl)
theorem U8:OpR X (compareOp .IsNot) (fun x y H Q=>y= .non/\Q (.bl (!decide (x= .non))) H):=by
 intro pins s σ H x y v u Q I rx ry h;obtain⟨rfl,q⟩:=h;cases ry;refine isnot_none_gen (dX I q ?_);cases x<;>first
  | (cases rx;rfl)
  | (obtain⟨t,rfl⟩:=rx;rfl)
theorem cB (b:Expr){op:CmpOp}(h:op≠ .In:=by decide)(h2:op≠ .NotIn:=by decide):behindInMarks op b=false:=by
 have e1:(op==CmpOp.In)=false:=by cases op<;>first|rfl|exact absurd rfl h
 have e2:(op==CmpOp.NotIn)=false:=by cases op<;>first|rfl|exact absurd rfl h2
 cases b<;>simp[behindInMarks,e1,e2]
theorem uW {op:CmpOp}{r:R2} (ho:OpR X (compareOp op) r) (ha:PE X a ta) (hb:PE X b tb) (hm:behindInMarks op b=false):PE X (.Compare a [op] [b] pos) (tOp r ta tb):=by
 intro pins s σ H Q I h;exact wpAny_Compare1 (QN ha hb I h fun v u s2 x y H2 I2 rx ry q=>ho pins s2 σ H2 x y v u Q I2 rx ry q) hm
def LQ (t:TE):TT:=fun σ H Q=>t σ H fun x H'=>∃k,x= .bl k/\Q k H'
theorem bV {op:CmpOp}{r:R2} (ho:OpR X (compareOp op) r) (ha:PE X a ta) (hb:PE X b tb) (hm:behindInMarks op b=false):PT X (.Compare a [op] [b] pos) (LQ (tOp r ta tb)):=by
 intro pins s σ H Q I h;refine wpAny_isTrue_Compare1 (thn (ha pins s σ H _ I h) fun v s1 ⟨x,H1,I1,r1,q1⟩=>thn (hb pins s1 σ H1 _ I1 q1) fun u s2 ⟨y,H2,I2,r2,q2⟩ =>
  thn (ho pins s2 σ H2 x y v u _ I2 r1 r2 q2) fun c s3 ⟨z,H3,I3,r3,k,e,q3⟩=> ?_) hm
 subst e;cases r3;exact wpAny_truthy_bool ⟨H3,I3,q3⟩
def GA (r r':R2)(ta tb tc:TE):TE:=fun σ H Q=>ta σ H fun x H1=>tb σ H1 fun y H2=>r x y H2 fun z H3=>∃k,z= .bl k ∧
 (if k=true then tc σ H3 fun w' H4=>r' y w' H4 Q else Q (.bl false) H3)
theorem D5 {op op':CmpOp}{r r':R2} (ho:OpR X (compareOp op) r) (ho':OpR X (compareOp op') r') (ha:PE X a ta) (hb:PE X b tb) (hc:PE X c tc)
  (hm:lastMarks [op,op'] [b,c]=false:=by with_unfolding_all rfl):PE X (.Compare a [op,op'] [b,c] pos) (GA r r' ta tb tc):=by
 intro pins s σ H Q I h;refine Compare_chain (thn (ha pins s σ H _ I h) fun v s1 ⟨x,H1,I1,r1,q1⟩=>chain_link (thn (hb pins s1 σ H1 _ I1 q1) fun u s2 ⟨y,H2,I2,r2,q2⟩ =>
  thn (ho pins s2 σ H2 x y v u _ I2 r1 r2 q2) fun d s3 ⟨z,H3,I3,r3,k,e,q3⟩=> ?_)) hm
 subst e;cases r3;refine wpAny_truthy_bool ?_;cases k with
 | false=>exact ite_ff ⟨.bl false,H3,I3,rfl,q3⟩
 | true=>exact ite_tt (chain_last (thn (hc pins s3 σ H3 _ I3 q3) fun w' s4 ⟨z',H4,I4,r4,q4⟩=>ho' pins s4 σ H4 y z' u w' Q I4 r2 r4 q4))
theorem SB {op op':CmpOp}{r r':R2} (ho:OpR X (compareOp op) r) (ho':OpR X (compareOp op') r') (ha:PE X a ta) (hb:PE X b tb) (hc:PE X c tc)
  (hm:lastMarks [op,op'] [b,c]=false:=by with_unfolding_all rfl):PT X (.Compare a [op,op'] [b,c] pos) (LQ (GA r r' ta tb tc)):=by
 intro pins s σ H Q I h;refine isTrue_chain (thn (ha pins s σ H _ I h) fun v s1 ⟨x,H1,I1,r1,q1⟩=>test_link (thn (hb pins s1 σ H1 _ I1 q1) fun u s2 ⟨y,H2,I2,r2,q2⟩ =>
  thn (ho pins s2 σ H2 x y v u _ I2 r1 r2 q2) fun d s3 ⟨z,H3,I3,r3,k,e,q3⟩=> ?_)) hm
 subst e;cases r3;refine wpAny_truthy_bool ?_;cases k with
 | false =>
  obtain⟨k',e',q'⟩:=q3;cases e';exact ite_ff ⟨H3,I3,q'⟩
 | true =>
  refine ite_tt (test_last (thn (hc pins s3 σ H3 _ I3 q3) fun w' s4 ⟨z',H4,I4,r4,q4⟩=>thn (ho' pins s4 σ H4 y z' u w' _ I4 r2 r4 q4) fun d' s5 ⟨z2,H5,I5,r5,k2,e2,q5⟩=> ?_));subst e2;cases r5;exact wpAny_truthy_bool ⟨H5,I5,q5⟩
theorem tM:(sizeLine:Nat)<2^63:=by rw[sizeLine_eq];decide
theorem KQ:OpR X (binaryOp .Add) (fun x y H Q=>∃i j,x= .str i/\y= .str j/\i.length+j.length<=sizeLine/\Q (.str (i++j)) H):=by
 intro pins s σ H x y v u Q I rx ry h;obtain⟨i,j,rfl,rfl,hz,q⟩:=h;obtain⟨t,rfl⟩:=rx;obtain⟨t',rfl⟩:=ry;exact add_str (fun t' tk=>⟨.str (i++j),H,I.tok _,⟨_,rfl⟩,q⟩) hz
theorem nM {x:V}{us:List Value} (r:Vals [x] us):∃u,us=[u]/\RelV x u:=by
 cases r with
 | cons r1 r2=>cases r2;exact⟨_,rfl,r1⟩
theorem xZ {x y:V}{us:List Value} (r:Vals [x,y] us):∃u w',us=[u,w']/\RelV x u/\RelV y w':=by
 cases r with
 | cons r1 r2 =>
  cases r2 with
  | cons r3 r4=>cases r4;exact⟨_,_,rfl,r1,r3⟩
theorem MT (hc:X.calm=true):c6 X (.builtin "max") (fun xs H Q=>∃i j,xs=[.int i,.int j]/\Q (.int (if j>i then j else i)) H):=by
 intro pins s σ H xs us Q I r h;obtain⟨i,j,rfl,q⟩:=h;obtain⟨u,w',rfl,⟨t,rfl⟩,⟨t',rfl⟩⟩:=xZ r;refine max_two_ints (I.ok.hd hc) fun h' tk k=>⟨_,H,I.kept k,?_,q⟩
 by_cases hj:j>i
 ·rw[if_pos hj,if_pos hj];exact⟨_,rfl⟩
 ·rw[if_neg hj,if_neg hj];exact⟨_,rfl⟩
theorem L9 (hc:X.calm=true):c6 X (.builtin "min") (fun xs H Q=>∃i j,xs=[.int i,.int j]/\Q (.int (if j<i then j else i)) H):=by
 intro pins s σ H xs us Q I r h;obtain⟨i,j,rfl,q⟩:=h;obtain⟨u,w',rfl,⟨t,rfl⟩,⟨t',rfl⟩⟩:=xZ r;refine min_two_ints (I.ok.hd hc) fun h' tk k=>⟨_,H,I.kept k,?_,q⟩
 by_cases hj:j<i
 ·rw[if_pos hj,if_pos hj];exact⟨_,rfl⟩
 ·rw[if_neg hj,if_neg hj];exact⟨_,rfl⟩
end
end L2
namespace L2
open PySem PySem.Spec PyProof.Rows
structure ObjM (h:Heap)(x dx C:Addr)(mA:Str->Option Value):Prop where
 obj:h.get? x=some (PySem.W.instObj C dx)
 ns:h.Ns1 dx mA
 ne:dx≠x
theorem O9 {h:Heap}{dx:Addr}{mA:Str->Option Value} (n:h.Ns1 dx mA):∃od,h.get? dx=some od/\∀name,PySem.W.lookIn name od=some (mA name):=by
 obtain⟨o,es,ep,ho,hd,hk,_,hm⟩:=n;refine⟨o,ho,fun name=> ?_⟩;have e:=hm name;unfold nsFind findBy at e;rw[←Array.find?_toList]at e;unfold PySem.W.lookIn;rw[hd]
 dsimp only
 split
 ·rename_i y q;rw[q]at e;exact congrArg some e
 ·rename_i q;rw[q]at e;have a:es.toList.any (·.refKey)=false:=by
   rw[List.any_eq_false];intro y hy;obtain⟨z,t,hkey⟩:=hk y (Array.mem_toList_iff.mp hy);simp[DictEntry.refKey,hkey]
  have a':¬es.toList.any (·.refKey)=true:=by rw[a];exact Bool.false_ne_true
  rw[if_neg a'];exact congrArg some e
theorem ObjM.look {h:Heap}{x dx C:Addr}{mA:Str->Option Value} (I:ObjM h x dx C mA):∃od,PySem.W.InstAt h x (PySem.W.instObj C dx) C (some od)/\∀name,PySem.W.lookIn name od=some (mA name) :=
 let ⟨od,ho,hl⟩:=O9 I.ns
 ⟨od,⟨I.obj,rfl,rfl,ho⟩,hl⟩
section
variable {prog:Program}{w:World}{A:Around}{E:Value->Shared->Prop}{s:Shared}{K:PySem.W.Frag}{x dx C f:Addr}{mA:Str->Option Value}{name:Str}{v:Value}
theorem VH {expr:Bool}{Q:Value->Shared->Prop} (X:K.In s.heap) (I:ObjM s.heap x dx C mA) (hg:PySem.W.plainGet K C name=true) (hh:PySem.W.hasDictIn K C=true)
  (ha:PySem.W.findIn K (.ref C) name=some none)(hv:mA name=some v)(hv':PySem.W.handedIn v=true)(h:Q v { s with toks:=s.toks+1 }) :
  wpAny (model prog w) A (getAttr (.ref x) name expr) Q E s:=by
 obtain⟨od,J,hl⟩:=I.look;exact PySem.W.get_value X J (PySem.W.plainGet_of hg).1 (PySem.W.findObj_own hh ha rfl (by rw[hl,hv])) hv' h
theorem RZ {pl:Sem Bool}{Q:Value×List Value->Shared->Prop} (X:K.In s.heap) (I:ObjM s.heap x dx C mA) (hg:PySem.W.plainGet K C name=true)
  (hf:PySem.W.findIn K (.ref C) name=some (some (.ref f)))(ht:PySem.W.isFn K (.ref f)=true)(hv:mA name=none)(h:Q (.ref f,[.ref x]) s) :
  wpAny (model prog w) A (getMethod (.ref x) name pl) Q E s:=by
 obtain⟨od,J,hl⟩:=I.look;exact PySem.W.method_fn X J (PySem.W.plainGet_of hg).1 (PySem.W.plainGet_of hg).2 hf (beq_iff_eq.mp ht) (by show (PySem.W.lookIn name od).map (·.isSome)=some false;rw[hl,hv];rfl) h
theorem U3 {ns:List Str}{Q:Unit->Shared->Prop} (X:K.In s.heap) (I:ObjM s.heap x dx C mA)
  (hs:PySem.W.findIn K (.ref C) "__setattr__" =some (some (.builtin "object.__setattr__")))(hp:PySem.W.plainOver K C=true)(ht:PySem.W.takerIn K C name=some none)(hh:PySem.W.hasDictIn K C=true)
  (hw:PySem.Within mA ns)(hsz:ns.length<=sizeLine)
  (h:∀h',ObjM h' x dx C (fun y=>if y=name then some v else mA y)->Heap.SameBut dx s.heap h'->Q () { s with heap:=h',toks:=s.toks+2 }) :
  wpAny (model prog w) A (setAttr (.ref x) name v) Q E s:=by
 obtain⟨od,J,hl⟩:=I.look;refine PySem.W.set_plain X J hs (PySem.W.osa_open (s:={ s with toks:=s.toks+1 }) (r:=none) X J hp ht fun b=> ?_);obtain⟨cd,hc,hd'⟩:=PySem.W.any_some hh;have hx:s.heap.get? x=some ⟨.ref C,some dx,.plain,#[]⟩:=I.obj;refine wpAny_bind (wpAny_pure (wpAny_bind (wpAny_bind (wpAny_loadPart hx (wpAny_bind (PySem.W.Looks.here (s:={ s with toks:=s.toks+1 }) (PySem.W.looks_clsIn X hc) ?_))))));rw[hd'];refine wpAny_pure (a:=some dx) (wpAny_bind (wpAny_pure (wpAny_bind ?_)));refine wpAny_nsSet1 (s:={ s with toks:=s.toks+1 }) I.ns fun h' hn2 hs2=> ?_;obtain⟨oD,esD,epD,hoD,hdD,hcD⟩:=hn2.count (PySem.Within.cons name v hw);refine wpAny_bind (wpAny_lookBehind hoD (by rw[hdD];exact pastItsLine_dict (Nat.le_trans hcD (by rw[List.length_cons];lia))) ?_);exact wpAny_pure (h _ ⟨(hs2.2 _ (Ne.symm I.ne)).trans I.obj,hn2,I.ne⟩ hs2)
theorem RH {R:Result->Shared->Prop}{vs:List Value}{kw:List (Str×Value)} (X:K.In s.heap) (hm:PySem.W.makesIn K C=true)
  (hi:PySem.W.findIn K (.ref C) "__init__" =some (some (.ref f)))(hf:PySem.W.typeIn K (.ref f)=some (.type "function"))
  (h:codeAny (model prog w) (A.under (.builtin "type.__call__" ⟨.ref C::vs,kw⟩)) (.call (.ref f) ⟨.ref (s.heap.objs.size+1)::vs,kw⟩) (PySem.W.InitBack (s.heap.objs.size+1) R)
   { s with heap:=(s.heap.push PySem.W.emptyDict).push (PySem.W.instObj C s.heap.objs.size) }) :
  codeAny (model prog w) A (.call (.ref C) ⟨vs,kw⟩) R s:=by
 obtain⟨hh,g,d,t,os⟩:=s;exact PySem.W.make_core (PySem.W.makes_of X hm) (PySem.W.looks_findIn X hi) (fun self=>PySem.W.bind_fn X self hf) (.inl rfl) h
end
def c8 (f:Str)(v:V):List (Str×V)->List (Str×V)
 | []=>[(f,v)]
 | (g,x)::r=>if g=f then (g,v)::r else (g,x)::c8 f v r
theorem mB (f g:Str)(v:V):∀fs:List (Str×V),(c8 f v fs).lookup g=if g=f then some v else fs.lookup g
 | []=>by
  show List.lookup g [(f,v)]=_
  by_cases h:g=f
  ·have hb:(g==f)=true:=beq_iff_eq.mpr h;simp only[List.lookup,hb,if_pos h]
  ·have hb:(g==f)=false:=beq_eq_false_iff_ne.mpr h;simp only[List.lookup,hb,if_neg h]
 | (k,x)::r=>by
  have ih:=mB f g v r;rw[show c8 f v ((k,x)::r)=(if k=f then (k,v)::r else (k,x)::c8 f v r) from rfl]
  by_cases hk:k=f
  ·rw[if_pos hk]
   by_cases h:g=k
   ·have hb:(g==k)=true:=beq_iff_eq.mpr h;simp only[List.lookup,hb,if_pos (h.trans hk)]
   ·have hb:(g==k)=false:=beq_eq_false_iff_ne.mpr h;simp only[List.lookup,hb,if_neg (fun e:g=f=>h (e.trans hk.symm))]
  ·rw[if_neg hk]
   by_cases h:g=k
   ·have hb:(g==k)=true:=beq_iff_eq.mpr h;simp only[List.lookup,hb,if_neg (fun e:g=f=>hk (h.symm.trans e))]
   ·have hb:(g==k)=false:=beq_eq_false_iff_ne.mpr h;simp only[List.lookup,hb];exact ih
theorem uA (f:Str)(v:V):∀fs:List (Str×V),f∈(c8 f v fs).map (·.1)/\∀g,g∈fs.map (·.1)->g∈(c8 f v fs).map (·.1)
 | []=>⟨by simp[c8],fun g h=>by simp at h⟩
 | (k,x)::r=>by
  obtain⟨i1,i2⟩:=uA f v r;rw[show c8 f v ((k,x)::r)=(if k=f then (k,v)::r else (k,x)::c8 f v r) from rfl]
  by_cases hk:k=f
  ·rw[if_pos hk];subst hk;exact⟨by simp,fun g h=>by simpa using h⟩
  ·rw[if_neg hk];refine⟨?_,fun g h=> ?_⟩
   ·rw[List.map_cons];exact List.mem_cons_of_mem _ i1
   ·rw[List.map_cons]at h ⊢;rcases List.mem_cons.mp h with e|e
    ·exact List.mem_cons.mpr (.inl e)
    ·exact List.mem_cons_of_mem _ (i2 g e)
theorem v6 (f:Str)(v:V):∀fs:List (Str×V),(c8 f v fs).length<=fs.length+1
 | []=>by simp[c8]
 | (k,x)::r=>by
  have ih:=v6 f v r;rw[show c8 f v ((k,x)::r)=(if k=f then (k,v)::r else (k,x)::c8 f v r) from rfl]
  by_cases hk:k=f
  ·rw[if_pos hk,List.length_cons,List.length_cons];lia
  ·rw[if_neg hk,List.length_cons,List.length_cons];lia
theorem RelO.some_of {v:V}{o:Option Value} (r:RelO (some v) o):∃u,o=some u/\RelV v u:=by
 cases o with
 | none=>exact(show False from r).elim
 | some u=>exact⟨u,rfl,r⟩
theorem RelO.none_of {o:Option Value}(r:RelO none o):o=none:=by
 cases o with
 | none=>rfl
 | some u=>exact(show False from r).elim
theorem N4 {v:V}{u:Value} (r:RelV v u):PySem.W.handedIn u=true:=by
 cases v with
 | non=>cases (show u=Value.none from r);rfl
 | bl b=>cases (show u=Value.bool b from r);rfl
 | int i=>obtain⟨t,e⟩:=(show ∃t,u=Value.int i t from r);cases e;rfl
 | str x=>obtain⟨t,e⟩:=(show ∃t,u=Value.str x t from r);cases e;rfl
 | byt b=>obtain⟨t,e⟩:=(show ∃t,u=Value.bytes b t from r);cases e;rfl
 | flt b=>obtain⟨t,e⟩:=(show ∃t,u=Value.float b t from r);cases e;rfl
 | ref a=>cases (show u=Value.ref a from r);rfl
 | ty n=>cases (show u=Value.type n from r);rfl
section
variable {P:Program}{w:World}{H H':Hp}{h h':Heap}{a C dx:Addr}{fs fs':List (Str×V)}
theorem u5 (hok:HOk P w H h)(e:H a=some (.ins C dx fs)):∃mA,ObjM h a dx C mA/\(∀f,RelO (fs.lookup f) (mA f))/\PySem.Within mA (fs.map (·.1))/\fs.length<=1000/\H dx=some (.own a):=by
 obtain⟨d,z,ne,ob,mA,n,r,q⟩:=(show ObjOk P w H h a (.ins C dx fs) from hok a _ e)
 exact⟨mA,⟨ob,n,ne⟩,r,q,z,d⟩
end
structure Cls (K:PySem.W.Frag)(C:Addr):Prop where
 pg:PySem.W.plainGet K C Str.empty=true
 hd:PySem.W.hasDictIn K C=true
 po:PySem.W.plainOver K C=true
 sa:PySem.W.findIn K (.ref C) "__setattr__" =some (some (.builtin "object.__setattr__"))
theorem Cls.get {K:PySem.W.Frag}{C:Addr} (c:Cls K C) (f:Str):PySem.W.plainGet K C f=true:=c.pg
def NoAttr (K:PySem.W.Frag)(C:Addr)(f:Str):Prop:=PySem.W.findIn K (.ref C) f=some none
theorem NoAttr.taker {K:PySem.W.Frag}{C:Addr}{f:Str} (n:NoAttr K C f):PySem.W.takerIn K C f=some none:=by
 unfold PySem.W.takerIn;rw[show PySem.W.findIn K (.ref C) f=some none from n];rfl
structure iP (K:PySem.W.Frag)(C:Addr)(m:Str)(f:Addr):Prop where
 at_:PySem.W.findIn K (.ref C) m=some (some (.ref f))
 fn:PySem.W.isFn K (.ref f)=true
 kp:PySem.W.keepIn K (.ref f)=true
section
variable {X:Cx}{pins:List (Addr×Obj)}{σ:St}{H:Hp}{s:Shared}{a C dx:Addr}{fs:List (Str×V)}{f:Str}{v:V}{A:Around}{E:Value->Shared->Prop}
theorem LJ {b:Bool}{Q:Value->Shared->Prop} (I:Inv X pins σ H s) (e:H a=some (.ins C dx fs)) (c:Cls X.K C) (n:NoAttr X.K C f) (l:fs.lookup f=some v)
  (h:∀u s',Inv X pins σ H s'->RelV v u->Q u s'):wpAny (model X.prog X.w) A (getAttr (.ref a) f b) Q E s:=by
 obtain⟨mA,O,r,_,_,_⟩:=u5 I.hok e;obtain⟨u,hu,ru⟩:=RelO.some_of (v:=v) (o:=mA f) (by rw[←l];exact r f);exact VH I.kIn O (c.get f) c.hd n hu (N4 ru) (h u _ (I.tok _) ru)
theorem zD {m:Str}{g:Addr}{pl:Sem Bool}{Q:Value×List Value->Shared->Prop} (I:Inv X pins σ H s) (e:H a=some (.ins C dx fs)) (c:Cls X.K C) (k:iP X.K C m g) (l:fs.lookup m=none)
  (h:Q (.ref g,[.ref a]) s):wpAny (model X.prog X.w) A (getMethod (.ref a) m pl) Q E s:=by
 obtain⟨mA,O,r,_,_,_⟩:=u5 I.hok e;have hn:mA m=none:=RelO.none_of (by rw[←l];exact r m);exact RZ I.kIn O (c.get m) k.at_ k.fn hn h
theorem K8 {y:V}{u:Value}{Q:Unit->Shared->Prop} (I:Inv X pins σ H s) (e:H a=some (.ins C dx fs)) (c:Cls X.K C) (n:NoAttr X.K C f) (hl:fs.length<1000) (ry:RelV y u)
  (h:∀s',Inv X pins σ (upd H a (.ins C dx (c8 f y fs))) s'->Q () s'):wpAny (model X.prog X.w) A (setAttr (.ref a) f u) Q E s:=by
 obtain⟨mA,O,r,wi,_,ho⟩:=u5 I.hok e;have hz:(fs.map (·.1)).length<=sizeLine:=by rw[List.length_map,sizeLine_eq];lia
 refine U3 I.kIn O c.sa c.po n.taker c.hd wi hz fun h' O' sb=>h _ ?_;have hd:∃o,h'.get? dx=some o:=let ⟨o,_,_,e',_⟩:=O'.ns;⟨o,e'⟩;refine I.write (x:=a) (e:=dx) (by rw[e];exact True.intro) (.inr ho) (fun b q hb z=>(sb.2 b hb).trans z) hd ?_;refine⟨by rw[aP O.ne];exact ho,?_,O.ne,O'.obj,_,O'.ns,fun g=> ?_,fun g hg=> ?_⟩
 ·have:=v6 f y fs;lia
 ·show RelO ((c8 f y fs).lookup g) (if g=f then some u else mA g);rw[mB]
  by_cases q:g=f
  ·rw[if_pos q,if_pos q];exact ry
  ·rw[if_neg q,if_neg q];exact r g
 ·by_cases q:g=f
  ·rw[q];exact(uA f y fs).1
  ·refine(uA f y fs).2 g (wi g fun z=>hg ?_);show (if g=f then some u else mA g)=none;rw[if_neg q];exact z
theorem Inv.made (I:Inv X pins σ H s):Inv X pins σ (upd (upd H s.heap.objs.size (.own (s.heap.objs.size+1))) (s.heap.objs.size+1) (.ins C s.heap.objs.size []))
  { s with heap:=(s.heap.push PySem.W.emptyDict).push (PySem.W.instObj C s.heap.objs.size) }:=by
 have e1:(s.heap.push PySem.W.emptyDict).get? s.heap.objs.size=some PySem.W.emptyDict:=Heap.get?_push_size s.heap rfl;have e2:((s.heap.push PySem.W.emptyDict).push (PySem.W.instObj C s.heap.objs.size)).get? (s.heap.objs.size+1)=some (PySem.W.instObj C s.heap.objs.size):=by
  have:=Heap.get?_push_size (s.heap.push PySem.W.emptyDict) (o:=PySem.W.instObj C s.heap.objs.size) rfl
  rwa [Heap.size_push]at this
 have e3:(s.heap.push PySem.W.emptyDict).Ns s.heap.objs.size (fun _=>none):=⟨PySem.W.emptyDict,#[],_,e1,rfl,(fun e he=>absurd he (by simp)),fun _=>rfl⟩
 have I1:=I.laid (a:=s.heap.objs.size) (o:= .own (s.heap.objs.size+1)) (h':=s.heap.push PySem.W.emptyDict) (t':=s.toks) (fun b u q=>Heap.get?_push_of_some _ q) (Nat.le_refl _) ⟨_,e1⟩;refine I1.laid (a:=s.heap.objs.size+1) (o:= .ins C s.heap.objs.size []) (t':=s.toks) (fun b u q=>Heap.get?_push_of_some _ q) (Nat.le_of_eq (Heap.size_push _ _)) ?_;have ne:s.heap.objs.size≠s.heap.objs.size+1:=Nat.ne_of_lt (Nat.lt_succ_self _);refine⟨by rw[aP ne,bC],Nat.zero_le _,ne,e2,fun _=>none,(Heap.Ns1.of_empty e3).at fun o q=>Heap.get?_push_of_some _ q,fun _=>True.intro,fun y hy=>absurd rfl hy⟩
theorem XJ {prog:Program}{w:World}{env:Env}{e:Expr}{f:Str}{pos:Pos}{s:Shared}{Q:Value->Shared->Prop} (hb:attributeBase e f env (eval e env)=eval e env)
  (h:wpAny (model prog w) A (eval e env) (fun o s₁=>wpAny (model prog w) A (getAttr o f true) Q E s₁) E s):wpAny (model prog w) A (eval (.Attribute e f pos) env) Q E s :=
 Attribute_any_ h (by rw[arm_eval_Attribute,hb])
end
def QC (K:PySem.W.Frag)(ta:TE)(f:Str):TE:=fun σ H Q=>ta σ H fun x H1=>∃a C dx fs v,x= .ref a/\H1 a=some (.ins C dx fs)/\Cls K C/\NoAttr K C f/\fs.lookup f=some v/\Q v H1
def Y0 (K:PySem.W.Frag)(ta tv:TE)(f:Str):TS:=fun D σ H=>tv σ H fun y H1=>ta σ H1 fun x H2=>∃a C dx fs,x= .ref a/\H2 a=some (.ins C dx fs)/\Cls K C/\NoAttr K C f/\fs.length<1000 ∧
 D.nx σ (upd H2 a (.ins C dx (c8 f y fs)))
def ZU (X:Cx)(op:Operator)(rd:V->V->Hp->VK->Prop):Prop :=
 ∀(pins:List (Addr×Obj)) (s:Shared) (σ:St) (H:Hp) (x y:V) (u v:Value) (Q:VK),Inv X pins σ H s->RelV x u->RelV y v->rd x y H Q->wpAny (model X.prog X.w) X.A (inplaceOp op u v) (EP X pins σ Q) X.xe s
section
variable {X:Cx}{o e value:Expr}{f:Str}{pos pos' tpos:Pos}{ta tv:TE}
theorem bP (he:PE X e ta)(hb:attributeBase e f X.env (eval e X.env)=eval e X.env):PE X (.Attribute e f pos) (QC X.K ta f):=by
 intro pins s σ H Q I h;refine XJ hb (thn (he pins s σ H _ I h) fun u s1 ⟨x,H1,I1,rx,a,C,dx,fs,v,ex,ea,c,n,l,q⟩=> ?_);subst ex;obtain rfl:u=Value.ref a:=rx;exact LJ I1 ea c n l fun u' s2 I2 ru=>⟨v,H1,I2,ru,q⟩
theorem j4 (ha:PE X o ta)(hv:PE X value tv)(hs:swapsWith value (some (.Attribute o f pos')) pos.line X.env=pure false):PS X (.Assign [.Attribute o f pos'] value pos) (Y0 X.K ta tv f):=by
 intro pins s σ H D I h;refine plainObj_wpAny_Assign_Attribute (thn (hv pins s σ H _ I h) fun u s1 ⟨y,H1,I1,ry,q⟩=>thn (ha pins s1 σ H1 _ I1 q) fun ov s2 ⟨x,H2,I2,rx,a,C,dx,fs,ex,ea,c,n,l,q2⟩=> ?_) hs;subst ex;obtain rfl:ov=Value.ref a:=rx;exact K8 I2 ea c n l ry fun s3 I3=>⟨σ,_,I3,q2⟩
def Y4:V->V->Hp->VK->Prop:=fun x y H Q=>∃i j,x= .int i/\y= .int j/\Q (.int (i+j)) H
theorem aAy:ZU X .Add Y4:=by
 rintro pins s σ H x y u v Q I rx ry ⟨i,j,rfl,rfl,q⟩;obtain⟨t,rfl⟩:=(show ∃t,u=Value.int i t from rx)
 obtain⟨t',rfl⟩:=(show ∃t',v=Value.int j t' from ry)
 exact PyProof.Rows.iadd_int ⟨.int (i+j),H,I.tok _,⟨_,rfl⟩,q⟩
end
section
variable {X:Cx}{pins:List (Addr×Obj)}{σ:St}{H:Hp}{s:Shared}{A:Around}{E:Value->Shared->Prop}{Q:Value->Shared->Prop}{c:Value}{b:Bool}
inductive jP (K:PySem.W.Frag)(H:Hp):V->Value->Prop where
 | non:jP K H .non (.type "NoneType")
 | bl (x:Bool):jP K H (.bl x) (.type "bool")
 | int (i:Int):jP K H (.int i) (.type "int")
 | str (x:Str):jP K H (.str x) (.type "str")
 | flt (x:UInt64):jP K H (.flt x) (.type "float")
 | lst {a:Addr}{xs:List V} (e:H a=some (.lst xs)):jP K H (.ref a) (.type "list")
 | frz {a:Addr}{o:Obj}{xs:List V} (e:H a=some (.frz o (.lst xs))):jP K H (.ref a) (.type "list")
 | tup {a:Addr}{xs:List V} (e:H a=some (.tup xs)):jP K H (.ref a) (.type "tuple")
 | dK {a:Addr}{kvs:List (Key×V)} (e:H a=some (.dK kvs)):jP K H (.ref a) (.type "dict")
 | dT {a:Addr}{kvs:List (List Key×V)} (e:H a=some (.dT kvs)):jP K H (.ref a) (.type "dict")
 | ins {a C dx:Addr}{fs:List (Str×V)} (e:H a=some (.ins C dx fs)) (cl:Cls K C) (ha:PySem.W.findIn K (.ref C) "__class__" =some (some (.builtin "object.__class__")))
   (hn:PySem.W.specialIn K (.builtin "object.__class__") "__get__" =some (some (.builtin "getset_descriptor.__get__")))(htk:PySem.W.takesIn K (.builtin "object.__class__")=some true)
   (hm:PySem.W.mroIn K C (.type "object")=some true):jP K H (.ref a) (.ref C)
theorem NT {x:V}{u t:Value} (I:Inv X pins σ H s) (rx:RelV x u) (ty:jP X.K H x t) (e:PySem.W.kitOne X.K t c=some b) (h:∀tk,Q (.bool b) { s with toks:=tk }) :
  wpAny (model X.prog X.w) A (call (.builtin "isinstance") [u,c]) Q E s:=by
 cases ty with
 | non=>cases (show u=Value.none from rx);exact PySem.W.kia_one PySem.W.kitx_none I.kIn True.intro e (fun z=>nomatch z) h
 | bl y=>cases (show u=Value.bool y from rx);exact PySem.W.kia_one PySem.W.kitx_bool I.kIn True.intro e (fun z=>nomatch z) h
 | int i=>obtain⟨t,q⟩:=(show ∃t,u=Value.int i t from rx);cases q;exact PySem.W.kia_one PySem.W.kitx_int I.kIn True.intro e (fun z=>nomatch z) h
 | str y=>obtain⟨t,q⟩:=(show ∃t,u=Value.str y t from rx);cases q;exact PySem.W.kia_one PySem.W.kitx_str I.kIn True.intro e (fun z=>nomatch z) h
 | flt y=>obtain⟨t,q⟩:=(show ∃t,u=Value.float y t from rx);cases q;exact PySem.W.kia_one PySem.W.kitx_float I.kIn True.intro e (fun z=>nomatch z) h
 | @lst a xs ea =>
  cases (show u=Value.ref a from rx);obtain⟨_,_,n,_,h1⟩:=(show ObjOk X.prog X.w H s.heap a (.lst xs) from I.hok a _ ea)
  exact PySem.W.kia_one PySem.W.kitx_list I.kIn ⟨_,h1,rfl⟩ e (fun z=>nomatch z) h
 | @frz a ob xs ea =>
  cases (show u=Value.ref a from rx);obtain⟨_,_,_,n,_,h1⟩:=(show ObjOk X.prog X.w H s.heap a (.frz ob (.lst xs)) from I.hok a _ ea)
  exact PySem.W.kia_one PySem.W.kitx_list I.kIn ⟨_,h1,rfl⟩ e (fun z=>nomatch z) h
 | @tup a xs ea =>
  cases (show u=Value.ref a from rx);obtain⟨_,_,_,p⟩:=(show ObjOk X.prog X.w H s.heap a (.tup xs) from I.hok a _ ea)
  obtain⟨o,h1,h2,_⟩:=p;exact PySem.W.kia_one PySem.W.kitx_tuple I.kIn ⟨o,h1,h2⟩ e (fun z=>nomatch z) h
 | @dK a kvs ea =>
  cases (show u=Value.ref a from rx);obtain⟨_,_,vs,_,p⟩:=(show ObjOk X.prog X.w H s.heap a (.dK kvs) from I.hok a _ ea)
  obtain⟨o,es,ep,h1,h2,_⟩:=p;exact PySem.W.kia_one PySem.W.kitx_dict I.kIn ⟨o,h1,h2.1⟩ e (fun z=>nomatch z) h
 | @dT a kvs ea =>
  cases (show u=Value.ref a from rx);obtain⟨_,_,xs,_,o,es,ep,h1,h2,_⟩:=(show ObjOk X.prog X.w H s.heap a (.dT kvs) from I.hok a _ ea)
  exact PySem.W.kia_one PySem.W.kitx_dict I.kIn ⟨o,h1,h2.1⟩ e (fun z=>nomatch z) h
 | @ins a C dx fs ea cl ha hn htk hm =>
  cases (show u=Value.ref a from rx);obtain⟨mA,O,_⟩:=u5 I.hok ea;obtain⟨od,J,_⟩:=O.look;exact PySem.W.kia_one (PySem.W.kitx_own (cl.get _) cl.hd ha hn htk hm) I.kIn J e (fun z=>nomatch z) h
end
end L2
namespace L2
open PySem PySem.Spec PyProof.Rows
structure Room (k:Nat)(A:Around):Prop where
 hd:A.handled=none
 dp:A.depth+3 * k+5<recursionLimit
 un:A.units+16 * k+200<cLine
theorem Room.mono {j k:Nat}{A:Around} (r:Room k A) (h:j<=k):Room j A:=⟨r.hd,by have:=r.dp;lia,by have:=r.un;lia⟩
theorem Room.deeper {k:Nat}{A:Around} (r:Room (k+1) A) (env:Env):Room k (A.deeper env) :=
 ⟨r.hd,by have:=r.dp;show A.depth+1+3 * k+5<_;lia,by have:=r.un;show A.units+3+16 * k+200<_;lia⟩
theorem LR {A:Around}{C:Addr}{us:List Value}{kw:List (Str×Value)}:(A.under (.builtin "type.__call__" ⟨.ref C::us,kw⟩)).depth=A.depth+1:=by
 first|rfl|simp[Around.under,Code.weight,Code.isCreation,Code.isGuard,Code.isCaller,Code.frames,Code.isFrame,guardIds]
theorem J8 {A:Around}{C:Addr}{us:List Value}{kw:List (Str×Value)}:(A.under (.builtin "type.__call__" ⟨.ref C::us,kw⟩)).units=A.units+1:=by
 first|rfl|simp[Around.under,Code.cUnits,Code.frames,Code.isFrame]
theorem Room.make {k:Nat}{A:Around} (r:Room (k+1) A) (C:Addr) (us:List Value) (kw:List (Str×Value)):Room k (A.under (.builtin "type.__call__" ⟨.ref C::us,kw⟩)) :=
 ⟨r.hd,by have:=r.dp;rw[LR];lia,by have:=r.un;rw[J8];lia⟩
theorem Room.depth {k:Nat}{A:Around} (r:Room k A):A.depth<recursionLimit:=by have:=r.dp;lia
theorem Room.units0 {k:Nat}{A:Around} (r:Room k A):A.units<cLine:=by have:=r.un;lia
def QU:TA:=fun _ H Q=>Q [] H
def TQ (ta:TE)(tr:TA):TA:=fun σ H Q=>ta σ H fun x H1=>tr σ H1 fun xs H2=>Q (x::xs) H2
section
variable {X:Cx}{e:Expr}{es:List Expr}{te:TE}{t:TA}{pos:Pos}
theorem aB:PA X [] QU:=fun _ _ _ _ H Q I h=>Calls.spliced_nil ⟨[],H,I,.nil,h⟩
theorem aA (ha:PE X e te)(hr:PA X es t)(hs:starEach (e::es) X.env=(false,eval e X.env)::starEach es X.env:=by rfl):PA X (e::es) (TQ te t):=by
 intro pos pins s σ H Q I h;rw[hs];show wpAny _ _ (spliced ((false,eval e X.env)::backTo pos (starEach es X.env))) _ _ s;refine Calls.spliced_cons (thn (ha pins s σ H _ I h) fun u s1 ⟨x,H1,I1,r1,q1⟩=> ?_);exact thn (hr pos pins s1 σ H1 _ I1 q1) fun us s2 ⟨xs,H2,I2,r2,q2⟩=>⟨x::xs,H2,I2,.cons r1 r2,q2⟩
def YV (t:TA):TE:=fun σ H Q=>t σ H fun xs H1=>xs.length<=sizeLine/\∀p,H1 p=none->Q (.ref p) (upd H1 p (.tup xs))
def ZL (t:TA):TE:=fun σ H Q=>t σ H fun xs H1=>xs.length<=sizeLine/\∀p,H1 p=none->Q (.ref p) (upd H1 p (.lst xs))
theorem bY {x1}(h:PA X es t):PE X (.Tuple es x1 pos) (YV t):=by
 intro pins s σ H Q I hq;refine wpAny_Tuple_spliced (thn (h pos pins s σ H _ I hq) fun us s1 ⟨xs,H1,I1,r,z,q⟩=>⟨by rw[←r.length];exact z,?_⟩);have hf:H1 s1.heap.objs.size=none:=I1.hok.fresh (Nat.le_refl _);refine⟨.ref s1.heap.objs.size,upd H1 s1.heap.objs.size (.tup xs),I1.laid (t':=s1.toks) (fun b u e=>Heap.get?_push_of_some _ e) (Nat.le_refl _) ?_,rfl,q _ hf⟩;exact⟨z,us,r,⟨_,Heap.get?_push_size _ rfl,rfl,_,rfl⟩⟩
theorem eK (h:PA X es t):PE X (.List es pos) (ZL t):=by
 intro pins s σ H Q I hq;refine wpAny_List_spliced (thn (h pos pins s σ H _ I hq) fun us s1 ⟨xs,H1,I1,r,z,q⟩=>⟨by rw[←r.length];exact z,?_⟩);have hf:H1 s1.heap.objs.size=none:=I1.hok.fresh (Nat.le_refl _);refine⟨.ref s1.heap.objs.size,upd H1 s1.heap.objs.size (.lst xs),I1.laid (t':=s1.toks) (fun b u e=>Heap.get?_push_of_some _ e) (Nat.le_refl _) ?_,rfl,q _ hf⟩;exact⟨z,us,0,r,Heap.get?_push_size _ rfl⟩
end
abbrev Sp:=List V->Hp->VK->XK->Prop
abbrev CXT:=List Env->Hp->Shared->XK->Value->Shared->Prop
structure Env0 (P:Program)(w:World)(K:PySem.W.Frag)(mg:Str->Option Value)(base:Heap)(A:Around)(outer:List Env)(s:Shared)(H:Hp):Prop where
 frames:A.frames=some outer
 mod:Mod K mg base
 bs:∀b o,base.get? b=some o->s.heap.get? b=some o/\H b=none
 bsz:base.objs.size<=s.heap.objs.size
 funs:s.heap.FunFrames base outer
 frf:∀b∈frs outer,H b=none
 hok:HOk P w H s.heap
 bare:AllBare s.gens
def CE (outer:List Env)(P:Program)(w:World)(H:Hp)(s:Shared)(Q:VK)(u:Value)(s':Shared):Prop :=
 ∃v H',s'.os=s.os/\AllBare s'.gens/\Un (frs outer) [] H H' s.heap s'.heap/\HOk P w H' s'.heap/\RelV v u/\Q v H'
def CR (CX:CXT)(outer:List Env)(P:Program)(w:World)(H:Hp)(s:Shared)(Q:VK)(E:XK)(r:Result)(s':Shared):Prop :=
 match r with
 | .ok (.ret u)=>CE outer P w H s Q u s'
 | .ok _=>False
 | .error e=>CX outer H s E e s'
structure bD (P:Program)(w:World)(K:PySem.W.Frag)(mg:Str->Option Value)(base:Heap)(CX:CXT)(k:Nat)(f:Addr)(fd:FuncData)(ps:List Str)(sp:Sp):Prop where
 len:∀vs H Q E,sp vs H Q E->vs.length=ps.length
 run:∀(A:Around) (outer:List Env) (s:Shared) (H:Hp) (args:Args) (us:List Value) (vs:List V) (Q:VK) (E:XK),Room k A->Env0 P w K mg base A outer s H->BindsTo s fd args (ps.zip us)->Vals vs us->sp vs H Q E →
  codeAny (model P w) A (.call (.ref f) args) (CR CX outer P w H s Q E) s
theorem Env0.make {P:Program}{w:World}{K:PySem.W.Frag}{mg:Str->Option Value}{base:Heap}{A:Around}{outer:List Env}{s:Shared}{H:Hp} (e:Env0 P w K mg base A outer s H) (C:Addr) (us:List Value) (kw:List (Str×Value)) :
  Env0 P w K mg base (A.under (.builtin "type.__call__" ⟨.ref C::us,kw⟩)) outer s H:=⟨by first|exact e.frames|(simpa [Around.under,Code.envs,Code.isFrame,pushEnvs] using e.frames),e.mod,e.bs,e.bsz,e.funs,e.frf,e.hok,e.bare⟩
section
variable {X:Cx}{pins:List (Addr×Obj)}{σ:St}{H:Hp}{s s':Shared}
theorem Inv.env0 (I:Inv X pins σ H s):Env0 X.prog X.w X.K X.mg X.base X.A X.stack s H :=
 ⟨I.ok.frames,I.ok.mod,I.bs,Nat.le_trans I.ok.bsz I.sz,I.stack,I.stkFree,I.hok,I.bare⟩
theorem Inv.after {Q:VK}{u:Value} (I:Inv X pins σ H s) (h:CE X.stack X.prog X.w H s Q u s'):EP X pins σ Q u s':=by
 obtain⟨v,H',os,bare,un,hok,r,q⟩:=h;obtain⟨hh,g,d,t,os'⟩:=s';obtain rfl:os'=s.os:=os;exact⟨v,H',I.call (h':=hh) (g':=g) (d':=d) (t':=t) (ch:=[]) un hok bare (fun b z=>absurd z (by simp)),r,q⟩
end
def u0 (sp:Sp)(dvs:List V)(E:XK)(t:TA):TE:=fun σ H Q=>t σ H fun vs H1=>sp (vs++dvs) H1 Q E
def KZ (C:Addr)(sp:Sp)(dvs:List V)(E:XK)(t:TA):TE:=fun σ H Q=>t σ H fun vs H1=>∀x dx,H1 x=none->H1 dx=none->dx≠x →
 sp (.ref x::(vs++dvs)) (upd (upd H1 dx (.own x)) x (.ins C dx [])) (fun v H2=>v= .non/\Q (.ref x) H2) E
def Binds (K:PySem.W.Frag)(fd:FuncData)(ps:List Str)(ds:List Value):Prop :=
 ∀(s:Shared) (us:List Value),K.In s.heap->(us++ds).length=ps.length->BindsTo s fd ⟨us,[]⟩ (ps.zip (us++ds))
theorem Binds.all {K:PySem.W.Frag}{fd:FuncData}{ps:List Str} (h:∀us:List Value,us.length=ps.length->bindArgs fd ⟨us,[]⟩=pure (ps.zip us)):Binds K fd ps []:=fun s us _ hl=>by
 rw[List.append_nil]at hl ⊢;exact .of_eq (h us hl)
def mM (CX:CXT)(X:Cx)(E:XK):Prop:=∀(pins:List (Addr×Obj)) (σ:St) (H:Hp) (s:Shared) (e:Value) (s':Shared),Inv X pins σ H s->CX X.stack H s E e s'->X.xe e s'
section
variable {X:Cx}{CX:CXT}{k:Nat}{f C:Addr}{fd:FuncData}{ps:List Str}{sp:Sp}{dvs:List V}{ds:List Value}{E:XK}{x m:Str}{p pos apos:Pos}{e o:Expr}{es:List Expr}{ta:TE}{t:TA}
theorem D0 {pins:List (Addr×Obj)}{σ:St}{H:Hp}{s:Shared}{Q:VK}{us:List Value}{vs:List V} (F:bD X.prog X.w X.K X.mg X.base CX k f fd ps sp) (hr:Room k X.A) (hb:Binds X.K fd ps ds) (hd:Vals dvs ds) (hx:mM CX X E)
  (I:Inv X pins σ H s)(r:Vals vs us)(h:sp (vs++dvs) H Q E):wpAny (model X.prog X.w) X.A (call (.ref f) us) (EP X pins σ Q) X.xe s:=by
 have r2:Vals (vs++dvs) (us++ds):=r.append hd;have hl:(us++ds).length=ps.length:=by rw[←r2.length];exact F.len _ _ _ _ h
 refine wpAny_call (codeAny_mono (F.run X.A X.stack s H ⟨us,[]⟩ (us++ds) (vs++dvs) Q E hr I.env0 (hb s us I.kIn hl) r2 h) fun r s' hq=> ?_);cases r with
 | error e=>exact hx pins σ H s e s' I hq
 | ok fl =>
  cases fl with
  | ret u=>exact I.after hq
  | next=>exact False.elim hq
  | brk=>exact False.elim hq
  | cont=>exact False.elim hq
theorem JK (F:bD X.prog X.w X.K X.mg X.base CX k f fd ps sp)(hr:Room k X.A)(hg:Gl X x)(hm:X.mg x=some (.ref f))(hk:PySem.W.keepIn X.K (.ref f)=true)(hb:Binds X.K fd ps ds)(hd:Vals dvs ds)(hx:mM CX X E)
  (ha:PA X (e::es) t)(hdb:(x==("__debug__" :Str))=false:=by decide)(he:starEach (e::es) X.env=(false,eval e X.env)::starEach es X.env:=by rfl)(hpl:(backTo pos (starEach es X.env)).any (·.1)=false:=by rfl) :
  PE X (.Call (.Name x p) (e::es) [] pos) (u0 sp dvs E t):=by
 intro pins s σ H Q I h;refine wpAny_Call_Name_kw (nX I hg hm ?_ hdb);refine PySem.W.callWith_K (h₀:=X.base) I.ok.mod.kin hk (thn (ha pos pins s σ H _ I h) fun us s1 ⟨vs,H1,I1,r,q⟩=>⟨I1.kIn,?_⟩) he hpl;exact D0 F hr hb hd hx I1 r q
structure Mk (K:PySem.W.Frag)(C f:Addr):Prop where
 makes:PySem.W.makesIn K C=true
 init:PySem.W.findIn K (.ref C) "__init__" =some (some (.ref f))
 fn:PySem.W.isFn K (.ref f)=true
 kp:PySem.W.keepIn K (.ref C)=true
theorem Q2 {pins:List (Addr×Obj)}{σ:St}{H:Hp}{s:Shared}{Q:VK}{us:List Value}{vs:List V} (M:Mk X.K C f) (F:bD X.prog X.w X.K X.mg X.base CX k f fd ps sp) (hr:Room (k+1) X.A) (hb:Binds X.K fd ps ds) (hd:Vals dvs ds)
  (hx:mM CX X E)(I:Inv X pins σ H s)(r:Vals vs us)
  (h:∀x dx,H x=none->H dx=none->dx≠x->sp (.ref x::(vs++dvs)) (upd (upd H dx (.own x)) x (.ins C dx [])) (fun v H2=>v= .non/\Q (.ref x) H2) E) :
  wpAny (model X.prog X.w) X.A (call (.ref C) us) (EP X pins σ Q) X.xe s:=by
 have hq:=h (s.heap.objs.size+1) s.heap.objs.size (I.hok.fresh (Nat.le_succ _)) (I.hok.fresh (Nat.le_refl _)) (Nat.ne_of_lt (Nat.lt_succ_self _));have I2:=Inv.made (C:=C) I;have r2:Vals (V.ref (s.heap.objs.size+1)::(vs++dvs)) (Value.ref (s.heap.objs.size+1)::(us++ds)):= .cons rfl (r.append hd);have hl:(Value.ref (s.heap.objs.size+1)::us++ds).length=ps.length:=by
  have e:=r2.length;rw[F.len _ _ _ _ hq]at e;exact e.symm
 refine wpAny_call (RH (f:=f) I.kIn M.makes M.init (beq_iff_eq.mp M.fn) (codeAny_mono (F.run _ X.stack _ _ ⟨Value.ref (s.heap.objs.size+1)::us,[]⟩ (Value.ref (s.heap.objs.size+1)::(us++ds)) _ _ E (hr.make C us [])
  (I2.env0.make C us []) (hb _ (Value.ref (s.heap.objs.size+1)::us) I2.kIn hl) r2 hq) fun r s' hq'=> ?_))
 cases r with
 | error e=>exact hx pins σ _ _ e s' I2 hq'
 | ok fl =>
  cases fl with
  | ret u =>
   obtain⟨v,H',I3,rv,ev,q3⟩:=I2.after hq';subst ev;exact⟨rv,⟨V.ref (s.heap.objs.size+1),H',I3,rfl,q3⟩⟩
  | next=>exact False.elim hq'
  | brk=>exact False.elim hq'
  | cont=>exact False.elim hq'
theorem W3 (M:Mk X.K C f)(F:bD X.prog X.w X.K X.mg X.base CX k f fd ps sp)(hr:Room (k+1) X.A)(hg:Gl X x)(hm:X.mg x=some (.ref C))(hb:Binds X.K fd ps ds)(hd:Vals dvs ds)(hx:mM CX X E)
  (ha:PA X (e::es) t)(hdb:(x==("__debug__" :Str))=false:=by decide)(he:starEach (e::es) X.env=(false,eval e X.env)::starEach es X.env:=by rfl)(hpl:(backTo pos (starEach es X.env)).any (·.1)=false:=by rfl) :
  PE X (.Call (.Name x p) (e::es) [] pos) (KZ C sp dvs E t):=by
 intro pins s σ H Q I h;refine wpAny_Call_Name_kw (nX I hg hm ?_ hdb);refine PySem.W.callWith_K (h₀:=X.base) I.ok.mod.kin M.kp (thn (ha pos pins s σ H _ I h) fun us s1 ⟨vs,H1,I1,r,q⟩=>⟨I1.kIn,?_⟩) he hpl;exact Q2 M F hr hb hd hx I1 r q
end
section
variable {X:Cx}{CX:CXT}{k:Nat}{f C:Addr}{fd:FuncData}{ps ks:List Str}{sp:Sp}{E:XK}{x m:Str}{p pos apos kpos:Pos}{e o:Expr}{es:List Expr}{kws:List Keyword}{te ta:TE}{t tk:TA}{nm:Option Str}
variable {g:List Value->List Value->List Value}{gV:List V->List V->List V}
end
structure aR (N P:List Str)(sc:Scope):Prop where
 kind:sc.kind= .function
 co:sc.isCoroutine=false
 gen:sc.isGenerator=false
 nd:N.Nodup
 pre:N.take P.length=P
 par:∀x∈P,sc.names.lookup x=some .local∨sc.names.lookup x=some .cell
 nofree:∀y∈sc.names,y.2≠ .free
theorem BR {kindOf:Str->Option NameKind}{x:Str}:∀{binds:List (Str×Value)}{m:Str->Option Value},(∀v,(x,v)∉binds)->bindL kindOf binds m x=m x
 | [],_,_=>rfl
 | (n,v)::r,m,h=>by
  unfold bindL;rw[BR fun w hw=>h w (List.mem_cons_of_mem _ hw)]
  split
  ·have:x≠n:=by rintro rfl;exact h v List.mem_cons_self
   simp[this]
  ·rfl
theorem CB {kindOf:Str->Option NameKind}{x:Str}:∀{binds:List (Str×Value)}{m:Str->Option Value},(∀v,(x,v)∉binds)->bindC kindOf binds m x=m x
 | [],_,_=>rfl
 | (n,v)::r,m,h=>by
  unfold bindC;rw[CB fun w hw=>h w (List.mem_cons_of_mem _ hw)]
  split
  ·rfl
  ·have:x≠n:=by rintro rfl;exact h v List.mem_cons_self
   simp[this]
theorem BM {kindOf:Str->Option NameKind}{x:Str}{v:Value}:∀{P:List Str}{vs:List Value}{i:Nat}{m:Str->Option Value},P.Nodup->P[i]? =some x->vs[i]? =some v->kindOf x=some .local →
  bindL kindOf (P.zip vs) m x=some v
 | [],_,_,_,_,h,_,_=>by simp at h
 | _::_,[],_,_,_,_,h,_=>by simp at h
 | p::P,w::vs,0,m,nd,h1,h2,hk=>by
  simp at h1 h2;subst h1;subst h2;show bindL kindOf ((p,w)::P.zip vs) m p=_;unfold bindL;rw[BR fun v hv=>(List.nodup_cons.mp nd).1 (List.of_mem_zip hv).1,if_pos hk];simp
 | p::P,w::vs,i+1,m,nd,h1,h2,hk=>by
  show bindL kindOf ((p,w)::P.zip vs) m x=_;unfold bindL;exact BM (i:=i) (List.nodup_cons.mp nd).2 (by simpa using h1) (by simpa using h2) hk
theorem CD {kindOf:Str->Option NameKind}{x:Str}{v:Value}:∀{P:List Str}{vs:List Value}{i:Nat}{m:Str->Option Value},P.Nodup->P[i]? =some x->vs[i]? =some v->kindOf x≠some .local →
  bindC kindOf (P.zip vs) m x=some v
 | [],_,_,_,_,h,_,_=>by simp at h
 | _::_,[],_,_,_,_,h,_=>by simp at h
 | p::P,w::vs,0,m,nd,h1,h2,hk=>by
  simp at h1 h2;subst h1;subst h2;show bindC kindOf ((p,w)::P.zip vs) m p=_;unfold bindC;rw[CB fun v hv=>(List.nodup_cons.mp nd).1 (List.of_mem_zip hv).1,if_neg hk];simp
 | p::P,w::vs,i+1,m,nd,h1,h2,hk=>by
  show bindC kindOf ((p,w)::P.zip vs) m x=_;unfold bindC;exact CD (i:=i) (List.nodup_cons.mp nd).2 (by simpa using h1) (by simpa using h2) hk
def j5 (N:List Str)(vs:List V):St:=vs.map some++List.replicate (N.length - vs.length) none
def gD (CX:CXT)(P:Program)(w:World)(K:PySem.W.Frag)(mg:Str->Option Value)(base:Heap)(N:List Str)(qual:Str)(scope:Scope)(f:Addr)(cd:Value)(A:Around)(outer:List Env)(s:Shared)(H:Hp)(E:XK):Cx where
 prog:=P
 w:=w
 K:=K
 mg:=mg
 base:=base
 A:=A.deeper (envOfC qual scope s.heap.objs.size f cd)
 N:=N
 s₀:=s
 H₀:=H
 env:=envOfC qual scope s.heap.objs.size f cd
 outer:=outer
 stack:=envOfC qual scope s.heap.objs.size f cd::outer
 ex:=[]
 calm:=true
 fn:=fun _=>true
 pn:=[]
 xe:=fun e s'=>wpAny (model P w) (A.deeper (envOfC qual scope s.heap.objs.size f cd)) (leaving (envOfC qual scope s.heap.objs.size f cd) e) (fun _ s''=>CX outer H s E e s'') (fun e' s''=>CX outer H s E e' s'') s'
theorem wX {sc:Scope}{n:Nat}{x:Str} (h:sc.names.lookup x=some .cell):∃c,(cellsFrom n sc.names []).lookup x=some c:=by
 have q:=PySem.W.cellsFrom_some sc.names n [] (.inl h);exact Option.isSome_iff_exists.mp q
theorem NM {CX:CXT}{P:Program}{w:World}{K:PySem.W.Frag}{mg:Str->Option Value}{base:Heap}{N ps:List Str}{qual:Str}{scope:Scope}{f:Addr}{cd:Value}{A:Around}{outer:List Env}{s s1:Shared}{H:Hp}{E:XK}{us:List Value}{vs:List V}
  (S:aR N ps scope)(hd:A.handled=none)(e0:Env0 P w K mg base A outer s H)(hl:vs.length=ps.length)(r:Vals vs us)
  (x:InCallC s s.heap.objs.size (bindL (envOfC qual scope s.heap.objs.size f cd).kindOf (ps.zip us) fun _=>none) (cellsFrom (s.heap.objs.size+1) scope.names []) (bindC (envOfC qual scope s.heap.objs.size f cd).kindOf (ps.zip us) fun _=>none) s1) :
  Inv (gD CX P w K mg base N qual scope f cd A outer s H E) [] (j5 N vs) H s1:=by
 have hpl:ps.length<=N.length:=by have:=congrArg List.length S.pre;rw[List.length_take]at this;lia
 obtain⟨h1,tk,rfl,hk⟩:=x.done;have noA:∀b:Addr,b∉(gD CX P w K mg base N qual scope f cd A outer s H E).ex:=fun b z=>absurd (show b∈([]:List Addr) from z) (by simp);refine⟨⟨e0.mod,S.kind,rfl,rfl,Nat.le_refl _,fun y z c h1 h2=> ?_,fun y hy=> ?_,fun y c _ h=> ?_,fun _=>hd,Around.frames_deeper e0.frames,.inr ⟨rfl,rfl⟩,fun b z=>absurd z (noA b),e0.bs,e0.bsz,fun b _ _=>noA b,fun b z=>absurd z (noA b),e0.funs,e0.frf⟩,
  rfl,e0.bare,Un.kept hk,⟨_,x.toInCall.ns,fun i y v h1 h2 h3=> ?_⟩,fun y c h=>⟨_,x.cell y c h⟩,e0.hok.fresh (Nat.le_refl _),fun y c h=> ?_,fun p hp=>absurd (show p∈([]:List (Addr×Obj)) from hp) (by simp),e0.hok.kept hk,?_⟩
 ·exact name_of_addr x.apart (PySem.mem_of_lookup h1) (PySem.mem_of_lookup h2)
 ·have hy:scope.names.lookup y=some .cell∨scope.names.lookup y=some .free:=hy;rcases hy with hy|hy
  ·exact wX hy
  ·exact absurd rfl (S.nofree _ (PySem.mem_of_lookup hy))
 ·exact Nat.le_of_lt (x.above y c (PySem.mem_of_lookup h))
 ·have hi:i<vs.length:=by
   unfold j5 at h2
   by_cases hi:i<vs.length
   ·exact hi
   ·rw[List.getElem?_append_right (by simpa using hi)]at h2;rw[List.getElem?_replicate]at h2
    split at h2<;>cases h2
  have ha:vs[i]? =some v:=by
   unfold j5 at h2;rw[List.getElem?_append_left (by simpa using hi),List.getElem?_map]at h2;cases e:vs[i]? with
   | none=>rw[e]at h2;cases h2
   | some a=>rw[e]at h2;cases h2;rfl
  obtain⟨u,hu,rv⟩:=r.get ha;have hp:ps[i]? =some y:=by
   rw[←S.pre,List.getElem?_take_of_lt (by lia)];exact h1
  have ndP:ps.Nodup:=by rw[←S.pre];exact S.nd.sublist (List.take_sublist _ _)
  refine⟨u,rv,?_⟩;rcases S.par y (List.mem_of_getElem? hp) with k|k
  ·exact .inl ⟨k,BM ndP hp hu k⟩
  ·obtain⟨c,e⟩:=wX (n:=s.heap.objs.size+1) k;refine .inr ⟨.inl k,c,e,?_⟩;have q:=x.cell y c e;rw[CD ndP hp hu (by show scope.names.lookup y≠_;rw[k];decide)]at q;exact q
 ·exact e0.hok.fresh (Nat.le_of_lt (x.above y c (PySem.mem_of_lookup h)))
 ·unfold j5;show _=N.length;rw[List.length_append,List.length_map,List.length_replicate]
  lia
theorem TW {CX:CXT}{P:Program}{w:World}{K:PySem.W.Frag}{mg:Str->Option Value}{base:Heap}{k:Nat}{f:Addr}{name qual:Str}{params:Arguments}{body:List Stmt}{scope:Scope}{dV kV doc pm cdv ct oc:Value}{an od:Option Addr}
  {osl:Array (Option Value)}{N ps:List Str}{sp:Sp} (lk:K.lookup f=some ⟨oc,od,.func (PySem.W.fnOf name qual params body scope dV kV doc pm an cdv ct),osl⟩) (hcd:PySem.W.codeIn K cdv qual=true) (S:aR N ps scope)
  (len:∀vs H Q E,sp vs H Q E->vs.length=ps.length)
  (hbody:∀(A:Around) (outer:List Env) (s:Shared) (H:Hp) (vs:List V) (Q:VK) (E:XK),Room k (A.deeper (envOfC qual scope s.heap.objs.size f cdv))->sp vs H Q E →
   ∃t,PSs (gD CX P w K mg base N qual scope f cdv A outer s H E) body t/\t { nx:=fun _ H'=>Q .non H',rt:=Q } (j5 N vs) H) :
  bD P w K mg base CX (k+1) f (PySem.W.fnOf name qual params body scope dV kV doc pm an cdv ct) ps sp:=by
 refine⟨len,fun A outer s H args us vs Q E hr e0 hb r hsp=> ?_⟩;have hl:=len _ _ _ _ hsp;have KX:K.In s.heap:=e0.mod.kin.keeps fun b o e=>(e0.bs b o e).1;have lim:s.heap.NoLimit:=e0.mod.nolimit.keeps fun b o e=>(e0.bs b o e).1;have hkind:∀y∈ps.zip us,scope.names.lookup y.1=some .local∨(scope.names.lookup y.1=some .cell/\((cellsFrom (s.heap.objs.size+1) scope.names []).lookup y.1).isSome=true):=fun⟨n,v⟩ hy=>by
  rcases S.par n (List.of_mem_zip hy).1 with q|q
  ·exact .inl q
  ·exact .inr ⟨q,PySem.W.cellsFrom_some _ _ _ (.inl q)⟩
 refine codeAny_call_function hr.depth (KX _ _ lk) rfl S.co S.gen rfl (PySem.W.codeRec_of KX hcd) (hb _ _ _ _ ?_);refine wpAny_newFunctionEnv_cells S.kind hkind fun env he s1 x=> ?_;subst he;refine⟨lim.keeps x.toInCall.keep,codeAny_func ?_⟩;obtain⟨t,ht,hq⟩:=hbody A outer s H vs Q E (hr.deeper _) hsp;have I:Inv (gD CX P w K mg base N qual scope f cdv A outer s H E) [] (j5 N vs) H s1:=NM S hr.hd e0 hl r x;refine wpAny_mono (ht [] s1 (j5 N vs) H _ I hq) (fun fl s' hs=> ?_) fun e s' hs=>hs;have fin:∀{σ':St}{H':Hp}{v:V}{u:Value},Inv (gD CX P w K mg base N qual scope f cdv A outer s H E) [] σ' H' s'->RelV v u->Q v H'->CE outer P w H s Q u s' :=
  fun {σ' H' v u} J rv q=>⟨v,H',J.os,J.bare,J.base,J.hok,rv,q⟩
 cases fl with
 | ret u =>
  obtain⟨v,σ',H',J,rv,q⟩:=hs;exact fin J rv q
 | next =>
  obtain⟨σ',H',J,q⟩:=hs;exact fin (v:=V.non) (u:=Value.none) J rfl q
 | brk =>
  obtain⟨_,_,_,q⟩:=hs;exact False.elim q
 | cont =>
  obtain⟨_,_,_,q⟩:=hs;exact False.elim q
end L2
namespace L2
open PySem PySem.Spec PyProof.Rows
section
variable {X:Cx}{x:Str}{p pos:Pos}{e:Expr}{es:List Expr}{t:TA}{id T:String}{r:List V->Hp->VK->Prop}
def tCB (r:List V->Hp->VK->Prop)(t:TA):TE:=fun σ H Q=>t σ H fun vs H1=>r vs H1 Q
theorem bK (hc:c6 X (.builtin id) r)(hg:Gl X x)(hm:X.mg x=none)(hv:bootBuiltins x=some (.builtin id))(ha:PA X (e::es) t)(hn:x≠ "__name__" :=by decide)(hdb:(x==("__debug__" :Str))=false:=by decide)
  (he:starEach (e::es) X.env=(false,eval e X.env)::starEach es X.env:=by rfl)(hpl:(backTo pos (starEach es X.env)).any (·.1)=false:=by rfl):PE X (.Call (.Name x p) (e::es) [] pos) (tCB r t):=by
 intro pins s σ H Q I h;refine wpAny_Call_Name_kw (tQ I hg hm hv ?_ hn hdb);exact PyProof.Rows.callWith_builtin1 (thn (ha pos pins s σ H _ I h) fun us s1 ⟨vs,H1,I1,r1,q1⟩=>hc pins s1 σ H1 vs us Q I1 r1 q1) he hpl
theorem tI (hc:c6 X (.type T) r)(hg:Gl X x)(hm:X.mg x=none)(hv:bootBuiltins x=some (.type T))(ha:PA X (e::es) t)(hn:x≠ "__name__" :=by decide)(hdb:(x==("__debug__" :Str))=false:=by decide)
  (he:starEach (e::es) X.env=(false,eval e X.env)::starEach es X.env:=by rfl)(hpl:(backTo pos (starEach es X.env)).any (·.1)=false:=by rfl):PE X (.Call (.Name x p) (e::es) [] pos) (tCB r t):=by
 intro pins s σ H Q I h;refine wpAny_Call_Name_kw (tQ I hg hm hv ?_ hn hdb);exact PyProof.Rows.callWith_type1 (thn (ha pos pins s σ H _ I h) fun us s1 ⟨vs,H1,I1,r1,q1⟩=>hc pins s1 σ H1 vs us Q I1 r1 q1) he hpl
end
end L2
namespace HT
open PySem PyProof.Rows
section
open PySem.SeqAt
open PySem.AutoSeq1 (wpAny_loadPart')
open PySem.MeetsSeq PySem.MeetsSeq2 PySem.MeetsSeq3
end
section
variable {prog:Program}{w:World}{A:Around}{E:Value->Shared->Prop}{s:Shared}
def sIx (n d:Nat):Option Int->Nat
 | none=>d
 | some v=>if v<0 then (v+(n:Int)).toNat else min v.toNat n
theorem sIx_nat (n d k:Nat):sIx n d (some (k:Int))=min k n:=by
 show (if (k:Int)<0 then ((k:Int)+(n:Int)).toNat else min (k:Int).toNat n)=min k n;rw[if_neg (by lia),Int.toNat_natCast]
end
end HT
namespace L2
open PySem PySem.Spec PyProof.Rows
abbrev TO:=St->Hp->(Option Int->Hp->Prop)->Prop
def PO (X:Cx)(e:Option Expr)(t:TO):Prop :=
 ∀(pins:List (Addr×Obj)) (s:Shared) (σ:St) (H:Hp) (Q:Option Int->Hp->Prop),Inv X pins σ H s->t σ H Q →
  wpAny (model X.prog X.w) X.A (evalPart e X.env) (fun u s'=>∃o H',Inv X pins σ H' s'/\IsPart u o/\Q o H') X.xe s
def IG:TO:=fun _ H Q=>Q none H
def TY (t:TE):TO:=fun σ H Q=>t σ H fun x H1=>∃i,x= .int i/\Q (some i) H1
section
variable {X:Cx}{e:Expr}{te:TE}{lo hi:Option Expr}{tl th:TO}{pos p2:Pos}
theorem u4:PO X none IG:=by
 intro pins s σ H Q I h;rw[evalPart_none];exact wpAny_pure ⟨none,H,I,.none,h⟩
theorem nZ (h:PE X e te):PO X (some e) (TY te):=by
 intro pins s σ H Q I hw;rw[evalPart_some];refine thn (h pins s σ H _ I hw) fun u s1 ⟨x,H1,I1,r1,q1⟩=> ?_;obtain⟨i,rfl,q⟩:=q1;obtain⟨t,rfl⟩:=r1;exact⟨some i,H1,I1,.int i t,q⟩
def SlR (X:Cx)(r:V->Option Int->Option Int->Hp->VK->Prop):Prop :=
 ∀(pins:List (Addr×Obj)) (s:Shared) (σ:St) (H:Hp) (x:V) (v vl vu:Value) (lo hi:Option Int) (sl:Addr) (Q:VK),Inv X pins σ H s->RelV x v->s.heap.IsSliceOf sl vl vu .none->IsPart vl lo->IsPart vu hi->r x lo hi H Q →
  ∃T id,typeLookup (.type T) "__getitem__" =pure (some (.builtin id))/\s.TypeIs v T/\wpAny (model X.prog X.w) X.A (getItem v (.ref sl)) (EP X pins σ Q) X.xe s
def tSl (r:V->Option Int->Option Int->Hp->VK->Prop)(te:TE)(tl th:TO):TE:=fun σ H Q=>te σ H fun x H1=>tl σ H1 fun l H2=>th σ H2 fun u H3=>r x l u H3 Q
theorem oN {r:V->Option Int->Option Int->Hp->VK->Prop}(hr:SlR X r)(he:PE X e te)(hl:PO X lo tl)(hu:PO X hi th):PE X (.Subscript e (.Slice lo hi none p2) pos) (tSl r te tl th):=by
 intro pins s σ H Q I h;refine Subscript_ (thn (he pins s σ H _ I h) fun v s1 ⟨x,H1,I1,r1,q1⟩=> ?_);refine wpAny_Slice (thn (hl pins s1 σ H1 _ I1 q1) fun vl s2 ⟨l,H2,I2,pl,q2⟩=>thn (hu pins s2 σ H2 _ I2 q2) fun vu s3 ⟨u,H3,I3,pu,q3⟩=> ?_);rw[evalPart_none];refine wpAny_pure ?_;have I4:Inv X pins σ H3 { s3 with heap:=s3.heap.push { cls:= .type "slice",data:= .fields #[vl,vu,.none] } }:=I3.kept (t':=s3.toks) fun b ob q=>Heap.get?_push_of_some _ q;obtain⟨T,id,hT,ht,hg⟩:=hr pins { s3 with heap:=s3.heap.push { cls:= .type "slice",data:= .fields #[vl,vu,.none] } } σ H3 x v vl vu l u s3.heap.objs.size Q I4 r1 (Heap.IsSliceOf.new ..) pl pu q3;show wpAny (model X.prog X.w) X.A (subscriptTail e (.Slice lo hi none p2) v (.ref s3.heap.objs.size)) (EP X pins σ Q) X.xe { s3 with heap:=s3.heap.push { cls:= .type "slice",data:= .fields #[vl,vu,.none] } };exact tail_any (ops:=[.ref s3.heap.objs.size,v]) ht hT hg (by with_unfolding_all rfl)
def w4 (xs:List V)(lo hi:Option Int):List V:=(xs.drop (HT.sIx xs.length 0 lo)).take (HT.sIx xs.length xs.length hi - HT.sIx xs.length 0 lo)
theorem HP (xs:List V)(lo hi:Option Int):(w4 xs lo hi).length<=xs.length:=by
 unfold w4;rw[List.length_take,List.length_drop]
 lia
end
end L2
namespace L2
open PySem PySem.Spec PyProof.Rows
def ixN (n:Nat)(i:Int):Option Nat:=if 0<=i then (if i<n then some i.toNat else none) else if -(n:Int)<=i then some (i+n).toNat else none
def atI {α:Type}(xs:List α)(i:Int):Option α:=(ixN xs.length i).bind fun j=>xs[j]?
theorem WK {n:Nat}{i:Int}{j:Nat} (h:ixN n i=some j):seqIndex? i n=some j/\j<n/\ -(n:Int)<=i/\i<n:=by
 unfold ixN at h
 by_cases h0:0<=i
 ·rw[if_pos h0]at h
  by_cases h1:i<n
  ·rw[if_pos h1]at h;have e:i.toNat=j:=Option.some.inj h;exact⟨by rw[seqIndex_of h0 h1,e],by lia,by lia,h1⟩
  ·rw[if_neg h1]at h;cases h
 ·rw[if_neg h0]at h
  by_cases h1: -(n:Int)<=i
  ·rw[if_pos h1]at h;have e:(i+n).toNat=j:=Option.some.inj h;exact⟨by rw[seqIndex_neg (by lia) h1,e],by lia,h1,by lia⟩
  ·rw[if_neg h1]at h;cases h
theorem zS {α:Type}{xs:List α}{i:Int}{v:α} (h:atI xs i=some v):∃j,seqIndex? i xs.length=some j/\xs[j]? =some v/\j<xs.length/\ -(xs.length:Int)<=i/\i<xs.length:=by
 unfold atI at h;cases e:ixN xs.length i with
 | none=>rw[e]at h;cases h
 | some j =>
  rw[e]at h;obtain⟨h1,h2,h3,h4⟩:=WK e;exact⟨j,h1,h,h2,h3,h4⟩
theorem u7 {α:Type}{xs:List α}{j:Nat}{v:α} (h:xs[j]? =some v):atI xs (j:Int)=some v:=by
 have hj:j<xs.length:=(List.getElem?_eq_some_iff.mp h).1;have e:ixN xs.length (j:Int)=some j:=by
  unfold ixN;rw[if_pos (by lia),if_pos (by lia)];simp
 unfold atI;rw[e];exact h
def XQ (b:Expr):Prop:=∀o i,subscripted b false o i=operate [o,i] (getItem o i)
def IxR (X:Cx)(r:R2):Prop :=
 ∀(value slice:Expr) (pins:List (Addr×Obj)) (s:Shared) (σ:St) (H:Hp) (x y:V) (v u:Value) (Q:VK),Inv X pins σ H s->RelV x v->RelV y u->r x y H Q →
  subscripted slice false v u=operate [v,u] (getItem v u)->wpAny (model X.prog X.w) X.A (subscriptTail value slice v u) (EP X pins σ Q) X.xe s
def MtR (X:Cx)(id:String)(r:V->List V->Hp->VK->Prop):Prop :=
 ∀(pins:List (Addr×Obj)) (s:Shared) (σ:St) (H:Hp) (x:V) (xs:List V) (v:Value) (us:List Value) (Q:VK),Inv X pins σ H s->RelV x v->Vals xs us->r x xs H Q →
  wpAny (model X.prog X.w) X.A (call (.builtin id) (v::us)) (EP X pins σ Q) X.xe s
section
variable {X:Cx}{a b:Expr}{ta tb:TE}{pos:Pos}
theorem dF {r:R2}(hr:IxR X r)(ha:PE X a ta)(hb:PE X b tb)(hs:XQ b):PE X (.Subscript a b pos) (tOp r ta tb):=by
 intro pins s σ H Q I h;exact Subscript_ (QN ha hb I h fun v u s2 x y H2 I2 rx ry q=>hr a b pins s2 σ H2 x y v u Q I2 rx ry q (hs _ _))
def EK (K:PySem.W.Frag):R2:=fun x y H Q=>∃p xs i v,x= .ref p/\y= .int i/\SqL K H p xs/\atI xs i=some v/\Q v H
def aAe (K:PySem.W.Frag):R2:=fun x y H Q=>∃p xs i v,x= .ref p/\y= .int i/\SqT K H p xs/\atI xs i=some v/\Q v H
def aBY:R2:=fun x y H Q=>∃z i c,x= .str z/\y= .int i/\z.length<=sizeLine/\atI z.cps.toList i=some c/\Q (.str ⟨#[c]⟩) H
theorem nY:IxR X (EK X.K):=by
 intro value slice pins s σ H x y v u Q I rx ry h hs;obtain⟨p,xs,i,z,rfl,rfl,hq,he,q⟩:=h;cases rx;obtain⟨t,rfl⟩:=ry;obtain⟨its,r,pl,hz⟩:=I.list hq;obtain⟨j,h1,h2,h3,h4,h5⟩:=zS he;obtain⟨w,ew,rw'⟩:=r.get h2;have hl:=r.length;have hn:=tM;have fin:EP X pins σ Q w s:=⟨z,H,I,rw',q⟩
 by_cases h0:0<=i
 ·have hj:i.toNat=j:=by
   rw[seqIndex_of h0 h5]at h1;exact Option.some.inj h1
  exact item_listR pl.isList h0 (by lia) (by rw[hj];simpa using ew) fin hs
 ·have hj:(i+(its.toArray.size:Int)).toNat=j:=by
   rw[seqIndex_neg (by lia) h4]at h1;rw[List.size_toArray,←hl];exact Option.some.inj h1
  exact subscriptTail_builtinR (x:=w) pl.isList.typeIs slot_list_getitem.lookup
   (wpAny_getItem_list_neg (Q:=fun r s'=>r=w/\EP X pins σ Q r s') pl.isList (by lia) (by rw[List.size_toArray]<;>lia) (by lia) (by rw[hj];simpa using ew) ⟨rfl,fin⟩) hs
theorem GB:IxR X (aAe X.K):=by
 intro value slice pins s σ H x y v u Q I rx ry h hs;obtain⟨p,xs,i,z,rfl,rfl,hq,he,q⟩:=h;cases rx;obtain⟨t,rfl⟩:=ry;obtain⟨its,r,pl,hz⟩:=I.tuple hq;obtain⟨j,h1,h2,h3,h4,h5⟩:=zS he;obtain⟨w,ew,rw'⟩:=r.get h2;have hl:=r.length;have hn:=tM;have fin:EP X pins σ Q w s:=⟨z,H,I,rw',q⟩
 exact subscriptTail_builtinR (x:=w) pl.typeIs slot_tuple_getitem.lookup
  (getItem_tuple (j:=j) (Q:=fun r s'=>r=w/\EP X pins σ Q r s') pl (by lia) (by lia) (by rw[List.size_toArray,←hl];exact h1) (by simpa using ew) ⟨rfl,fin⟩) hs
theorem aAJ:IxR X aBY:=by
 intro value slice pins s σ H x y v u Q I rx ry h hs;obtain⟨z,i,c,rfl,rfl,hz,he,q⟩:=h;obtain⟨t,rfl⟩:=rx;obtain⟨t',rfl⟩:=ry;obtain⟨j,h1,h2,h3,h4,h5⟩:=zS he;have hl:z.cps.toList.length=z.length:=by simp[Str.length]
 rw[hl]at h1 h4 h5;have hn:=tM;exact tail_any (typeIs_str s z t) slot_str_getitem.lookup (getItem_str (c:=c) (by
  have e1:decide (i< -(2^63:Int))=false:=decide_eq_false (by lia);have e2:decide (i≥2^63)=false:=decide_eq_false (by lia);rw[e1,e2,Bool.or_false]) (by rw[h1];simpa using h2) ⟨.str ⟨#[c]⟩,H,I.tok _,⟨_,rfl⟩,q⟩) hs
theorem FZ (lo hi:Option Int)(n:Nat):(sliceBounds lo hi none n).1=((HT.sIx n 0 lo:Nat):Int)/\(sliceBounds lo hi none n).2.1=((HT.sIx n n hi:Nat):Int)/\(sliceBounds lo hi none n).2.2=1:=by
 refine⟨?_,?_,rfl⟩
 ·cases lo with
  | none=>simp[sliceBounds,HT.sIx]
  | some i =>
   simp only[sliceBounds,HT.sIx,Option.getD_none,show (1:Int)>0 by decide,if_true]
   by_cases h:i<0
   ·simp only[h,if_true]<;>lia
   ·simp only[h,if_false]<;>lia
 ·cases hi with
  | none=>simp[sliceBounds,HT.sIx]
  | some i =>
   simp only[sliceBounds,HT.sIx,Option.getD_none,show (1:Int)>0 by decide,if_true]
   by_cases h:i<0
   ·simp only[h,if_true]<;>lia
   ·simp only[h,if_false]<;>lia
theorem CQ (its:List Value)(lo hi:Option Int):slicePick its.toArray lo hi none=((its.drop (HT.sIx its.length 0 lo)).take (HT.sIx its.length its.length hi - HT.sIx its.length 0 lo)).toArray:=by
 obtain⟨h1,h2,h3⟩:=FZ lo hi its.toArray.size;unfold slicePick;rw[h1,h2,h3];simp only[sliceRange_one,pick_run,List.size_toArray]<;>rfl
def QG (K:PySem.W.Frag):V->Option Int->Option Int->Hp->VK->Prop:=fun x lo hi H Q=>∃a xs,x= .ref a/\SqL K H a xs/\∀p,H p=none->Q (.ref p) (upd H p (.lst (w4 xs lo hi)))
theorem V4:SlR X (QG X.K):=by
 intro pins s σ H x v vl vu lo hi sl Q I rx hs pl pu h;obtain⟨a,xs,rfl,hx,q⟩:=h;cases rx;obtain⟨its,r,ht,hz⟩:=I.list hx;have hlen:=r.length;refine⟨"list",_,slot_list_getitem.lookup,ht.isList.typeIs,?_⟩;refine wpAny_getItem_list_slice ht.isList hs pl pu .none (by simp) ?_ (by rw[List.size_toArray]<;>lia);rw[CQ,←hlen];refine⟨.ref s.heap.objs.size,_,I.laid (t':=s.toks) (o:= .lst (w4 xs lo hi)) (fun b ob q=>Heap.get?_push_of_some _ q) (Nat.le_refl _) ?_,rfl,q _ (I.hok.fresh (Nat.le_refl _))⟩;exact⟨Nat.le_trans (HP xs lo hi) hz,_,0,(r.drop (HT.sIx xs.length 0 lo)).take (HT.sIx xs.length xs.length hi - HT.sIx xs.length 0 lo),Heap.get?_push_size _ rfl⟩
def pP:V->Bool
 | .non=>true
 | .bl _=>true
 | .int _=>true
 | .str _=>true
 | _=>false
def eqV:V->V->Bool
 | .non,.non=>true
 | .bl a,.bl b=>a==b
 | .bl a,.int b=>(if a then 1 else 0)==b
 | .int a,.bl b=>a==(if b then 1 else 0)
 | .int a,.int b=>a==b
 | .str a,.str b=>a==b
 | _,_=>false
theorem YY {A:Around}{s:Shared}{y x:V}{u v:Value} (ry:RelV y u) (rx:RelV x v) (fy:pP y=true) (fx:pP x=true):SeqAt.EqAt A s u v (eqV y x):=by
 cases y with
 | non =>
  cases ry;cases x with
  | non=>cases rx;exact SeqAt.EqAt.same _
  | bl b=>cases rx;exact SeqAt.EqAt.none_bool b
  | int b=>obtain⟨t,rfl⟩:=rx;exact SeqAt.EqAt.none_int b t
  | str b=>obtain⟨t,rfl⟩:=rx;exact SeqAt.EqAt.none_str b t
  | _=>exact absurd (show false=true from fx) Bool.false_ne_true
 | bl a =>
  cases ry;cases x with
  | non=>cases rx;exact SeqAt.EqAt.bool_none a
  | bl b=>cases rx;exact SeqAt.EqAt.bool_bool a b
  | int b=>obtain⟨t,rfl⟩:=rx;exact SeqAt.EqAt.bool_int a b t
  | str b=>obtain⟨t,rfl⟩:=rx;exact SeqAt.EqAt.bool_str a b t
  | _=>exact absurd (show false=true from fx) Bool.false_ne_true
 | int a =>
  obtain⟨t',rfl⟩:=ry;cases x with
  | non=>cases rx;exact SeqAt.EqAt.int_none a t'
  | bl b=>cases rx;exact SeqAt.EqAt.int_bool a t' b
  | int b=>obtain⟨t,rfl⟩:=rx;exact SeqAt.EqAt.int_int a t' b t
  | str b=>obtain⟨t,rfl⟩:=rx;exact SeqAt.EqAt.int_str a t' b t
  | _=>exact absurd (show false=true from fx) Bool.false_ne_true
 | str a =>
  obtain⟨t',rfl⟩:=ry;cases x with
  | non=>cases rx;exact SeqAt.EqAt.str_none a t'
  | bl b=>cases rx;exact SeqAt.EqAt.str_bool a t' b
  | int b=>obtain⟨t,rfl⟩:=rx;exact SeqAt.EqAt.str_int a t' b t
  | str b=>obtain⟨t,rfl⟩:=rx;exact SeqAt.EqAt.str_str a t' b t
  | _=>exact absurd (show false=true from fx) Bool.false_ne_true
 | _=>exact absurd (show false=true from fy) Bool.false_ne_true
def eqU (x:V)(u:Value):Bool:=match u with
 | .none=>eqV .non x
 | .bool b=>eqV (.bl b) x
 | .int i _=>eqV (.int i) x
 | .str z _=>eqV (.str z) x
 | _=>false
theorem OJ {x y:V}{u:Value} (r:RelV y u) (f:pP y=true):eqU x u=eqV y x:=by
 cases y with
 | non=>cases r;rfl
 | bl b=>cases r;rfl
 | int i=>obtain⟨t,rfl⟩:=r;rfl
 | str z=>obtain⟨t,rfl⟩:=r;rfl
 | _=>exact absurd (show false=true from f) Bool.false_ne_true
theorem qU {x:V}:∀{xs:List V}{us:List Value},Vals xs us->xs.all pP=true->us.any (eqU x)=xs.any fun y=>eqV y x
 | _,_,.nil,_=>rfl
 | y::xs,u::us,.cons r t,f=>by
  rw[List.all_cons,Bool.and_eq_true]at f;rw[List.any_cons,List.any_cons,OJ r f.1,qU t f.2]
theorem oQ {A:Around}{s:Shared}{x:V}{v:Value} (rx:RelV x v) (fx:pP x=true):∀{xs:List V}{us:List Value},Vals xs us->xs.all pP=true->∀u∈us,SeqAt.EqAt A s u v (eqU x u)
 | _,_,.nil,_=>fun u hu=>by cases hu
 | y::xs,u::us,.cons r t,f=>fun u' hu=>by
  rw[List.all_cons,Bool.and_eq_true]at f;rcases List.mem_cons.mp hu with rfl|hu
  ·rw[OJ r f.1];exact YY r rx f.1 fx
  ·exact oQ rx fx t f.2 u' hu
def inV (x:V)(xs:List V):Bool:=xs.any fun y=>eqV y x
def rIn (K:PySem.W.Frag)(neg:Bool):R2:=fun x y H Q=>∃p xs,y= .ref p/\(SqL K H p xs∨SqT K H p xs)/\pP x=true/\xs.all pP=true/\Q (.bl (if neg then !inV x xs else inV x xs)) H
theorem NA:OpR X (compareOp .In) (rIn X.K false):=by
 intro pins s σ H x y v u Q I rx ry h;obtain⟨p,xs,rfl,hq,fx,fs,q⟩:=h;cases ry;rcases hq with hq|hq
 ·obtain⟨its,r,pl,hz⟩:=I.list hq;refine SeqAt.in_listAt (eqU x) pl.isList (fun w hw=>oQ rx fx r fs w (by simpa using hw)) ⟨.bl _,H,I,rfl,?_⟩;rw[show its.toArray.any (eqU x)=its.any (eqU x) by simp,qU r fs];exact q
 ·obtain⟨its,r,pl,hz⟩:=I.tuple hq;refine SeqAt.in_tupleAt (eqU x) pl (fun w hw=>oQ rx fx r fs w (by simpa using hw)) ⟨.bl _,H,I,rfl,?_⟩;rw[show its.toArray.any (eqU x)=its.any (eqU x) by simp,qU r fs];exact q
theorem EZ:OpR X (compareOp .NotIn) (rIn X.K true):=by
 intro pins s σ H x y v u Q I rx ry h;obtain⟨p,xs,rfl,hq,fx,fs,q⟩:=h;cases ry;rcases hq with hq|hq
 ·obtain⟨its,r,pl,hz⟩:=I.list hq;refine SeqAt.notIn_listAt (eqU x) pl.isList (fun w hw=>oQ rx fx r fs w (by simpa using hw)) ⟨.bl _,H,I,rfl,?_⟩;rw[show its.toArray.any (eqU x)=its.any (eqU x) by simp,qU r fs];exact q
 ·obtain⟨its,r,pl,hz⟩:=I.tuple hq;refine SeqAt.notIn_tupleAt (eqU x) pl (fun w hw=>oQ rx fx r fs w (by simpa using hw)) ⟨.bl _,H,I,rfl,?_⟩;rw[show its.toArray.any (eqU x)=its.any (eqU x) by simp,qU r fs];exact q
theorem E5:c6 X (.builtin "len") (fun xs H Q=>∃p ys,xs=[.ref p]/\(SqL X.K H p ys∨SqT X.K H p ys)/\Q (.int ys.length) H):=by
 intro pins s σ H xs us Q I r h;obtain⟨p,ys,rfl,hq,q⟩:=h;obtain⟨u,rfl,rx⟩:=nM r;cases rx;have hn:=tM;rcases hq with hq|hq
 ·obtain⟨its,r',pl,hz⟩:=I.list hq;have hlen:=r'.length;exact Calls.call_len_list pl.isList (by simp only[List.size_toArray]<;>lia) ⟨.int ys.length,H,I.tok _,⟨s.toks+1,by rw[List.size_toArray,hlen]⟩,q⟩
 ·obtain⟨its,r',pl,hz⟩:=I.tuple hq;have hlen:=r'.length;exact len_tuple pl (by simp only[List.size_toArray]<;>lia) ⟨.int ys.length,H,I.tok _,⟨s.toks+1,by rw[List.size_toArray,hlen]⟩,q⟩
theorem D9:c6 X (.builtin "len") (fun xs H Q=>∃z,xs=[.str z]/\z.length<=sizeLine/\Q (.int z.length) H):=by
 intro pins s σ H xs us Q I r h;obtain⟨z,rfl,hz,q⟩:=h;obtain⟨u,rfl,t,rfl⟩:=nM r;have hn:=tM;exact len_str (by lia) ⟨.int z.length,H,I.tok _,⟨_,rfl⟩,q⟩
def tyV (K:PySem.W.Frag)(T:String)(x:V)(H:Hp):Prop:=match x with
 | .str _=>T= "str"
 | .int _=>T= "int"
 | .ref p=>(T= "list" /\∃xs,SqL K H p xs)∨(T= "tuple" /\∃o,K.lookup p=some o/\o.cls= .type "tuple" /\o.dict=none) ∨
   (T= "dict" /\((∃kvs,H p=some (.dK kvs))∨∃kvs,H p=some (.dT kvs)))∨(T= "set" /\∃S n,H p=some (.set S n))
 | _=>False
theorem ZN {pins:List (Addr×Obj)}{σ:St}{H:Hp}{s:Shared}{T:String}{x:V}{v:Value} (I:Inv X pins σ H s) (r:RelV x v) (ty:tyV X.K T x H) :
  s.TypeIs v T/\∀a,v= .ref a->∃ob,s.heap.get? a=some ob/\ob.dict=none:=by
 cases x with
 | str z =>
  obtain⟨t,rfl⟩:=r;cases (show T= "str" from ty);exact⟨typeIs_str s z t,fun _ e=>nomatch e⟩
 | int i =>
  obtain⟨t,rfl⟩:=r;cases (show T= "int" from ty);exact⟨typeIs_int s i t,fun _ e=>nomatch e⟩
 | ref p =>
  cases r;rcases ty with⟨rfl,xs,hq⟩|⟨rfl,o,hk,hc,hd⟩|⟨rfl,hk⟩|⟨rfl,S,n,hk⟩
  ·obtain⟨its,_,pl,_⟩:=I.list hq;refine⟨pl.isList.typeIs,fun a e=> ?_⟩;cases e;obtain⟨o,n,e,c,hd,_⟩:=pl;exact⟨o,e,hd⟩
  ·refine⟨⟨o,I.kIn p o hk,hc⟩,fun a e=> ?_⟩;cases e;exact⟨o,I.kIn _ o hk,hd⟩
  ·have z:∃o,s.heap.get? p=some o/\o.ExactDict:=by
    rcases hk with⟨kvs,hk⟩|⟨kvs,hk⟩
    ·obtain⟨_,_,_,_,o,_,_,e,ex,_⟩:=I.hok p _ hk;exact⟨o,e,ex⟩
    ·obtain⟨_,_,_,_,o,_,_,e,ex,_⟩:=I.hok p _ hk;exact⟨o,e,ex⟩
   obtain⟨o,e,ex⟩:=z;refine⟨⟨o,e,ex.1⟩,fun a e2=> ?_⟩;cases e2;exact⟨o,e,ex.2.1⟩
  ·obtain⟨o,_,_,_,e,ex,_⟩:=I.hok p _ hk;refine⟨⟨o,e,ex.1⟩,fun a e2=> ?_⟩;cases e2;exact⟨o,e,ex.2.1⟩
 | _=>exact False.elim ty
def tBM (K:PySem.W.Frag)(T:String)(r:V->List V->Hp->VK->Prop)(to:TE)(t:TA):TE:=fun σ H Q=>to σ H fun x H1=>tyV K T x H1/\t σ H1 fun xs H2=>r x xs H2 Q
variable {o e:Expr}{es:List Expr}{to:TE}{t:TA}{name:Str}{apos cpos:Pos}{T id:String}{r:V->List V->Hp->VK->Prop}
theorem jE (pa:PlainAttrs T)(slot:Slot T name id)(hty:typeOf (.builtin id)=pure (.type "method_descriptor"))(hm:MtR X id r)(ho:PE X o to)(ha:PA X (e::es) t)
  (hbase:attributeBase o name X.env (eval o X.env)=eval o X.env:=by rfl)
  (hfew:((backTo cpos (starEach (e::es) X.env)).all (fun x=> !x.1)&&(backToKw cpos (keywordEach [] X.env)).all (fun x=>x.1.isSome)
   && decide ((e::es).length+([]:List Keyword).length+(if ([]:List Keyword).isEmpty then 0 else 1)<30))=true:=by rfl)
  (hline:(apos.endLine==cpos.line)=true:=by rfl)(hs:starEach (e::es) X.env=(false,eval e X.env)::starEach es X.env:=by rfl)(hplain:(backTo cpos (starEach es X.env)).any (·.1)=false:=by rfl) :
  PE X (.Call (.Attribute o name apos) (e::es) [] cpos) (tBM X.K T r to t):=by
 intro pins s σ H Q I h;refine wpAny_Call_method_late hbase hfew hline rfl (thn (ho pins s σ H _ I h) fun v s1 ⟨x,H1,I1,r1,ty,q1⟩=> ?_);obtain⟨h1,h2⟩:=ZN I1 r1 ty;refine⟨T,id,pa,slot,hty,h1,h2,?_⟩;have hA:=ha cpos pins s1 σ H1 _ I1 q1;rw[hs]at hA ⊢;refine Calls.callWith_builtin (by show (false||(backTo cpos (starEach es X.env)).any (·.1))=false;rw[hplain]<;>rfl) (Calls.evalArgs_plain ?_);exact thn hA fun us s2 ⟨vs,H2,I2,r2,q2⟩=>hm pins s2 σ H2 x vs v us Q I2 r1 r2 q2
end
end L2
namespace L2
open PySem PySem.Spec PyProof.Rows
def MtM (X:Cx)(id:String)(r:V->List V->Hp->VK->Prop):Prop :=
 ∀(pins:List (Addr×Obj)) (s:Shared) (σ:St) (H:Hp) (x:V) (xs:List V) (v:Value) (us:List Value) (Q:VK),Inv X pins σ H s->RelV x v->Vals xs us->r x xs H Q →
  wpAny (model X.prog X.w) X.A (call (.builtin id) (v::us)) (EP X pins σ Q) X.xe s
theorem Vals.one:∀{x:V}{us:List Value},Vals [x] us->∃u,us=[u]/\RelV x u
 | _,_,.cons r .nil=>⟨_,rfl,r⟩
section
variable {X:Cx}{pins:List (Addr×Obj)}{σ:St}{H:Hp}{s:Shared}{l b:Addr}{xs ys zs:List V}
theorem Inv.lset {its its':List Value}{n:Nat}{f:Array Value->Array Value}{t':Nat} (I:Inv X pins σ H s) (hH:H l=some (.lst xs))
  (e:s.heap.get? l=some { cls:= .type "list",data:= .seq its.toArray n })(hf:f its.toArray=its'.toArray)(hv:Vals ys its')(hz:ys.length<=sizeLine) :
  Inv X pins σ (upd H l (.lst ys)) { s with heap:=s.heap.update l (Obj.mapSeq f),toks:=t' }:=by
 have q:=PySem.IsL.update e f;rw[hf]at q;refine I.write (x:=l) (e:=l) (by rw[hH];exact trivial) (.inl rfl) (fun b' u hb hu=>(Heap.get?_update_other s.heap (Obj.mapSeq f) (Ne.symm hb)).trans hu) ⟨_,q⟩ ?_;exact⟨hz,its',_,hv,q⟩
theorem Inv.lnew {its:List Value}{t':Nat} (I:Inv X pins σ H s) (hv:Vals ys its) (hz:ys.length<=sizeLine) :
  Inv X pins σ (upd H s.heap.objs.size (.lst ys)) { s with heap:=s.heap.push { cls:= .type "list",data:= .seq its.toArray },toks:=t' } :=
 I.laid (fun _ _ q=>Heap.get?_push_of_some _ q) (Nat.le_refl _) ⟨hz,its,0,hv,Heap.get?_push_size _ rfl⟩
theorem Inv.fresh (I:Inv X pins σ H s):H s.heap.objs.size=none:=I.hok.fresh (Nat.le_refl _)
theorem Inv.lstM (I:Inv X pins σ H s)(hH:H l=some (.lst xs)):xs.length<=sizeLine/\∃(its:List Value) (n:Nat),Vals xs its/\xs.length=its.length/\s.heap.get? l=some { cls:= .type "list",data:= .seq its.toArray n }:=by
 obtain⟨z,its,n,r,e⟩:=I.hok l _ hH;exact⟨z,its,n,r,r.length,e⟩
theorem R5 {n:Nat}(h:n<=sizeLine):Builtin.List.listTooLong n=false:=by
 unfold Builtin.List.listTooLong;exact decide_eq_false (by lia)
end
section
variable {X:Cx}
def IS:V->List V->Hp->VK->Prop:=fun x vs H Q=>∃l xs y,x= .ref l/\vs=[y]/\H l=some (.lst xs)/\xs.length<sizeLine/\Q .non (upd H l (.lst (xs++[y])))
theorem gI:MtM X "list.append" IS:=by
 intro pins s σ H x vs v us Q I rx rv h;obtain⟨l,xs,y,rfl,rfl,hH,hz,q⟩:=h;cases rx;obtain⟨u,rfl,ru⟩:=rv.one;obtain⟨z,its,n,r,hl,e⟩:=I.lstM hH;refine call_meets F.slot_list_append ⟨_,e,rfl⟩ F.entry_list_append (F.args_list_append_2 _ _) (PySem.list_append l its.toArray n u (by rw[List.size_toArray];lia)) ⟨e,?_⟩;refine⟨.non,_,I.lset (its':=its++[u]) hH e (by simp) (r.append (.cons ru .nil)) ?_,rfl,q⟩;rw[List.length_append,List.length_singleton]
 lia
def IX:V->List V->Hp->VK->Prop:=fun x vs H Q=>∃l b xs zs,x= .ref l/\vs=[.ref b]/\H l=some (.lst xs)/\H b=some (.lst zs)/\xs.length+zs.length<=sizeLine/\Q .non (upd H l (.lst (xs++zs)))
theorem mQ:MtM X "list.extend" IX:=by
 intro pins s σ H x vs v us Q I rx rv h;obtain⟨l,b,xs,zs,rfl,rfl,hH,hB,hz,q⟩:=h;cases rx;obtain⟨u,rfl,ru⟩:=rv.one;cases ru;obtain⟨z,its,n,r,hl,e⟩:=I.lstM hH;obtain⟨z2,its2,n2,r2,hl2,e2⟩:=I.lstM hB;have hsz:its.toArray.size+its2.toArray.size<=sizeLine:=by rw[List.size_toArray,List.size_toArray];lia
 have hlong:¬(!its.toArray.isEmpty&&Builtin.List.listTooLong (its.toArray.size+its2.toArray.size))=true:=by
  rw[R5 hsz,Bool.and_false];exact Bool.false_ne_true
 refine call_meets F.slot_list_extend ⟨_,e,rfl⟩ F.entry_list_extend (F.args_list_extend_2 _ _)
  (AutoSeq1.list_extend_list_list_0 l its.toArray n b its2.toArray n2 hlong (by rw[List.size_toArray];lia) (by lia)) ⟨e,e2,?_⟩
 refine⟨.non,_,I.lset (its':=its++its2) hH e (by simp) (r.append r2) ?_,rfl,q⟩;rw[List.length_append]
 lia
def ZV:R2:=fun x y H Q=>∃l b xs zs,x= .ref l/\y= .ref b/\H l=some (.lst xs)/\H b=some (.lst zs)/\xs.length+zs.length<=sizeLine/\∀p,H p=none->Q (.ref p) (upd H p (.lst (xs++zs)))
theorem oM:OpR X (binaryOp .Add) ZV:=by
 intro pins s σ H x y v u Q I rx ry h;obtain⟨l,b,xs,zs,rfl,rfl,hH,hB,hz,q⟩:=h;cases rx;cases ry;obtain⟨z,its,n,r,hl,e⟩:=I.lstM hH;obtain⟨z2,its2,n2,r2,hl2,e2⟩:=I.lstM hB;refine PySem.P.add_list e e2 ?_ (by rw[List.size_toArray,List.size_toArray];lia);have ea:its.toArray++its2.toArray=(its++its2).toArray:=by simp
 rw[ea];exact⟨.ref _,_,I.lnew (t':=s.toks) (r.append r2) (by rw[List.length_append];lia),rfl,q _ I.fresh⟩
end
section
variable {prog:Program}{w:World}{A:Around}{E:Value->Shared->Prop}{s:Shared}
set_option maxRecDepth 100000 in
end
section
variable {X:Cx}
end
end L2
namespace Att
open PySem PySem.W PySem.Calls PyProof.Rows
theorem yZ {P:Params}{h:Heap}:∀(ns:List Int) (vs:List Value),WellAll P h vs (ns.map WData.int)->IntsAre vs ns:=by
 intro ns
 induction ns with
 | nil =>
  intro vs w;rw[List.map_nil]at w;cases w;exact .nil
 | cons n ns ih =>
  intro vs w;rw[List.map_cons]at w;cases w with
  | cons a b =>
   cases a;exact .cons _ _ (ih _ b)
theorem MX {l:OpenLaw}{n:Nat} (hn:l.most=some n) {P:Params}{h:Heap}{args:List WData}{vals:List Value}
  (hpre:l.row.toRowW.claim.pre args=true)(hwl:WellAll P h vals args) :
  ∃a vs ns,vals=[Value.ref a]/\args=[WData.list (ns.map WData.int)]/\h.get? a=some { cls:= .type "list",data:= .seq vs.toArray }/\IntsAre vs ns/\ns.length<=n:=by
 have hsh:WShape.hasAll [] args [.list .int]=true:=(pre_splitW hpre).1;have hc:l.pre.holds [] { args:=args }=true:=(pre_splitW hpre).2;obtain⟨d,r,rfl,h1,h2⟩:=hasAllW_cons hsh;obtain rfl:=hasAllW_nil h2;obtain⟨xs,rfl,h3⟩:=hasW_list h1;obtain⟨ns,rfl⟩:=items_int h3;have hlen:ns.length<=n:=by
  unfold OpenLaw.pre at hc;have h4:(WTm.not (.lt (.lit (.int (n:Int))) (.len (.arg 0)))).holds [] { args:=[.list (ns.map .int)] }=true:=by
   have h4:=(holds_andW hc).1;rw[hn]at h4;exact h4
  have h5:=condW_of h4 (w_not (w_lt w_lit (w_len_list (w_arg rfl))));rw[List.length_map]at h5;refine Nat.le_of_not_lt fun q=> ?_;have q':(n:Int)<((ns.length:Nat):Int):=by lia
  first
   | (rw[decide_eq_true q']at h5;exact absurd h5 (by decide))
   | (simp at h5;lia)
 cases hwl with
 | cons w1 w2 =>
  cases w2;cases w1 with
  | list ho hall=>exact⟨_,_,ns,rfl,rfl,ho,yZ ns _ hall,hlen⟩
theorem ON (l:OpenLaw)(args:List WData):l.row.toRowW.claim.post args (.bool true) args=true :=
 postW_of (r:=l.row.toRowW) (X:=(true==true))
  (show WShape.has [] (.bool true) .bool=true by first|rfl|decide|simp[WShape.has,WShape.arms,WShape.armsAll])
  (show (WTm.eq .res (.lit (.bool true))).value [] { args:=args,res:=some (.bool true),after:=args }=some (.bool (true==true)) from w_eq_bool (w_res rfl) w_lit) rfl
theorem attach_call {l:OpenLaw}{n:Nat}{q:Program}{loose:List Str}{XP:(Str->Option Value)->Heap->Prop}{YP:World->Heap->Prop}{d:DefRec}
  (hn:l.most=some n)(hdf:d.params.defaults=[])
  (call:∀(w:World) (s₀ s₁:Shared) (mg mb:Str->Option Value) (fa:Addr) (o:Obj) (pm cd doc:Value) (a:Addr) (vs:List Value) (ns:List Int),
   Ground q loose [] XP w s₀ mg mb s₁.heap->YP w s₁.heap →
   s₁.heap.get? fa=some o->o.data= .func (docDef d.name d.params d.body d.scope pm cd doc)->s₁.heap.CodeRec cd d.name->mg d.name=some (.ref fa) →
   s₁.heap.get? a=some { cls:= .type "list",data:= .seq vs.toArray }->IntsAre vs ns->ns.length<=n->s₁.gens= #[] →
   codeAny (model l.prog w) callerA (.call (.ref fa) ⟨[.ref a],[]⟩) (fun r s'=>r= .ok (.ret (.bool true))/\OldK s₁.heap s'.heap/\s'.os=s₁.os/\AllBare s'.gens) s₁) :
  WalkO q loose XP YP l.row.toRowW d [] (fun f vs=>PySem.call f vs):=by
 intro w s₀ s₁ mg mb G Y fa o pm cd doc dV kV ho hd hcd hD hmg hg args vals as hpre hlay hrd hwl hlo;obtain rfl:dV= .none:=Dflts.none hD hdf;obtain rfl:kV= .none:=Dflts.noKw hD;obtain⟨a,vs,ns,rfl,rfl,hobj,hints,hlen⟩:=MX hn hpre hwl;refine enter_call (codeAny_mono (call w s₀ s₁ mg mb fa o pm cd doc a vs ns G Y ho (fd_plain hd) hcd hmg hobj hints hlen hg) fun r s' hq=> ?_);obtain⟨rfl,h2,h3,h4⟩:=hq;exact⟨.inl ⟨.bool true,.bool true,[],rfl,fun _=>rfl,.bool true,ON l _,fun _=>⟨List.Pairwise.nil,fun _ hm=>(nomatch hm)⟩⟩,h2,h3,h4⟩
section
variable {prog:Program}{w:World}{A:Around}{E:Value->Shared->Prop}{s:Shared}{K:Frag}
end
end Att
namespace L2
open PySem PySem.Spec PyProof.Rows
theorem CG:∀{vs:List Value}{ns:List Int},IntsAre vs ns->Vals (ns.map V.int) vs
 | _,_,.nil=> .nil
 | _,_,.cons n t h=> .cons ⟨t,rfl⟩ (CG h)
def Q0 (H:Hp):Prop:=∀b,H b=none∨∃o xs,H b=some (.frz o (.lst xs))
theorem QB {P:Program}{w:World}{K:PySem.W.Frag}{mg mb:Str->Option Value}{CX:CXT}{k:Nat}{fa a:Addr}{fd:FuncData}{x:Str}{sp:Sp}{s₁:Shared}{vs:List Value}{ns:List Int}
  (KX:K.In s₁.heap)(hns:s₁.heap.Ns mainGlobals mg)(hb:s₁.heap.Ns builtinsNs mb)(hbb:∀x:Str,x≠ "__name__" ->mb x=bootBuiltins x)(hlim:s₁.heap.NoLimit)(hg:s₁.gens= #[])
  (ha:s₁.heap.get? a=some { cls:= .type "list",data:= .seq vs.toArray })(hi:IntsAre vs ns)(hl:ns.length<=sizeLine)(hr:Room k callerA)
  (F:∀base:Heap,K.In base->base.Ns mainGlobals mg->bD P w K mg base CX k fa fd [x] sp)(hbind:∀(s:Shared) (u:Value),BindsTo s fd ⟨[u],[]⟩ [(x,u)])
  (hsp:∀H:Hp,Q0 H->SqL K H a (ns.map V.int)->sp [.ref a] H (fun v _=>v= .bl true) fun _ _ _=>False)
  (hCX:∀H e s',CX [] H s₁ (fun _ _ _=>False) e s'->False) :
  codeAny (model P w) callerA (.call (.ref fa) ⟨[.ref a],[]⟩) (fun r s'=>r= .ok (.ret (.bool true))/\OldK s₁.heap s'.heap/\s'.os=s₁.os/\AllBare s'.gens) s₁:=by
 have rv:=CG hi;have lenV:=hi.length;have core:∀H:Hp,Q0 H->SqL K H a (ns.map V.int)->HOk P w H s₁.heap->(∀b,H b≠none->b=a)->(H a≠none->K.lookup a=none) →
   codeAny (model P w) callerA (.call (.ref fa) ⟨[.ref a],[]⟩) (fun r s'=>r= .ok (.ret (.bool true))/\OldK s₁.heap s'.heap/\s'.os=s₁.os/\AllBare s'.gens) s₁:=by
  intro H hO hS hok hA hK;have base_of:∀{b:Addr}{o:Obj},s₁.heap.get? b=some o->H b=none->(sM s₁.heap H).get? b=some o:=fun e n=>Q5 e n;have noA:∀{b:Addr}{o:Obj}{es:Array DictEntry}{ep:Nat},s₁.heap.get? b=some o->o.data= .dict es ep->H b=none:=fun {b o es ep} e d=>by
   cases q:H b with
   | none=>rfl
   | some u =>
    have e':b=a:=hA b (by rw[q];simp);subst e';rw[ha]at e;cases e;have d':Data.seq vs.toArray _=Data.dict es ep:=d;cases d'
  have nsK:∀{b:Addr}{m:Str->Option Value},s₁.heap.Ns b m->(sM s₁.heap H).Ns b m:=fun {b m} ⟨o,es,ep,e,d,r⟩=>⟨o,es,ep,base_of e (noA e d),d,r⟩
  have hKb:K.In (sM s₁.heap H):=fun b o e=>base_of (KX b o e) (by
   cases q:H b with
   | none=>rfl
   | some u =>
    have e':b=a:=hA b (by rw[q];simp);subst e';rw[hK (by rw[q];simp)]at e;cases e)
  have hM:Mod K mg (sM s₁.heap H):=⟨hKb,nsK hns,⟨mb,nsK hb,hbb⟩,let ⟨mc,h1,h2⟩:=hlim;⟨mc,nsK h1,h2⟩⟩
  have e0:Env0 P w K mg (sM s₁.heap H) callerA [] s₁ H:=⟨rfl,hM,fun b o e=>VD e,Nat.le_of_eq (NR _ _),trivial,fun b hb=>absurd (show b∈([]:List Addr) from hb) (by simp),hok,.of_eq hg⟩
  refine codeAny_mono ((F _ hKb (nsK hns)).run callerA [] s₁ H ⟨[.ref a],[]⟩ [.ref a] [.ref a] _ _ hr e0 (hbind s₁ (.ref a)) (.cons rfl .nil) (hsp H hO hS)) fun r s' h=> ?_;cases r with
  | error e=>exact(hCX H e s' h).elim
  | ok fl =>
   cases fl with
   | next=>exact False.elim h
   | brk=>exact False.elim h
   | cont=>exact False.elim h
   | ret u =>
    obtain⟨v,H',os,bare,un,hok',r',q⟩:=h;have q':v= .bl true:=q;subst q';obtain rfl:u=Value.bool true:=r';refine⟨rfl,OldK.of_keep fun b o e=> ?_,os,bare⟩;cases q:H b with
    | none=>exact un.keep b o e q (by intro z;exact absurd (show b∈([]:List Addr) from z) (by simp)) (by simp)
    | some u =>
     rcases hO b with z|⟨ob,xs,z⟩
     ·rw[q]at z;cases z
     ·have z2:=un.frzs b ob _ z;obtain⟨e1,_⟩:=hok b _ z;obtain⟨e2,_⟩:=hok' b _ z2;rw[e]at e1;cases e1;exact e2
 cases hk:K.lookup a with
 | some o =>
  have e:=KX a o hk;rw[ha]at e;cases e;refine core (fun _=>none) (fun _=> .inl rfl) (.inr ⟨_,vs.toArray,_,hk,rfl,rfl,rfl,by rw[List.size_toArray,lenV];exact hl,by simpa using rv⟩) (fun b u z=>by have z':(none:Option HO)=some u:=z;cases z') (fun b z=>absurd rfl z) fun z=>absurd rfl z
 | none =>
  refine core (fun b=>if b=a then some (.frz { cls:= .type "list",data:= .seq vs.toArray } (.lst (ns.map V.int))) else none) (fun b=> ?_) (.inl (.inr ⟨{ cls:= .type "list",data:= .seq vs.toArray },if_pos rfl⟩)) (fun b u z=> ?_) (fun b z=> ?_) fun _=>hk
  ·by_cases hb:b=a
   ·exact .inr ⟨_,_,if_pos hb⟩
   ·exact .inl (if_neg hb)
  ·by_cases hb:b=a
   ·have z':=(if_pos hb).symm.trans z;cases z';subst hb;exact⟨ha,by rw[List.length_map];exact hl,vs,_,rv,ha⟩
   ·have z':=(if_neg hb).symm.trans z;cases z'
  ·by_cases hb:b=a
   ·exact hb
   ·exact absurd (if_neg hb) z
end L2
namespace L2
open PySem PySem.Spec PyProof.Rows
theorem walk_of {l:PySem.W.OpenLaw}{n k:Nat}{q:Program}{loose:List Str}{XP:(Str->Option Value)->Heap->Prop}{YP:World->Heap->Prop}{d:DefRec}{K:Params->PySem.W.Frag}{CX:World->CXT}{sp:World->Sp}{x:Str}
  (hn:l.most=some n)(hn2:n<=sizeLine)(hdf:d.params.defaults=[])(hr:Room k callerA)
  (hY:∀(w:World) (h:Heap),YP w h->(K w.params).In h)
  (F:∀(w:World) (mg:Str->Option Value) (fa:Addr) (h:Heap),(K w.params).In h->h.Ns mainGlobals mg->mg d.name=some (.ref fa) →
   ∃fd:FuncData,(∀(s:Shared) (u:Value),BindsTo s fd ⟨[u],[]⟩ [(x,u)]) ∧
    ∀base:Heap,(K w.params).In base->base.Ns mainGlobals mg->bD l.prog w (K w.params) mg base (CX w) k fa fd [x] (sp w))
  (hsp:∀(w:World) (H:Hp) (a:Addr) (ns:List Int),ns.length<=n->Q0 H->SqL (K w.params) H a (ns.map V.int)->sp w [.ref a] H (fun v _=>v= .bl true) fun _ _ _=>False)
  (hCX:∀(w:World) (H:Hp) (s:Shared) (e:Value) (s':Shared),CX w [] H s (fun _ _ _=>False) e s'->False) :
  PySem.W.WalkO q loose XP YP l.row.toRowW d [] (fun f vs=>PySem.call f vs):=by
 refine Att.attach_call hn hdf fun w s₀ s₁ mg mb fa o pm cd doc a vs ns G Y ho hd hcd hmg hobj hints hlen hg=> ?_;have KX:=hY w _ Y;obtain⟨fd,hb,hF⟩:=F w mg fa _ KX G.T.g hmg;exact QB KX G.T.g G.T.b G.T.builtins G.T.nolimit hg hobj hints (Nat.le_trans hlen hn2) hr hF hb (fun H hO hS=>hsp w H a ns hlen hO hS) fun H e s'=>hCX w H s₁ e s'
end L2
namespace L2
open PySem PySem.Spec PyProof.Rows
def dA (s:Stmt)(j:Nat):Stmt:=match s with
 | .ClassDef _ _ _ body _ _ _ _ _ _ _=>body.getD j (.Pass ⟨0,0,0,0⟩)
 | _=> .Pass ⟨0,0,0,0⟩
def aK (s:Stmt):Arguments:=match s with
 | .FunctionDef _ a _ _ _ _ _ _ _ _=>a
 | _=>{ posonlyargs:=[],args:=[],vararg:=none,kwonlyargs:=[],kw_defaults:=[],kwarg:=none,defaults:=[] }
def aJ (s:Stmt):List Stmt:=match s with
 | .FunctionDef _ _ b _ _ _ _ _ _ _=>b
 | _=>[]
def aC (s:Stmt):Scope:=match s with
 | .FunctionDef _ _ _ _ _ _ sc _ _ _=>sc
 | _=>{ kind:= .function,names:=[],isGenerator:=false,isCoroutine:=false }
abbrev CX0:CXT:=fun _ _ _ _ _ _=>False
abbrev E0:XK:=fun _ _ _=>False
theorem DW {X:Cx}:mM CX0 X E0:=fun _ _ _ _ _ _ _ h=>h.elim
section
variable {P:Program}{w:World}{K:PySem.W.Frag}{mg:Str->Option Value}{base:Heap}
end
theorem N9 {n:Nat}(h:n<=1000):n<sizeLine:=Nat.lt_of_le_of_lt h (by decide)
section
variable {X:Cx}
theorem pv (i:Nat){x:Str}{pos:Pos} (hN:X.N[i]? =some x:=by rfl) (hv:Vis X.env.scope x:=by first|exact Or.inl rfl|exact Or.inr (Or.inl rfl)|exact Or.inr (Or.inr rfl)) (hd:(x==("__debug__" :Str))=false:=by decide)
  (hcd:(x==("__classdict__" :Str))=false:=by decide):PE X (.Name x pos) (k7 i):=Z5 hN hv hd hcd
end
theorem zK {c A B:Prop}[Decidable c](h1:c->A)(h2:¬c->B):if c then A else B:=by
 by_cases h:c
 ·rw[if_pos h];exact h1 h
 ·rw[if_neg h];exact h2 h
def Same (H H':Hp):Prop:=∀b o,H b=some o->H' b=some o
theorem Same.refl (H:Hp):Same H H:=fun _ _ h=>h
theorem Same.trans {H H1 H2:Hp}(a:Same H H1)(b:Same H1 H2):Same H H2:=fun c o h=>b c o (a c o h)
theorem Same.seq {K:PySem.W.Frag}{H H':Hp}{a:Addr}{xs:List V} (e:Same H H') (h:SqL K H a xs):SqL K H' a xs:=by
 rcases h with (h|⟨o,h⟩)|h
 ·exact .inl (.inl (e _ _ h))
 ·exact .inl (.inr ⟨o,e _ _ h⟩)
 ·exact .inr h
end L2
namespace L2
open PySem PySem.Spec PyProof.Rows
section
variable {X:Cx}{pins:List (Addr×Obj)}{σ:St}{H:Hp}{s:Shared}{D:Addr}{ys:List V}
theorem HOk.adds {P:Program}{w:World}{h:Heap}{o:HO} (x:HOk P w H h) (hn:H D=none) (new:ObjOk P w (upd H D o) h D o):HOk P w (upd H D o) h:=fun b u e=>by
 by_cases hb:b=D
 ·subst hb;rw[bC]at e;cases e;exact new
 ·rw[aP hb]at e;exact(x b u e).stay (fun c v _ q=>q) (fun c q=>by rw[aP (bF q hn)];exact q) fun c xs q=>by rw[aP (bF q hn)];exact q
theorem HOk.drops {P:Program}{w:World}{h:Heap} (x:HOk P w (upd H D (.lst ys)) h) (hn:H D=none):HOk P w H h:=fun b u e=>by
 have hb:b≠D:=bF e hn;refine(x b u (by rw[aP hb];exact e)).stay (fun c v _ q=>q) (fun c q=> ?_) fun c xs q=> ?_
 ·by_cases hc:c=D
  ·subst hc;rw[bC]at q;cases q
  ·rw[aP hc]at q;exact q
 ·by_cases hc:c=D
  ·subst hc;rw[bC]at q;cases q
  ·rw[aP hc]at q;exact q
theorem Inv.track {its:List Value}{n:Nat} (I:Inv X pins σ H s) (hn:H D=none) (e:s.heap.get? D=some { cls:= .type "list",data:= .seq its.toArray n }) (r:Vals ys its) (hz:ys.length<=sizeLine)
  (h0:X.s₀.heap.objs.size<=D)(h1:D≠X.env.locals)(h2:∀x c,X.env.cells.lookup x=some c->c≠D)(h3:∀p∈X.pn++pins,p.1≠D):Inv X pins σ (upd H D (.lst ys)) s where
 ok:=I.ok
 os:=I.os
 bare:=I.bare
 base:=by
  have lt:∀b o,X.s₀.heap.get? b=some o->b≠D:=fun b o q=>Nat.ne_of_lt (Nat.lt_of_lt_of_le (Heap.lt_size q) h0);refine⟨I.base.keep,I.base.slot,fun b o q n' hx=> ?_,I.base.there,fun b xs q=> ?_,fun b o u q=> ?_,fun b ps q=> ?_⟩
  ·rw[aP (lt b o q)];exact I.base.free b o q n' hx
  ·have z:=I.base.tups b xs q;rw[aP (bF z hn)];exact z
  ·have z:=I.base.frzs b o u q;rw[aP (bF z hn)];exact z
  ·obtain⟨more,z⟩:=I.base.tbls b ps q;exact⟨more,by rw[aP (bF z hn)];exact z⟩
 loc:=I.loc
 cell:=I.cell
 free:=by rw[aP (Ne.symm h1)];exact I.free
 freeC:=fun x c q=>by rw[aP (h2 x c q)];exact I.freeC x c q
 pin:=fun p hp=>by
  obtain⟨a,b,c⟩:=I.pin p hp;exact⟨a,by rw[aP (h3 p hp)];exact b,c⟩
 hok:=I.hok.adds hn ⟨hz,its,n,r,e⟩
 len:=I.len
theorem Inv.untrack (I:Inv X pins σ (upd H D (.lst ys)) s)(hn:H D=none):Inv X pins σ H s where
 ok:=I.ok
 os:=I.os
 bare:=I.bare
 base:=by
  have low:∀b u,upd H D (.lst ys) b=some u->(∀xs,u≠ .lst xs)->H b=some u:=fun b u q nl=>by
   by_cases hb:b=D
   ·subst hb;rw[bC]at q;cases q;exact absurd rfl (nl ys)
   ·rw[aP hb]at q;exact q
  refine⟨I.base.keep,I.base.slot,fun b o q n' hx=> ?_,I.base.there,fun b xs q=> ?_,fun b o u q=> ?_,fun b ps q=> ?_⟩
  ·have z:=I.base.free b o q n' hx
   by_cases hb:b=D
   ·subst hb;exact hn
   ·rw[aP hb]at z;exact z
  ·exact low _ _ (I.base.tups b xs q) (fun _ z=>by cases z)
  ·exact low _ _ (I.base.frzs b o u q) (fun _ z=>by cases z)
  ·obtain⟨more,z⟩:=I.base.tbls b ps q;exact⟨more,low _ _ z (fun _ z=>by cases z)⟩
 loc:=I.loc
 cell:=I.cell
 free:=by
  have z:=I.free
  by_cases hb:X.env.locals=D
  ·rw[hb];exact hn
  ·rw[aP hb]at z;exact z
 freeC:=fun x c q=>by
  have z:=I.freeC x c q
  by_cases hb:c=D
  ·rw[hb];exact hn
  ·rw[aP hb]at z;exact z
 pin:=fun p hp=>by
  obtain⟨a,b,c⟩:=I.pin p hp;refine⟨a,?_,c⟩
  by_cases hb:p.1=D
  ·rw[hb];exact hn
  ·rw[aP hb]at b;exact b
 hok:=I.hok.drops hn
 len:=I.len
end
def bN (X:Cx)(scope:Scope)(cl:List (Str×Addr))(N:List Str)(C:Addr)(s0:Shared)(H0:Hp)(fp:List Addr):Cx where
 prog:=X.prog
 w:=X.w
 K:=X.K
 mg:=X.mg
 base:=X.base
 A:=X.A
 N:=N
 s₀:=s0
 H₀:=H0
 env:=compEnvC scope cl C X.env
 outer:=X.stack
 stack:=X.stack
 ex:=fp
 fn:=fun _=>false
 calm:=X.calm
 pn:=[]
 xe:=fun _ _=>False
structure Blk (X:Cx)(scope:Scope)(cl:List (Str×Addr))(N:List Str)(nl:Nat)(ci:List Nat):Prop where
 kind:scope.kind= .function
 names:∀y∈scope.names,y.2= .local->scope.names.lookup y.1=some .local
 nocell:∀y∈scope.names,y.2≠ .cell
 clos:closureFor scope X.env=pure cl
 sub:∀n c,cl.lookup n=some c->X.env.cells.lookup n=some c
 has:∀n,((relabel scope X.env).names.lookup n=some .cell∨(relabel scope X.env).names.lookup n=some .free)->∃c,cl.lookup n=some c
 len:N.length=nl+ci.length
 cap:∀(j i:Nat),ci[j]? =some i->∃n,N[nl+j]? =some n/\X.N[i]? =some n/\(X.env.scope.names.lookup n=some .cell∨X.env.scope.names.lookup n=some .free) ∧
  ((relabel scope X.env).names.lookup n=some .cell∨(relabel scope X.env).names.lookup n=some .free)/\cl.lookup n=X.env.cells.lookup n
def bS (nl:Nat)(ci:List Nat)(σ:St):St:=List.replicate nl none++ci.map fun i=>(σ[i]?).join
theorem O7 {nl:Nat}{ci:List Nat}{σ:St}{k:Nat}{v:V} (h:(bS nl ci σ)[k]? =some (some v)):∃j i,k=nl+j/\ci[j]? =some i/\σ[i]? =some (some v):=by
 unfold bS at h
 by_cases hk:k<nl
 ·rw[List.getElem?_append_left (by simpa using hk),List.getElem?_replicate]at h
  split at h<;>cases h
 ·rw[List.getElem?_append_right (by simpa using hk),List.length_replicate,List.getElem?_map]at h;cases e:ci[k - nl]? with
  | none=>rw[e]at h;cases h
  | some i =>
   rw[e]at h;have h':(σ[i]?).join=some v:=by simpa using h
   refine⟨k - nl,i,by lia,e,?_⟩;cases q:σ[i]? with
   | none=>rw[q]at h';cases h'
   | some o=>rw[q]at h';simp at h';rw[h']
theorem GC {nl:Nat}{ci:List Nat}{σ:St}:(bS nl ci σ).length=nl+ci.length:=by unfold bS;simp
section
variable {X:Cx}{scope:Scope}{cl:List (Str×Addr)}{N:List Str}{nl:Nat}{ci:List Nat}{pins:List (Addr×Obj)}{σ:St}{H2:Hp}{s2:Shared}{fp:List Addr}
theorem HC (B:Blk X scope cl N nl ci)(I:Inv X pins σ H2 s2)(f2:∀b∈fp,oJ X pins H2 b)(fo:∀b∈fp,∃o,s2.heap.get? b=some o){C:Addr}{h4:Heap}{t4:Nat}{m4:Str->Option Value} (hC:s2.heap.objs.size<=C) (hns:h4.Ns C m4)
  (hk:∀b o,s2.heap.get? b=some o->h4.get? b=some o):Inv (bN X scope cl N C s2 H2 fp) [] (bS nl ci σ) H2 { s2 with heap:=h4,toks:=t4 }:=by
 have lt2:∀b∈fp,b<s2.heap.objs.size:=fun b hb=>by obtain⟨o,e⟩:=fo b hb;exact Heap.lt_size e
 have ok:(bN X scope cl N C s2 H2 fp).Ok:=by
  refine⟨I.ok.mod,B.kind,I.ok.glob,I.ok.blt,hC,fun x y c h1 h2=>I.ok.inj x y c (B.sub x c h1) (B.sub y c h2),fun x hx=>B.has x hx,fun x c hf _=>(by cases hf),I.ok.hd,I.ok.frames,.inl rfl,fun b hb=>⟨?_,?_⟩,I.bs,?_,fun b o e hb=> ?_,fun b hb z=> ?_,I.stack,I.stkFree⟩
  ·exact Nat.ne_of_lt (Nat.lt_of_lt_of_le (lt2 b hb) hC)
  ·exact fun x c h=>(f2 b hb).2.2.2.2.1 x c (B.sub x c h)
  ·exact Nat.le_trans I.ok.bsz I.sz
  ·rcases (f2 b hb).2.2.2.1 with z|z
   ·exact I.ok.noex b o e z
   ·exact absurd (Nat.lt_of_lt_of_le (Heap.lt_size e) (Nat.le_trans I.ok.bsz z)) (Nat.lt_irrefl _)
  ·rcases List.mem_cons.mp (I.stkSub b z) with q|q
   ·exact(f2 b hb).2.1 q
   ·exact(f2 b hb).2.2.1 q
 refine⟨ok,rfl,I.bare,Un.kept hk,⟨m4,hns,fun k x v e1 e2 e3=> ?_⟩,fun x c e=> ?_,I.hok.fresh hC,fun x c e=>I.freeC x c (B.sub x c e),fun p hp=>(by cases hp),I.hok.kept hk,?_⟩
 ·obtain⟨j,i,rfl,hj,hσ⟩:=O7 e2;obtain⟨n,hn1,hn2,hk1,hk2,hl⟩:=B.cap j i hj;have en:x=n:=by
   have e1':N[nl+j]? =some x:=e1;rw[hn1]at e1';exact(Option.some.inj e1').symm
  subst en;obtain⟨m,hm,hloc⟩:=I.loc;have vis:Vis X.env.scope x:= .inr hk1;obtain⟨u,ru,lk⟩:=hloc i x v hn2 hσ vis;refine⟨u,ru,.inr ⟨hk2,?_⟩⟩;rcases lk with⟨kl,_⟩|⟨_,c,ec,hc⟩
  ·have kl':X.env.scope.names.lookup x=some .local:=kl;rcases hk1 with z|z<;>· rw[z]at kl';cases kl'
  ·refine⟨c,hl.trans ec,?_⟩;obtain⟨o,ho,hd⟩:=hc;exact⟨o,hk _ _ ho,hd⟩
 ·obtain⟨v,o,ho,hd⟩:=I.cell x c (B.sub x c e);exact⟨v,o,hk _ _ ho,hd⟩
 ·show (bS nl ci σ).length=N.length;rw[GC,B.len]
theorem PJ {C:Addr}{σ':St}{H':Hp}{s':Shared}{pb:List (Addr×Obj)} (I:Inv X pins σ H2 s2) (f2:∀b∈fp,oJ X pins H2 b) (J:Inv (bN X scope cl N C s2 H2 fp) pb σ' H' s'):Inv X pins σ H' s' :=
 I.call' J.os J.base J.hok J.bare fun b hb=>⟨(f2 b hb).2.2.2.1,(f2 b hb).2.1,(f2 b hb).2.2.2.2.1,(f2 b hb).2.2.2.2.2⟩
end
section
variable {prog:Program}{w:World}{A:Around}{R:Result->Shared->Prop}{s:Shared}
theorem HN {elt target iter:Expr}{ifs:List Expr}{scope:Scope}{pos:Pos}{it acc:Value}{env:Env} (I:Nat->Shared->Prop)
  (turn:∀n s,I n s->wpAny (model prog w) A (pyNext it) (fun r s₁=>match r with
   | none=>R (.ok .next) s₁
   | some v=>wpAny (model prog w) A (letOwnedTupleGo target it v) (fun _ s₁'=>wpAny (model prog w) A (assign target env v) (fun _ s₂ =>
     wpAny (model prog w) A (forIn ifs true fun c r=>if r=true then do let ok ←isTrue c env (eval c env);pure (ForInStep.yield ok) else pure (ForInStep.yield r)) (fun ok s₃ =>
      if ok=true then wpAny (model prog w) A (eval elt env) (fun x s₄ =>
       wpAny (model prog w) A (call (.builtin "list.append") [acc,x]) (fun _ s₅=>∃m,m<n/\I m s₅) (notedBy (model prog w) A env fun e s'=>R (.error e) s') s₄) (notedBy (model prog w) A env fun e s'=>R (.error e) s') s₃
      else ∃m,m<n/\I m s₃) (notedBy (model prog w) A env fun e s'=>R (.error e) s') s₂) (notedBy (model prog w) A env fun e s'=>R (.error e) s') s₁') (notedBy (model prog w) A env fun e s'=>R (.error e) s') s₁) (notedBy (model prog w) A env fun e s'=>R (.error e) s') s)
  (n:Nat)(h:I n s) :
  codeAny (model prog w) A (.compLoop (.ListComp elt [⟨target,iter,ifs,0⟩] scope pos) 0 it acc env) R s:=by
 refine codeAny_loop rfl I (fun n s hI=> ?_) n h;show wpAny _ A ((compTurn (.ListComp elt [⟨target,iter,ifs,0⟩] scope pos) 0 it acc env).onRaise (fun x=>do noteFrame x env;theTreesLotGoes x)) _ _ s;refine wpAny_noted ?_;rw[compTurn_list];refine wpAny_bind (wpAny_standAt (wpAny_bind (wpAny_mono (turn n s hI) (fun r s₁ h₁=> ?_) fun _ _ h'=>h')));cases r with
 | none=>exact wpAny_pure h₁
 | some v =>
  refine wpAny_bind (wpAny_mono h₁ (fun _ s₁' h₁'=> ?_) fun _ _ h'=>h');refine wpAny_bind (wpAny_mono h₁' (fun _ s₂ h₂=>wpAny_bind (wpAny_mono h₂ (fun ok s₃ h₃=> ?_) fun _ _ h'=>h')) fun _ _ h'=>h');cases ok with
  | false=>exact wpAny_pure ⟨rfl,h₃⟩
  | true =>
   exact wpAny_bind (wpAny_bind (wpAny_mono h₃ (fun x s₄ h₄=>wpAny_bind (wpAny_mono h₄ (fun _ s₅ h₅=>wpAny_pure (wpAny_pure ⟨rfl,h₅⟩)) fun _ _ h'=>h')) fun _ _ h'=>h'))
end
def PF (X:Cx)(ifs:List Expr)(t:TT):Prop :=
 ∀(pins:List (Addr×Obj)) (s:Shared) (σ:St) (H:Hp) (Q:Bool->Hp->Prop),Inv X pins σ H s->t σ H Q →
  wpAny (model X.prog X.w) X.A (forIn ifs true fun c r=>if r=true then do let ok ←isTrue c X.env (eval c X.env);pure (ForInStep.yield ok) else pure (ForInStep.yield r)) (TP X pins σ Q) X.xe s
def wF:TT:=fun _ H Q=>Q true H
theorem f9 {X:Cx}:PF X [] wF:=fun _ _ _ H _ I h=>wpAny_tests_nil ⟨H,I,h⟩
theorem j7 {X:Cx}{c:Expr}{t:TT} (h:PT X c t):PF X [c] t:=fun pins s σ H Q I q=>wpAny_tests_one (h pins s σ H Q I q)
def dW (J:It)(g:TG)(ti:TT)(te:TE)(σ0:St)(fin:List V->Hp->Prop)(H1:Hp):Prop :=
 ∃W:Nat->Nat->List V->Hp->Prop,(∃m,W 0 m [] H1)/\∀i m ys H,W i m ys H →
  (J.stop i H/\fin ys H) ∨
  (J.go i H/\∀x H',J.yld i H x H'->g x σ0 H' fun σ2 H2=>(σ2.length=σ0.length/\∀(j:Nat) v,σ0[j]? =some (some v)->σ2[j]? =some (some v)) ∧
   ti σ2 H2 fun b H3=>if b=true then te σ2 H3 fun y H4=>ys.length<sizeLine/\∃m',m'<m/\W (i+1) m' (ys++[y]) H4 else ∃m',m'<m/\W (i+1) m' ys H3)
def LU (wi:TI)(nl:Nat)(ci:List Nat)(g:TG)(ti:TT)(te:TE):TE:=fun σ H Q =>
 wi σ H fun J H1=>dW J g ti te (bS nl ci σ) (fun ys H'=>∀p,H' p=none->Q (.ref p) (upd H' p (.lst ys))) H1
section
variable {X:Cx}{scope:Scope}{cl:List (Str×Addr)}{N:List Str}{nl:Nat}{ci:List Nat}{tg elt iter:Expr}{ifs:List Expr}{pos:Pos}{wi:TI}{g:TG}{ti:TT}{te:TE}
theorem BQ {pins:List (Addr×Obj)}{σ:St}{H2:Hp}{s2:Shared}{fp:List Addr}{it:Addr}{J:It}{tn:Nat->Heap->Prop}{E:Value->Shared->Prop}{RR:Value->Addr->Result->Shared->Prop}{fin:List V->Hp->Prop}
  (hc:X.calm=true)(B:Blk X scope cl N nl ci)(hg:∀C s0 H0 fp,PG (bN X scope cl N C s0 H0 fp) tg g)(hi:∀C s0 H0 fp,PF (bN X scope cl N C s0 H0 fp) ifs ti)(he:∀C s0 H0 fp,PE (bN X scope cl N C s0 H0 fp) elt te)
  (I2:Inv X pins σ H2 s2)(T:qD X.prog X.w X.K tg J fp it tn)(st2:tn 0 s2.heap)(f2:∀b∈fp,oJ X pins H2 b)(hW:dW J g ti te (bS nl ci σ) fin H2)
  (hfin:∀(D C:Addr) (s':Shared) (H':Hp) (ys:List V) (oC:Obj) (m:Str->Option Value),H' D=none->Inv X (pins++[(C,oC)]) σ (upd H' D (.lst ys)) s'->s'.heap.Ns C m->s2.heap.objs.size<=C->fin ys H'->RR (.ref D) C (.ok .next) s') :
  wpAny (model X.prog X.w) X.A (newList []) (fun acc s₃=>wpAny (model X.prog X.w) X.A (newFunctionEnv scope X.env.globals cl [] X.env.qual none .none (some X.env)) (fun cenv s₄ =>
   codeAny (model X.prog X.w) X.A (.compStart (.ListComp elt [⟨tg,iter,ifs,0⟩] scope pos) 0 (.ref it) acc { cenv with scope:=relabel scope X.env }) (RR acc cenv.locals) s₄) E s₃) E s2:=by
 obtain⟨W,⟨m0,w0⟩,turn⟩:=hW;refine wpAny_newObj_type (wpAny_newFunctionEnv B.nocell (by intro y hy;simp at hy) (fun h1 hns1 hsb1=> ?_) B.kind)
 dsimp only at hns1 hsb1 ⊢
 generalize hH2:s2.heap.push { cls:= .type "list",dict:=none,data:= .seq ([]:List Value).toArray }=G2 at hns1 hsb1 ⊢;have hCs:G2.objs.size=s2.heap.objs.size+1:=by rw[←hH2,Heap.size_push]
 generalize hCe:G2.objs.size=C at hns1 hsb1 hCs ⊢;have hDC:s2.heap.objs.size≠C:=by rw[hCs];exact Nat.ne_of_lt (Nat.lt_succ_self _)
 have hCle:s2.heap.objs.size<=C:=by rw[hCs];exact Nat.le_succ _
 have old:∀b o,s2.heap.get? b=some o->h1.get? b=some o:=fun b o e=>hsb1.extBut b o (by rw[hCs];exact Nat.ne_of_lt (Nat.lt_succ_of_lt (Heap.lt_size e))) (Heap.get?_push_of_some _ (hH2▸Heap.get?_push_of_some _ e));have hacc:h1.get? s2.heap.objs.size=some { cls:= .type "list",data:= .seq ([]:List Value).toArray 0 }:=hsb1.extBut _ _ hDC (Heap.get?_push_of_some _ (hH2▸Heap.get?_push_size _ rfl));have fo:∀b∈fp,∃o,s2.heap.get? b=some o:=fun b hb=>let ⟨o,e,_⟩:=T.obj 0 _ st2 b hb;⟨o,e⟩;have lt2:∀b∈fp,b<s2.heap.objs.size:=fun b hb=>let ⟨o,e⟩:=fo b hb;Heap.lt_size e;have hDfp:s2.heap.objs.size∉fp:=fun z=>Nat.lt_irrefl _ (lt2 _ z);have hCfp:C∉fp:=fun z=>Nat.lt_irrefl _ (Nat.lt_of_lt_of_le (lt2 _ z) hCle);generalize hDe:s2.heap.objs.size=D at hCs hDC hCle hacc hDfp lt2;have loop:∀s3:Shared,s3={ s2 with heap:=h1,toks:=s2.toks+([]:List (Str×Value)).length } →
   codeAny (model X.prog X.w) X.A (.compLoop (.ListComp elt [⟨tg,iter,ifs,0⟩] scope pos) 0 (.ref it) (.ref D) (compEnvC scope cl C X.env)) (RR (.ref D) C) s3:=by
  rintro s3 rfl;have I4:Inv (bN X scope cl N C s2 H2 fp) [] (bS nl ci σ) H2 { s2 with heap:=h1,toks:=s2.toks+([]:List (Str×Value)).length }:=HC B I2 f2 fo (by rw[hDe];exact hCle) hns1 old;have fpk:∀{H':Hp},(∀b∈fp,H' b=none)->∀b∈fp,oJ (bN X scope cl N C s2 H2 fp) [] H' b:=fun hn b hb =>
   ⟨hn b hb,(I4.ok.exf b hb).1,I4.ok.exfs b hb,.inl hb,(I4.ok.exf b hb).2,fun p hp=>by cases hp⟩
  have hDX:∀x c,(bN X scope cl N C s2 H2 fp).env.cells.lookup x=some c->c≠D:=fun x c e=>by
   obtain⟨v,o,ho,_⟩:=I2.cell x c (B.sub x c e);rw[←hDe];exact Nat.ne_of_lt (Heap.lt_size ho)
  have hDL:D≠(bN X scope cl N C s2 H2 fp).env.locals:=hDC;have hDf:D∉(bN X scope cl N C s2 H2 fp).fs:=fun z=>by
   rcases List.mem_cons.mp (I2.stkSub D z) with q|q
   ·exact Nat.lt_irrefl _ (by have:=I2.lt;rw[hDe,←q]at this;exact this)
   ·exact I2.nofs (by rw[hDe];exact Nat.le_refl _) q
  refine HN (fun n s'=>∃i ys its k H',W i n ys H'/\Inv (bN X scope cl N C s2 H2 fp) [] (bS nl ci σ) H' s'/\tn i s'.heap/\(∀b∈fp,H' b=none)/\H' D=none ∧
   s'.heap.get? D=some { cls:= .type "list",data:= .seq its.toArray k }/\Vals ys its/\ys.length<=sizeLine) ?_ m0 ?_
  ·rintro n s' ⟨i,ys,its,k,H',w',I',st',fr',hD',eD,rv,hz⟩;have IP:Inv (bN X scope cl N C s2 H2 fp) [(D,{ cls:= .type "list",data:= .seq its.toArray k })] (bS nl ci σ) H' s':=I'.pins_of fun p hp=>by
    obtain rfl:p=_:=by simpa using hp
    exact⟨eD,hD',hDL,hDf,fun v z=>by cases z⟩
   have fpD:∀{H'':Hp},(∀b∈fp,H'' b=none)->∀b∈fp,oJ (bN X scope cl N C s2 H2 fp) [(D,{ cls:= .type "list",data:= .seq its.toArray k })] H'' b:=fun hn b hb =>
    ⟨hn b hb,(I4.ok.exf b hb).1,I4.ok.exfs b hb,.inl hb,(I4.ok.exf b hb).2,fun p hp=>by
     obtain rfl:p=_:=by simpa [bN] using hp
     exact fun z=>hDfp ((show D=b from z)▸hb)⟩
   rcases turn i n ys H' w' with⟨stop,q⟩|⟨go,step⟩
   ·refine thn (T.done (bN X scope cl N C s2 H2 fp) rfl rfl rfl hc i _ s' (bS nl ci σ) H' _ IP (fpD fr') st' stop) fun r s'' ⟨hr,I''⟩=> ?_;subst hr;have eD2:=(I''.pin (D,_) (List.mem_append_right _ List.mem_cons_self)).1;have J1:Inv (bN X scope cl N C s2 H2 fp) [] (bS nl ci σ) (upd H' D (.lst ys)) s'' :=
     (I''.pins_of (pins':=[]) fun p hp=>by cases hp).track hD' eD2 rv hz (by show s2.heap.objs.size<=D;rw[hDe];exact Nat.le_refl _) hDL hDX fun p hp=>by cases hp
    have K1:Inv X pins σ (upd H' D (.lst ys)) s'':=PJ I2 f2 J1;obtain⟨mC,nsC,_⟩:=J1.loc;obtain⟨oC,es,ep,hoC,hdC,rC⟩:=id nsC;refine hfin D C s'' H' ys oC mC hD' (K1.pins_of fun p hp=> ?_) nsC (by rw[hDe];exact hCle) q;rcases List.mem_append.mp hp with hp|hp
    ·exact K1.pin p (List.mem_append_right _ hp)
    ·obtain rfl:p=(C,oC):=by simpa using hp
     refine⟨hoC,J1.free,Nat.ne_of_gt (Nat.lt_of_lt_of_le I2.lt (by rw[hDe];exact hCle)),I2.nofs (by rw[hDe];exact hCle),fun v z=> ?_⟩;rw[hdC]at z;cases z
   ·refine thn (T.item (bN X scope cl N C s2 H2 fp) rfl rfl rfl hc i _ s' (bS nl ci σ) H' _ IP (fpD fr') st' go) fun r s4 ⟨u,hr,h4⟩=> ?_;subst hr;refine thn h4 fun _ s5 ⟨x,H5,I5,r5,y5,st5,fr5⟩=> ?_;have I5':=I5.pinned (fpD fr5) (T.obj _ _ st5);refine wpAny_mono (hg C s2 H2 fp _ s5 (bS nl ci σ) H5 x u _ I5' r5 (step x H5 y5)) (fun _ s6 ⟨σ6,H6,I6,⟨hl6,hk6⟩,q6⟩=> ?_) fun _ _ f=>f.elim;refine wpAny_mono (hi C s2 H2 fp _ s6 σ6 H6 _ I6 q6) (fun b s7 ⟨H7,I7,q7⟩=> ?_) fun _ _ f=>f.elim;have pinD:∀{pp:List (Addr×Obj)}{σx:St}{Hx:Hp}{sx:Shared},Inv (bN X scope cl N C s2 H2 fp) ([(D,({ cls:= .type "list",data:= .seq its.toArray k }:Obj))]++mP fp s5.heap) σx Hx sx →
      sx.heap.get? D=some { cls:= .type "list",data:= .seq its.toArray k }/\Hx D=none/\tn (i+1) sx.heap/\(∀b∈fp,Hx b=none):=fun {pp σx Hx sx} Ix=>by
     refine⟨(Ix.pin (D,_) (List.mem_append_right _ (List.mem_append_left _ List.mem_cons_self))).1,(Ix.pin (D,_) (List.mem_append_right _ (List.mem_append_left _ List.mem_cons_self))).2.1,T.keep _ _ _ st5 fun b hb o e=>(Ix.pin (b,o) (List.mem_append_right _ (List.mem_append_right _ (kB hb e)))).1,fun b hb=> ?_⟩;obtain⟨o,e,d⟩:=T.obj _ _ st5 b hb;exact(Ix.pin (b,o) (List.mem_append_right _ (List.mem_append_right _ (kB hb e)))).2.1
    cases b with
    | false =>
     rw[if_neg Bool.false_ne_true]at q7 ⊢;obtain⟨m',hm',w7⟩:=q7;obtain⟨e7,n7,st7,fr7⟩:=pinD (pp:=[]) I7;exact⟨m',hm',i+1,ys,its,k,H7,w7,(I7.pins_of (pins':=[]) fun p hp=>by cases hp).weak hl6.symm hk6,st7,fr7,n7,e7,rv,hz⟩
    | true =>
     rw[if_pos rfl]at q7 ⊢;refine wpAny_mono (he C s2 H2 fp _ s7 σ6 H7 _ I7 q7) (fun y' s8 ⟨y,H8,I8,r8,hlt,m',hm',w8⟩=> ?_) fun _ _ f=>f.elim;obtain⟨e8,n8,st8,fr8⟩:=pinD (pp:=[]) I8;have I8f:Inv (bN X scope cl N C s2 H2 fp) (mP fp s5.heap) σ6 H8 s8:=I8.pins_of fun p hp=>I8.pin p (List.mem_append_right _ (List.mem_append_right _ hp));have I8t:=I8f.track n8 e8 rv hz (by show s2.heap.objs.size<=D;rw[hDe];exact Nat.le_refl _) hDL hDX fun p hp=>by
      have hp':p∈mP fp s5.heap:=by simpa [bN] using hp
      exact fun z=>hDfp (z▸(BV hp').1)
     refine wpAny_mono (gI (X:=bN X scope cl N C s2 H2 fp) (mP fp s5.heap) s8 σ6 _ (.ref D) [y] (.ref D) [y'] (fun _ H9=>H9=upd H8 D (.lst (ys++[y]))) I8t rfl (.cons r8 .nil)
      ⟨D,ys,y,rfl,rfl,bC,hlt,VQ⟩) (fun _ s9 ⟨_,H9,I9,_,e9⟩=> ?_) fun _ _ f=>f.elim
     subst e9;obtain⟨hz9,its9,k9,rv9,e9⟩:=I9.hok D _ bC;have I9u:=I9.untrack n8;refine⟨m',hm',i+1,ys++[y],its9,k9,H8,w8,(I9u.pins_of (pins':=[]) fun p hp=>by cases hp).weak hl6.symm hk6,?_,fr8,n8,e9,rv9,hz9⟩;exact T.keep _ _ _ st5 fun b hb o e=>(I9u.pin (b,o) (List.mem_append_right _ (kB hb e))).1
  ·exact⟨0,[],[],0,H2,w0,I4,T.keep _ _ _ st2 fun b hb o e=>old b o e,fun b hb=>(f2 b hb).1,I2.hok.fresh (by rw[hDe];exact Nat.le_refl _),hacc,.nil,Nat.zero_le _⟩
 exact codeAny_compStart_list (loop _ rfl) (T.self _ 0 _ _ _ (T.keep _ _ _ st2 fun b hb o e=>old b o e) (loop _ rfl))
theorem cD (hc:X.calm=true)(B:Blk X scope cl N nl ci)(hp:PI X tg iter wi)(hg:∀C s0 H0 fp,PG (bN X scope cl N C s0 H0 fp) tg g)(hi:∀C s0 H0 fp,PF (bN X scope cl N C s0 H0 fp) ifs ti)
  (he:∀C s0 H0 fp,PE (bN X scope cl N C s0 H0 fp) elt te)(hs:∀x,foldedSetIterable iter X.env x=pure x:=by intro _;rfl):PE X (.ListComp elt [⟨tg,iter,ifs,0⟩] scope pos) (LU wi nl ci g ti te):=by
 intro pins s σ H Q I h;rw[eval_ListComp];refine wpAny_comprehension_free (use:=none) rfl hs B.clos B.kind B.names (thn (hp pins s σ H _ I h) fun v s1 h1=>thn h1 fun itv s2 h2=> ?_);obtain⟨it,fp,tn,J,H2,e,I2,T,st2,f2,hW⟩:=h2;subst e;refine BQ (RR:=fun acc C=>compPost (model X.prog X.w) X.A X.xe none (EP X pins σ Q) acc C) hc B hg hi he I2 T st2 f2 hW ?_;intro D C s' H' ys oC m hD K1 hn hC q;refine⟨m,hn,fun h' hs'=> ?_⟩;have hL:C≠X.env.locals:=(K1.pin (C,oC) (by simp)).2.2.1;have I9:Inv X pins σ (upd H' D (.lst ys)) { s' with heap:=h',toks:=s'.toks }:=K1.unpinned.turned (t':=s'.toks) (it:=C) (fun b o hb e=>hs'.extBut b o hb e) (K1.pin (C,oC) (by simp)).2.1 hL (.inr (Nat.le_trans I2.sz hC)) (fun x c e z=> ?_) fun p hp z=> ?_
 ·exact⟨.ref D,_,I9,rfl,q D hD⟩
 ·obtain⟨v,o,ho,_⟩:=I2.cell x c e;exact absurd (Nat.lt_of_lt_of_le (Heap.lt_size ho) (z▸hC)) (Nat.lt_irrefl _)
 ·exact absurd (Nat.lt_of_lt_of_le (Heap.lt_size (I2.pin p hp).1) (z▸hC)) (Nat.lt_irrefl _)
theorem zA {i:Nat}{x:Str}{pos' spos:Pos} (hN:X.N.Nodup) (hix:X.N[i]? =some x) (hx:Loc X.env.scope x) (hc:X.calm=true) (B:Blk X scope cl N nl ci) (hp:PI X tg iter wi) (hg:∀C s0 H0 fp,PG (bN X scope cl N C s0 H0 fp) tg g)
  (hi:∀C s0 H0 fp,PF (bN X scope cl N C s0 H0 fp) ifs ti)(he:∀C s0 H0 fp,PE (bN X scope cl N C s0 H0 fp) elt te)
  (hsw:swapsWith (.ListComp elt [⟨tg,iter,ifs,0⟩] scope pos) (some (.Name x pos')) spos.line X.env=pure true:=by rfl)(hs:∀x,foldedSetIterable iter X.env x=pure x:=by intro _;rfl)
  (hf:X.fn x=true∨X.env.scope.names.lookup x=some .local:=by first|exact .inl rfl|exact .inr rfl|assumption) :
  PS X (.Assign [.Name x pos'] (.ListComp elt [⟨tg,iter,ifs,0⟩] scope pos) spos) (RF (LU wi nl ci g ti te) (bX i)):=by
 intro pins s σ H D I h;rw[exec_Assign_Name_used _ _ _ _ hsw];refine wpAny_bind (wpAny_standAt (wpAny_bind ?_));show wpAny _ X.A (do let _ ←comprehension (.ListComp elt [⟨tg,iter,ifs,0⟩] scope pos) scope X.env _ (newList []) false (eval iter X.env) (some (assign (.Name x pos') X.env))) _ _ s;refine wpAny_bind (wpAny_mono (wpAny_comprehension_free (use:=some (assign (.Name x pos') X.env)) (Q:=fun _ s'=>SP X pins D .next s') rfl hs B.clos B.kind B.names
  (thn (hp pins s σ H _ I h) fun v s1 h1=>thn h1 fun itv s2 h2=> ?_)) (fun _ s' hq=>wpAny_pure (wpAny_pure hq)) fun _ _ e=>e)
 obtain⟨it,fp,tn,J,H2,e,I2,T,st2,f2,hW⟩:=h2;subst e;refine BQ (RR:=fun acc C=>compPost (model X.prog X.w) X.A X.xe (some (assign (.Name x pos') X.env)) (fun _ s'=>SP X pins D .next s') acc C) hc B hg hi he I2 T st2 f2 hW ?_;intro Dd C s' H' ys oC m hD K1 hn hC q;show wpAny _ X.A (assign (.Name x pos') X.env (.ref Dd)) _ _ _;refine thn (aI (i:=i) hN hix hx hf (pins++[(C,oC)]) s' σ (upd H' Dd (.lst ys)) (.ref Dd) (.ref Dd) (fun σ' H''=>D.nx σ' H'') K1 rfl (q Dd hD)) fun _ s'' ⟨σ',H'',K2,q2⟩=> ?_;have eC:=K2.pin (C,oC) (by simp);obtain⟨oC',es,ep,hoC,hdC,rC⟩:=id hn;have eo:oC'=oC:=by
  have:=(K1.pin (C,oC) (by simp)).1;rw[hoC]at this;exact Option.some.inj this
 subst eo;refine⟨m,⟨oC',es,ep,eC.1,hdC,rC⟩,fun h' hs'=> ?_⟩;have hL:C≠X.env.locals:=eC.2.2.1;have I9:Inv X pins σ' H'' { s'' with heap:=h',toks:=s''.toks }:=K2.unpinned.turned (t':=s''.toks) (it:=C) (fun b o hb e=>hs'.extBut b o hb e) eC.2.1 hL (.inr (Nat.le_trans I2.sz hC)) (fun x c e z=> ?_) fun p hp z=> ?_
 ·exact⟨σ',H'',I9,q2⟩
 ·obtain⟨v,o,ho,_⟩:=I2.cell x c e;exact absurd (Nat.lt_of_lt_of_le (Heap.lt_size ho) (z▸hC)) (Nat.lt_irrefl _)
 ·exact absurd (Nat.lt_of_lt_of_le (Heap.lt_size (I2.pin p hp).1) (z▸hC)) (Nat.lt_irrefl _)
end
end L2
namespace L2
open PySem PySem.Spec PyProof.Rows
def Its (x:Str):It:=⟨fun i _=>i<x.cps.size,fun i H v H'=>H'=H/\∃c,x.cps[i]? =some c/\v= .str ⟨#[c]⟩,fun i _=>i=x.cps.size⟩
theorem F3 {P:Program}{w:World}{K:PySem.W.Frag}{tg:Expr} (it:Addr) (x:Str) (t:Tok) (ty:String)
  (hty:["enumerate","zip","dict_itemiterator","dict_reverseitemiterator","odict_iterator","itertools.zip_longest","itertools.pairwise"].contains ty=false)
  (W:∀A':Around,A'.handled=none->Walks P w A' it [it] [it] x.cps.size (SignAt x) (fun i h=>h.IsStrIter it ty x t i))
  (hself:∀(A:Around) (i:Nat) (s:Shared) (Q:Value->Shared->Prop) (E:Value->Shared->Prop),s.heap.IsStrIter it ty x t i->Q (.ref it) s->wpAny (model P w) A (pyIter (.ref it)) Q E s) :
  qD P w K tg (Its x) [it] it (fun i h=>h.IsStrIter it ty x t i) where
 mem:=by simp
 obj:=fun i h st b hb=>by
  have e:b=it:=by simpa using hb
  subst e;obtain⟨o,e,c,d⟩:=st;exact⟨o,e,fun v z=>by rw[d]at z;cases z⟩
 keep:=fun i h h' st k=>let ⟨o,ho,r⟩:=st;⟨o,k it (by simp) o ho,r⟩
 item:=by
  intro X hP hw hK hc i pins s σ H E I hf st hg;subst hP hw hK;obtain⟨f0,f1,f2,f3,f4,f5⟩:=hf it (by simp);refine(W X.A (I.ok.hd hc)).item i s _ _ hg st fun v h' tk hv st' kk=> ?_;obtain⟨c,u,hc',rfl⟩:=hv;have I1:Inv X pins σ H { s with heap:=h',toks:=tk }:=I.turned (fun b o hb e=>kk b o (by simpa using hb) e) f0 f1 f3 f4 f5;obtain⟨o,e,c1,d⟩:=id st';exact⟨_,rfl,KL (s:={ s with heap:=h',toks:=tk }) e c1 d hty ⟨.str ⟨#[c]⟩,H,I1,⟨u,rfl⟩,⟨rfl,c,hc',rfl⟩,st',fun b hb=>(hf b hb).1⟩⟩
 done:=by
  intro X hP hw hK hc i pins s σ H E I hf st hg;subst hP hw hK;obtain⟨f0,f1,f2,f3,f4,f5⟩:=hf it (by simp);have e:i=x.cps.size:=hg;subst e;exact(W X.A (I.ok.hd hc)).done s _ _ st fun h' tk kk=>⟨rfl,I.turned (fun b o hb e=>kk b o (by simpa using hb) e) f0 f1 f3 f4 f5⟩
 self:=hself
def aBX (tl:TE):TI:=fun σ H R=>tl σ H fun x H1=>∃z,x= .str z/\R (Its z) H1
theorem YO {X:Cx}{tg l:Expr}{tl:TE} (hl:PE X l tl):PI X tg l (aBX tl):=by
 intro pins s σ H R I h;refine thn (hl pins s σ H _ I h) fun v s1 ⟨x,H1,I1,rx,z,ez,q⟩=> ?_;subst ez;obtain⟨t,rfl⟩:=rx;cases ha:z.cps.all (·<128)
 ·refine wpAny_pyIter_wide ha ⟨s1.heap.objs.size,[s1.heap.objs.size],_,Its z,H1,rfl,I1.kept (t':=s1.toks) fun b u e=>Heap.get?_push_of_some _ e,F3 _ z t "str_iterator" (by decide) (fun A' hA=>Walks.strWide hA _ z t) (fun _ _ _ _ _ st h=>wpAny_pyIter_striter_wide st h),⟨_,Heap.get?_push_size _ rfl,rfl,rfl⟩,fun b hb=> ?_,q⟩;have e:b=s1.heap.objs.size:=by simpa using hb
  subst e;exact I1.fpOk (Nat.le_refl _) (I1.hok.fresh (Nat.le_refl _))
 ·refine wpAny_pyIter_ascii ha ⟨s1.heap.objs.size,[s1.heap.objs.size],_,Its z,H1,rfl,I1.kept (t':=s1.toks) fun b u e=>Heap.get?_push_of_some _ e,F3 _ z t "str_ascii_iterator" (by decide) (fun A' hA=>Walks.strAscii hA _ z t) (fun _ _ _ _ _ st h=>wpAny_pyIter_striter_ascii st h),⟨_,Heap.get?_push_size _ rfl,rfl,rfl⟩,fun b hb=> ?_,q⟩;have e:b=s1.heap.objs.size:=by simpa using hb
  subst e;exact I1.fpOk (Nat.le_refl _) (I1.hok.fresh (Nat.le_refl _))
theorem W5 {J:It}{g:TG}{ti:TT}{te:TE}{σ0:St}{fin:List V->Hp->Prop}{H1:Hp} (n:Nat) (f:Nat->V) (hn:n<=sizeLine) (Ok:Hp->Prop) (h0:Ok H1)
  (hst:∀H,Ok H->J.stop n H)(hgo:∀i H,i<n->Ok H->J.go i H)
  (hstep:∀i H x H',i<n->Ok H->J.yld i H x H'->g x σ0 H' fun σ2 H2=>(σ2.length=σ0.length/\∀(j:Nat) v,σ0[j]? =some (some v)->σ2[j]? =some (some v))/\ti σ2 H2 fun b H3=>b=true/\te σ2 H3 fun y H4=>y=f i/\Ok H4)
  (mono:∀σ H (Q Q':Bool->Hp->Prop),(∀b H',Q b H'->Q' b H')->ti σ H Q->ti σ H Q')(mono2:∀σ H (Q Q':VK),(∀b H',Q b H'->Q' b H')->te σ H Q->te σ H Q')(mono3:∀x σ H (Q Q':St->Hp->Prop),(∀σ' H',Q σ' H'->Q' σ' H')->g x σ H Q->g x σ H Q')
  (hfin:∀H,Ok H->fin ((List.range n).map f) H):dW J g ti te σ0 fin H1:=by
 refine⟨fun i m ys H=>m=n - i/\i<=n/\ys=(List.range i).map f/\Ok H,⟨n,by simp,Nat.zero_le _,rfl,h0⟩,?_⟩;rintro i m ys H ⟨rfl,hi,rfl,ok⟩
 by_cases hlt:i<n
 ·refine .inr ⟨hgo i H hlt ok,fun x H' y=> ?_⟩;refine mono3 _ _ _ _ _ (fun σ' H'' q=>⟨q.1,mono _ _ _ _ (fun b H3 q=> ?_) q.2⟩) (hstep i H x H' hlt ok y);obtain⟨rfl,q⟩:=q;rw[if_pos rfl];refine mono2 _ _ _ _ (fun v H4 q=> ?_) q;obtain⟨rfl,ok4⟩:=q;refine⟨by rw[List.length_map,List.length_range];lia,n - (i+1),by lia,rfl,hlt,?_,ok4⟩;rw[List.range_succ,List.map_append];rfl
 ·have e:i=n:=by lia
  subst e;exact .inl ⟨hst H ok,hfin H ok⟩
section
variable {X:Cx}
theorem FD:∀bs:List Bool,(List.range bs.length).all (fun i=>bs.getD i true)=bs.all id
 | []=>rfl
 | b::bs=>by
  rw[List.length_cons,List.range_succ_eq_map,List.all_cons,List.all_map,List.all_cons,←FD bs];rfl
theorem AF (hc:X.calm=true):c6 X (.builtin "all") (fun xs H Q=>∃(p:Addr) (bs:List Bool),xs=[.ref p]/\SqL X.K H p (bs.map V.bl)/\Q (.bl (bs.all id)) H):=by
 intro pins s σ H xs us Q I r h;obtain⟨p,bs,rfl,hq,q⟩:=h;obtain⟨u,rfl,rx⟩:=nM r;cases rx;obtain⟨its,r',pl,hz⟩:=I.list hq;have hl:=pl.isList;have hlt:p<s.heap.objs.size:=by obtain⟨_,e,_⟩:=hl;exact Heap.lt_size e
 have hlen:bs.length=its.length:=by have:=r'.length;rw[List.length_map]at this;exact this
 refine call_all_walk (wpAny_pyIter_list hl ?_);refine⟨s.heap.objs.size,_,_,its.toArray.size,_,_,fun i=>bs.getD i true,rfl,Walks.list (show X.A.in1.handled=none from I.ok.hd hc) s.heap.objs.size p (Nat.ne_of_lt hlt) its.toArray,⟨⟨_,Heap.get?_push_size _ rfl,rfl,rfl⟩,hl.push _⟩,?_,?_⟩
 ·intro i v s' Q' E' hi hQ;have hi':its[i]? =some v:=by simpa using hi
  have hib:i<bs.length:=by rw[hlen];exact(List.getElem?_eq_some_iff.mp hi').1
  obtain⟨u,hu,ru⟩:=r'.get (i:=i) (x:=V.bl bs[i]) (by rw[List.getElem?_map,List.getElem?_eq_getElem hib];rfl);rw[hi']at hu;cases hu;have:v=Value.bool bs[i]:=ru;subst this;refine wpAny_truthy_bool ?_;have eb:bs.getD i true=bs[i]:=by rw[List.getD_eq_getElem?_getD,List.getElem?_eq_getElem hib];rfl
  have hQ':Q' (bs.getD i true) s':=hQ;rw[eb]at hQ';exact hQ'
 ·intro h' tk hk;have eall:(List.range its.toArray.size).all (fun i=>bs.getD i true)=bs.all id:=by
   rw[List.size_toArray,←hlen];exact FD bs
  rw[eall];refine⟨.bl (bs.all id),H,?_,rfl,q⟩;have I1:Inv X pins σ H { s with heap:=s.heap.push { cls:= .type "list_iterator",data:= .fields #[.ref p,.int 0 0] },toks:=s.toks }:=I.kept fun b u e=>Heap.get?_push_of_some _ e;obtain⟨f0,f1,f2,f3,f4,f5⟩:=I.fpOk (Nat.le_refl _) (I.hok.fresh (Nat.le_refl _));exact I1.turned (fun b o hb e=>hk b o (by simpa using hb) e) f0 f1 f3 f4 f5
theorem HL:c6 X (.builtin "isinstance") (fun xs H Q=>∃x c t u b,xs=[x,c]/\jP X.K H x t/\RelV c u/\PySem.W.kitOne X.K t u=some b/\Q (.bl b) H):=by
 intro pins s σ H xs us Q I r h;obtain⟨x,c,t,u,b,rfl,ty,rc,e,q⟩:=h;obtain⟨v1,v2,rfl,r1,r2⟩:=xZ r;have e2:v2=u:=by
  cases c with
  | non=>exact(show v2=_ from r2).trans (show u=_ from rc).symm
  | bl b=>exact(show v2=_ from r2).trans (show u=_ from rc).symm
  | ref b=>exact(show v2=_ from r2).trans (show u=_ from rc).symm
  | ty b=>exact(show v2=_ from r2).trans (show u=_ from rc).symm
  | int i =>
   obtain⟨t1,rfl⟩:=(show ∃t,u=_ from rc)
   cases ty<;>simp[PySem.W.kitOne,PySem.W.kitCls]at e
  | str i =>
   obtain⟨t1,rfl⟩:=(show ∃t,u=_ from rc)
   cases ty<;>simp[PySem.W.kitOne,PySem.W.kitCls]at e
  | byt i =>
   obtain⟨t1,rfl⟩:=(show ∃t,u=_ from rc)
   cases ty<;>simp[PySem.W.kitOne,PySem.W.kitCls]at e
  | flt i =>
   obtain⟨t1,rfl⟩:=(show ∃t,u=_ from rc)
   cases ty<;>simp[PySem.W.kitOne,PySem.W.kitCls]at e
 subst e2;exact NT I r1 ty e fun tk=>⟨.bl b,H,I.tok tk,rfl,q⟩
theorem MQ:OpR X (compareOp .LtE) (fun x y H Q=>∃i j,x= .str i/\y= .str j/\Q (.bl (!decide (j.cps.toList<i.cps.toList))) H):=by
 intro pins s σ H x y v u Q I rx ry h;obtain⟨i,j,rfl,rfl,q⟩:=h;obtain⟨t,rfl⟩:=rx;obtain⟨t',rfl⟩:=ry;exact P.le_str ⟨.bl _,H,I,rfl,q⟩
theorem yB {v:Value}{o:Option Int} (p:IsPart v o):∃l:Option (Int×Tok),v=partValue l/\o=l.map (·.1):=by
 cases p with
 | none=>exact⟨none,rfl,rfl⟩
 | int i u=>exact⟨some (i,u),rfl,rfl⟩
def aAM:V->Option Int->Option Int->Hp->VK->Prop:=fun x lo hi H Q=>∃z,x= .str z/\z.length<=sizeLine/\Q (.str (Txt.slice z lo hi)) H
theorem yA:SlR X aAM:=by
 intro pins s σ H x v vl vu lo hi sl Q I rx hs pl pu h;obtain⟨z,rfl,hz,q⟩:=h;obtain⟨t,rfl⟩:=rx;obtain⟨l,rfl,rfl⟩:=yB pl;obtain⟨u,rfl,rfl⟩:=yB pu;refine⟨"str",_,F.slot_str_getitem.lookup,typeIs_str _ _ _,?_⟩;exact wpAny_getItem_str_slice (l:=l) (u:=u) (st:=none) hs rfl (post_val_or_str ⟨Nat.le_trans (Txt.slice_le z _ _) hz,fun t' k=>⟨.str _,H,I.tok k,⟨t',rfl⟩,q⟩⟩)
end
end L2
namespace L2
open PySem PySem.Spec PyProof.Rows
def UL (xs:List (Str×NameKind))(XN:List Str)(ns:List (Str×NameKind))(N:List Str)(nl:Nat)(ci:List Nat):Bool :=
 (ns.all fun y=>y.2 != .cell&&(y.2 != .local||ns.lookup y.1==some .local)&&(y.2 != .free||(xs.lookup y.1==some .cell&&ns.lookup y.1==some .free))) &&
 (N.length==nl+ci.length) &&
 (List.range ci.length).all fun j=>match ci[j]?,N[nl+j]? with
  | some i,some n=>XN[i]? ==some n&&xs.lookup n==some .cell&&ns.lookup n==some .free
  | _,_=>false
def rW (ns:List (Str×NameKind))(cs:List (Str×Addr)):List (Str×Addr)->List (Str×Addr)
 | acc=>ns.foldl (fun acc y=>if y.2== .free then (y.1,(cs.lookup y.1).getD 0)::acc else acc) acc
theorem tE {env:Env}:∀(ns:List (Str×NameKind)) (acc:List (Str×Addr)),(∀y∈ns,y.2= .free->∃c,env.cells.lookup y.1=some c) →
  (forIn ns acc fun x r=>(do
   let (name,kind):=x
   if (kind==NameKind.free)=true then do
     let c ←cellOf env name
     pure (ForInStep.yield ((name,c)::r))
    else pure (ForInStep.yield r)):Sem (List (Str×Addr)))=pure (rW ns env.cells acc)
 | [],acc,_=>rfl
 | (n,k)::r,acc,h=>by
  have ih:=fun acc=>tE r acc fun y hy=>h y (List.mem_cons_of_mem _ hy);rw[List.forIn_cons]
  by_cases hk:k= .free
  ·subst hk;obtain⟨c,e⟩:=h (n,.free) List.mem_cons_self rfl;have e1:cellOf env n=pure c:=by unfold cellOf;rw[e]
   simp only[beq_self_eq_true,if_true,e1];show (forIn r ((n,c)::acc) _:Sem (List (Str×Addr)))=_;rw[ih];show _=pure (rW ((n,NameKind.free)::r) env.cells acc);simp only[rW,List.foldl_cons,beq_self_eq_true,if_true,e,Option.getD_some]
  ·have hb:(k==NameKind.free)=false:=by simpa using hk
   simp only[hb,Bool.false_eq_true,if_false];show (forIn r acc _:Sem (List (Str×Addr)))=_;rw[ih];simp only[rW,List.foldl_cons,hb,Bool.false_eq_true,if_false]
theorem jA {cs:List (Str×Addr)}:∀(ns:List (Str×NameKind)) (acc:List (Str×Addr)) (n:Str),(∀y∈ns,y.2= .free->∃c,cs.lookup y.1=some c) →
  ((n,NameKind.free)∈ns∨acc.lookup n=cs.lookup n)->(∀c,acc.lookup n=some c->cs.lookup n=some c)->(rW ns cs acc).lookup n=cs.lookup n
 | [],acc,n,_,h,_=>by
  rcases h with h|h
  ·cases h
  ·exact h
 | (m,k)::r,acc,n,hc,h,hs=>by
  have hc':∀y∈r,y.2= .free->∃c,cs.lookup y.1=some c:=fun y hy=>hc y (List.mem_cons_of_mem _ hy);show (rW r cs (if k== .free then (m,(cs.lookup m).getD 0)::acc else acc)).lookup n=cs.lookup n
  by_cases hk:k= .free
  ·subst hk;obtain⟨c,e⟩:=hc (m,.free) List.mem_cons_self rfl;simp only[beq_self_eq_true,if_true,e,Option.getD_some]
   by_cases hm:n=m
   ·subst hm;have q:List.lookup n ((n,c)::acc)=some c:=by simp[List.lookup_cons]
    exact jA r _ n hc' (.inr (q.trans e.symm)) fun c' z=>by rw[q]at z;cases z;exact e
   ·have hb:(n==m)=false:=by simpa using hm
    have q:List.lookup n ((m,c)::acc)=acc.lookup n:=by simp[List.lookup_cons,hb]
    refine jA r _ n hc' ?_ fun c' z=>hs c' (q▸z);rcases h with h|h
    ·rcases List.mem_cons.mp h with z|z
     ·cases z;exact absurd rfl hm
     ·exact .inl z
    ·exact .inr (q.trans h)
  ·have hb:(k==NameKind.free)=false:=by simpa using hk
   simp only[hb,Bool.false_eq_true,if_false];refine jA r _ n hc' ?_ hs;rcases h with h|h
   ·rcases List.mem_cons.mp h with z|z
    ·cases z;exact absurd rfl hk
    ·exact .inl z
   ·exact .inr h
theorem E6 {cs:List (Str×Addr)}:∀(ns:List (Str×NameKind)) (acc:List (Str×Addr)),(∀y∈ns,y.2= .free->∃c,cs.lookup y.1=some c) →
  (∀n c,acc.lookup n=some c->cs.lookup n=some c)->∀n c,(rW ns cs acc).lookup n=some c->cs.lookup n=some c
 | [],acc,_,hs,n,c,h=>hs n c h
 | (m,k)::r,acc,hc,hs,n,c,h=>by
  have hc':∀y∈r,y.2= .free->∃c,cs.lookup y.1=some c:=fun y hy=>hc y (List.mem_cons_of_mem _ hy);have h':(rW r cs (if k== .free then (m,(cs.lookup m).getD 0)::acc else acc)).lookup n=some c:=h;refine E6 r _ hc' ?_ n c h';intro n' c' z
  by_cases hk:k= .free
  ·subst hk;obtain⟨d,e⟩:=hc (m,.free) List.mem_cons_self rfl;simp only[beq_self_eq_true,if_true,e,Option.getD_some]at z
   by_cases hm:n'=m
   ·subst hm;simp[List.lookup_cons]at z;subst z;exact e
   ·have hb:(n'==m)=false:=by simpa using hm
    simp[List.lookup_cons,hb]at z;exact hs n' c' z
  ·have hb:(k==NameKind.free)=false:=by simpa using hk
   simp only[hb,Bool.false_eq_true,if_false]at z;exact hs n' c' z
theorem kT {env:Env}(hkf:env.scope.kind= .function):∀{names:List (Str×NameKind)}{x:Str},names.lookup x=some .free->env.kindOf x=some .cell →
  (names.map fun (n,k)=>if (k==NameKind.free&&env.scope.kind== .function&&env.kindOf n==some .cell) then (n,NameKind.cell) else (n,k)).lookup x=some .cell
 | [],_,h,_=>by simp at h
 | (n,k)::r,x,h,hc=>by
  show List.lookup x ((if (k==NameKind.free&&env.scope.kind== .function&&env.kindOf n==some .cell)=true then (n,NameKind.cell) else (n,k))::_)=_;cases hx:x==n with
  | true =>
   simp only[List.lookup_cons,hx]at h;cases h;have e:x=n:=by simpa using hx
   subst e;rw[hkf,hc];simp[List.lookup_cons]
  | false =>
   simp only[List.lookup_cons,hx]at h;have ih:=kT hkf h hc
   split
   ·simp only[List.lookup_cons,hx];exact ih
   ·simp only[List.lookup_cons,hx];exact ih
theorem gY {env:Env}:∀{names:List (Str×NameKind)}{x:Str}{k':NameKind},(∀y∈names,y.2≠ .cell)->(k'= .cell∨k'= .free) →
  (names.map fun (n,k)=>if (k==NameKind.free&&env.scope.kind== .function&&env.kindOf n==some .cell) then (n,NameKind.cell) else (n,k)).lookup x=some k'->(x,NameKind.free)∈names
 | [],_,_,_,_,h=>by simp at h
 | (n,k)::r,x,k',hn,hk',h=>by
  have h':List.lookup x ((if (k==NameKind.free&&env.scope.kind== .function&&env.kindOf n==some .cell)=true then (n,NameKind.cell) else (n,k))::r.map _)=some k':=h;cases hx:x==n with
  | true =>
   have e:x=n:=by simpa using hx
   subst e
   by_cases hf:k= .free
   ·subst hf;exact List.mem_cons_self
   ·have hb:(k==NameKind.free)=false:=by simpa using hf
    simp only[hb,Bool.false_and,Bool.false_eq_true,if_false,List.lookup_cons,hx]at h';cases h';rcases hk' with z|z
    ·exact absurd z (hn (x,k) List.mem_cons_self)
    ·exact absurd z hf
  | false =>
   have h2:List.lookup x (r.map fun (n,k)=>if (k==NameKind.free&&env.scope.kind== .function&&env.kindOf n==some .cell) then (n,NameKind.cell) else (n,k))=some k':=by
    split at h'
    ·simp only[List.lookup_cons,hx]at h';exact h'
    ·simp only[List.lookup_cons,hx]at h';exact h'
   exact List.mem_cons_of_mem _ (gY (fun y hy=>hn y (List.mem_cons_of_mem _ hy)) hk' h2)
theorem blk {X:Cx}{scope:Scope}{N:List Str}{nl:Nat}{ci:List Nat} (n0:Nat) (hX:X.env.cells=cellsFrom n0 X.env.scope.names []) (hkf:X.env.scope.kind= .function) (hk:scope.kind= .function)
  (h:UL X.env.scope.names X.N scope.names N nl ci=true):Blk X scope (rW scope.names X.env.cells []) N nl ci:=by
 unfold UL at h;rw[Bool.and_eq_true,Bool.and_eq_true]at h;obtain⟨⟨h1,h2⟩,h3⟩:=h;rw[List.all_eq_true]at h1;have h1':∀y∈scope.names,y.2≠ .cell/\(y.2= .local->scope.names.lookup y.1=some .local)/\(y.2= .free->X.env.scope.names.lookup y.1=some .cell/\scope.names.lookup y.1=some .free):=fun y hy=>by
  have q:=h1 y hy;simp only[Bool.and_eq_true,Bool.or_eq_true,bne_iff_ne,ne_eq,beq_iff_eq]at q;obtain⟨⟨q1,q2⟩,q3⟩:=q;exact⟨q1,fun e=>q2.resolve_left fun z=>z e,fun e=>q3.resolve_left fun z=>z e⟩
 have hcs:∀y∈scope.names,y.2= .free->∃c,X.env.cells.lookup y.1=some c:=fun y hy e=>by
  rw[hX];exact wX ((h1' y hy).2.2 e).1
 refine⟨hk,fun y hy=>(h1' y hy).2.1,fun y hy=>(h1' y hy).1,?_,?_,?_,by simpa using h2,?_⟩
 ·unfold closureFor;refine(congrArg (fun m:Sem (List (Str×Addr))=>m >>= fun cs=>pure cs) (tE scope.names [] hcs)).trans ?_;rfl
 ·exact E6 scope.names [] hcs fun n c z=>by cases z
 ·intro n hn;have hm:(n,NameKind.free)∈scope.names:=by
   rcases hn with z|z
   ·exact gY (fun y hy=>(h1' y hy).1) (.inl rfl) z
   ·exact gY (fun y hy=>(h1' y hy).1) (.inr rfl) z
  obtain⟨c,e⟩:=hcs _ hm rfl;exact⟨c,(jA scope.names [] n hcs (.inl hm) fun c z=>by cases z).trans e⟩
 ·intro j i hj;have hjl:j<ci.length:=(List.getElem?_eq_some_iff.mp hj).1;rw[List.all_eq_true]at h3;have q:=h3 j (List.mem_range.mpr hjl);rw[hj]at q;cases e:N[nl+j]? with
  | none=>rw[e]at q;cases q
  | some n =>
   rw[e]at q;simp only[Bool.and_eq_true,beq_iff_eq]at q;obtain⟨⟨q1,q2⟩,q3⟩:=q;refine⟨n,rfl,q1,.inl q2,.inl (kT hkf q3 q2),?_⟩;exact jA scope.names [] n hcs (.inl (PySem.mem_of_lookup q3)) fun c z=>by cases z
structure Fc (P:Program)(w:World)(K:PySem.W.Frag)(mg:Str->Option Value)(base:Heap)(x:Str)(k:Nat)(ps:List Str)(sp:Sp):Prop where
 ex:∃f fd,mg x=some (.ref f)/\PySem.W.keepIn K (.ref f)=true/\Binds K fd ps []/\bD P w K mg base CX0 k f fd ps sp
theorem bG {X:Cx}{x:Str}{k k':Nat}{ps:List Str}{sp:Sp}{e:Expr}{es:List Expr}{t:TA}{p pos:Pos} (F:Fc X.prog X.w X.K X.mg X.base x k ps sp) (hr:Room k' X.A) (ha:PA X (e::es) t) (hk:k<=k':=by decide) (hg:Gl X x:=by rfl)
  (hdb:(x==("__debug__" :Str))=false:=by decide)(he:starEach (e::es) X.env=(false,eval e X.env)::starEach es X.env:=by rfl)(hpl:(backTo pos (starEach es X.env)).any (·.1)=false:=by rfl) :
  PE X (.Call (.Name x p) (e::es) [] pos) (u0 sp [] E0 t):=by
 obtain⟨f,fd,hm,kp,b,G⟩:=F.ex;exact JK G (hr.mono hk) hg hm kp b .nil DW ha hdb he hpl
theorem DV {X:Cx}{x:Str}{n:String}{pos:Pos} (hg:Gl X x) (hm:X.mg x=none) (hv:bootBuiltins x=some (.type n)) (hn:x≠ "__name__" :=by decide) (hd:(x==("__debug__" :Str))=false:=by decide):PE X (.Name x pos) (tC (.ty n)):=WO hg hm hv rfl hn hd
theorem VJ {X:Cx}{x:Str}{i:Int}{t:Tok}{pos:Pos} (hg:Gl X x) (hm:X.mg x=some (.int i t)) (hd:(x==("__debug__" :Str))=false:=by decide):PE X (.Name x pos) (tC (.int i)):=JL hg hm ⟨t,rfl⟩ hd
theorem yS {X:Cx}{x:Str}{a:Addr}{pos:Pos} (hg:Gl X x) (hm:X.mg x=some (.ref a)) (hd:(x==("__debug__" :Str))=false:=by decide):PE X (.Name x pos) (tC (.ref a)):=JL hg hm rfl hd
theorem dD:bootBuiltins "isinstance" =some (.builtin "isinstance"):=by decide +kernel
theorem Z1:bootBuiltins "all" =some (.builtin "all"):=by decide +kernel
theorem kI:bootBuiltins "len" =some (.builtin "len"):=by decide +kernel
theorem YD:bootBuiltins "max" =some (.builtin "max"):=by decide +kernel
theorem aAn:bootBuiltins "min" =some (.builtin "min"):=by decide +kernel
theorem aAD:bootBuiltins "int" =some (.type "int"):=by decide +kernel
theorem ZX:bootBuiltins "str" =some (.type "str"):=by decide +kernel
theorem VA:bootBuiltins "bool" =some (.type "bool"):=by decide +kernel
theorem JO:bootBuiltins "list" =some (.type "list"):=by decide +kernel
theorem WN:bootBuiltins "dict" =some (.type "dict"):=by decide +kernel
inductive BTy (K:PySem.W.Frag)(H:Hp):V->String->Prop where
 | non:BTy K H .non "NoneType"
 | bl (x:Bool):BTy K H (.bl x) "bool"
 | int (i:Int):BTy K H (.int i) "int"
 | str (x:Str):BTy K H (.str x) "str"
 | lst {a:Addr}{xs:List V} (e:H a=some (.lst xs)):BTy K H (.ref a) "list"
 | tup {a:Addr}{xs:List V} (e:H a=some (.tup xs)):BTy K H (.ref a) "tuple"
 | dK {a:Addr}{kvs:List (Key×V)} (e:H a=some (.dK kvs)):BTy K H (.ref a) "dict"
theorem BTy.ty {K:PySem.W.Frag}{H:Hp}{x:V}{n:String} (b:BTy K H x n):jP K H x (.type n):=by
 cases b with
 | non=>exact .non
 | bl=>exact .bl _
 | int=>exact .int _
 | str=>exact .str _
 | lst e=>exact .lst e
 | tup e=>exact .tup e
 | dK e=>exact .dK e
def isB (n c:String):Bool:=n==c||(n== "bool" &&c== "int")
theorem LO {K:PySem.W.Frag}{H:Hp}{x:V}{n:String} (b:BTy K H x n) (c:String) (hc:c= "int" ∨c= "bool" ∨c= "str"):PySem.W.kitOne K (.type n) (.type c)=some (isB n c):=by
 cases b<;>rcases hc with rfl|rfl|rfl<;>kernel_rfl
end L2
namespace L2
open PySem PySem.Spec PyProof.Rows
theorem MM {J:It}{te:TE}{σ0:St}{fin:List V->Hp->Prop}{H1:Hp} (n:Nat) (Ok:Nat->List V->Hp->Prop) (hn:n<=sizeLine) (h00:σ0[0]? =some none) (h0:Ok 0 [] H1) (hlen:∀i ys H,Ok i ys H->ys.length<=i)
  (hst:∀ys H,Ok n ys H->J.stop n H/\fin ys H)(hstep:∀i ys H,i<n->Ok i ys H->J.go i H/\∀x H',J.yld i H x H'->∀R:VK,(∀y H4,Ok (i+1) (ys++[y]) H4->R y H4)->te (σ0.set 0 (some x)) H' R):dW J (bX 0) wF te σ0 fin H1:=by
 refine⟨fun i m ys H=>m=n - i/\i<=n/\Ok i ys H,⟨n,by simp,Nat.zero_le _,h0⟩,?_⟩;rintro i m ys H ⟨rfl,hi,ok⟩
 by_cases hlt:i<n
 ·obtain⟨go,st⟩:=hstep i ys H hlt ok;refine .inr ⟨go,fun x H' y=>⟨⟨by simp,fun j v hv=> ?_⟩,?_⟩⟩
  ·cases j with
   | zero=>rw[h00]at hv;cases hv
   | succ j=>rw[List.getElem?_set_ne (by lia)];exact hv
  ·unfold wF
   dsimp only
   rw[if_pos rfl];exact st x H' y _ fun z H4 ok4=>⟨by have:=hlen i ys H ok;lia,n - (i+1),by lia,rfl,hlt,ok4⟩
 ·have e:i=n:=by lia
  subst e;exact .inl (hst ys H ok)
theorem LK {lo:Int}{n:Nat}{te:TE}{σ0:St}{fin:List V->Hp->Prop}{H1:Hp} (Ok:Nat->List V->Hp->Prop) (hn:n<=sizeLine) (h00:σ0[0]? =some none) (h0:Ok 0 [] H1) (hlen:∀i ys H,Ok i ys H->ys.length<=i) (hfin:∀ys H,Ok n ys H->fin ys H)
  (hstep:∀i ys H,i<n->Ok i ys H->∀R:VK,(∀y H4,Ok (i+1) (ys++[y]) H4->R y H4)->te (σ0.set 0 (some (.int (lo+i)))) H R):dW (Itr lo n) (bX 0) wF te σ0 fin H1 :=
 MM n Ok hn h00 h0 hlen (fun ys H ok=>⟨Nat.le_refl _,hfin ys H ok⟩) fun i ys H hi ok=>⟨hi,fun x H' y=>by
  obtain⟨e1,e2⟩:=y;subst e1 e2;exact hstep i ys _ hi ok⟩
section
variable {X:Cx}
end
structure FunV (K:PySem.W.Frag)(x qual:Str)(st:Stmt)(f:Addr)(fd:FuncData):Prop where
 ex:∃(oc:Value) (od:Option Addr) (dV kV doc pm:Value) (an:Option Addr) (cdv ct:Value) (osl:Array (Option Value)),
  fd=PySem.W.fnOf x qual (aK st) (aJ st) (aC st) dV kV doc pm an cdv ct/\K.lookup f=some ⟨oc,od,.func fd,osl⟩/\PySem.W.codeIn K cdv qual=true
 kp:PySem.W.keepIn K (.ref f)=true
section
variable {P:Program}{w:World}{K:PySem.W.Frag}{mg:Str->Option Value}{base:Heap}
theorem FunV.ok {x qual:Str}{st:Stmt}{f:Addr}{fd:FuncData}{N ps:List Str}{k:Nat}{sp:Sp} (F:FunV K x qual st f fd) (S:aR N ps (aC st)) (len:∀vs H Q E,sp vs H Q E->vs.length=ps.length)
  (hbody:∀(cdv:Value) (A:Around) (outer:List Env) (s:Shared) (H:Hp) (vs:List V) (Q:VK) (E:XK),Room k (A.deeper (envOfC qual (aC st) s.heap.objs.size f cdv))->sp vs H Q E →
   ∃t,PSs (gD CX0 P w K mg base N qual (aC st) f cdv A outer s H E).nox (aJ st) t/\t { nx:=fun _ H'=>Q .non H',rt:=Q } (j5 N vs) H):bD P w K mg base CX0 (k+1) f fd ps sp:=by
 obtain⟨oc,od,dV,kV,doc,pm,an,cdv,ct,osl,rfl,lk,hcd⟩:=F.ex;refine TW lk hcd S len fun A outer s H vs Q E hr h=> ?_;obtain⟨t,h1,h2⟩:=hbody cdv A outer s H vs Q E hr h;exact⟨t,PSs.nox h1,h2⟩
theorem aS {x qual:Str}{st:Stmt}{f:Addr}{oc:Value}{od an:Option Addr}{osl:Array (Option Value)}{dV kV doc pm cdv ct:Value} (l:K.lookup f=some ⟨oc,od,.func (PySem.W.fnOf x qual (aK st) (aJ st) (aC st) dV kV doc pm an cdv ct),osl⟩) (c:PySem.W.codeIn K cdv qual=true)
  (k:PySem.W.keepIn K (.ref f)=true):FunV K x qual st f (PySem.W.fnOf x qual (aK st) (aJ st) (aC st) dV kV doc pm an cdv ct):=⟨⟨oc,od,dV,kV,doc,pm,an,cdv,ct,osl,rfl,l,c⟩,k⟩
structure Mc (P:Program)(w:World)(K:PySem.W.Frag)(mg:Str->Option Value)(base:Heap)(C:Addr)(nm:Str)(k:Nat)(sp:Sp):Prop where
 ex:∃f fd ps,Cls K C/\iP K C nm f/\Binds K fd ps []/\bD P w K mg base CX0 k f fd ps sp
structure Kc (P:Program)(w:World)(K:PySem.W.Frag)(mg:Str->Option Value)(base:Heap)(x:Str)(C:Addr)(k:Nat)(dvs:List V)(sp:Sp):Prop where
 ex:∃f fd ps ds,mg x=some (.ref C)/\Mk K C f/\Vals dvs ds/\Binds K fd ps ds/\bD P w K mg base CX0 k f fd ps sp
end
section
variable {X:Cx}{k k':Nat}{sp:Sp}{x m:Str}{p pos apos:Pos}{e o:Expr}{es:List Expr}{ta:TE}{t:TA}{C:Addr}{dvs:List V}
def tMD (M:Addr->Sp->Prop)(m:Str)(ta:TE)(t:TA):TE:=fun σ H Q=>ta σ H fun x H1=>∃a C dx fs sp,x= .ref a/\H1 a=some (.ins C dx fs)/\fs.lookup m=none/\M C sp/\t σ H1 fun vs H2=>sp (x::vs) H2 Q E0
theorem gZ (k:Nat){pl:Sem Bool}(hr:Room k' X.A)(ho:PE X o ta)(ha:PA X (e::es) t)(hk:k<=k':=by decide)
  (hst:starEach (e::es) X.env=(false,eval e X.env)::starEach es X.env:=by rfl)(hpl:(backTo pos (starEach es X.env)).any (·.1)=false:=by rfl)
  (ht:eval (.Call (.Attribute o m apos) (e::es) [] pos) X.env=(do
   let ov ←eval o X.env
   standAt apos.atName
   let (f,first) ←holding [ov] (getMethod ov m pl)
   callWith pos f first (backTo pos (starEach (e::es) X.env)) (backToKw pos (keywordEach [] X.env))):=by rfl) :
  PE X (.Call (.Attribute o m apos) (e::es) [] pos) (tMD (fun C sp=>Mc X.prog X.w X.K X.mg X.base C m k sp) m ta t):=by
 intro pins s σ H Q I h;refine PySem.W.methodCall_KW (pl:=pl) (thn (ho pins s σ H _ I h) fun u s1 ⟨x,H1,I1,rx,a,C,dx,fs,sp,ex,ea,l,M,q⟩=> ?_) ht;subst ex;obtain rfl:u=Value.ref a:=rx;obtain⟨f,fd,ps,c,hm,hb,F⟩:=M.ex;refine zD I1 ea c hm l ?_;refine PySem.W.callWith_K (first:=[.ref a]) (h₀:=X.base) I.ok.mod.kin hm.kp (thn (ha pos pins s1 σ H1 _ I1 q) fun us s2 ⟨vs,H2,I2,r,q2⟩=>⟨I2.kIn,?_⟩) hst hpl;exact D0 (us:= .ref a::us) (vs:= .ref a::vs) (dvs:=[]) F (hr.mono hk) hb .nil DW I2 (.cons rfl r) (by rw[List.append_nil];exact q2)
theorem gF (k:Nat){pl:Sem Bool}(hr:Room k' X.A)(ho:PE X o ta)(hk:k<=k':=by decide)
  (ht:eval (.Call (.Attribute o m apos) [] [] pos) X.env=(do
   let ov ←eval o X.env
   standAt apos.atName
   let (f,first) ←holding [ov] (getMethod ov m pl)
   callWith pos f first (backTo pos (starEach [] X.env)) (backToKw pos (keywordEach [] X.env))):=by rfl) :
  PE X (.Call (.Attribute o m apos) [] [] pos) (tMD (fun C sp=>Mc X.prog X.w X.K X.mg X.base C m k sp) m ta QU):=by
 intro pins s σ H Q I h;refine PySem.W.methodCall_KW (pl:=pl) (thn (ho pins s σ H _ I h) fun u s1 ⟨x,H1,I1,rx,a,C,dx,fs,sp,ex,ea,l,M,q⟩=> ?_) ht;subst ex;obtain rfl:u=Value.ref a:=rx;obtain⟨f,fd,ps,c,hm,hb,F⟩:=M.ex;refine zD I1 ea c hm l ?_;exact PySem.W.callWith_K0 (first:=[.ref a]) I1.kIn hm.kp (D0 (us:=[.ref a]) (vs:=[.ref a]) (dvs:=[]) F (hr.mono hk) hb .nil DW I1 (.cons rfl .nil) q)
theorem UR (F:Kc X.prog X.w X.K X.mg X.base x C k dvs sp)(hr:Room k' X.A)(ha:PA X (e::es) t)(hk:k+1<=k':=by decide)(hg:Gl X x:=by rfl)
  (hdb:(x==("__debug__" :Str))=false:=by decide)(he:starEach (e::es) X.env=(false,eval e X.env)::starEach es X.env:=by rfl)(hpl:(backTo pos (starEach es X.env)).any (·.1)=false:=by rfl) :
  PE X (.Call (.Name x p) (e::es) [] pos) (KZ C sp dvs E0 t):=by
 obtain⟨f,fd,ps,ds,hm,M,hd,hb,G⟩:=F.ex;exact W3 M G (hr.mono hk) hg hm hb hd DW ha hdb he hpl
end
end L2
namespace L2
open PySem PySem.Spec PyProof.Rows
def US:R2:=fun x y H Q=>∃i j,x= .str i/\y= .str j/\i.length+j.length<=sizeLine/\Q (.str (i++j)) H
def YR:R2:=fun x y H Q=>y= .non/\Q (.bl (decide (x= .non))) H
def KP:R2:=fun x y H Q=>y= .non/\Q (.bl (!decide (x= .non))) H
def aBS:R2:=fun x y H Q=>∃i j,x= .str i/\y= .str j/\Q (.bl (!decide (j.cps.toList<i.cps.toList))) H
def aBU (K:PySem.W.Frag):List V->Hp->VK->Prop:=fun xs H Q=>∃x c t u b,xs=[x,c]/\jP K H x t/\RelV c u/\PySem.W.kitOne K t u=some b/\Q (.bl b) H
def aBR (K:PySem.W.Frag):List V->Hp->VK->Prop:=fun xs H Q=>∃(p:Addr) (bs:List Bool),xs=[.ref p]/\SqL K H p (bs.map V.bl)/\Q (.bl (bs.all id)) H
def UN:List V->Hp->VK->Prop:=fun xs H Q=>∃z,xs=[.str z]/\z.length<=sizeLine/\Q (.int z.length) H
def TV (K:PySem.W.Frag):List V->Hp->VK->Prop:=fun xs H Q=>∃p ys,xs=[.ref p]/\(SqL K H p ys∨SqT K H p ys)/\Q (.int ys.length) H
def UQ:List V->Hp->VK->Prop:=fun xs H Q=>∃i j,xs=[.int i,.int j]/\Q (.int (if j>i then j else i)) H
def UZ:List V->Hp->VK->Prop:=fun xs H Q=>∃i j,xs=[.int i,.int j]/\Q (.int (if j<i then j else i)) H
section
variable {X:Cx}
theorem JD:OpR X (binaryOp .Add) US:=KQ
theorem Y9:OpR X (compareOp .Is) YR:=ZI
theorem WH:OpR X (compareOp .IsNot) KP:=U8
theorem O2:OpR X (compareOp .LtE) aBS:=MQ
theorem wZ:c6 X (.builtin "isinstance") (aBU X.K):=HL
theorem SF (hc:X.calm=true):c6 X (.builtin "all") (aBR X.K):=AF hc
theorem CI:c6 X (.builtin "len") UN:=D9
theorem g7:c6 X (.builtin "len") (TV X.K):=E5
theorem MN (hc:X.calm=true):c6 X (.builtin "max") UQ:=MT hc
theorem OE (hc:X.calm=true):c6 X (.builtin "min") UZ:=L9 hc
end
def xR (P:Bool->Hp->Prop):VK:=fun x H=>∃k,x= .bl k/\P k H
def Y8 (O:Option Int->Hp->Prop):VK:=fun x H=>∃i,x= .int i/\O (some i) H
def Y2 (Q:VK):List V->Hp->Prop:=fun xs H=>xs.length<=sizeLine/\∀p,H p=none->Q (.ref p) (upd H p (.lst xs))
def ZZ (Q:VK):List V->Hp->Prop:=fun xs H=>xs.length<=sizeLine/\∀p,H p=none->Q (.ref p) (upd H p (.tup xs))
def aAi (Q:VK):List V->Hp->Prop:=fun ys H=>∀p,H p=none->Q (.ref p) (upd H p (.lst ys))
def aAA (K:PySem.W.Frag)(f:Str)(Q:VK):VK:=fun x H=>∃a C dx fs v,x= .ref a/\H a=some (.ins C dx fs)/\Cls K C/\NoAttr K C f/\fs.lookup f=some v/\Q v H
def UU (K:PySem.W.Frag)(f:Str)(y:V)(q:Hp->Prop):VK:=fun x H=>∃a C dx fs,x= .ref a/\H a=some (.ins C dx fs)/\Cls K C/\NoAttr K C f/\fs.length<1000/\q (upd H a (.ins C dx (c8 f y fs)))
def MdP (M:Addr->Sp->Prop)(m:Str)(t:TA)(σ:St)(Q:VK):VK:=fun x H=>∃a C dx fs sp,x= .ref a/\H a=some (.ins C dx fs)/\fs.lookup m=none/\M C sp/\t σ H fun vs H2=>sp (x::vs) H2 Q E0
def DU (C:Addr)(sp:Sp)(dvs:List V)(E:XK)(Q:VK):List V->Hp->Prop:=fun vs H1=>∀x dx,H1 x=none->H1 dx=none->dx≠x →
 sp (.ref x::(vs++dvs)) (upd (upd H1 dx (.own x)) x (.ins C dx [])) (fun v H2=>v= .non/\Q (.ref x) H2) E
def BmP (K:PySem.W.Frag)(T:String)(r:V->List V->Hp->VK->Prop)(t:TA)(σ:St)(Q:VK):VK:=fun x H1=>tyV K T x H1/\t σ H1 fun xs H2=>r x xs H2 Q
def YN (K:PySem.W.Frag)(R:It->Hp->Prop):VK:=fun x H1=>∃a,x= .ref a/\(∃xs,SqL K H1 a xs)/\R (Itl K a) H1
def aAx (R:It->Hp->Prop):List V->Hp->Prop:=fun vs H1=>∃j:Int,vs=[.int j]/\ -(2^62)<=j/\j<2^62/\R (Itr 0 j.toNat) H1
def aAf (R:It->Hp->Prop):List V->Hp->Prop:=fun vs H1=>∃i j:Int,vs=[.int i,.int j]/\(-(2^62)<=i/\i<2^62/\ -(2^62)<=j/\j<2^62)/\R (Itr i (j - i).toNat) H1
section
variable {nx bk ct:St->Hp->Prop}{rt:VK}{σ:St}{H:Hp}{Q:VK}{t u:TS}{te ta tb tc:TE}{g:TG}{c d:TT}{v:V}{K:PySem.W.Frag}{E:XK}
theorem NC (h:t ⟨u ⟨nx,rt,bk,ct⟩,rt,bk,ct⟩ σ H):EI t u ⟨nx,rt,bk,ct⟩ σ H:=h
theorem XM (R:St->Hp->Prop)(h2:∀σ' H',R σ' H'->u ⟨nx,rt,bk,ct⟩ σ' H')(h1:∀nx':St->Hp->Prop,(∀σ' H',R σ' H'->nx' σ' H')->t ⟨nx',rt,bk,ct⟩ σ H):EI t u ⟨nx,rt,bk,ct⟩ σ H:=h1 _ h2
theorem SM {v:TS}(h:EI (JZ c t u) v ⟨nx,rt,bk,ct⟩ σ H):EI (JZ c t u) v ⟨nx,rt,bk,ct⟩ σ H:=h
theorem WX (h:nx σ H):UW ⟨nx,rt,bk,ct⟩ σ H:=h
theorem ZQ (h:te σ H fun x H1=>g x σ H1 nx):RF te g ⟨nx,rt,bk,ct⟩ σ H:=h
theorem aAP (h:te σ H rt):YL te ⟨nx,rt,bk,ct⟩ σ H:=h
theorem W2 (h:te σ H fun _ H1=>nx σ H1):UY te ⟨nx,rt,bk,ct⟩ σ H:=h
theorem aA7 (h:c σ H fun b H1=>if b=true then t ⟨nx,rt,bk,ct⟩ σ H1 else u ⟨nx,rt,bk,ct⟩ σ H1):JZ c t u ⟨nx,rt,bk,ct⟩ σ H:=h
theorem aAF {i:Nat}{ti:TIp} (h:k7 i σ H fun x H0=>te σ H0 fun y H1=>ti x y H1 fun z H2=>bX i z σ H2 nx):YH i te ti ⟨nx,rt,bk,ct⟩ σ H:=by
 obtain⟨x,e,q⟩:=h;exact⟨x,e,q⟩
def ET (J:It)(g:TG)(tb:TS)(D:kJ)(σ:St)(H:Hp):Prop :=
 ∃W:Nat->Nat->St->Hp->Prop,(∃m,W 0 m σ H)/\∀i m σ H,W i m σ H →
  (J.stop i H/\D.nx σ H)∨(J.go i H/\∃N:St->Hp->Prop,(∀σ' H',N σ' H'->∃m',m'<m/\W (i+1) m' σ' H')/\∀x H',J.yld i H x H'->g x σ H' fun σ2 H2=>tb { D with nx:=N,ct:=N,bk:=D.nx } σ2 H2)
theorem aAB {wi:TI}{tb:TS} (h:wi σ H fun J H1=>ET J g tb ⟨nx,rt,bk,ct⟩ σ H1):aAp wi g tb ⟨nx,rt,bk,ct⟩ σ H:=h
theorem aBb {l:St}(h:Q v H):k7 0 (some v::l) H Q:=⟨v,rfl,h⟩
theorem aBz {a0}{l:St} (h:Q v H):k7 1 (a0::some v::l) H Q:=⟨v,rfl,h⟩
theorem aA2 {a0 a1}{l:St} (h:Q v H):k7 2 (a0::a1::some v::l) H Q:=⟨v,rfl,h⟩
theorem aBG {a0 a1 a2}{l:St} (h:Q v H):k7 3 (a0::a1::a2::some v::l) H Q:=⟨v,rfl,h⟩
theorem aBr {a0 a1 a2 a3}{l:St} (h:Q v H):k7 4 (a0::a1::a2::a3::some v::l) H Q:=⟨v,rfl,h⟩
theorem aA5 {a0 a1 a2 a3 a4}{l:St} (h:Q v H):k7 5 (a0::a1::a2::a3::a4::some v::l) H Q:=⟨v,rfl,h⟩
theorem aBp {a0 a1 a2 a3 a4 a5}{l:St} (h:Q v H):k7 6 (a0::a1::a2::a3::a4::a5::some v::l) H Q:=⟨v,rfl,h⟩
theorem aBu {a0 a1 a2 a3 a4 a5 a6}{l:St} (h:Q v H):k7 7 (a0::a1::a2::a3::a4::a5::a6::some v::l) H Q:=⟨v,rfl,h⟩
theorem aBk {a0 a1 a2 a3 a4 a5 a6 a7}{l:St} (h:Q v H):k7 8 (a0::a1::a2::a3::a4::a5::a6::a7::some v::l) H Q:=⟨v,rfl,h⟩
theorem aBg {a0 a1 a2 a3 a4 a5 a6 a7 a8}{l:St} (h:Q v H):k7 9 (a0::a1::a2::a3::a4::a5::a6::a7::a8::some v::l) H Q:=⟨v,rfl,h⟩
variable {q:St->Hp->Prop}
theorem aBF {a0 a}{l:St} (h:q (a0::some v::l) H):bX 1 v (a0::a::l) H q:=h
theorem aBw {a0 a1 a}{l:St} (h:q (a0::a1::some v::l) H):bX 2 v (a0::a1::a::l) H q:=h
theorem aBt {a0 a1 a2 a}{l:St} (h:q (a0::a1::a2::some v::l) H):bX 3 v (a0::a1::a2::a::l) H q:=h
theorem aA1 {a0 a1 a2 a3 a}{l:St} (h:q (a0::a1::a2::a3::some v::l) H):bX 4 v (a0::a1::a2::a3::a::l) H q:=h
theorem aBv {a0 a1 a2 a3 a4 a}{l:St} (h:q (a0::a1::a2::a3::a4::some v::l) H):bX 5 v (a0::a1::a2::a3::a4::a::l) H q:=h
theorem aBs {a0 a1 a2 a3 a4 a5 a}{l:St} (h:q (a0::a1::a2::a3::a4::a5::some v::l) H):bX 6 v (a0::a1::a2::a3::a4::a5::a::l) H q:=h
theorem aBd {a0 a1 a2 a3 a4 a5 a6 a}{l:St} (h:q (a0::a1::a2::a3::a4::a5::a6::some v::l) H):bX 7 v (a0::a1::a2::a3::a4::a5::a6::a::l) H q:=h
theorem aA9 {a0 a1 a2 a3 a4 a5 a6 a7 a}{l:St} (h:q (a0::a1::a2::a3::a4::a5::a6::a7::some v::l) H):bX 8 v (a0::a1::a2::a3::a4::a5::a6::a7::a::l) H q:=h
theorem aBe {a0 a1 a2 a3 a4 a5 a6 a7 a8 a}{l:St} (h:q (a0::a1::a2::a3::a4::a5::a6::a7::a8::some v::l) H):bX 9 v (a0::a1::a2::a3::a4::a5::a6::a7::a8::a::l) H q:=h
theorem aBZ (h:Q v H):tC v σ H Q:=h
theorem aBE {r:R2}(h:ta σ H fun x H1=>tb σ H1 fun y H2=>r x y H2 Q):tOp r ta tb σ H Q:=h
theorem aBB {f:Int->Int->V}{i j:Int} (h:Q (f i j) H):rI0 f (.int i) (.int j) H Q:=⟨i,j,rfl,rfl,h⟩
theorem YQ {f:Int->Int->V}{i j:Int} (h0:0<j) (h1:j<1073741824) (h:Q (f i j) H):rI Y7 f (.int i) (.int j) H Q:=⟨i,j,rfl,rfl,⟨h0,h1⟩,h⟩
theorem aAG {f:Int->Int->V}{i j:Int} (h0:0<j) (h:Q (f i j) H):rI (fun _ j=>0<j) f (.int i) (.int j) H Q:=⟨i,j,rfl,rfl,h0,h⟩
theorem VC {f:Int->Int->V}{i j:Int} (h0: -18446744073709551616<i) (h1:i<18446744073709551616) (h:Q (f i j) H):rI CMul f (.int i) (.int j) H Q:=⟨i,j,rfl,rfl,.inl ⟨by lia,by lia⟩,h⟩
theorem X1 {f:Int->Int->V}{i j:Int} (h0: -18446744073709551616<j) (h1:j<18446744073709551616) (h:Q (f i j) H):rI CMul f (.int i) (.int j) H Q:=⟨i,j,rfl,rfl,.inr ⟨by lia,by lia⟩,h⟩
theorem aBH {i j:Int}:decide (V.int i=V.int j)=decide (i=j):=by simp
theorem aBo {i j:Str}:decide (V.str i=V.str j)=decide (i=j):=by simp
theorem Z2 {i j:Int}(h:Q (.bl (decide (i=j))) H):rEq (.int i) (.int j) H Q:=⟨rfl,by rw[aBH];exact h⟩
theorem ZE {i j:Str}(h:Q (.bl (decide (i=j))) H):rEq (.str i) (.str j) H Q:=⟨rfl,by rw[aBo];exact h⟩
theorem VL (h:Q (.bl (decide (v= .non))) H):YR v .non H Q:=⟨rfl,h⟩
theorem WS (h:Q (.bl false) H):KP .non .non H Q:=⟨rfl,h⟩
theorem V2 {i:Str}(h:Q (.bl true) H):KP (.str i) .non H Q:=⟨rfl,by rw[decide_eq_false (fun z=>by cases z)];exact h⟩
theorem U2 {i j:Str}(hl:i.length+j.length<=sizeLine)(h:Q (.str (i++j)) H):US (.str i) (.str j) H Q:=⟨i,j,rfl,rfl,hl,h⟩
theorem XI (h:ta σ H (xR fun c H1=>if c=true then tb σ H1 Q else Q (.bl false) H1)):TN ta tb σ H Q:=h
theorem RQ {r r':R2}(h:ta σ H fun x H1=>tb σ H1 fun y H2=>r x y H2 (xR fun k H3=>if k=true then tc σ H3 fun w' H4=>r' y w' H4 Q else Q (.bl false) H3)):GA r r' ta tb tc σ H Q:=h
theorem XG {sp:Sp}{t:TA} (h:t σ H fun vs H1=>sp vs H1 Q E):u0 sp [] E t σ H Q:=by
 unfold u0;simp only[List.append_nil];exact h
theorem aBh {r:List V->Hp->VK->Prop}{t:TA} (h:t σ H fun vs H1=>r vs H1 Q):tCB r t σ H Q:=h
theorem aAg {t:TA}(h:t σ H (Y2 Q)):ZL t σ H Q:=h
theorem Y6 {t:TA}(h:t σ H (ZZ Q)):YV t σ H Q:=h
theorem gU {o:HO}{R:V->Hp->Prop} (h:∀p H',H p=none->Same H H'->H' p=some o->R (.ref p) H'):∀p,H p=none->R (.ref p) (upd H p o) :=
 fun p hp=>h p _ hp (fun b u e=>by rw[aP (bF e hp)];exact e) bC
theorem VG {xs:List V}(hn:xs.length<=sizeLine)(h:∀p H',H p=none->Same H H'->H' p=some (.lst xs)->Q (.ref p) H'):Y2 Q xs H:=⟨hn,gU h⟩
theorem VR {xs:List V}(hn:xs.length<=sizeLine)(h:∀p H',H p=none->Same H H'->H' p=some (.tup xs)->Q (.ref p) H'):ZZ Q xs H:=⟨hn,gU h⟩
theorem XB {xs:List V}(h:∀p H',H p=none->Same H H'->H' p=some (.lst xs)->Q (.ref p) H'):aAi Q xs H:=gU h
theorem Y1 {f:Str}(h:ta σ H (aAA K f Q)):QC K ta f σ H Q:=h
theorem W0 {a C dx:Addr}{fs:List (Str×V)}{f:Str} (e:H a=some (.ins C dx fs)) (cl:Cls K C) (na:NoAttr K C f) (l:fs.lookup f=some v) (h:Q v H):aAA K f Q (.ref a) H:=⟨a,C,dx,fs,v,rfl,e,cl,na,l,h⟩
theorem XL {f:Str}(h:ta σ H fun y H1=>tb σ H1 (UU K f y (nx σ))):Y0 K tb ta f ⟨nx,rt,bk,ct⟩ σ H:=h
theorem SK {a C dx:Addr}{fs:List (Str×V)}{f:Str}{y:V}{w:Hp->Prop} (e:H a=some (.ins C dx fs)) (cl:Cls K C) (na:NoAttr K C f) (l:decide (fs.length<1000)=true)
  (h:∀H',(∀b o,H b=some o->b≠a->H' b=some o)->H' a=some (.ins C dx (c8 f y fs))->w H'):UU K f y w (.ref a) H :=
 ⟨a,C,dx,fs,rfl,e,cl,na,of_decide_eq_true l,h _ (fun b o q hb=>by rw[aP hb];exact q) bC⟩
theorem aA3 {M:Addr->Sp->Prop}{m:Str}{t:TA} (h:ta σ H (MdP M m t σ Q)):tMD M m ta t σ H Q:=h
theorem Y3 {M:Addr->Sp->Prop}{m:Str}{t:TA}{a C dx:Addr}{fs:List (Str×V)}{sp:Sp} (e:H a=some (.ins C dx fs)) (l:fs.lookup m=none) (F:M C sp) (h:t σ H fun vs H2=>sp (.ref a::vs) H2 Q E0):MdP M m t σ Q (.ref a) H :=
 ⟨a,C,dx,fs,sp,rfl,e,l,F,h⟩
theorem WQ {C:Addr}{sp:Sp}{dvs:List V}{t:TA} (h:t σ H (DU C sp dvs E Q)):KZ C sp dvs E t σ H Q:=h
theorem RG {C:Addr}{sp:Sp}{dvs vs:List V}{fs:List (Str×V)}
  (hsp:∀p dx H0 (Q':VK),H0 p=some (.ins C dx [])->(∀H',(∀b o,H0 b=some o->b≠p->H' b=some o)->H' p=some (.ins C dx fs)->Q' .non H')->Same H H0->sp (.ref p::(vs++dvs)) H0 Q' E)
  (k:∀p dx H',H p=none->Same H H'->H' p=some (.ins C dx fs)->Q (.ref p) H'):DU C sp dvs E Q vs H:=by
 intro x dx nx nd ne;have s0:Same H (upd (upd H dx (.own x)) x (.ins C dx [])):=fun b o e=>by
  rw[aP (bF e nx),aP (bF e nd)];exact e
 exact hsp x dx _ _ bC (fun H' sb e=>⟨rfl,k x dx H' nx (fun b o q=>sb b o (s0 b o q) (bF q nx)) e⟩) s0
theorem WI {wi:TI}{nl:Nat}{ci:List Nat}{ti:TT} (h:wi σ H fun J H1=>dW J g ti te (bS nl ci σ) (aAi Q) H1):LU wi nl ci g ti te σ H Q:=h
theorem aA8 {r:V->Option Int->Option Int->Hp->VK->Prop}{tl th:TO} (h:te σ H fun x H1=>tl σ H1 fun l H2=>th σ H2 fun u H3=>r x l u H3 Q):tSl r te tl th σ H Q:=h
theorem ZF {z:Str}{lo hi:Option Int} (hz:z.length<=sizeLine) (h:(Txt.slice z lo hi).length<=z.length->Q (.str (Txt.slice z lo hi)) H):aAM (.str z) lo hi H Q:=⟨z,rfl,hz,h (Txt.slice_le _ _ _)⟩
theorem OB {a:Addr}{xs:List V}{lo hi:Option Int} (e:SqL K H a xs) (h:∀p H',H p=none->Same H H'->H' p=some (.lst (w4 xs lo hi))->Q (.ref p) H'):QG K (.ref a) lo hi H Q:=⟨a,xs,rfl,e,gU h⟩
theorem VS {p:Addr}{a b i:Int} (e:SqL K H p [.int a,.int b]) (h0:0<=i) (h1:i<2) (h:∀v,(i=0/\v=a)∨(i=1/\v=b)->Q (.int v) H):EK K (.ref p) (.int i) H Q:=by
 have:i=0∨i=1:=by lia
 rcases this with rfl|rfl
 ·exact⟨p,_,0,_,rfl,rfl,e,rfl,h a (.inl ⟨rfl,rfl⟩)⟩
 ·exact⟨p,_,1,_,rfl,rfl,e,rfl,h b (.inr ⟨rfl,rfl⟩)⟩
def zT (ns:List Int)(lo hi:Option Int):List Int:=(ns.drop (HT.sIx ns.length 0 lo)).take (HT.sIx ns.length ns.length hi - HT.sIx ns.length 0 lo)
theorem N2 (ns:List Int)(lo hi:Option Int):w4 (ns.map V.int) lo hi=(zT ns lo hi).map V.int:=by
 unfold w4 zT;rw[List.length_map,List.map_take,List.map_drop]
theorem Z8 {a:Addr}{ns:List Int}{lo hi:Option Int} (e:SqL K H a (ns.map V.int)) (h:∀p H',H p=none->Same H H'->H' p=some (.lst ((zT ns lo hi).map V.int))->Q (.ref p) H'):QG K (.ref a) lo hi H Q :=
 OB e (by rw[N2];exact h)
theorem IN {l b:Addr}{xs zs:List V} (e:H l=some (.lst xs)) (e2:H b=some (.lst zs)) (hn:xs.length+zs.length<=sizeLine) (h:∀p H',H p=none->Same H H'->H' p=some (.lst (xs++zs))->Q (.ref p) H'):ZV (.ref l) (.ref b) H Q :=
 ⟨l,b,xs,zs,rfl,rfl,e,e2,hn,gU h⟩
theorem aBD {T:String}{r:V->List V->Hp->VK->Prop}{to:TE}{t:TA} (h:to σ H (BmP K T r t σ Q)):tBM K T r to t σ H Q:=h
theorem aAv {r:V->List V->Hp->VK->Prop}{t:TA}{p:Addr}{xs:List V} (e:SqL K H p xs) (h:t σ H fun xs H2=>r (.ref p) xs H2 Q):BmP K "list" r t σ Q (.ref p) H:=⟨.inl ⟨rfl,xs,e⟩,h⟩
structure ICls (K:PySem.W.Frag)(C:Addr):Prop where
 cl:Cls K C
 ha:PySem.W.findIn K (.ref C) "__class__" =some (some (.builtin "object.__class__"))
 hn:PySem.W.specialIn K (.builtin "object.__class__") "__get__" =some (some (.builtin "getset_descriptor.__get__"))
 tk:PySem.W.takesIn K (.builtin "object.__class__")=some true
 hm:PySem.W.mroIn K C (.type "object")=some true
theorem V1 {z:Str}(hz:z.length<=sizeLine)(h:Q (.int z.length) H):UN [.str z] H Q:=⟨z,rfl,hz,h⟩
theorem XE {p:Addr}{ys:List V} (e:SqL K H p ys) (h:Q (.int ys.length) H):TV K [.ref p] H Q:=⟨p,ys,rfl,.inl e,h⟩
theorem XO {i j:Int}(h:Q (.int (max i j)) H):UQ [.int i,.int j] H Q:=⟨i,j,rfl,by
 have e:(if j>i then j else i)=max i j:=by lia
 rw[e];exact h⟩
theorem XT {i j:Int}(h:Q (.int (min i j)) H):UZ [.int i,.int j] H Q:=⟨i,j,rfl,by
 have e:(if j<i then j else i)=min i j:=by lia
 rw[e];exact h⟩
variable {B:Bool->Hp->Prop}
theorem VP (h:te σ H (xR B)):LQ te σ H B:=h
theorem aAZ (h:te σ H (xR B)):tB te σ H B:=h
theorem aAm (h:c σ H fun k H1=>if k=true then d σ H1 B else B false H1):aAk c d σ H B:=h
theorem aBx (h:c σ H fun k H1=>if k=true then B true H1 else d σ H1 B):tOr c d σ H B:=h
theorem aAs (h:c σ H fun k H1=>B (!k) H1):YJ c σ H B:=h
theorem aAu {b:Bool}{P:Bool->Hp->Prop} (h:P b H):xR P (.bl b) H:=⟨b,rfl,h⟩
theorem N8 {A B:Prop}(h:A):if true=true then A else B:=by rw[if_pos rfl];exact h
theorem M0 {A B:Prop}(h:B):if false=true then A else B:=by rw[if_neg Bool.false_ne_true];exact h
theorem X0 {A B:Prop}(h:B):if (!true)=true then A else B:=M0 h
theorem WF {A B:Prop}(h:A):if (!false)=true then A else B:=N8 h
theorem YG {p A B:Prop}[Decidable p](hp:¬p)(h:B):if decide p=true then A else B:=by rw[if_neg (by rw[decide_eq_false hp];exact Bool.false_ne_true)];exact h
theorem i7 {p A B:Prop}[Decidable p](h1:p->A)(h2:¬p->B):if decide p=true then A else B:=zK (fun h=>h1 (of_decide_eq_true h)) fun h=>h2 fun z=>h (decide_eq_true z)
variable {L:List V->Hp->Prop}{O:Option Int->Hp->Prop}{tr:TA}
theorem Z3 (h:L [] H):QU σ H L:=h
theorem XV (h:te σ H fun x H1=>tr σ H1 fun xs H2=>L (x::xs) H2):TQ te tr σ H L:=h
theorem OU (h:O none H):IG σ H O:=h
theorem W6 (h:te σ H (Y8 O)):TY te σ H O:=h
theorem YU {i:Int}(h:O (some i) H):Y8 O (.int i) H:=⟨i,rfl,h⟩
variable {vs:List V}{gs:TGs}
theorem VU (h:q σ H):wJ [] σ H q:=⟨rfl,h⟩
theorem P9 (h:g v σ H fun σ' H'=>gs vs σ' H' q):iH g gs (v::vs) σ H q:=⟨v,vs,rfl,h⟩
theorem WC {a:Addr}{n:Nat} (e:SqT K H a vs) (hl:vs.length=n) (h:gs vs σ H q):tL K n gs (.ref a) σ H q:=⟨a,vs,rfl,e,hl,h⟩
variable {R:It->Hp->Prop}
theorem Q9 (h:te σ H (YN K R)):UC K te σ H R:=h
theorem BT {a:Addr}{xs:List V} (e:SqL K H a xs) (h:R (Itl K a) H):YN K R (.ref a) H:=⟨a,rfl,⟨xs,e⟩,h⟩
theorem QT (h:tr σ H (aAx R)):TX tr σ H R:=h
theorem OH {j:Int}(h0: -4611686018427387904<=j)(h1:j<4611686018427387904)(h:R (Itr 0 j.toNat) H):aAx R [.int j] H:=⟨j,rfl,by lia,by lia,h⟩
theorem R0 (h:tr σ H (aAf R)):UB tr σ H R:=h
theorem OF {i j:Int}(h0: -4611686018427387904<=i)(h1:i<4611686018427387904)(h2: -4611686018427387904<=j)(h3:j<4611686018427387904)(h:R (Itr i (j - i).toNat) H):aAf R [.int i,.int j] H:=⟨i,j,rfl,⟨by lia,by lia,by lia,by lia⟩,h⟩
theorem dI {a:Addr}{tb:TS} (xs:List V) (Pv:Nat->St->Hp->Prop) (h0:Pv 0 σ H) (hl:∀i σ H,i<=xs.length->Pv i σ H->SqL K H a xs)
  (hs:∀i x σ H,xs[i]? =some x->Pv i σ H->g x σ H fun σ2 H2=>tb ⟨Pv (i+1),rt,nx,Pv (i+1)⟩ σ2 H2)(hd:∀σ H,Pv xs.length σ H->nx σ H):ET (Itl K a) g tb ⟨nx,rt,bk,ct⟩ σ H :=
 Q6 (D:=⟨nx,rt,bk,ct⟩) Pv h0 hl hs hd
theorem z4 {lo:Int}{n:Nat}{tb:TS} (Pv:Nat->St->Hp->Prop) (h0:Pv 0 σ H)
  (hs:∀i σ H,i<n->Pv i σ H->g (.int (lo+i)) σ H fun σ2 H2=>tb ⟨Pv (i+1),rt,nx,Pv (i+1)⟩ σ2 H2)(hd:∀σ H,Pv n σ H->nx σ H):ET (Itr lo n) g tb ⟨nx,rt,bk,ct⟩ σ H :=
 M7 (D:=⟨nx,rt,bk,ct⟩) Pv h0 hs hd
end
section
variable {K:PySem.W.Frag}{te:TE}{σ:St}{ci:List Nat}{rest:St}{fin:List V->Hp->Prop}{H:Hp}{a:Addr}
theorem yX (hr:ci.map (fun i=>(σ[i]?).join)=rest):bS 1 ci σ=none::rest:=by
 unfold bS;rw[hr];rfl
theorem HI {lo:Int}{n:Nat} (P:Nat->V->Prop) (hn:n<=sizeLine) (hr:ci.map (fun i=>(σ[i]?).join)=rest)
  (hs:∀i H1,i<n->Same H H1->∀R:VK,(∀y H2,P i y->Same H1 H2->R y H2)->te (some (.int (lo+i))::rest) H1 R)
  (hf:∀ys H1,Same H H1->ys.length=n->(∀i y,ys[i]? =some y->P i y)->fin ys H1):dW (Itr lo n) (bX 0) wF te (bS 1 ci σ) fin H:=by
 rw[yX hr];refine LK (fun i ys H1=>Same H H1/\ys.length=i/\∀j y,ys[j]? =some y->P j y) hn rfl ⟨Same.refl _,rfl,fun j y h=>by simp at h⟩ (fun i ys H1 ok=>Nat.le_of_eq ok.2.1) (fun ys H1 ok=>hf ys H1 ok.1 ok.2.1 ok.2.2) ?_;intro i ys H1 hi ⟨s1,hl,hp⟩ R hR;refine hs i H1 hi s1 R fun y H2 hy s2=>hR y H2 ⟨s1.trans s2,by simp[hl],fun j z hz=> ?_⟩
 by_cases hj:j<ys.length
 ·rw[List.getElem?_append_left hj]at hz;exact hp j z hz
 ·rw[List.getElem?_append_right (by lia)]at hz;have hj0:j - ys.length=0:=by
   cases e:j - ys.length with
   | zero=>rfl
   | succ k=>rw[e]at hz;simp at hz
  rw[hj0]at hz;have:z=y:=by simpa using hz.symm
  subst this;have:j=i:=by lia
  subst this;exact hy
end
section
variable {K:PySem.W.Frag}{te:TE}{σ:St}{ci:List Nat}{rest:St}{fin:List V->Hp->Prop}{H:Hp}{a:Addr}
theorem K9 {α β:Type}{xs:List α}{ys:List β}{f:α->β} (hl:ys.length=xs.length) (h:∀(i:Nat) y,ys[i]? =some y->∃x,xs[i]? =some x/\y=f x):ys=xs.map f:=by
 apply List.ext_getElem?
 intro i;rw[List.getElem?_map];cases e:ys[i]? with
 | none =>
  have:xs[i]? =none:=by
   rw[List.getElem?_eq_none_iff]at e ⊢
   lia
  rw[this];rfl
 | some y =>
  obtain⟨x,hx,rfl⟩:=h i y e;rw[hx];rfl
theorem RE {lo:Int}{n:Nat} (f:Nat->V) (hn:n<=sizeLine) (hr:ci.map (fun i=>(σ[i]?).join)=rest)
  (hs:∀i H1,i<n->Same H H1->∀R:VK,(∀H2,Same H1 H2->R (f i) H2)->te (some (.int (lo+i))::rest) H1 R)
  (hf:∀H1,Same H H1->fin ((List.range n).map f) H1):dW (Itr lo n) (bX 0) wF te (bS 1 ci σ) fin H:=by
 refine HI (fun i y=>y=f i) hn hr (fun i H1 hi s1 R hR=>hs i H1 hi s1 R fun H2 s2=>hR _ H2 rfl s2) ?_;intro ys H1 s1 hl hp;have e:ys=(List.range n).map f:=by
  refine K9 (by rw[hl,List.length_range]) fun i y hy=> ?_;have hi:i<n:=by
   rw[←hl];exact(List.getElem?_eq_some_iff.mp hy).1
  exact⟨i,by simp[hi],hp i y hy⟩
 rw[e];exact hf H1 s1
end
theorem Same.at {H H':Hp}{b:Addr}{o:HO} (s:Same H H') (h:H b=some o):H' b=some o:=s b o h
def SameBut (p:Addr)(H H':Hp):Prop:=∀b o,H b=some o->b≠p->H' b=some o
theorem SameBut.upd {p:Addr}{H:Hp}{o:HO}:SameBut p H (upd H p o):=fun b u e hb=>by rw[aP hb];exact e
theorem SameBut.trans {p:Addr}{H H1 H2:Hp} (a:SameBut p H H1) (b:SameBut p H1 H2):SameBut p H H2:=fun c o h hc=>b c o (a c o h hc) hc
theorem Same.but {p:Addr}{H H':Hp} (s:Same H H'):SameBut p H H':=fun b o e _=>s b o e
theorem SameBut.same {p:Addr}{H H0 H':Hp} (n:H0 p=none) (s:Same H0 H) (b:SameBut p H H'):Same H0 H':=fun c o e=>b c o (s c o e) (bF e n)
theorem aN {t:TS}{D:kJ}{N:List Str}{vs:List V}{σ:St}{H:Hp} (e:j5 N vs=σ) (h:t D σ H):t D (j5 N vs) H:=e▸h
theorem SameBut.refl {p:Addr}{H:Hp}:SameBut p H H:=fun _ _ e _=>e
theorem SameBut.snoc {p:Addr}{H H1 H2:Hp} (b:∀c o,H1 c=some o->c≠p->H2 c=some o) (a:SameBut p H H1):SameBut p H H2:=fun c o h hc=>b c o (a c o h hc) hc
theorem SameBut.snocS {p:Addr}{H H1 H2:Hp} (b:Same H1 H2) (a:SameBut p H H1):SameBut p H H2:=fun c o h hc=>b c o (a c o h hc)
theorem Same.snoc {H H1 H2:Hp}(b:Same H1 H2)(a:Same H H1):Same H H2:=a.trans b
theorem XR {f:Str}{v:V}{fs:List (Str×V)}:(c8 f v fs).lookup f=some v:=by rw[mB,if_pos rfl]
theorem aBj {f g:Str}{v:V}{o:Option V}{fs:List (Str×V)} (h:decide (g=f)=false) (l:fs.lookup g=o):(c8 f v fs).lookup g=o:=by rw[mB,if_neg (of_decide_eq_false h)];exact l
theorem YK {f:Str}:([]:List (Str×V)).lookup f=none:=rfl
section
variable {K:PySem.W.Frag}{x qual:Str}{st:Stmt}{kV doc pm cdv ct:Value}{an:Option Addr}{ps:List Str}
theorem aT (h:∀us:List Value,us.length=ps.length->bindArgs (PySem.W.fnOf x qual (aK st) (aJ st) (aC st) .none kV doc pm an cdv ct) ⟨us,[]⟩=pure (ps.zip us)) :
  Binds K (PySem.W.fnOf x qual (aK st) (aJ st) (aC st) .none kV doc pm an cdv ct) ps []:= .all h
theorem rB (k:Nat){T:Addr}{ds:List Value}{oc:Value}{od:Option Addr}{sl:Array (Option Value)}{items:Array Value}{n:Nat} (lt:K.lookup T=some ⟨oc,od,.seq items n,sl⟩)
  (h:∀us:List Value,us.length=k->∃k,bindArgs (PySem.W.fnOf x qual (aK st) (aJ st) (aC st) (.ref T) kV doc pm an cdv ct) ⟨us,[]⟩=seqItems? (.ref T) >>= k/\k (some items)=pure (ps.zip (us++ds)))(hk:k+ds.length=ps.length:=by rfl) :
  Binds K (PySem.W.fnOf x qual (aK st) (aJ st) (aC st) (.ref T) kV doc pm an cdv ct) ps ds:=fun s us hK hl=>by
 obtain⟨k,h1,h2⟩:=h us (by rw[List.length_append]at hl;lia);exact .of_defaults (T:=T) (items:=items) (n:=n) rfl (hK T _ lt) rfl h1 h2
theorem RI {C:Addr}:PySem.W.kitOne K (.ref C) (.ref C)=some true:=by
 unfold PySem.W.kitOne;rw[if_pos (beq_self_eq_true _)]
theorem FH {C D:Addr}{cd:ClassData}{b:Bool} (ne:(Value.ref C==Value.ref D)=false) (c:PySem.W.clsIn K D=some cd) (t:PySem.W.typeIn K (.ref D)=some (.type "type")) (s:PySem.W.subIn K (.ref C) (.ref D)=some b) :
  PySem.W.kitOne K (.ref C) (.ref D)=some b:=by
 unfold PySem.W.kitOne;rw[ne,if_neg Bool.false_ne_true];show (if ((PySem.W.clsIn K D).isSome&&PySem.W.typeIn K (.ref D)==some (.type "type"))=true then PySem.W.subIn K (.ref C) (.ref D) else none)=_;rw[c,t,if_pos (by rfl)];exact s
end
theorem cE (s:String):(Str.ofString s).length=s.length:=by
 rw[Str.ofString_eq_toList];show (s.toList.map Char.toNat).toArray.size=_;rw[List.size_toArray,List.length_map,String.length_toList]
def sgB (c:Nat):Bool:=decide (97<=c)&&decide (c<=122)
def iO (z:Str):Bool:=z.cps.toList.all sgB
def cS (z:Str):Bool:=decide (1<=(z.length:Int))&&decide ((z.length:Int)<=8)&&iO z
theorem M3 {z:Str}(h:cS z=true):z.length<=8:=by
 unfold cS at h;simp only[Bool.and_eq_true,decide_eq_true_eq]at h
 lia
theorem QR {z:Str}(h0:1<=z.length)(h1:z.length<=8)(h2:iO z=true):cS z=true:=by
 unfold cS;simp only[Bool.and_eq_true,decide_eq_true_eq];exact⟨⟨by lia,by lia⟩,h2⟩
theorem ES {c:Nat}{z:Str} (h:iO z=true) (hc:c∈z.cps.toList):iO ⟨#[c]⟩=true:=by
 unfold iO at h ⊢;rw[List.all_eq_true]at h;show [c].all sgB=true;rw[List.all_cons,h c hc];rfl
theorem MF {z:Str}{l u:Option Int}{c:Nat} (h:c∈(Txt.slice z l u).cps.toList):c∈z.cps.toList:=by
 unfold Txt.slice at h
 split at h
 ·exact h
 ·rw[List.toList_toArray]at h;obtain⟨i,_,hi⟩:=List.mem_filterMap.mp h;rw[←Array.getElem?_toList]at hi;exact List.mem_of_getElem? hi
theorem j9 {z:Str}{l u:Option Int} (h:iO z=true):iO (Txt.slice z l u)=true:=by
 unfold iO at h ⊢;rw[List.all_eq_true]at h ⊢;exact fun c hc=>h c (MF hc)
theorem wB (x y:Str):(x++y).cps.toList=x.cps.toList++y.cps.toList:=by
 show (x.cps++y.cps).toList=_;simp
theorem fN (x y:Str):(x++y).length=x.length+y.length:=by
 show (x.cps++y.cps).size=_;rw[Array.size_append];rfl
theorem zY (c:Nat):(⟨#[c]⟩:Str).length=1:=rfl
theorem D4 {x y:Str}(h:iO x=true)(h':iO y=true):iO (x++y)=true:=by
 unfold iO at h h' ⊢;rw[wB,List.all_append,h,h'];rfl
end L2
namespace L2
open PySem PySem.Spec PyProof.Rows
section
variable {prog:Program}{w:World}{A:Around}{E:Value->Shared->Prop}{s:Shared}
end
section
variable {X:Cx}{pos:Pos}
end
section
variable {nx bk ct:St->Hp->Prop}{rt:VK}{σ:St}{H:Hp}{g:TG}{K:PySem.W.Frag}{a:Addr}{tb:TS}{xs:List V}
end
theorem WR {H:Hp}{Q:VK}{i j:Int} (h0:0<j) (h:0<=i%j->i%j<j->Q (.int (i%j)) H):rI (fun _ j=>0<j) (fun i j=> .int (i%j)) (.int i) (.int j) H Q:=⟨i,j,rfl,rfl,h0,h (Int.emod_nonneg _ (by lia)) (Int.emod_lt_of_pos _ h0)⟩
end L2
namespace L2
open PySem PySem.Spec PyProof.Rows PySem.W
structure mU (K:Frag)(C:Addr):Prop where
 ga:findIn K (.ref C) "__getattribute__" =some (some (.builtin "BaseException.__getattribute__"))
 gg:findIn K (.ref C) "__getattr__" =some none
 cl:findIn K (.ref C) "__class__" =some (some (.builtin "object.__class__"))
 so:subIn K (.ref C) (.type "object")=some true
 sb:subIn K (.ref C) (.type "BaseException")=some true
 cd:∃cd,clsIn K C=some cd
section
variable {prog:Program}{w:World}{A:Around}{E:Value->Shared->Prop}{h:Heap}{g:Array GenState}{d:Drawn}{t:Nat}{os:OsState}{a C:Addr}{o:Obj}{vs:Array Value}{K:Frag}
theorem oF {M:Model}(hx:h.get? a=some o)(hc:o.cls= .ref C)(hd:o.data= .fields vs):Looks M h (typeOf (.ref a)) (.ref C):=by
 have L:Looks M h (typeOf (.ref a)) o.cls:=by
  refine(Looks.ld hx).andThen ?_;exact .now
 rw[hc]at L;exact L
theorem C0 {R:Result->Shared->Prop}(X:K.In h)(k:mU K C)(hx:h.get? a=some o)(hc:o.cls= .ref C)(hd:o.data= .fields vs)(hq:R (.ok (.ret (.ref C))) ⟨h,g,d,t,os⟩) :
  codeAny (model prog w) A (.call (.builtin "getset_descriptor.__get__") ⟨[.builtin "object.__class__",.ref a,.ref C],[]⟩) R ⟨h,g,d,t,os⟩:=by
 have hT5:(⟨h,g,d,t,os⟩:Shared).TypeIs (.builtin "object.__class__") "getset_descriptor" :=F.typeOf_object_class;have L0:=oF (M:=model prog w) hx hc hd;have L1:Looks (model prog w) h (isSubtype (.ref C) (.type (".".intercalate ("object.__class__".cutAt '.').dropLast))) true:=by rw[F.owner_object_class];exact looks_subIn X k.so
 refine codeAny_call_builtin F.slot_gs_get.plain F.entry_gs_get (F.slot_gs_get.check _ _ _ _ _ _ _ _ hT5 (F.args_gs_get _ _ _) ?_)
 repeat (any_goals (first|assumption|(with_reducible refine L0.at ?_)|(with_reducible refine L1.at ?_)|wp_step))
 refine⟨Code.quiet_builtin _ (by decide +kernel),codeAny_builtin F.entry_object_class ?_⟩
 repeat (any_goals (first|assumption|(with_reducible refine L0.at ?_)|wp_step))
theorem yM {tk:Tok}{Q:Fin->Shared->Prop} (X:K.In h) (k:mU K C) (hx:h.get? a=some o) (hc:o.cls= .ref C) (hd:o.data= .fields vs) (hq:Q (.done (.ret (.ref C))) ⟨h,g,d,t,os⟩) :
  wpAny (model prog w) A (Builtin.«object.__getattribute__» ⟨[.ref a,.str "__class__" tk],[]⟩) Q E ⟨h,g,d,t,os⟩:=by
 have hT5:(⟨h,g,d,t,os⟩:Shared).TypeIs (.builtin "object.__class__") "getset_descriptor" :=F.typeOf_object_class;have L0:=oF (M:=model prog w) hx hc hd;have L1:=looks_findIn (M:=model prog w) X k.cl;have f5:=F.typeOf_object_class;have f6:=F.slot_gs_get.lookup;have f7:=F.slot_gs_set.lookup
 repeat (any_goals (first|assumption|(with_reducible refine L0.at ?_)|(with_reducible refine L1.at ?_)|wp_step))
 refine C0 X k hx hc hd ?_
 repeat (any_goals (first|assumption|wp_step))
theorem EC {M:Model}{nameV:Value}{Q:Unit->Shared->Prop} (X:K.In h) (k:mU K C) (hx:h.get? a=some o) (hc:o.cls= .ref C) (hd:o.data= .fields vs) (hq:Q () ⟨h,g,d,t,os⟩) :
  wpAny M A (checkBuiltinCall "BaseException.__getattribute__" ⟨[.ref a,nameV],[]⟩) Q E ⟨h,g,d,t,os⟩:=by
 have hk:builtinKind "BaseException.__getattribute__" =some .slot:=by decide +kernel
 have hsplit:splitId "BaseException.__getattribute__" =some ("BaseException","__getattribute__"):=by decide +kernel
 have ha:=F.args_bexc_ga (.ref a) nameV;have L0:=oF (M:=M) hx hc hd;have L1:=looks_subIn (M:=M) X k.sb;simp only[checkBuiltinCall,hk,hsplit];refine wpAny_bind ?_
 ·unfold isInstance
  repeat (first|(with_reducible refine L0.at ?_)|(with_reducible refine L1.at ?_)|wp_step)
  exact hq
theorem AL {tk:Tok}{R:Result->Shared->Prop} (X:K.In h) (k:mU K C) (hx:h.get? a=some o) (hc:o.cls= .ref C) (hd:o.data= .fields vs) (hq:R (.ok (.ret (.ref C))) ⟨h,g,d,t,os⟩) :
  codeAny (model prog w) A (.call (.builtin "BaseException.__getattribute__") ⟨[.ref a,.str "__class__" tk],[]⟩) R ⟨h,g,d,t,os⟩ :=
 codeAny_call_builtin F.excAttr_ValueError.ga.plain F.entry_bexc_ga (EC X k hx hc hd (yM X k hx hc hd hq))
theorem EA {tk:Tok}{fill expr:Bool}{Q:Value->Shared->Prop} (X:K.In h) (k:mU K C) (hx:h.get? a=some o) (hc:o.cls= .ref C) (hd:o.data= .fields vs) (hq:Q (.ref C) ⟨h,g,d,t,os⟩) :
  wpAny (model prog w) A (getAttrBy (.ref a) (.str "__class__" tk) fill expr) Q E ⟨h,g,d,t,os⟩:=by
 have L0:=oF (M:=model prog w) hx hc hd;have L1:=looks_findIn (M:=model prog w) X k.ga;have L2:=looks_findIn (M:=model prog w) X k.gg;have f3:=F.excAttr_ValueError.ga.bind (.ref a);have hx0:(expr&&onTheHeap (Value.builtin "BaseException.__getattribute__"))=false:=by cases expr<;>rfl
 have hx2:(Value.builtin "BaseException.__getattribute__" ==Value.builtin "object.__getattribute__")=false:=by decide +kernel
 have hx1:(onTheHeap (Value.ref C)&&Value.builtin "BaseException.__getattribute__" ==Value.builtin "object.__getattribute__")=false:=by rw[hx2];rfl
 repeat (any_goals (first|assumption|(with_reducible refine L0.at ?_)|(with_reducible refine L1.at ?_)|(with_reducible refine L2.at ?_)|wp_step))
 refine AL X k hx hc hd ?_
 repeat (any_goals (first|assumption|wp_step))
theorem zR {Q:Option Value->Shared->Prop}(X:K.In h)(k:mU K C)(hx:h.get? a=some o)(hc:o.cls= .ref C)(hd:o.data= .fields vs)(hq:Q (some (.ref C)) ⟨h,g,d,t+1,os⟩) :
  wpAny (model prog w) A (getAttr? (.ref a) "__class__") Q E ⟨h,g,d,t,os⟩:=by
 unfold getAttr? getAttrBy?
 repeat (any_goals (first|assumption|with_reducible apply EA X k hx hc hd|wp_step))
end
def rR (a C:Addr)(h:Heap):Prop:=∃o vs,h.get? a=some o/\o.cls= .ref C/\o.data= .fields vs
theorem FK {K:Frag}{a C:Addr} (k:mU K C):KitX K (.ref a) (.ref C) (rR a C) where
 ty:=fun M h X ⟨o,vs,hx,hc,hd⟩=>oF hx hc hd
 it:=fun _ _ X _=>by
  obtain⟨cd,hcD⟩:=k.cd;unfold clsIn at hcD
  split at hcD
  ·rename_i c' d' cd' sl' ho;intro A' Q' E' s' k q;unfold isType loadHead;exact wpAny_bind (wpAny_loadPart (k _ _ (X _ _ ho)) (wpAny_pure q))
  ·cases hcD
 ne:=fun h tp dd its n sl X htp=>by
  obtain⟨cd,hcD⟩:=k.cd;refine Bool.eq_false_iff.mpr fun q=> ?_;have e:C=tp:=Value.ref.inj (beq_iff_eq.mp q);subst e;unfold clsIn at hcD
  split at hcD
  ·rename_i c' d' cd' sl' ho;have z:=(X _ _ ho).symm.trans htp;cases z
  ·cases hcD
 ca:=fun {_ _ _ _ _ s} X ⟨o,vs,hx,hc,hd⟩ q=>by
  obtain⟨h,g,d,t,os⟩:=s;exact zR X k hx hc hd q
end L2
namespace L2
open PySem PySem.Spec PyProof.Rows PySem.W
def LN (h base:Heap)(ea:Addr)(cls:Value)(dd:Option Addr)(a0:Value):Prop :=
 ∃ob fv tb tbo tv,h.get? ea=some ob/\ob.cls=cls/\ob.dict=dd/\fv[0]? =some a0/\ob.data= .fields fv/\fv[1]? =some (.ref tb)/\base.get? tb=none/\tb≠ea/\h.get? tb=some tbo/\tbo.data= .fields tv/\tv[3]? =some .none
def JS (base:Heap)(l:List Env)(ea:Addr)(cls:Value)(dd:Option Addr)(a0:Value)(h h':Heap):Prop :=
 base.StaysIn h'/\h'.FunFrames base l/\LN h' base ea cls dd a0/\h.UpToSlots h'
theorem CH (ob:Obj)(g):(ob.mapFields g).dict=ob.dict:=by
 obtain⟨c,d,dt,sl⟩:=ob;cases dt<;>rfl
section
variable {M:Model}{A:Around}{E:Value->Shared->Prop}{s:Shared}{base:Heap}{env:Env}{outer:List Env}{L ea:Addr}{Q:Unit->Shared->Prop}
theorem xT {ob:Obj}{fv:Array Value}{hd0 a0:Value}{nx:Bool} (hfr:A.frames=some (env::outer)) (ff:s.heap.FunFrames base (env::outer)) (hL:env.frame=some L) (go:s.heap.get? ea=some ob) (st:base.StaysIn s.heap)
  (nb:base.get? ea=none)(hdt:ob.data= .fields fv)(hz:1<fv.size)(h0:fv[0]? =some a0)(k:∀h',JS base (env::outer) ea ob.cls ob.dict a0 s.heap h'->Q () { s with heap:=h' }) :
  wpAny M A (do let a ←frameOf env;let pl ←entryPlaceOf L nx;let b ←EntryCells.newEntry hd0 a .none (rawInt L) .none pl;setField (.ref ea) 1 b) (fun _ s'=>wpAny M A (setFlight (.ref ea) none) Q E s') E s:=by
 have nin:ea∉(env::outer).filterMap (·.frame):=fun hm=>by
  obtain⟨_,o,ho,hnf⟩:=ff.mem hm;rw[go]at ho;cases ho;exact hnf fv hdt
 refine wpAny_bind (wpAny_frameOf_fun hfr ff hL fun hA sA=>wpAny_bind (wpAny_entryPlaceOf fun pl hpl=> ?_));unfold EntryCells.newEntry newFields;refine wpAny_bind (wpAny_newObj_type ?_ (hpl.sizeOk5 _ _ _ _ _));have gA:hA.get? ea=some ob:=(sA.2.1 ea nin).trans go;have stA:base.StaysIn hA:=fun b o q=>(sA.2.1 b fun hm=>by rw[(ff.mem hm).1]at q;cases q).trans (st b o q);generalize hN:({ cls:= .type "traceback",dict:=none,data:= .fields ([hd0,.ref L,.none,rawInt L,.none]++(if pl.isEmpty then List.replicate 6 Value.none else pl)).toArray }:Obj)=nob;have hNd:∃tv,nob.data= .fields tv/\3<tv.size:=by
  rw[←hN];exact⟨_,rfl,by simp only[List.size_toArray,List.length_append,List.length_cons,List.length_nil];lia⟩
 obtain⟨tv,hNd,hNs⟩:=hNd;have gB:(hA.push nob).get? ea=some ob:=Heap.get?_push_of_some nob gA;refine wpAny_setField gB hdt hz ?_;have tne:hA.objs.size≠ea:=Nat.ne_of_gt (Heap.lt_size gA);have dC:=Obj.data_mapFields hdt (·.setIfInBounds 1 (Value.ref hA.objs.size));have gC:=Heap.get?_update_self (Obj.mapFields (·.setIfInBounds 1 (Value.ref hA.objs.size))) gB (Obj.isFreed_of_fields dC);have tC:((hA.push nob).update ea (Obj.mapFields (·.setIfInBounds 1 (Value.ref hA.objs.size)))).get? hA.objs.size=some nob:=(Heap.get?_update_other _ _ (Ne.symm tne)).trans (Heap.get?_push_size hA (Obj.isFreed_of_fields hNd));unfold setFlight;refine wpAny_bind (wpAny_field gC dC (x:= .ref hA.objs.size) (by simp[hz]) ?_);rw[if_pos (show (Value.ref hA.objs.size !=Value.none)=true from by simp)];refine wpAny_setField tC hNd hNs (k _ ?_);generalize hF:((hA.push nob).update ea (Obj.mapFields (·.setIfInBounds 1 (Value.ref hA.objs.size)))).update hA.objs.size _=hX;have keepF:∀b o,b≠ea->hA.get? b=some o->hX.get? b=some o:=fun b o hb q=>by
  rw[←hF,Heap.get?_update_other _ _ (Nat.ne_of_gt (Heap.lt_size q)),Heap.get?_update_other _ _ (Ne.symm hb)];exact Heap.get?_push_of_some _ q
 have norec:∀b o,s.heap.get? b=some o->(∀vs,o.data≠ .fields vs)->b≠ea:=fun b o q hnf z=>by
  rw[z,go]at q;cases q;exact hnf fv hdt
 refine⟨fun b o q=>keepF b o (fun z=>by rw[z,nb]at q;cases q) (stA b o q),ff.of_keeps fun b o q hnf=> ?_,?_,fun b o q hnf=> ?_⟩
 ·obtain⟨sl,hs⟩:=sA.2.2 b o q;exact⟨_,keepF b _ (norec b o q hnf) hs,rfl⟩
 ·refine⟨_,_,hA.objs.size,_,_,by rw[←hF,Heap.get?_update_other _ _ tne];exact gC,Obj.cls_mapFields _ _,CH _ _,by rw[Array.getElem?_setIfInBounds_ne (by decide)];exact h0,dC,by simp[hz],stA.fresh,tne,
   by rw[←hF];exact Heap.get?_update_self _ tC (Obj.isFreed_of_fields (Obj.data_mapFields hNd _)),Obj.data_mapFields hNd _,?_⟩
  simp[hNs]
 ·obtain⟨sl,hs⟩:=sA.2.2 b o q;exact⟨sl,keepF b _ (norec b o q hnf) hs⟩
theorem FW {ob:Obj}{fv:Array Value}{a0:Value} (hfr:A.frames=some (env::outer)) (ff:s.heap.FunFrames base (env::outer)) (hL:env.frame=some L) (go:s.heap.get? ea=some ob) (st:base.StaysIn s.heap) (nb:base.get? ea=none)
  (hdt:ob.data= .fields fv)(h1:fv[1]? =some .none)(h0:fv[0]? =some a0)(k:∀h',JS base (env::outer) ea ob.cls ob.dict a0 s.heap h'->Q () { s with heap:=h' }):wpAny M A (leaving env (.ref ea)) Q E s:=by
 unfold leaving noteFrame;simp only[hL];refine wpAny_bind (wpAny_bind (wpAny_field go hdt h1 ?_));rw[if_neg (by decide)];exact xT hfr ff hL go st nb hdt (Array.getElem?_eq_some_iff.mp h1).1 h0 k
theorem HH {cls a0:Value}{dd:Option Addr} (hfr:A.frames=some (env::outer)) (ff:s.heap.FunFrames base (env::outer)) (hL:env.frame=some L) (tr:LN s.heap base ea cls dd a0) (st:base.StaysIn s.heap) (nb:base.get? ea=none)
  (k:∀h',JS base (env::outer) ea cls dd a0 s.heap h'->Q () { s with heap:=h' }):wpAny M A (leaving env (.ref ea)) Q E s:=by
 obtain⟨ob,fv,tb,tbo,tv,go,ec,ed,h0,hdt,h1,nT,tne,gT,dT,h3⟩:=tr;subst ec ed;unfold leaving noteFrame;simp only[hL];refine wpAny_bind (wpAny_bind (wpAny_field go hdt h1 ?_));rw[if_pos (show (Value.ref tb !=Value.none)=true from by simp)];refine wpAny_bind (wpAny_field gT dT h3 ?_);rw[if_neg (show ¬((Value.none==rawInt L)=true) from by simp[rawInt])];refine wpAny_bind (wpAny_setField gT dT (Array.getElem?_eq_some_iff.mp h3).1 ?_);have oth:∀b,b≠tb->(s.heap.update tb (Obj.mapFields (·.setIfInBounds 3 Value.none))).get? b=s.heap.get? b:=fun b hb=>Heap.get?_update_other _ _ (Ne.symm hb);have norec:∀b o,s.heap.get? b=some o->(∀vs,o.data≠ .fields vs)->b≠tb:=fun b o q hnf z=>by
  rw[z,gT]at q;cases q;exact hnf tv dT
 refine xT hfr (ff.of_keeps fun b o q hnf=>⟨o,(oth b (norec b o q hnf)).trans q,rfl⟩) hL ((oth ea (Ne.symm tne)).trans go) (fun b o q=>(oth b fun z=>by rw[z,nT]at q;cases q).trans (st b o q)) nb hdt (Array.getElem?_eq_some_iff.mp h1).1 h0 fun h' ⟨x1,x2,x3,x4⟩=> ?_;exact k h' ⟨x1,x2,x3,fun b o q hnf=>x4 b o ((oth b (norec b o q hnf)).trans q) hnf⟩
def FlyD (base:Heap)(l:List Env)(ea:Addr)(cls:Value)(dd:Option Addr)(a0:Value)(h:Heap):Prop:=base.StaysIn h/\base.get? ea=none/\h.FunFrames base l/\LN h base ea cls dd a0
theorem FlyD.there {l:List Env}{cls a0:Value}{dd:Option Addr}{h:Heap} (x:FlyD base l ea cls dd a0 h):∃ob fv,h.get? ea=some ob/\ob.cls=cls/\ob.dict=dd/\ob.data= .fields fv:=by
 obtain⟨_,_,_,ob,fv,_,_,_,go,ec,ed,_,hdt,_⟩:=x;exact⟨ob,fv,go,ec,ed,hdt⟩
theorem KA {cls a0:Value}{dd:Option Addr} (hfr:A.frames=some (env::outer)) (hL:env.frame=some L) (fl:FlyD base (env::outer) ea cls dd a0 s.heap) (k:∀h',FlyD base outer ea cls dd a0 h'->s.heap.UpToSlots h'->Q () { s with heap:=h' }) :
  wpAny M A (leaving env (.ref ea)) Q E s:=by
 obtain⟨f1,f2,f3,f4⟩:=fl;refine HH hfr f3 hL f4 f1 f2 fun h' hl=> ?_;obtain⟨k1,⟨_,_,k2⟩,k3,k4⟩:=hl;exact k h' ⟨k1,f2,k2,k3⟩ k4
theorem FV {h:Heap}{cls:Value}{args:List Value} (hfr:A.frames=some (env::outer)) (hL:env.frame=some L) (st:base.StaysIn h) (ff:h.FunFrames base (env::outer)) (m:Heap.MadeExcOf h s.heap ea cls args)
  (k:∀h' t,FlyD base outer ea cls none (.ref t) h'->s.heap.UpToSlots h'->Q () { s with heap:=h' }):wpAny M A (leaving env (.ref ea)) Q E s:=by
 obtain⟨t,go,_,_⟩:=m.there;have nb:base.get? ea=none:=by
  cases q:base.get? ea with
  | none=>rfl
  | some o =>
   have z:=st ea o q;rw[m.new]at z;cases z
 refine FW (a0:= .ref t) hfr (ff.of_keeps fun b o q _=>⟨o,m.keeps b o q,rfl⟩) hL go (fun b o q=>m.keeps b o (st b o q)) nb rfl rfl rfl fun h' hl=> ?_;obtain⟨k1,⟨_,_,k2⟩,k3,k4⟩:=hl;exact k h' t ⟨k1,nb,k2,k3⟩ k4
end
end L2
namespace L2
open PySem PySem.Spec PyProof.Rows PySem.W
section
variable {P:Program}{w:World}{H H':Hp}{h h':Heap}{a:Addr}{o:HO}
theorem ObjOk.there (x:ObjOk P w H h a o):∃ob,h.get? a=some ob:=by
 cases o with
 | lst xs=>obtain⟨_,_,_,_,e⟩:=x;exact⟨_,e⟩
 | tup xs=>obtain⟨_,_,_,ob,e,_⟩:=x;exact⟨_,e⟩
 | dK kvs=>obtain⟨_,_,_,_,o,_,_,e,_⟩:=x;exact⟨_,e⟩
 | dT kvs=>obtain⟨_,_,_,_,o,_,_,e,_⟩:=x;exact⟨_,e⟩
 | set S n=>obtain⟨o,_,_,_,e,_⟩:=x;exact⟨_,e⟩
 | ins C dx fs=>obtain⟨_,_,_,e,_⟩:=x;exact⟨_,e⟩
 | own y=>exact x
 | xd fs=>obtain⟨_,⟨_,_,_,e,_⟩,_⟩:=x;exact⟨_,e⟩
 | rng lo hi=>obtain⟨_,_,_,e⟩:=x;exact⟨_,e⟩
 | frz ob u=>obtain⟨e,_⟩:=x;exact⟨_,e⟩
 | tbl ps=>exact⟨_,(show h.get? a=some _ from x)⟩
 | met f y=>exact⟨_,(show h.get? a=some _ from x)⟩
 | ext φ=>obtain⟨_,e,_⟩:=x;exact e
end
def CXE (P:Program)(w:World):CXT:=fun outer H s E e s' =>
 ∃ea cls dd a0 H' B,e= .ref ea/\s'.os=s.os/\AllBare s'.gens/\Un (frs outer) [] H H' s.heap s'.heap/\HOk P w H' s'.heap/\H' ea=none/\s.heap.get? ea=none ∧
  FlyD B outer ea cls dd a0 s'.heap/\(∀b,(H' b≠none∨∃o,s.heap.get? b=some o)->b∉frs outer->∃o,B.get? b=some o)/\E cls dd H'
section
variable {X:Cx}{pins:List (Addr×Obj)}{σ:St}{H H1:Hp}{s s1:Shared}{h2 B:Heap}
theorem T8 (I:Inv X pins σ H s)(hex:X.ex=[])(st:B.StaysIn h2)(sb:B.StaysIn s.heap)(up:s.heap.UpToSlots h2)(cov:∀b,(H b≠none∨∃o,X.s₀.heap.get? b=some o)->b∉frs X.stack->∃o,B.get? b=some o)(hst:X.stack=X.env::X.outer)(hf:X.env.frame=some X.env.locals) :
  Un X.fs [] X.H₀ H X.s₀.heap h2/\HOk X.prog X.w H h2:=by
 have hfr:∀b,b∈frs X.stack->b=X.env.locals∨b∈X.fs:=fun b hb=>List.mem_cons.mp (I.stkSub b hb);have nloc:∀b o,X.s₀.heap.get? b=some o->b≠X.env.locals:=fun b o q z=>by
  have e1:=Nat.lt_of_lt_of_le (Heap.lt_size q) I.ok.above;rw[z]at e1;exact Nat.lt_irrefl _ e1
 have same:∀b o,(H b≠none∨∃o,X.s₀.heap.get? b=some o)->b∉frs X.stack->s.heap.get? b=some o->h2.get? b=some o:=fun b o hc hb q=>by
  obtain⟨o',e⟩:=cov b hc hb;have e1:=sb b o' e;rw[q]at e1;cases e1;exact st b _ e
 have ub:=I.base;rw[hex]at ub;refine⟨⟨fun b o q n hb _=> ?_,fun b o q n hb _=> ?_,fun b o q n _=>ub.free b o q n (by simp),fun b o q _=> ?_,ub.tups,ub.frzs,ub.tbls⟩,fun b u e=> ?_⟩
 ·have q1:=ub.keep b o q n hb (by simp);exact same b o (.inr ⟨o,q⟩) (fun z=>(hfr b z).elim (nloc b o q) hb) q1
 ·obtain⟨sl,q1⟩:=ub.slot b o q n hb (by simp);obtain⟨_,o',ho',hd⟩:=I.funs.mem hb;have hd1:∀vs,({ o with slots:=sl }:Obj).data≠ .fields vs:=fun vs z=>by
   rw[q1]at ho';cases ho';exact hd vs z
  obtain⟨sl2,q2⟩:=up b _ q1 hd1;exact⟨sl2,q2⟩
 ·obtain⟨o1,q1⟩:=ub.there b o q (by simp)
  by_cases hb:b∈frs X.stack
  ·obtain⟨_,o',ho',hd⟩:=I.stack.mem hb;rw[q1]at ho';cases ho';obtain⟨sl2,q2⟩:=up b _ q1 hd;exact⟨_,q2⟩
  ·exact⟨o1,same b o1 (.inr ⟨o,q⟩) hb q1⟩
 ·refine(I.hok b u e).stay (fun c v hc q=> ?_) (fun _ q=>q) fun _ _ q=>q;have hn:H c≠none:=by
   rcases hc with z|z
   ·rw[z,e];simp
   ·rw[z];simp
  exact same c v (.inl hn) (fun z=>hn (I.stkFree c z)) q
end
theorem aBn {P:Program}{w:World}{K:PySem.W.Frag}{mg:Str->Option Value}{base:Heap}{N:List Str}{qual:Str}{scope:Scope}{f:Addr}{cd:Value}{A:Around}{outer:List Env}{s₀:Shared}{H₀:Hp}{E:XK} :
  mM (CXE P w) (gD (CXE P w) P w K mg base N qual scope f cd A outer s₀ H₀ E) E:=by
 intro pins σ H s e s' I h;obtain⟨ea,cls,dd,a0,H',B,rfl,os,bare,un,hok,hn,new,fl,cov,q⟩:=h;have I':=I.call' (ch:=[]) os un hok bare (fun b z=>absurd z (by simp));have there:∀b o,s₀.heap.get? b=some o->∃o',s.heap.get? b=some o':=fun b o e=>I.base.there b o e (fun z=>absurd (show b∈([]:List Addr) from z) (by simp));show wpAny _ _ (leaving _ _) _ _ s';refine KA (I.ok.frames) rfl fl fun h2 fl2 up=> ?_;obtain⟨un2,hok2⟩:=T8 (B:=B) (h2:=h2) I' rfl fl2.1 fl.1 up (fun b hb hs=>cov b (hb.imp id fun⟨o,e⟩=>there b o e) hs) rfl rfl;refine⟨ea,cls,dd,a0,H',B,rfl,I'.os,bare,un2,hok2,hn,?_,fl2,fun b hb hs=>cov b (hb.imp id fun⟨o,e⟩=>there b o e) fun z=> ?_,q⟩
 ·cases e:s₀.heap.get? ea with
  | none=>rfl
  | some o =>
   obtain⟨o',e'⟩:=there ea o e;rw[new]at e';cases e'
 ·rcases List.mem_cons.mp (I.stkSub b z) with e|hb'
  ·rcases hb with hb|⟨o,e2⟩
   ·exact hb (by rw[e];exact I'.free)
   ·have e1:=Nat.lt_of_lt_of_le (Heap.lt_size e2) I.ok.above;rw[e]at e1;exact Nat.lt_irrefl _ e1
  ·exact hs hb'
theorem KJ {P:Program}{w:World}{K:PySem.W.Frag}{mg:Str->Option Value}{base:Heap}{N:List Str}{qual:Str}{scope:Scope}{f:Addr}{cd:Value}{A:Around}{outer:List Env}{s₀:Shared}{H₀:Hp}{E:XK}
  {pins:List (Addr×Obj)}{σ:St}{H:Hp}{s1:Shared}{h':Heap}{ea:Addr}{cls:Value}{args:List Value} (I:Inv (gD (CXE P w) P w K mg base N qual scope f cd A outer s₀ H₀ E) pins σ H s1)
  (m:Heap.MadeExcOf s1.heap h' ea cls args)(q:E cls none H):(gD (CXE P w) P w K mg base N qual scope f cd A outer s₀ H₀ E).xe (.ref ea) { s1 with heap:=h' }:=by
 have there:∀b o,s₀.heap.get? b=some o->∃o',s1.heap.get? b=some o':=fun b o e=>I.base.there b o e (fun z=>absurd (show b∈([]:List Addr) from z) (by simp));have hin:∀env∈(gD (CXE P w) P w K mg base N qual scope f cd A outer s₀ H₀ E).stack,∀b,env.frame=some b->b∈frs (gD (CXE P w) P w K mg base N qual scope f cd A outer s₀ H₀ E).stack:=fun env he b hb=>List.mem_filterMap.mpr ⟨env,he,hb⟩;have hk:(hideAll s1.heap (frs (gD (CXE P w) P w K mg base N qual scope f cd A outer s₀ H₀ E).stack)).StaysIn s1.heap:=fun b o e=>of_hideAll _ e;have cov:∀b,(H b≠none∨∃o,s₀.heap.get? b=some o)->b∉frs (gD (CXE P w) P w K mg base N qual scope f cd A outer s₀ H₀ E).stack →
   ∃o,(hideAll s1.heap (frs (gD (CXE P w) P w K mg base N qual scope f cd A outer s₀ H₀ E).stack)).get? b=some o:=fun b hb hs=>by
  have:∃o,s1.heap.get? b=some o:=by
   rcases hb with hb|⟨o,e⟩
   ·cases e:H b with
    | none=>exact absurd e hb
    | some u=>exact(I.hok b u e).there
   ·exact there b o e
  obtain⟨o,e⟩:=this;exact⟨o,hideAll_get _ e hs⟩
 show wpAny _ _ (leaving _ _) _ _ _;refine FV (s:={ s1 with heap:=h' }) (h:=s1.heap) (base:=hideAll s1.heap (frs (gD (CXE P w) P w K mg base N qual scope f cd A outer s₀ H₀ E).stack)) (I.ok.frames) rfl hk (funFrames_hide I.stack hin) m fun h2 t fl up=> ?_;have up2:s1.heap.UpToSlots h2:=(Heap.UpToSlots.of_keeps m.keeps).trans up;obtain⟨un2,hok2⟩:=T8 (h2:=h2) I rfl fl.1 hk up2 cov rfl rfl;have hn:H ea=none:=by
  cases e:H ea with
  | none=>rfl
  | some u =>
   obtain⟨o,e2⟩:=(I.hok ea u e).there;rw[m.new]at e2;cases e2
 refine⟨ea,cls,none,.ref t,H,_,rfl,I.os,I.bare,un2,hok2,hn,?_,fl,fun b hb hs=>cov b hb fun z=> ?_,q⟩
 ·cases e:s₀.heap.get? ea with
  | none=>rfl
  | some o =>
   obtain⟨o',e'⟩:=there ea o e;rw[m.new]at e';cases e'
 ·rcases List.mem_cons.mp (I.stkSub b z) with e|hb'
  ·rcases hb with hb|⟨o,e2⟩
   ·exact hb (by rw[e];exact I.free)
   ·have e1:=Nat.lt_of_lt_of_le (Heap.lt_size e2) I.ok.above;rw[e]at e1;exact Nat.lt_irrefl _ e1
  ·exact hs hb'
end L2
namespace L2
open PySem PySem.Spec PyProof.Rows PySem.W
def MS (X:Cx)(E:XK):Prop:=∀(pins:List (Addr×Obj)) (σ:St) (H:Hp) (s1:Shared) (h':Heap) (ea:Addr) (cls:Value) (args:List Value),Inv X pins σ H s1->Heap.MadeExcOf s1.heap h' ea cls args->E cls none H->X.xe (.ref ea) { s1 with heap:=h' }
theorem ZC {P:Program}{w:World}{K:PySem.W.Frag}{mg:Str->Option Value}{base:Heap}{N:List Str}{qual:Str}{scope:Scope}{f:Addr}{cd:Value}{A:Around}{outer:List Env}{s₀:Shared}{H₀:Hp}{E:XK} :
  MS (gD (CXE P w) P w K mg base N qual scope f cd A outer s₀ H₀ E) E:=fun _ _ _ _ _ _ _ _ I m q=>KJ I m q
abbrev bmV:List Value:=[.type "ValueError",.type "Exception",.type "BaseException",.type "object"]
abbrev aAo (K:PySem.W.Frag)(C:Addr):Prop:=excIn K C bmV "ValueError.__new__" =true
theorem W7 {K:Frag}{h₀:Heap}{C:Addr}{bmB:List Value}{newId:String} (X:K.In h₀) (q:excIn K C bmB newId=true) :
  ∃bm N nm q bs hdct sn sub ab col dd k0 k1 k2 k3 k5 mN,h₀.get? C=some (excClassObj nm q C N bs bm hdct sn sub ab col dd k0 k1 k2 k3 k5 newId)/\h₀.Ns N mN/\mN "__init__" =none/\OwnTail h₀ bmB bm:=by
 unfold excIn at q
 split at q
 ·rename_i dd cd sl ho
  split at q
  ·rename_i C' bm k0 k1 k2 k3 n k5 hm hs;simp only[Bool.and_eq_true,beq_iff_eq,Bool.not_eq_true']at q;obtain⟨⟨⟨⟨⟨rfl,rfl⟩,hdel⟩,ht⟩,hok⟩,hni⟩:=q;obtain⟨nm,bs,mro,ns,qn,hd,sn,sub,ab,col,del⟩:=cd
   dsimp only at hm hdel hok hni
   subst hm hdel;have hsl:sl= #[k0,k1,k2,k3,some (.builtin n),k5]:=by
    obtain⟨l⟩:=sl;simp only at hs;rw[hs]
   subst hsl;exact⟨bm,ns,nm,qn,bs,hd,sn,sub,ab,col,dd,k0,k1,k2,k3,k5,_,X _ _ ho,.of_isNs (isNs_of_in X hok),nsMap_none_of_in X hok hni,tail_of_in X ht⟩
  ·cases q
 ·cases q
section
variable {X:Cx}{E:XK}{x:Str}{C:Addr}{np cpos pos:Pos}{e:Expr}{es:List Expr}{t:TA}
def OM (C:Addr)(E:XK)(t:TA):TS:=fun D σ H=>t σ H fun vs H1=>vs.length<=sizeLine/\E (.ref C) none H1
theorem QA (hm:X.mg x=some (.ref C))(hc:aAo X.K C)(hx:MS X E)(ha:PA X (e::es) t)(cm:X.calm=true:=by rfl)(hg:Gl X x:=by rfl)(hdb:(x==("__debug__" :Str))=false:=by decide)
  (he:starEach (e::es) X.env=(false,eval e X.env)::starEach es X.env:=by rfl)(hpl:(backTo cpos (starEach es X.env)).any (·.1)=false:=by rfl) :
  PS X (.Raise (some (.Call (.Name x np) (e::es) [] cpos)) none pos) (OM C E t):=by
 intro pins s σ H D I h;obtain⟨tl,N,nm,q,bs,hdct,sn,sub,ab,col,dd,k0,k1,k2,k3,k5,mN,hC,hN,hni,T⟩:=W7 I.ok.mod.kin hc;refine wpAny_Raise_call_subT (C:=C) (nm:=nm) (q:=q) (N:=N) (bs:=bs) (bm:=tl) (hdct:=hdct) (sn:=sn) (sub:=sub) (ab:=ab) (col:=col) (dd:=dd) (k0:=k0) (k1:=k1) (k2:=k2) (k3:=k3) (k5:=k5)
  PySem.F.excBase_ValueError (mN:=mN) (T.hasType PySem.F.excBase_ValueError.hasBase) (I.ok.hd cm) (by rw[he];show (false||(backTo cpos (starEach es X.env)).any (·.1))=false;rw[hpl];rfl) hni (nX I hg hm ⟨rfl,?_⟩ hdb)
 have hh:=ha cpos pins s σ H _ I h;rw[he]at hh ⊢;refine Calls.evalArgs_plain (wpAny_mono hh (fun vs s₂ h₂=> ?_) fun _ _ y=>y);obtain⟨us,H2,I2,r,z,q2⟩:=h₂;exact⟨rfl,by rw[←r.length];exact z,I2.bk _ _ hC,hN.keeps I2.bk,T.keeps I2.bk,fun h' ea m=>hx pins σ H2 s₂ h' ea _ _ I2 m q2⟩
end
structure FcE (P:Program)(w:World)(K:PySem.W.Frag)(mg:Str->Option Value)(base:Heap)(x:Str)(k:Nat)(ps:List Str)(sp:Sp):Prop where
 ex:∃f fd,mg x=some (.ref f)/\PySem.W.keepIn K (.ref f)=true/\Binds K fd ps []/\bD P w K mg base (CXE P w) k f fd ps sp
section
variable {X:Cx}{k k':Nat}{sp:Sp}{x m:Str}{p pos apos:Pos}{e o:Expr}{es:List Expr}{ta:TE}{t:TA}{C:Addr}{dvs:List V}{E:XK}{ps:List Str}
theorem TR (F:FcE X.prog X.w X.K X.mg X.base x k ps sp)(hr:Room k' X.A)(hx:mM (CXE X.prog X.w) X E)(ha:PA X (e::es) t)(hk:k<=k':=by decide)(hg:Gl X x:=by rfl)
  (hdb:(x==("__debug__" :Str))=false:=by decide)(he:starEach (e::es) X.env=(false,eval e X.env)::starEach es X.env:=by rfl)(hpl:(backTo pos (starEach es X.env)).any (·.1)=false:=by rfl) :
  PE X (.Call (.Name x p) (e::es) [] pos) (u0 sp [] E t):=by
 obtain⟨f,fd,hm,kp,b,G⟩:=F.ex;exact JK G (hr.mono hk) hg hm kp b .nil hx ha hdb he hpl
end
section
variable {P:Program}{w:World}{K:PySem.W.Frag}{mg:Str->Option Value}{base:Heap}
theorem FunV.okE {x qual:Str}{st:Stmt}{f:Addr}{fd:FuncData}{N ps:List Str}{k:Nat}{sp:Sp} (F:FunV K x qual st f fd) (S:aR N ps (aC st)) (len:∀vs H Q E,sp vs H Q E->vs.length=ps.length)
  (hbody:∀(cdv:Value) (A:Around) (outer:List Env) (s:Shared) (H:Hp) (vs:List V) (Q:VK) (E:XK),Room k (A.deeper (envOfC qual (aC st) s.heap.objs.size f cdv))->sp vs H Q E →
   ∃t,PSs (gD (CXE P w) P w K mg base N qual (aC st) f cdv A outer s H E) (aJ st) t/\t { nx:=fun _ H'=>Q .non H',rt:=Q } (j5 N vs) H):bD P w K mg base (CXE P w) (k+1) f fd ps sp:=by
 obtain⟨oc,od,dV,kV,doc,pm,an,cdv,ct,osl,rfl,lk,hcd⟩:=F.ex;exact TW lk hcd S len fun A outer s H vs Q E hr h=>hbody cdv A outer s H vs Q E hr h
end
end L2
namespace L2
open PySem PySem.Spec PyProof.Rows PySem.W
def UX (h base:Heap)(ea:Addr)(cls:Value)(dd:Option Addr)(a0 mk:Value):Prop :=
 ∃ob fv tb tbo tv,h.get? ea=some ob/\ob.cls=cls/\ob.dict=dd/\fv[0]? =some a0/\ob.data= .fields fv/\fv[1]? =some (.ref tb)/\base.get? tb=none/\tb≠ea/\h.get? tb=some tbo/\tbo.data= .fields tv/\tv[3]? =some mk
def UM (base:Heap)(l:List Env)(ea:Addr)(cls:Value)(dd:Option Addr)(a0 mk:Value)(h h':Heap):Prop :=
 base.StaysIn h'/\h'.FunFrames base l/\UX h' base ea cls dd a0 mk/\h.UpToSlots h'
section
variable {M:Model}{A:Around}{E:Value->Shared->Prop}{s:Shared}{base:Heap}{env:Env}{outer:List Env}{L ea:Addr}{Q:Unit->Shared->Prop}
theorem HS {ob:Obj}{fv:Array Value}{hd0 a0:Value}{nx:Bool} (hfr:A.frames=some (env::outer)) (ff:s.heap.FunFrames base (env::outer)) (hL:env.frame=some L) (go:s.heap.get? ea=some ob) (st:base.StaysIn s.heap)
  (nb:base.get? ea=none)(hdt:ob.data= .fields fv)(hz:1<fv.size)(h0:fv[0]? =some a0)(k:∀h',UM base (env::outer) ea ob.cls ob.dict a0 (rawInt L) s.heap h'->Q () { s with heap:=h' }) :
  wpAny M A (do let a ←frameOf env;let pl ←entryPlaceOf L nx;let b ←EntryCells.newEntry hd0 a .none (rawInt L) .none pl;setField (.ref ea) 1 b) Q E s:=by
 have nin:ea∉(env::outer).filterMap (·.frame):=fun hm=>by
  obtain⟨_,o,ho,hnf⟩:=ff.mem hm;rw[go]at ho;cases ho;exact hnf fv hdt
 refine wpAny_bind (wpAny_frameOf_fun hfr ff hL fun hA sA=>wpAny_bind (wpAny_entryPlaceOf fun pl hpl=> ?_));unfold EntryCells.newEntry newFields;refine wpAny_bind (wpAny_newObj_type ?_ (hpl.sizeOk5 _ _ _ _ _));have gA:hA.get? ea=some ob:=(sA.2.1 ea nin).trans go;have stA:base.StaysIn hA:=fun b o q=>(sA.2.1 b fun hm=>by rw[(ff.mem hm).1]at q;cases q).trans (st b o q);generalize hN:({ cls:= .type "traceback",dict:=none,data:= .fields ([hd0,.ref L,.none,rawInt L,.none]++(if pl.isEmpty then List.replicate 6 Value.none else pl)).toArray }:Obj)=nob;have hNd:∃tv,nob.data= .fields tv/\tv[3]? =some (rawInt L):=by
  rw[←hN];exact⟨_,rfl,by first|(simp;done)|(rcases hpl with rfl|⟨_,_,_,_,_,_,_,rfl⟩<;>simp)⟩
 obtain⟨tv,hNd,hN3⟩:=hNd;have gB:(hA.push nob).get? ea=some ob:=Heap.get?_push_of_some nob gA;refine wpAny_setField gB hdt hz (k _ ?_);have tne:hA.objs.size≠ea:=Nat.ne_of_gt (Heap.lt_size gA);have dC:=Obj.data_mapFields hdt (·.setIfInBounds 1 (Value.ref hA.objs.size));have gC:=Heap.get?_update_self (Obj.mapFields (·.setIfInBounds 1 (Value.ref hA.objs.size))) gB (Obj.isFreed_of_fields dC);have tC:((hA.push nob).update ea (Obj.mapFields (·.setIfInBounds 1 (Value.ref hA.objs.size)))).get? hA.objs.size=some nob:=(Heap.get?_update_other _ _ (Ne.symm tne)).trans (Heap.get?_push_size hA (Obj.isFreed_of_fields hNd));generalize hF:(hA.push nob).update ea (Obj.mapFields (·.setIfInBounds 1 (Value.ref hA.objs.size)))=hX at gC tC ⊢;have keepF:∀b o,b≠ea->hA.get? b=some o->hX.get? b=some o:=fun b o hb q=>by
  rw[←hF,Heap.get?_update_other _ _ (Ne.symm hb)];exact Heap.get?_push_of_some _ q
 have norec:∀b o,s.heap.get? b=some o->(∀vs,o.data≠ .fields vs)->b≠ea:=fun b o q hnf z=>by
  rw[z,go]at q;cases q;exact hnf fv hdt
 refine⟨fun b o q=>keepF b o (fun z=>by rw[z,nb]at q;cases q) (stA b o q),ff.of_keeps fun b o q hnf=> ?_,?_,fun b o q hnf=> ?_⟩
 ·obtain⟨sl,hs⟩:=sA.2.2 b o q;exact⟨_,keepF b _ (norec b o q hnf) hs,rfl⟩
 ·exact⟨_,_,hA.objs.size,_,_,gC,Obj.cls_mapFields _ _,CH _ _,by rw[Array.getElem?_setIfInBounds_ne (by decide)];exact h0,dC,by simp[hz],stA.fresh,tne,tC,hNd,hN3⟩
 ·obtain⟨sl,hs⟩:=sA.2.2 b o q;exact⟨sl,keepF b _ (norec b o q hnf) hs⟩
theorem MY {cls a0:Value}{dd:Option Addr} (hfr:A.frames=some (env::outer)) (hL:env.frame=some L) (fl:FlyD base (env::outer) ea cls dd a0 s.heap)
  (k:∀h',UM base (env::outer) ea cls dd a0 (rawInt L) s.heap h'->Q () { s with heap:=h' }):wpAny M A (noteFrame (.ref ea) env) Q E s:=by
 obtain⟨st,nb,ff,ob,fv,tb,tbo,tv,go,ec,ed,h0,hdt,h1,nT,tne,gT,dT,h3⟩:=fl;subst ec ed;unfold noteFrame;simp only[hL];refine wpAny_bind (wpAny_field go hdt h1 ?_);rw[if_pos (show (Value.ref tb !=Value.none)=true from by simp)];refine wpAny_bind (wpAny_field gT dT h3 ?_);rw[if_neg (show ¬((Value.none==rawInt L)=true) from by simp[rawInt])];refine wpAny_bind (wpAny_setField gT dT (Array.getElem?_eq_some_iff.mp h3).1 ?_);have oth:∀b,b≠tb->(s.heap.update tb (Obj.mapFields (·.setIfInBounds 3 Value.none))).get? b=s.heap.get? b:=fun b hb=>Heap.get?_update_other _ _ (Ne.symm hb);have norec:∀b o,s.heap.get? b=some o->(∀vs,o.data≠ .fields vs)->b≠tb:=fun b o q hnf z=>by
  rw[z,gT]at q;cases q;exact hnf tv dT
 refine HS hfr (ff.of_keeps fun b o q hnf=>⟨o,(oth b (norec b o q hnf)).trans q,rfl⟩) hL ((oth ea (Ne.symm tne)).trans go) (fun b o q=>(oth b fun z=>by rw[z,nT]at q;cases q).trans (st b o q)) nb hdt (Array.getElem?_eq_some_iff.mp h1).1 h0 fun h' ⟨x1,x2,x3,x4⟩=> ?_;exact k h' ⟨x1,x2,x3,fun b o q hnf=>x4 b o ((oth b (norec b o q hnf)).trans q) hnf⟩
theorem OY {l:List Env}{cls a0 mk:Value}{dd:Option Addr} (st:base.StaysIn s.heap) (nb:base.get? ea=none) (ff:s.heap.FunFrames base l) (tr:UX s.heap base ea cls dd a0 mk)
  (k:∀h',FlyD base l ea cls dd a0 h'->s.heap.UpToSlots h'->Q () { s with heap:=h' }):wpAny M A (setFlight (.ref ea) none) Q E s:=by
 obtain⟨ob,fv,tb,tbo,tv,go,ec,ed,h0,hdt,h1,nT,tne,gT,dT,h3⟩:=tr;have oth:∀b,b≠tb->(s.heap.update tb (Obj.mapFields (·.setIfInBounds 3 ((none:Option Addr).elim Value.none fun f=>rawInt f)))).get? b=s.heap.get? b:=fun b hb=>Heap.get?_update_other _ _ (Ne.symm hb);have norec:∀b o,s.heap.get? b=some o->(∀vs,o.data≠ .fields vs)->b≠tb:=fun b o q hnf z=>by
  rw[z,gT]at q;cases q;exact hnf tv dT
 have z3:=(Array.getElem?_eq_some_iff.mp h3).1;unfold setFlight;refine wpAny_bind (wpAny_field go hdt h1 ?_);rw[if_pos (show (Value.ref tb !=Value.none)=true from by simp)];refine wpAny_setField gT dT z3 (k _ ⟨fun b o q=>(oth b fun z=>by rw[z,nT]at q;cases q).trans (st b o q),nb,ff.of_keeps fun b o q hnf=>⟨o,(oth b (norec b o q hnf)).trans q,rfl⟩,?_⟩ fun b o q hnf=>⟨o.slots,(oth b (norec b o q hnf)).trans q⟩);exact⟨ob,fv,tb,_,_,(oth ea (Ne.symm tne)).trans go,ec,ed,h0,hdt,h1,nT,tne,Heap.get?_update_self _ gT (Obj.isFreed_of_fields (Obj.data_mapFields dT _)),Obj.data_mapFields dT _,by simp[z3]⟩
end
end L2
namespace L2
open PySem PySem.Spec PyProof.Rows PySem.W
abbrev Cx.inx (X:Cx)(ea:Addr):Cx:={ X with A:=X.A.mark (some (.ref ea)),calm:=false,xe:=fun _ _=>False }
section
variable {X:Cx}{pins:List (Addr×Obj)}{σ:St}{H:Hp}{s:Shared}{ea:Addr}
theorem Cx.Ok.inx (ok:X.Ok)(ea:Addr):(X.inx ea).Ok :=
 ⟨ok.mod,ok.kind,ok.glob,ok.blt,ok.above,ok.inj,ok.has,ok.cab,(fun z=>by cases z),ok.frames,ok.stk,ok.exf,ok.bs,ok.bsz,ok.noex,ok.exfs,ok.funs,ok.frf⟩
theorem Inv.inx (I:Inv X pins σ H s)(ea:Addr):Inv (X.inx ea) pins σ H s:=⟨I.ok.inx ea,I.os,I.bare,I.base,I.loc,I.cell,I.free,I.freeC,I.pin,I.hok,I.len⟩
theorem Inv.outx (ok:X.Ok)(I:Inv (X.inx ea) pins σ H s):Inv X pins σ H s:=⟨ok,I.os,I.bare,I.base,I.loc,I.cell,I.free,I.freeC,I.pin,I.hok,I.len⟩
end
theorem WL {P:Program}{w:World}{fs:List Addr}{H1 H':Hp}{h1 h' h6 B:Heap} (un:Un fs [] H1 H' h1 h') (hok:HOk P w H' h') (cov:∀b,(H' b≠none∨∃o,h1.get? b=some o)->b∉fs->∃o,B.get? b=some o)
  (sb:B.StaysIn h')(st:B.StaysIn h6)(up:h'.UpToSlots h6)(hf:∀b∈fs,H' b=none/\∃o,h'.get? b=some o/\∀vs,o.data≠ .fields vs):Un fs [] H1 H' h1 h6/\HOk P w H' h6:=by
 have same:∀b o,(H' b≠none∨∃o,h1.get? b=some o)->b∉fs->h'.get? b=some o->h6.get? b=some o:=fun b o hc hb q=>by
  obtain⟨o',e⟩:=cov b hc hb;have e1:=sb b o' e;rw[q]at e1;cases e1;exact st b _ e
 have atf:∀b o,b∈fs->h'.get? b=some o->∃sl,h6.get? b=some { o with slots:=sl }:=fun b o hb q=>by
  obtain⟨_,o',e,d⟩:=hf b hb;rw[q]at e;cases e;exact up b _ q d
 refine⟨⟨fun b o q n hb hx=>same b o (.inr ⟨o,q⟩) hb (un.keep b o q n hb hx),fun b o q n hb hx=> ?_,un.free,fun b o q hx=> ?_,un.tups,un.frzs,un.tbls⟩,fun b u e=> ?_⟩
 ·obtain⟨sl,q1⟩:=un.slot b o q n hb hx;obtain⟨sl2,q2⟩:=atf b _ hb q1;exact⟨sl2,q2⟩
 ·obtain⟨o1,q1⟩:=un.there b o q hx
  by_cases hb:b∈fs
  ·obtain⟨sl,q2⟩:=atf b o1 hb q1;exact⟨_,q2⟩
  ·exact⟨o1,same b o1 (.inr ⟨o,q⟩) hb q1⟩
 ·refine(hok b u e).stay (fun c v hc q=> ?_) (fun _ q=>q) fun _ _ q=>q;have hn:H' c≠none:=by
   rcases hc with z|z
   ·rw[z,e];simp
   ·rw[z];simp
  exact same c v (.inl hn) (fun z=>hn (hf c z).1) q
def ZS (a C dx:Addr)(h:Heap):Prop:=∃o vs,h.get? a=some o/\o.cls= .ref C/\o.dict=some dx/\o.data= .fields vs
def DX (a C:Addr):Option Addr->HO
 | none=> .ext (rR a C)
 | some dx=> .ext (ZS a C dx)
theorem N1 {P:Program}{w:World}{fs:List Addr}{H1 H':Hp}{h1 h6:Heap}{ea C:Addr}{φ:Heap->Prop} (un:Un fs [] H1 H' h1 h6) (hok:HOk P w H' h6) (new:h1.get? ea=none) (hn:H' ea=none) (x:φ h6) (tx:∃o,h6.get? ea=some o)
  (kx:∀g1 g2,φ g1->(∀o,g1.get? ea=some o->g2.get? ea=some o)->φ g2):Un fs [] H1 (upd H' ea (.ext φ)) h1 h6/\HOk P w (upd H' ea (.ext φ)) h6:=by
 have ne1:∀b o,h1.get? b=some o->b≠ea:=fun b o q z=>by rw[z,new]at q;cases q
 refine⟨⟨un.keep,un.slot,fun b o q n hx=>by rw[aP (ne1 b o q)];exact un.free b o q n hx,un.there,fun b xs q=> ?_,fun b o u q=> ?_,fun b ps q=> ?_⟩,fun b u e=> ?_⟩
 ·have z:=un.tups b xs q;rw[aP (bF z hn)];exact z
 ·have z:=un.frzs b o u q;rw[aP (bF z hn)];exact z
 ·obtain⟨m,z⟩:=un.tbls b ps q;exact⟨m,by rw[aP (bF z hn)];exact z⟩
 ·by_cases hb:b=ea
  ·subst hb;rw[bC]at e;cases e;exact⟨x,tx,kx⟩
  ·rw[aP hb]at e;exact(hok b u e).stay (fun _ _ _ q=>q) (fun c q=>by rw[aP (bF q hn)];exact q) fun c xs q=>by rw[aP (bF q hn)];exact q
theorem V9 {P:Program}{w:World}{fs:List Addr}{H1 H':Hp}{h1 h6:Heap}{ea C:Addr}{dd:Option Addr}{ob:Obj}{vs:Array Value} (un:Un fs [] H1 H' h1 h6) (hok:HOk P w H' h6) (new:h1.get? ea=none) (hn:H' ea=none) (go:h6.get? ea=some ob) (hc:ob.cls= .ref C) (hd:ob.dict=dd) (hf:ob.data= .fields vs) :
  Un fs [] H1 (upd H' ea (DX ea C dd)) h1 h6/\HOk P w (upd H' ea (DX ea C dd)) h6:=by
 cases dd with
 | none=>exact N1 (C:=C) un hok new hn ⟨ob,vs,go,hc,hf⟩ ⟨_,go⟩ fun g1 g2 ⟨o',vs',q1,q2,q3⟩ k=>⟨o',vs',k _ q1,q2,q3⟩
 | some dx=>exact N1 (C:=C) un hok new hn ⟨ob,vs,go,hc,hd,hf⟩ ⟨_,go⟩ fun g1 g2 ⟨o',vs',q1,q2,q3⟩ k=>⟨o',vs',k _ q1,q2,q3⟩
def XW (X:Cx)(pins:List (Addr×Obj))(σ:St)(R:XK)(e:Value)(s':Shared):Prop:=∃H1 s1,Inv X pins σ H1 s1/\CXE X.prog X.w X.stack H1 s1 R e s'
def PEx (X:Cx)(e:Expr)(t:XK->TE):Prop :=
 ∀(R:XK) (pins:List (Addr×Obj)) (s:Shared) (σ:St) (H:Hp) (Q:VK),Inv X pins σ H s->t R σ H Q->wpAny (model X.prog X.w) X.A (eval e X.env) (EP X pins σ Q) (XW X pins σ R) s
theorem PA.noxx {X:Cx}{es:List Expr}{t:TA} (h:PA X.nox es t) {E:Value->Shared->Prop}:∀(pos:Pos) (pins:List (Addr×Obj)) (s:Shared) (σ:St) (H:Hp) (Q:List V->Hp->Prop),Inv X pins σ H s->t σ H Q->wpAny (model X.prog X.w) X.A (spliced (backTo pos (starEach es X.env))) (AP X pins σ Q) E s :=
 fun pos pins s σ H Q I q=>wpAny_mono (h pos pins s σ H Q (I.wish _) q) (fun _ _ ⟨vs,H',I',r,z⟩=>⟨vs,H',I'.unwish,r,z⟩) fun _ _ z=>False.elim z
section
variable {X:Cx}{k k':Nat}{sp:Sp}{x m:Str}{p pos apos:Pos}{e o:Expr}{es:List Expr}{ta:TE}{t:TA}{C f:Addr}{dvs:List V}{ds:List Value}{R:XK}{ps:List Str}{fd:FuncData}
theorem Z6 {pins:List (Addr×Obj)}{σ:St}{H:Hp}{s:Shared}{Q:VK}{us:List Value}{vs:List V} (F:bD X.prog X.w X.K X.mg X.base (CXE X.prog X.w) k f fd ps sp) (hr:Room k X.A) (hb:Binds X.K fd ps ds) (hd:Vals dvs ds)
  (I:Inv X pins σ H s)(r:Vals vs us)(h:sp (vs++dvs) H Q R):wpAny (model X.prog X.w) X.A (call (.ref f) us) (EP X pins σ Q) (XW X pins σ R) s:=by
 have r2:Vals (vs++dvs) (us++ds):=r.append hd;have hl:(us++ds).length=ps.length:=by rw[←r2.length];exact F.len _ _ _ _ h
 refine wpAny_call (codeAny_mono (F.run X.A X.stack s H ⟨us,[]⟩ (us++ds) (vs++dvs) Q R hr I.env0 (hb s us I.kIn hl) r2 h) fun r s' hq=> ?_);cases r with
 | error e=>exact⟨H,s,I,hq⟩
 | ok fl =>
  cases fl with
  | ret u=>exact I.after hq
  | next=>exact False.elim hq
  | brk=>exact False.elim hq
  | cont=>exact False.elim hq
theorem aBC (F:FcE X.prog X.w X.K X.mg X.base x k ps sp)(hr:Room k' X.A)(ha:PA X.nox (e::es) t)(hk:k<=k':=by decide)(hg:Gl X x:=by rfl)
  (hdb:(x==("__debug__" :Str))=false:=by decide)(he:starEach (e::es) X.env=(false,eval e X.env)::starEach es X.env:=by rfl)(hpl:(backTo pos (starEach es X.env)).any (·.1)=false:=by rfl) :
  PEx X (.Call (.Name x p) (e::es) [] pos) (fun R=>u0 sp [] R t):=by
 intro R pins s σ H Q I h;obtain⟨f,fd,hm,kp,b,G⟩:=F.ex;refine wpAny_Call_Name_kw (nX I hg hm ?_ hdb);refine PySem.W.callWith_K (h₀:=X.base) I.ok.mod.kin kp (thn (ha.noxx pos pins s σ H _ I h) fun us s1 ⟨vs,H1,I1,r,q⟩=>⟨I1.kIn,?_⟩) he hpl;exact Z6 G (hr.mono hk) b .nil I1 r q
end
section
variable {X:Cx}{k k':Nat}{sp:Sp}{x m:Str}{p pos apos:Pos}{e o:Expr}{es:List Expr}{ta:TE}{t:TA}{C:Addr}{dvs:List V}{R:XK}
end
theorem pX {X:Cx}{pins:List (Addr×Obj)}{σ:St}{H:Hp}{s:Shared}{M:Model}{A:Around}{E:Value->Shared->Prop}{i:Nat}{n:Str}{pos:Pos}{Q:Unit->Shared->Prop} (I:Inv X pins σ H s) (hN:X.N.Nodup) (hi:X.N[i]? =some n) (hk:X.env.scope.names.lookup n=some .local)
  (h:∀s',Inv X pins (σ.set i none) H s'->Q () s'):wpAny M A (do bindName X.env n .none;unbindBehindTheSuite X.env n pos) Q E s:=by
 obtain⟨m,hn,hl⟩:=id I.loc;have hcls:(X.env.scope.kind== .class||(X.env.scope.kind== .module&&X.env.locals !=X.env.globals))=false:=by rw[I.ok.kind];rfl
 have cne:=I.cne;have tracked:∀{a:Addr}{h':Heap},(∃o,s.heap.get? a=some o/\H a=none)->Heap.SameBut a s.heap h'->HOk X.prog X.w H h':=fun {a h'} ha hs b ob e=>by
  obtain⟨_,_,hfree⟩:=ha;refine(I.hok b ob e).stay (fun c w' hc q=>(hs.2 c ?_).trans q) (fun _ q=>q) fun _ _ q=>q;rintro rfl;rcases hc with rfl|hc
  ·rw[hfree]at e;cases e
  ·rw[hfree]at hc;cases hc
 refine wpAny_nameGoes_keeps hk hn hcls fun h' v hn' hs=> ?_;obtain⟨oL,_,_,hoL,_⟩:=id hn;refine h _ ⟨I.ok,I.os,I.bare,⟨fun b o e n hb hx=> ?_,fun b o e n hb hx=> ?_,I.base.free,fun b o e hx=> ?_,I.base.tups,I.base.frzs,I.base.tbls⟩,⟨_,hn',fun j y v' e1 e2 e3=> ?_⟩,fun y c e=> ?_,I.free,I.freeC,fun p hp=> ?_,tracked ⟨oL,hoL,I.free⟩ hs,by simpa using I.len⟩
 ·exact(hs.2 b (Nat.ne_of_lt (Nat.lt_of_lt_of_le (Heap.lt_size e) I.ok.above))).trans (I.base.keep b o e n hb hx)
 ·obtain⟨sl,e1⟩:=I.base.slot b o e n hb hx;exact⟨sl,(hs.2 b (Nat.ne_of_lt (Nat.lt_of_lt_of_le (Heap.lt_size e) I.ok.above))).trans e1⟩
 ·obtain⟨o',e1⟩:=I.base.there b o e hx;exact⟨o',(hs.2 b (Nat.ne_of_lt (Nat.lt_of_lt_of_le (Heap.lt_size e) I.ok.above))).trans e1⟩
 ·by_cases hj:j=i
  ·subst hj;rw[List.getElem?_set]at e2;simp at e2
  ·rw[List.getElem?_set_ne (Ne.symm hj)]at e2;obtain⟨u',r',q⟩:=hl j y v' e1 e2 e3;refine⟨u',r',?_⟩;rcases q with⟨k,e⟩|⟨k,c,e,z⟩
   ·refine .inl ⟨k,?_⟩;have:y≠n:=fun e=>hj (wW hN e1 (e▸hi));simp[this,e]
   ·exact .inr ⟨k,c,e,z.sameBut hs (cne y c e)⟩
 ·obtain⟨w',z⟩:=I.cell y c e;exact⟨w',z.sameBut hs (cne y c e)⟩
 ·obtain⟨e,n,ne,nf,d⟩:=I.pin p hp;exact⟨(hs.2 p.1 ne).trans e,n,ne,nf,d⟩
section
variable {X:Cx}{i:Nat}{n x:Str}{T:Addr}{np hpos pos epos:Pos}{e:Expr}{tc:XK->TE}{b₀:Stmt}{suite:List Stmt}{ts:TS}
def UK (K:PySem.W.Frag)(T:Addr)(i:Nat)(ts:TS)(D:kJ)(σ:St):XK:=fun cls dd H1=>∃C,cls= .ref C/\PySem.W.exmOne K (.ref C) (.ref T)=some true ∧
 ∀ea,H1 ea=none->ts { nx:=fun σ' H'=>D.nx (σ'.set i none) H',rt:=D.rt,bk:=fun σ' H'=>D.bk (σ'.set i none) H',ct:=fun σ' H'=>D.ct (σ'.set i none) H' } (σ.set i (some (.ref ea))) (upd H1 ea (DX ea C dd))
def PXs (X:Cx)(st:List Stmt)(t:XK->TS):Prop :=
 ∀(R:XK) (pins:List (Addr×Obj)) (s:Shared) (σ:St) (H:Hp) (D:kJ),Inv X pins σ H s->t R D σ H->wpAny (model X.prog X.w) X.A (execs st X.env) (SP X pins D) (XW X pins σ R) s
def aBQ (K:PySem.W.Frag)(T:Addr)(i:Nat)(tc:XK->TE)(ts:TS):TS:=fun D σ H=>tc (UK K T i ts D σ) σ H fun _ H1=>D.nx σ H1
def txE (tc:XK->TE):XK->TS:=fun R D σ H=>tc R σ H fun _ H1=>D.nx σ H1
theorem aA6 (he:PEx X e tc)(hsw:swapsWith e none epos.line X.env=pure false:=by rfl):PXs X [.Expr e epos] (txE tc):=by
 intro R pins s σ H D I h;refine wpAny_execs_cons (wpAny_Expr_any ?_ I.quiet hsw);exact wpAny_mono (he R pins s σ H _ I h) (fun v s1 ⟨v',H1,I1,r1,q1⟩=>wpAny_execs_nil ⟨σ,H1,I1,q1⟩) fun _ _ z=>z
theorem XY {body:List Stmt}{tb:XK->TS} (hN:X.N.Nodup) (hi:X.N[i]? =some n) (hk:X.env.scope.names.lookup n=some .local) (hst:X.stack=X.env::X.outer) (hfr:X.env.frame=some X.env.locals) (hm:X.mg x=some (.ref T)) (he:PXs X body tb) (hs:∀ea,PSs (X.inx ea) (b₀::suite) ts)
  (hg:Gl X x:=by rfl)(hdb:(x==("__debug__" :Str))=false:=by decide) :
  PS X (.Try body [.ExceptHandler (some (.Name x np)) (some n) (b₀::suite) hpos] [] [] pos) (fun D σ H=>tb (UK X.K T i ts D σ) D σ H):=by
 intro pins s σ H D I h;refine wpAny_Try_except ?_;refine wpAny_mono (he _ pins s σ H _ I h) (fun f s1 q=> ?_) fun ev s' hx=> ?_
 ·cases f with
  | next=>exact wpAny_execs_nil q
  | ret v=>exact q
  | brk=>exact q
  | cont=>exact q
 obtain⟨H1,s1,I1,ea,cls,dd,a0,H',B,rfl,os,bare,un,hok,hn,new,fl,cov,C,rfl,hex,hq⟩:=hx;have frms:∀b∈frs X.stack,H' b=none:=fun b hb=>by
  obtain⟨_,o,ho,_⟩:=I1.stack.mem hb;exact un.free b o ho (I1.stkFree b hb) (by simp)
 have fl0:=fl;rw[hst]at fl0;refine MY (by rw[I.ok.frames,hst]) hfr fl0 fun h4 ⟨k1,k2,k3,up4⟩=> ?_;refine OY k1 fl.2.1 k2 k3 fun h5 hfl5 up5=> ?_;have step:∀h6,FlyD B (X.env::X.outer) ea (.ref C) dd a0 h6->s'.heap.UpToSlots h6->Inv X pins σ (upd H' ea (DX ea C dd)) { s' with heap:=h6 }:=fun h6 f6 up6=>by
  obtain⟨un2,hok2⟩:=WL un hok cov fl.1 f6.1 up6 fun b hb=>⟨frms b hb,(fl.2.2.1.mem hb).2⟩
  obtain⟨oe,vs,q1,q2,q3,q4⟩:=f6.there;obtain⟨un3,hok3⟩:=V9 (C:=C) un2 hok2 new hn q1 q2 q3 q4;exact I1.call' (s':={ s' with heap:=h6 }) (ch:=[]) os un3 hok3 bare fun b z=>absurd z (by simp)
 have I5:=step h5 hfl5 (up4.trans up5);obtain⟨ob,_,hob,hobc,_⟩:=hfl5.there;have LT:Looks (model X.prog X.w) h5 (typeOf (.ref ea)) (.ref C):=by
  rw[←hobc];exact(Looks.ld hob).andThen .now
 refine wpAny_handleBy_cons (codeAny_handlers_test ?_) (by intro q;cases q);refine nX (X:=X.inx ea) (I5.inx ea) hg hm ?_ hdb;refine(PySem.W.exm_one I5.kIn LT hex).here ?_;show codeAny _ _ _ _ _;refine codeAny_handlers_suite_as ?_;obtain⟨l1,l2,l3,l4⟩:=hfl5;refine OY l1 l2 l3 l4 fun h6 hfl6 up6=> ?_;have I6:=step h6 hfl6 ((up4.trans up5).trans up6);refine rJ (X:=X.inx ea) (v:= .ref ea) (I6.inx ea) hN hi (.inl hk) rfl (fun s7 I7=> ?_) (.inr hk);refine wpAny_mono (hs ea pins s7 _ _ _ I7 (hq ea hn)) (fun f s8 hsp=> ?_) fun _ _ z=>False.elim z;cases f with
 | next =>
  obtain⟨σ',H8,I8,q8⟩:=hsp;exact pX (I8.outx I.ok) hN hi hk fun s9 I9=>⟨_,H8,I9,q8⟩
 | brk =>
  obtain⟨σ',H8,I8,q8⟩:=hsp;exact pX (I8.outx I.ok) hN hi hk fun s9 I9=>⟨_,H8,I9,q8⟩
 | cont =>
  obtain⟨σ',H8,I8,q8⟩:=hsp;exact pX (I8.outx I.ok) hN hi hk fun s9 I9=>⟨_,H8,I9,q8⟩
 | ret u =>
  obtain⟨v,σ',H8,I8,r8,q8⟩:=hsp;exact pX (I8.outx I.ok) hN hi hk fun s9 I9=>⟨v,_,H8,I9,r8,q8⟩
theorem YS (hN:X.N.Nodup)(hi:X.N[i]? =some n)(hk:X.env.scope.names.lookup n=some .local)(hst:X.stack=X.env::X.outer)(hfr:X.env.frame=some X.env.locals)(hm:X.mg x=some (.ref T))(he:PEx X e tc)(hs:∀ea,PSs (X.inx ea) (b₀::suite) ts)
  (hg:Gl X x:=by rfl)(hdb:(x==("__debug__" :Str))=false:=by decide)(hsw:swapsWith e none epos.line X.env=pure false:=by rfl) :
  PS X (.Try [.Expr e epos] [.ExceptHandler (some (.Name x np)) (some n) (b₀::suite) hpos] [] [] pos) (aBQ X.K T i tc ts):=XY hN hi hk hst hfr hm (aA6 he hsw) hs hg hdb
end
def IsX (H:Hp)(a C:Addr):Prop:=∃φ,H a=some (.ext φ)/\∀h,φ h->rR a C h
def RU (K:PySem.W.Frag):List V->Hp->VK->Prop:=fun xs H Q=>∃a C c u b,xs=[.ref a,c]/\IsX H a C/\mU K C/\(c= .ref u/\PySem.W.kitOne K (.ref C) (.ref u)=some b)/\Q (.bl b) H
def K0 (K:PySem.W.Frag):List V->Hp->VK->Prop:=fun xs H Q=>∃a C n b,xs=[.ref a,.ty n]/\IsX H a C/\mU K C/\PySem.W.kitOne K (.ref C) (.type n)=some b/\Q (.bl b) H
theorem QP {X:Cx}:c6 X (.builtin "isinstance") (RU X.K):=by
 intro pins s σ H xs us Q I r h;obtain⟨a,C,c,u,b,rfl,hs,k,⟨rfl,e⟩,q⟩:=h;obtain⟨v1,v2,rfl,r1,r2⟩:=xZ r;obtain rfl:v1= .ref a:=r1;obtain rfl:v2= .ref u:=r2;obtain⟨φ,hs,hφ⟩:=hs;obtain⟨z,_⟩:=I.hok a _ hs;exact kia_one (FK k) I.kIn (hφ _ z) e (fun z=>by cases z) fun tk=>⟨.bl b,H,I.tok tk,rfl,q⟩
theorem OK {X:Cx}:c6 X (.builtin "isinstance") (K0 X.K):=by
 intro pins s σ H xs us Q I r h;obtain⟨a,C,n,b,rfl,hs,k,e,q⟩:=h;obtain⟨v1,v2,rfl,r1,r2⟩:=xZ r;obtain rfl:v1= .ref a:=r1;obtain rfl:v2= .type n:=r2;obtain⟨φ,hs,hφ⟩:=hs;obtain⟨z,_⟩:=I.hok a _ hs;exact kia_one (FK k) I.kIn (hφ _ z) e (fun z=>by cases z) fun tk=>⟨.bl b,H,I.tok tk,rfl,q⟩
end L2
namespace L2
open PySem PySem.Spec PyProof.Rows PySem.W
theorem ZT {P:Program}{w:World}{X:Cx}:mM (CXE P w) X E0:=fun _ _ _ _ _ _ _ h=>by
 obtain⟨_,_,_,_,_,_,_,_,_,_,_,_,_,_,_,q⟩:=h;exact q.elim
section
variable {X:Cx}{x:Str}{j:Nat}{p pos:Pos}{e v1 v2:Expr}{es:List Expr}{te:TE}{t:TJ}
end
theorem FA {C:Addr}{E:XK}{t:TA}{D:kJ}{σ:St}{H:Hp} (h:t σ H fun vs H1=>vs.length<=sizeLine/\E (.ref C) none H1):OM C E t D σ H:=h
end L2
namespace L2
open PySem PySem.W
theorem CT:bootBuiltins "ValueError" =some (.type "ValueError"):=PyProof.Rows.Boot.«ValueError»
section
variable {K:Frag}{C D:Addr}{cd:ClassData}{b:Bool}
theorem Z0 (c:clsIn K D=some cd)(t:typeIn K (.ref D)=some (.type "type"))(sb:subIn K (.ref D) (.type "BaseException")=some true)(s:subIn K (.ref C) (.ref D)=some b):exmOne K (.ref C) (.ref D)=some b:=by
 unfold exmOne;rw[if_pos (by rw[sb];rfl)];show (if ((clsIn K D).isSome&&typeIn K (.ref D)==some (.type "type"))=true then subIn K (.ref C) (.ref D) else none)=_;rw[c,t,if_pos (by rfl)];exact s
theorem aAL {n:String}(hm:kitMeta n=true)(s:subIn K (.ref C) (.type n)=some b):kitOne K (.ref C) (.type n)=some b:=by
 unfold kitOne;rw[if_neg (by intro h;cases (beq_iff_eq.mp h))];show (if kitMeta n=true then subIn K (.ref C) (.type n) else none)=_;rw[if_pos hm];exact s
end
theorem tG:kitMeta "ValueError" =true:=by decide +kernel
variable {K:Frag}{H:Hp}{Q:VK}
theorem ZM {a C D:Addr}{b:Bool} (e:H a=some (.ext (rR a C))) (k:mU K C) (i:kitOne K (.ref C) (.ref D)=some b) (h:Q (.bl b) H):RU K [.ref a,.ref D] H Q:=⟨a,C,.ref D,D,b,rfl,⟨_,e,fun _ z=>z⟩,k,⟨rfl,i⟩,h⟩
theorem XA {a C:Addr}{n:String}{b:Bool} (e:H a=some (.ext (rR a C))) (k:mU K C) (i:kitOne K (.ref C) (.type n)=some b) (h:Q (.bl b) H):K0 K [.ref a,.ty n] H Q:=⟨a,C,n,b,rfl,⟨_,e,fun _ z=>z⟩,k,i,h⟩
end L2
namespace L2
open PySem PySem.W
theorem pZ {X:Cx}(K:Frag)(h:X.K=K):c6 X (.builtin "isinstance") (RU K):=by
 subst h;exact QP
theorem LF {X:Cx}(K:Frag)(h:X.K=K):c6 X (.builtin "isinstance") (K0 K):=by
 subst h;exact OK
end L2
set_option maxHeartbeats 4000000
namespace L2
open PySem PySem.Spec PyProof.Rows
section
variable {X:Cx}{pins:List (Addr×Obj)}{σ:St}{H:Hp}{s:Shared}
end
section
variable {X:Cx}{CX:CXT}{k k':Nat}{sp:Sp}{E:XK}{x y:Str}{p pos:Pos}{e:Expr}{es:List Expr}{t:TA}{i:Nat}{c:Addr}
end
section
variable {P:Program}{w:World}{K:PySem.W.Frag}{mg:Str->Option Value}{base:Heap}
end
section
variable {X:Cx}{k k':Nat}{x:Str}{p pos:Pos}{e:Expr}{es:List Expr}{t:TA}
end
section
variable {X:Cx}{args:Arguments}{body:Expr}{lsc:Scope}{pos:Pos}{y:Str}{c cL PL:Addr}
end
end L2
namespace L2
open PySem PySem.Spec PyProof.Rows
section
variable {P:Program}{w:World}{K:PySem.W.Frag}{mg:Str->Option Value}{base:Heap}
end
section
variable {X:Cx}{o:Expr}{to:TE}{ap pos:Pos}
theorem D7:∀{xs:List V}{us:List Value},xs.length=us.length->(∀(i:Nat) x u,xs[i]? =some x->us[i]? =some u->RelV x u)->Vals xs us
 | [],[],_,_=> .nil
 | [],_::_,h,_=>by simp at h
 | _::_,[],h,_=>by simp at h
 | x::xs,u::us,h,k=> .cons (k 0 x u rfl rfl) (D7 (by simpa using h) fun i y w e1 e2=>k (i+1) y w (by simpa using e1) (by simpa using e2))
end
section
variable {X:Cx}{k k':Nat}{sp:Sp}{x m:Str}{p pos apos:Pos}{e:Expr}{es:List Expr}{t:TA}{dvs:List V}
end
end L2
namespace L2
open PySem PySem.Spec PyProof.Rows
section
variable {P:Program}{w:World}
end
section
variable {P:Program}{w:World}{K:PySem.W.Frag}{mg:Str->Option Value}{base:Heap}
end
section
variable {X:Cx}{st:Stmt}{rest:List Stmt}{t:TS}{u:kJ->(St->V->Hp->Prop)->St->Hp->Prop}{e:Expr}{te:TE}{pos:Pos}
end
section
variable {P:Program}{w:World}{K:PySem.W.Frag}{mg:Str->Option Value}{base:Heap}
end
section
open PySem.W
variable {X:Cx}{i j:Nat}{n x y:Str}{T:Addr}{np yp hpos pos epos:Pos}{e:Expr}{tc:XK->TE}{b₀:Stmt}{suite:List Stmt}{ts:TS}
end
end L2
namespace L2
open PySem PySem.Spec PyProof.Rows
end L2
namespace L2
open PySem PySem.Spec PyProof.Rows
section
variable {X:Cx}
def aAI (K:PySem.W.Frag):R2:=fun x y H Q=>∃a b xs,x= .ref a/\y= .ref b/\SqL K H a xs/\SqL K H b []/\Q (.bl (!xs.isEmpty)) H
theorem YI (hu:X.A.units<cLine):OpR X (compareOp .NotEq) (aAI X.K):=by
 intro pins s σ H x y v u Q I rx ry h;obtain⟨a,b,xs,rfl,rfl,ha,hb,q⟩:=h;cases rx;cases ry;obtain⟨its,r,pl,hz⟩:=I.list ha;obtain⟨its2,r2,pl2,_⟩:=I.list hb;cases r2;cases xs with
 | nil =>
  cases r;refine SeqAt.RcNeAt.lists (e:=fun _=>true) pl.isList pl2.isList rfl hu (fun j h1=>absurd h1 (Nat.not_lt_zero _)) X.prog X.w X.xe _ ⟨.bl false,H,I,rfl,q⟩
 | cons x xs =>
  cases r with
  | cons r1 r2 =>
   exact SeqAt.RcNeAt.lists_lengths pl.isList pl2.isList (by simp) hu X.prog X.w X.xe _ ⟨.bl true,H,I,rfl,q⟩
theorem aAz {K:PySem.W.Frag}{H:Hp}{Q:VK}{a b:Addr}{xs:List V} (ha:SqL K H a xs) (hb:SqL K H b []) (h:Q (.bl (!xs.isEmpty)) H):aAI K (.ref a) (.ref b) H Q:=⟨a,b,xs,rfl,rfl,ha,hb,h⟩
end
end L2
namespace L2
open PySem PySem.Spec PyProof.Rows
section
variable {κ:Type}[DecidableEq κ]
def bA (kvs:List (κ×V))(k:κ):Option V:=(kvs.find? fun kv=>decide (kv.1=k)).map (·.2)
def bW (kvs:List (κ×V))(k:κ)(v:V):List (κ×V) :=
 if (kvs.any fun kv=>decide (kv.1=k))=true then kvs.map (fun kv=>if kv.1=k then (kv.1,v) else kv) else kvs++[(k,v)]
theorem dG {p:κ×V}{r:List (κ×V)}{k:κ} (e:p.1=k):bA (p::r) k=some p.2:=by simp[bA,List.find?_cons,e]
theorem cV {p:κ×V}{r:List (κ×V)}{k:κ} (e:¬p.1=k):bA (p::r) k=bA r k:=by simp[bA,List.find?_cons,e]
theorem lK (k:κ):∀kvs:List (κ×V),(kvs.any fun kv=>decide (kv.1=k))=(bA kvs k).isSome
 | []=>rfl
 | p::r=>by
  rw[List.any_cons]
  by_cases e:p.1=k
  ·simp only[dG e,decide_eq_true e,Bool.true_or,Option.isSome_some]
  ·rw[cV e,decide_eq_false e,Bool.false_or];exact lK k r
theorem FR (k j:κ)(y:V):∀kvs:List (κ×V),bA (kvs.map fun kv=>if kv.1=k then (kv.1,y) else kv) j=(bA kvs j).map fun x=>if j=k then y else x
 | []=>rfl
 | p::r=>by
  have ih:=FR k j y r;rw[List.map_cons]
  by_cases h:p.1=k
  ·rw[if_pos h]
   by_cases e:p.1=j
   ·rw[dG (p:=(p.1,y)) e,dG e,Option.map_some,if_pos (e.symm.trans h)]
   ·rw[cV (p:=(p.1,y)) e,cV e,ih]
  ·rw[if_neg h]
   by_cases e:p.1=j
   ·rw[dG (p:=p) e,dG e,Option.map_some,if_neg (fun z=>h (e.trans z))]
   ·rw[cV (p:=p) e,cV e,ih]
theorem BI (k j:κ)(y:V):∀kvs:List (κ×V),bA kvs k=none->bA (kvs++[(k,y)]) j=if j=k then some y else bA kvs j
 | [],_=>by
  by_cases e:k=j
  ·rw[if_pos e.symm];exact dG (p:=(k,y)) e
  ·rw[if_neg (fun z=>e z.symm)];exact cV (p:=(k,y)) e
 | p::r,hn=>by
  rw[List.cons_append];have hk:¬p.1=k:=fun z=>by rw[dG z]at hn;cases hn
  rw[cV hk]at hn;have ih:=BI k j y r hn
  by_cases e:p.1=j
  ·rw[dG e,dG e,if_neg (fun z=>hk (e.trans z))]
  ·rw[cV e,cV e,ih]
theorem kW (kvs:List (κ×V))(k j:κ)(y:V):bA (bW kvs k y) j=if j=k then some y else bA kvs j:=by
 unfold bW
 by_cases a:(kvs.any fun kv=>decide (kv.1=k))=true
 ·rw[if_pos a,FR];rw[lK]at a
  by_cases e:j=k
  ·obtain⟨x,hx⟩:=Option.isSome_iff_exists.mp a;rw[if_pos e,e,hx,Option.map_some,if_pos rfl]
  ·rw[if_neg e];cases bA kvs j with
   | none=>rfl
   | some x=>rw[Option.map_some,if_neg e]
 ·rw[if_neg a];refine BI k j y kvs ?_;rw[lK]at a;cases q:bA kvs k with
  | none=>rfl
  | some x=>rw[q]at a;exact(a rfl).elim
theorem fR (kvs:List (κ×V))(k:κ)(v:V):(bW kvs k v).length<=kvs.length+1:=by
 unfold bW
 split
 ·rw[List.length_map];lia
 ·rw[List.length_append,List.length_cons,List.length_nil];lia
theorem oP {kvs:List (κ×V)}{k:κ} (v:V) (h:bA kvs k=none):bW kvs k v=kvs++[(k,v)]:=by
 unfold bW;rw[lK,h];exact if_neg (by decide)
theorem RelO.isSome_eq {o:Option V}{u:Option Value} (r:RelO o u):o.isSome=u.isSome:=by
 cases o with
 | none=>cases u with
  | none=>rfl
  | some _=>exact(show False from r).elim
 | some _=>cases u with
  | none=>exact(show False from r).elim
  | some _=>rfl
theorem RelO.getD {o:Option V}{u:Option Value}{d:V}{d':Value} (r:RelO o u) (rd:RelV d d'):RelV (o.getD d) (u.getD d'):=by
 cases o with
 | none=>cases u with
  | none=>exact rd
  | some _=>exact(show False from r).elim
 | some _=>cases u with
  | none=>exact(show False from r).elim
  | some _=>exact r
theorem KV.val {kvs:List (κ×V)}{vs:List (κ×Value)} (r:KV kvs vs) (k:κ):RelO (bA kvs k) (valueAt vs k):=by
 unfold KV at r
 induction r with
 | nil=>exact True.intro
 | @cons p q ps qs h t ih =>
  obtain⟨h1,h2⟩:=h
  by_cases e:p.1=k
  ·have e':q.1=k:=h1.symm.trans e;have b:valueAt (q::qs) k=some q.2:=by simp[valueAt,List.find?_cons,e']
   rw[dG e,b];exact h2
  ·have e':¬q.1=k:=fun z=>e (h1.trans z);have b:valueAt (q::qs) k=valueAt qs k:=by simp[valueAt,List.find?_cons,e']
   rw[cV e,b];exact ih
theorem KV.any {kvs:List (κ×V)}{vs:List (κ×Value)} (r:KV kvs vs) (k:κ):(kvs.any fun kv=>decide (kv.1=k))=vs.any fun kv=>decide (kv.1=k):=by
 unfold KV at r
 induction r with
 | nil=>rfl
 | cons h t ih=>rw[List.any_cons,List.any_cons,ih,h.1]
theorem KV.repl {kvs:List (κ×V)}{vs:List (κ×Value)} (r:KV kvs vs) (k:κ) {y:V}{u:Value} (ry:RelV y u) :
  KV (kvs.map fun kv=>if kv.1=k then (kv.1,y) else kv) (vs.map fun kv=>if kv.1=k then (kv.1,u) else kv):=by
 unfold KV at r ⊢
 induction r with
 | nil=>exact .nil
 | @cons p q ps qs h t ih =>
  rw[List.map_cons,List.map_cons];refine .cons ?_ ih;obtain⟨h1,h2⟩:=h
  by_cases e:p.1=k
  ·rw[if_pos e,if_pos (h1.symm.trans e)];exact⟨h1,ry⟩
  ·rw[if_neg e,if_neg (fun z=>e (h1.trans z))];exact⟨h1,h2⟩
theorem KV.put {kvs:List (κ×V)}{vs:List (κ×Value)} (r:KV kvs vs) (k:κ) {y:V}{u:Value} (ry:RelV y u):KV (bW kvs k y) (stored vs k u):=by
 unfold bW stored;rw[r.any k]
 by_cases e:(vs.any fun kv=>decide (kv.1=k))=true
 ·rw[if_pos e,if_pos e];exact r.repl k ry
 ·rw[if_neg e,if_neg e];exact Paired.snoc r ⟨rfl,ry⟩
theorem KV.length {kvs:List (κ×V)}{vs:List (κ×Value)} (r:KV kvs vs):kvs.length=vs.length:=Paired.length r
end
theorem sF {P:Program}{w:World}{k:Key}{u:Value} (r:RelV (kV k) u):(bL P w).is k u=true:=by
 cases k with
 | inl i=>obtain⟨t,e⟩:=(show ∃t,u=Value.int i t from r);subst e;exact HG P w i t
 | inr x=>obtain⟨t,e⟩:=(show ∃t,u=Value.str x t from r);subst e;exact wC P w x t
theorem BX {P:Program}{w:World}:∀{ks:List Key}{us:List Value},Vals (ks.map kV) us->ItemsAre (bL P w) ks us
 | [],_,r=>by rw[List.map_nil]at r;cases r;exact .nil
 | k::ks,_,r=>by
  rw[List.map_cons]at r;cases r with
  | cons h t=>exact .cons (sF h) (BX t)
abbrev KT (H:Hp):List (List Key×V)->List (List Key×Addr×Value)->Prop:=Paired fun p q=>p.1=q.1/\H q.2.1=some (.tup (p.1.map kV))/\RelV p.2 q.2.2
theorem KT.val {H:Hp}{kvs:List (List Key×V)}{xs:List (List Key×Addr×Value)} (r:KT H kvs xs) (k:List Key):RelO (bA kvs k) ((atKey xs k).map (·.2)):=by
 induction r with
 | nil=>exact True.intro
 | @cons p q ps qs h t ih =>
  obtain⟨h1,_,h2⟩:=h
  by_cases e:p.1=k
  ·have e':q.1=k:=h1.symm.trans e;have b:atKey (q::qs) k=some q.2:=by simp[atKey,List.find?_cons,e']
   rw[dG e,b];exact h2
  ·have e':¬q.1=k:=fun z=>e (h1.trans z);have b:atKey (q::qs) k=atKey qs k:=by simp[atKey,List.find?_cons,e']
   rw[cV e,b];exact ih
theorem KT.repl {H:Hp}{kvs:List (List Key×V)}{xs:List (List Key×Addr×Value)} (r:KT H kvs xs) (k:List Key) {y:V}{u:Value} (ry:RelV y u) :
  KT H (kvs.map fun kv=>if kv.1=k then (kv.1,y) else kv) (xs.map (putAt k u)):=by
 induction r with
 | nil=>exact .nil
 | @cons p q ps qs h t ih =>
  rw[List.map_cons,List.map_cons];refine .cons ?_ ih;obtain⟨h1,h2,h3⟩:=h;unfold putAt
  by_cases e:p.1=k
  ·rw[if_pos e,if_pos (h1.symm.trans e)];exact⟨h1,h2,ry⟩
  ·rw[if_neg e,if_neg (fun z=>e (h1.trans z))];exact⟨h1,h2,h3⟩
theorem KT.put {H:Hp}{kvs:List (List Key×V)}{xs:List (List Key×Addr×Value)} (r:KT H kvs xs) (k:List Key) {b:Addr}{y:V}{u:Value} (hb:H b=some (.tup (k.map kV))) (ry:RelV y u) :
  KT H (bW kvs k y) (storedH xs k b u):=by
 have e:(kvs.any fun kv=>decide (kv.1=k))=(atKey xs k).isSome:=by
  rw[lK,(r.val k).isSome_eq,Option.isSome_map]
 unfold bW storedH;rw[e]
 by_cases q:(atKey xs k).isSome=true
 ·rw[if_pos q,if_pos q];exact r.repl k ry
 ·rw[if_neg q,if_neg q];exact Paired.snoc r ⟨rfl,hb,ry⟩
theorem KT.keeps {H H':Hp}{kvs:List (List Key×V)}{xs:List (List Key×Addr×Value)} (r:KT H kvs xs) (ht:∀b ys,H b=some (.tup ys)->H' b=some (.tup ys)):KT H' kvs xs :=
 Paired.mapP r fun _ _ z=>⟨z.1,ht _ _ z.2.1,z.2.2⟩
section
variable {P:Program}{w:World}{H:Hp}{h:Heap}{a:Addr}
theorem UT {u:HO}(ok:HOk P w H h)(e:Rd H a u):ObjOk P w H h a u:=e.ok ok
theorem l9 {kvs:List (Key×V)}(ok:HOk P w H h)(e:Rd H a (.dK kvs)):kvs.length<=sizeLine/\(a==sysModules)=false/\∃vs,KV kvs vs/\h.DictOf (bL P w) a vs :=
 show ObjOk P w H h a (.dK kvs) from UT ok e
theorem aBa {kvs:List (Key×V)}(ok:HOk P w H h)(e:H a=some (.dK kvs)):kvs.length<=sizeLine/\(a==sysModules)=false/\∃vs,KV kvs vs/\h.DictOf (bL P w) a vs:=l9 ok (.inl e)
theorem qV {ks:List Key}(ok:HOk P w H h)(e:H a=some (.tup (ks.map kV))):(tupleKind (bL P w)).is h ks a:=by
 obtain⟨_,its,r,o,h1,h2,n,h3⟩:=(show ObjOk P w H h a (.tup (ks.map kV)) from ok a _ e)
 exact⟨o,its.toArray,n,h1,h2,h3,by simpa using BX r⟩
theorem sO {kvs:List (List Key×V)}(ok:HOk P w H h)(e:Rd H a (.dT kvs)):kvs.length<=sizeLine/\(a==sysModules)=false ∧
  ∃xs,KT H kvs xs/\h.DictOfH (tupleKind (bL P w)) a xs:=by
 obtain⟨z,y,xs,r,o,es,ep,h1,h2,h3,h4,h5⟩:=(show ObjOk P w H h a (.dT kvs) from UT ok e)
 refine⟨z,y,xs,r,o,es,ep,h1,h2,h3,h4,fun x hx=> ?_,h5⟩;have all:∀{l:List (List Key×V)}{m:List (List Key×Addr×Value)},KT H l m->∀x∈m,(tupleKind (bL P w)).is h x.1 x.2.1:=by
  intro l m q
  induction q with
  | nil=>intro x hx;exact nomatch hx
  | @cons p q ps qs hq t ih =>
   intro x hx;rcases List.mem_cons.mp hx with e|hx
   ·subst e;exact qV ok (by rw[←hq.1];exact hq.2.1)
   ·exact ih x hx
 exact all r x hx
theorem aBm {kvs:List (List Key×V)}(ok:HOk P w H h)(e:H a=some (.dT kvs)):kvs.length<=sizeLine/\(a==sysModules)=false ∧
  ∃xs,KT H kvs xs/\h.DictOfH (tupleKind (bL P w)) a xs:=sO ok (.inl e)
end
def DGet (H:Hp)(a:Addr)(y:V)(r:Option V):Prop :=
 (∃kvs k,Rd H a (.dK kvs)/\y=kV k/\r=bA kvs k)∨∃kvs k b,Rd H a (.dT kvs)/\y= .ref b/\H b=some (.tup (k.map kV))/\r=bA kvs k
def DPut (H:Hp)(a:Addr)(y v:V)(H':Hp):Prop :=
 (∃kvs k,H a=some (.dK kvs)/\y=kV k/\kvs.length<sizeLine/\H'=upd H a (.dK (bW kvs k v))) ∨
 ∃kvs k b,H a=some (.dT kvs)/\y= .ref b/\H b=some (.tup (k.map kV))/\kvs.length<sizeLine/\H'=upd H a (.dT (bW kvs k v))
theorem DGet.t {H:Hp}{a b:Addr}{kvs:List (List Key×V)}{k:List Key} (e:H a=some (.dT kvs)) (eb:H b=some (.tup (k.map kV))):DGet H a (.ref b) (bA kvs k):= .inr ⟨kvs,k,b,.inl e,rfl,eb,rfl⟩
theorem DPut.k {H:Hp}{a:Addr}{kvs:List (Key×V)}{k:Key}{v:V} (e:H a=some (.dK kvs)) (hl:kvs.length<sizeLine):DPut H a (kV k) v (upd H a (.dK (bW kvs k v))):= .inl ⟨kvs,k,e,rfl,hl,rfl⟩
theorem DPut.t {H:Hp}{a b:Addr}{kvs:List (List Key×V)}{k:List Key}{v:V} (e:H a=some (.dT kvs)) (eb:H b=some (.tup (k.map kV))) (hl:kvs.length<sizeLine) :
  DPut H a (.ref b) v (upd H a (.dT (bW kvs k v))):= .inr ⟨kvs,k,b,e,rfl,eb,hl,rfl⟩
section
variable {X:Cx}{pins:List (Addr×Obj)}{σ:St}{H:Hp}{s:Shared}{a:Addr}{y v:V}{u r:Value}{o:Option V}{A:Around}{E:Value->Shared->Prop}
theorem Inv.big (I:Inv X pins σ H s):sysModules<s.heap.objs.size:=by
 have h:mainGlobals<s.heap.objs.size:=(I.mod.glob.keeps I.bk).lt;exact Nat.lt_trans (by decide) h
theorem CF {Q:Value->Shared->Prop}(hu:A.units+1<cLine)(I:Inv X pins σ H s)(g:DGet H a y (some v))(ry:RelV y u)(h:∀w' s',Inv X pins σ H s'->RelV v w'->Q w' s') :
  wpAny (model X.prog X.w) A (getItem (.ref a) u) Q E s:=by
 rcases g with⟨kvs,k,e,ey,l⟩|⟨kvs,k,b,e,ey,eb,l⟩
 ·subst ey;obtain⟨z,hd,vs,rel,dd⟩:=l9 I.hok e;obtain⟨w',hw,rw'⟩:=RelO.some_of (v:=v) (o:=valueAt vs k) (by rw[l];exact rel.val k);exact wpAny_getItem_of (sF ry) dd.mapOf hw (h w' _ (I.tok _) rw')
 ·subst ey;cases (show u=Value.ref b from ry);obtain⟨z,hd,xs,rel,dd⟩:=sO I.hok e;obtain⟨w',hw,rw'⟩:=RelO.some_of (v:=v) (o:=(atKey xs k).map (·.2)) (by rw[l];exact rel.val k);obtain⟨p,hp,hp2⟩:=Option.map_eq_some_iff.mp hw;refine wpAny_getItem_heap (tupleKind_room_in1 hu) (qV I.hok eb) dd hp ?_;rw[hp2];exact h w' _ (I.tok _) rw'
theorem aBW {Q:Value->Shared->Prop}(hu:A.units+1<cLine)(I:Inv X pins σ H s)(g:DGet H a y o)(ry:RelV y u)(h:∀s',Inv X pins σ H s'->Q (.bool o.isSome) s') :
  wpAny (model X.prog X.w) A (compareOp .In u (.ref a)) Q E s:=by
 rcases g with⟨kvs,k,e,ey,l⟩|⟨kvs,k,b,e,ey,eb,l⟩
 ·subst ey;obtain⟨z,hd,vs,rel,dd⟩:=l9 I.hok e;refine wpAny_in_of (sF ry) hd dd.mapOf ?_;rw[←(rel.val k).isSome_eq,←l];exact h _ (I.tok _)
 ·subst ey;cases (show u=Value.ref b from ry);obtain⟨z,hd,xs,rel,dd⟩:=sO I.hok e;refine wpAny_in_heap (tupleKind_room_in1 hu) (qV I.hok eb) hd dd ?_;have q:=(rel.val k).isSome_eq;rw[Option.isSome_map]at q;rw[←q,←l];exact h _ (I.tok _)
theorem VT {Q:Value->Shared->Prop}(hu:A.units+1<cLine)(I:Inv X pins σ H s)(g:DGet H a y o)(ry:RelV y u)(h:∀s',Inv X pins σ H s'->Q (.bool (!o.isSome)) s') :
  wpAny (model X.prog X.w) A (compareOp .NotIn u (.ref a)) Q E s:=by
 rcases g with⟨kvs,k,e,ey,l⟩|⟨kvs,k,b,e,ey,eb,l⟩
 ·subst ey;obtain⟨z,hd,vs,rel,dd⟩:=l9 I.hok e;refine wpAny_notIn_of (sF ry) hd dd.mapOf ?_;rw[←(rel.val k).isSome_eq,←l];exact h _ (I.tok _)
 ·subst ey;cases (show u=Value.ref b from ry);obtain⟨z,hd,xs,rel,dd⟩:=sO I.hok e;refine wpAny_notIn_heap (tupleKind_room_in1 hu) (qV I.hok eb) hd dd ?_;have q:=(rel.val k).isSome_eq;rw[Option.isSome_map]at q;rw[←q,←l];exact h _ (I.tok _)
theorem u6 {h':Heap}{t':Nat}{ob:HO} (I:Inv X pins σ H s) (mu:Mut (H a)) (hs:Heap.SameBut a s.heap h') (he:∃q,h'.get? a=some q) (new:ObjOk X.prog X.w (upd H a ob) h' a ob) :
  Inv X pins σ (upd H a ob) { s with heap:=h',toks:=t' } :=
 I.write (x:=a) (e:=a) mu (.inl rfl) (fun b q hb z=>(hs.2 b hb).trans z) he new
theorem NG {P:Program}{w:World}{H':Hp}{h':Heap}{kvs:List (Key×V)}{vs:List (Key×Value)} (z:kvs.length<=sizeLine) (hd:(a==sysModules)=false) (rel:KV kvs vs) (dd:h'.DictOf (bL P w) a vs) :
  ObjOk P w H' h' a (.dK kvs):=⟨z,hd,vs,rel,dd⟩
theorem BG {H':Hp}{Q:Unit->Shared->Prop} (hu:A.units+1<cLine) (I:Inv X pins σ H s) (g:DPut H a y v H') (ry:RelV y u) (rv:RelV v r) (h:∀s',Inv X pins σ H' s'->Q () s') :
  wpAny (model X.prog X.w) A (setItem (.ref a) u r) Q E s:=by
 rcases g with⟨kvs,k,e,ey,l,eH⟩|⟨kvs,k,b,e,ey,eb,l,eH⟩
 ·subst ey eH;obtain⟨z,hd,vs,rel,dd⟩:=aBa I.hok e;have hz:vs.length<=sizeLine:=by rw[←rel.length];exact z
  have hl:(bW kvs k v).length<=sizeLine:=by have:=fR kvs k v;lia
  refine wpAny_setItem_pairs (hsz:=hz) (sF ry) dd fun h' dd' hs=>h _ ?_;have he:∃q,h'.get? a=some q:=let ⟨q,_,_,hq,_⟩:=dd';⟨q,hq⟩;exact u6 I (by rw[e];exact True.intro) hs he (NG hl hd (rel.put k rv) dd')
 ·subst ey eH;cases (show u=Value.ref b from ry);obtain⟨z,hd,xs,rel,dd⟩:=aBm I.hok e;have hz:xs.length<=sizeLine:=by rw[←Paired.length rel];exact z
  have hl:(bW kvs k v).length<=sizeLine:=by have:=fR kvs k v;lia
  refine wpAny_setItem_heap (hsz:=hz) (tupleKind_room_in1 hu) (qV I.hok eb) dd fun h' dd' hs=>h _ ?_;obtain⟨q,es,ep,hq,h2,h3,h4,_,h5⟩:=dd';refine u6 I (by rw[e];exact True.intro) hs ⟨q,hq⟩ ⟨hl,hd,_,(rel.put k eb rv).keeps fun c ys ec=> ?_,q,es,ep,hq,h2,h3,h4,h5⟩;rw[aP (aBI ec e (fun z=>nomatch z))];exact ec
end
section
variable {X:Cx}{pins:List (Addr×Obj)}{σ:St}{H:Hp}{s:Shared}{a:Addr}{kvs:List (Key×V)}{k:Key}{u:Value}{A:Around}{E:Value->Shared->Prop}
end
def SI (i:Expr):Prop:=∀ov iv,subscripted i false ov iv=operate [ov,iv] (getItem ov iv)
theorem IT {prog:Program}{w:World}{A:Around}{E:Value->Shared->Prop}{s:Shared}{env:Env}{value slice:Expr}{pos:Pos}{T id:String}{Q:Value->Shared->Prop}
  (hl:typeLookup (.type T) "__getitem__" =pure (some (.builtin id)))(hs:SI slice)
  (h:wpAny (model prog w) A (eval value env) (fun o s₁=>wpAny (model prog w) A (eval slice env) (fun i s₂=>s₂.TypeIs o T/\wpAny (model prog w) A (getItem o i) Q E s₂) E s₁) E s) :
  wpAny (model prog w) A (eval (.Subscript value slice pos) env) Q E s:=by
 refine Subscript_ (wpAny_mono h (fun o s₁ h₁=>wpAny_mono h₁ (fun i s₂ h₂=> ?_) fun _ _ x=>x) fun _ _ x=>x);obtain⟨hT,h₂⟩:=h₂;unfold subscriptTail;refine wpAny_bind ?_;rw[getitemInPython_of_ne hT.not_modules];refine wpAny_bind (wpAny_specialOf hT hl ?_);have fin:wpAny (model prog w) A (subscripted slice false o i) (fun r s₃=>wpAny (model prog w) A (letTemporaryGo value o r >>= fun _=>pure r) Q E s₃) E s₂:=by
  rw[hs o i];exact wpAny_operating (wpAny_mono h₂ (fun r s₃ h₃=>wpAny_bind (wpAny_letTemporaryGo (wpAny_pure h₃))) fun _ _ x=>x)
 first
  | exact wpAny_pure (wpAny_bind fin)
  | exact wpAny_bind (wpAny_pure (wpAny_bind fin))
  | exact wpAny_bind fin
theorem HE {X:Cx}{pins:List (Addr×Obj)}{σ:St}{H:Hp}{s:Shared}{a:Addr}{y:V}{o:Option V} (I:Inv X pins σ H s) (g:DGet H a y o):s.TypeIs (.ref a) "dict" :=by
 rcases g with⟨kvs,k,e,_,_⟩|⟨kvs,k,b,e,_,_,_⟩
 ·obtain⟨_,_,vs,_,dd⟩:=l9 I.hok e;exact dd.typeIs
 ·obtain⟨_,_,xs,_,dd⟩:=sO I.hok e;exact dd.typeIs
def UJ (td ty:TE):TE:=fun σ H Q=>td σ H fun x H1=>ty σ H1 fun y H2=>∃a v,x= .ref a/\DGet H2 a y (some v)/\Q v H2
def aAN (ty td:TE):TE:=fun σ H Q=>ty σ H fun y H1=>td σ H1 fun x H2=>∃a o,x= .ref a/\DGet H2 a y o/\Q (.bl o.isSome) H2
def IY (ty td:TE):TE:=fun σ H Q=>ty σ H fun y H1=>td σ H1 fun x H2=>∃a o,x= .ref a/\DGet H2 a y o/\Q (.bl (!o.isSome)) H2
def UE (td ty tv:TE):TS:=fun D σ H=>tv σ H fun v H1=>td σ H1 fun x H2=>ty σ H2 fun y H3=>∃a H4,x= .ref a/\DPut H3 a y v H4/\D.nx σ H4
def UV (td ty tv:TE)(rd:V->V->Hp->VK->Prop):TS:=fun D σ H=>td σ H fun x H1=>ty σ H1 fun y H2=>∃a v,x= .ref a/\DGet H2 a y (some v) ∧
 tv σ H2 fun y2 H3=>rd v y2 H3 fun z H4=>∃H5,DPut H4 a y z H5/\D.nx σ H5
section
variable {X:Cx}{o i e value:Expr}{pos pos' tpos:Pos}{td ty tv:TE}
theorem iE (hu:X.A.units+1<cLine)(ho:PE X o td)(hi:PE X i ty)(hs:SI i):PE X (.Subscript o i pos) (UJ td ty):=by
 intro pins s σ H Q I h;refine IT PySem.F.slot_dict_getitem.lookup hs (thn (ho pins s σ H _ I h) fun u s1 ⟨x,H1,I1,rx,q1⟩=>thn (hi pins s1 σ H1 _ I1 q1) fun iv s2 ⟨y,H2,I2,ry,a,v,ex,g,q2⟩=> ?_);subst ex;obtain rfl:u=Value.ref a:=rx;exact⟨HE I2 g,CF hu I2 g ry fun w' s3 I3 rw'=>⟨v,H2,I3,rw',q2⟩⟩
theorem aAC (hu:X.A.units+1<cLine)(hi:PE X i ty)(ho:PE X o td):PC X .In i o (aAN ty td):=by
 intro pins s σ H Q I h;refine thn (hi pins s σ H _ I h) fun iv s1 ⟨y,H1,I1,ry,q1⟩=>thn (ho pins s1 σ H1 _ I1 q1) fun u s2 ⟨x,H2,I2,rx,a,ov,ex,g,q2⟩=> ?_;subst ex;obtain rfl:u=Value.ref a:=rx;exact aBW hu I2 g ry fun s3 I3=>⟨.bl ov.isSome,H2,I3,rfl,q2⟩
theorem CA (hu:X.A.units+1<cLine)(hi:PE X i ty)(ho:PE X o td):PC X .NotIn i o (IY ty td):=by
 intro pins s σ H Q I h;refine thn (hi pins s σ H _ I h) fun iv s1 ⟨y,H1,I1,ry,q1⟩=>thn (ho pins s1 σ H1 _ I1 q1) fun u s2 ⟨x,H2,I2,rx,a,ov,ex,g,q2⟩=> ?_;subst ex;obtain rfl:u=Value.ref a:=rx;exact VT hu I2 g ry fun s3 I3=>⟨.bl (!ov.isSome),H2,I3,rfl,q2⟩
theorem jV (hu:X.A.units+1<cLine)(ho:PE X o td)(hi:PE X i ty)(hv:PE X value tv)(hs:swapsWith value (some (.Subscript o i pos')) pos.line X.env=pure false) :
  PS X (.Assign [.Subscript o i pos'] value pos) (UE td ty tv):=by
 intro pins s σ H D I h;refine wpAny_Assign_Subscript (thn (hv pins s σ H _ I h) fun r s1 ⟨v,H1,I1,rv,q1⟩=>thn (ho pins s1 σ H1 _ I1 q1) fun u s2 ⟨x,H2,I2,rx,q2⟩=>thn (hi pins s2 σ H2 _ I2 q2) fun iv s3 ⟨y,H3,I3,ry,a,H4,ex,g,q3⟩=> ?_) hs;subst ex;obtain rfl:u=Value.ref a:=rx;exact BG hu I3 g ry rv fun s4 I4=>⟨σ,H4,I4,q3⟩
theorem VO {op:Operator}{rd:V->V->Hp->VK->Prop} (hu:X.A.units+1<cLine) (ho:PE X o td) (hi:PE X i ty) (hv:PE X value tv) (hop:ZU X op rd)
  (ha:∀ov iv new,augStore i ov iv new=(do holding [new,ov,iv] (setItem ov iv new);release [new,ov,iv] [];pure .next)):PS X (.AugAssign (.Subscript o i tpos) op value pos) (UV td ty tv rd):=by
 intro pins s σ H D I h;refine wpAny_AugAssign_SubscriptAny (thn (ho pins s σ H _ I h) fun u s1 ⟨x,H1,I1,rx,q1⟩=>thn (hi pins s1 σ H1 _ I1 q1) fun iv s2 ⟨y,H2,I2,ry,a,v,ex,g,q2⟩=> ?_) ha;subst ex;obtain rfl:u=Value.ref a:=rx;refine CF hu I2 g ry fun w' s3 I3 rw'=>thn (hv pins s3 σ H2 _ I3 q2) fun w2 s4 ⟨y2,H3,I4,ry2,q3⟩=>thn (hop pins s4 σ H3 v y2 w' w2 _ I4 rw' ry2 q3) fun w3 s5 ⟨z,H4,I5,rz,H5,g5,q4⟩=> ?_;exact BG hu I5 g5 ry rz fun s6 I6=>⟨σ,H5,I6,q4⟩
end
theorem SJ {P:Program}{w:World}{H:Hp} (h:Heap) (hb:sysModules<h.objs.size):ObjOk P w H (h.push { cls:= .type "dict",data:= .dict #[] }) h.objs.size (.dK []) :=
 ⟨Nat.zero_le _,beq_eq_false_iff_ne.mpr (Ne.symm (Nat.ne_of_lt hb)),[],.nil,Heap.DictOf.new h⟩
theorem R1 {P:Program}{w:World}{H:Hp} (h:Heap) (hb:sysModules<h.objs.size):ObjOk P w H (h.push { cls:= .type "dict",data:= .dict #[] }) h.objs.size (.dT []) :=
 ⟨Nat.zero_le _,beq_eq_false_iff_ne.mpr (Ne.symm (Nat.ne_of_lt hb)),[],.nil,_,#[],0,Heap.get?_push_size _ rfl,⟨rfl,rfl,rfl⟩,rfl,rfl,List.nodup_nil⟩
def OQ:TE:=fun _ H Q=>∀p,H p=none->Q (.ref p) (upd H p (.dK []))
def M4:TE:=fun _ H Q=>∀p,H p=none->Q (.ref p) (upd H p (.dT []))
section
variable {X:Cx}{pos:Pos}
theorem wP:PE X (.Dict [] [] pos) OQ:=fun pins s σ H Q I h =>
 wpAny_Dict_empty ⟨.ref s.heap.objs.size,_,I.laid (a:=s.heap.objs.size) (o:= .dK []) (t':=s.toks) (fun _ _ q=>Heap.get?_push_of_some _ q) (Nat.le_refl _) (SJ s.heap I.big),rfl,h _ (I.hok.fresh (Nat.le_refl _))⟩
theorem rL:PE X (.Dict [] [] pos) M4:=fun pins s σ H Q I h =>
 wpAny_Dict_empty ⟨.ref s.heap.objs.size,_,I.laid (a:=s.heap.objs.size) (o:= .dT []) (t':=s.toks) (fun _ _ q=>Heap.get?_push_of_some _ q) (Nat.le_refl _) (R1 s.heap I.big),rfl,h _ (I.hok.fresh (Nat.le_refl _))⟩
end
def MO:List (TE×TE)->St->Hp->(List (V×V)->Hp->Prop)->Prop
 | [],_,H,Q=>Q [] H
 | (tk,tv)::r,σ,H,Q=>tk σ H fun x H1=>tv σ H1 fun y H2=>MO r σ H2 fun ps H3=>Q ((x,y)::ps) H3
abbrev VV:List (V×V)->List (Value×Value)->Prop:=Paired fun p q=>RelV p.1 q.1/\RelV p.2 q.2
def PPs (X:Cx)(pos:Pos)(keys:List (Option Expr))(values:List Expr)(trs:List (TE×TE)):Prop :=
 ∀(pins:List (Addr×Obj)) (s:Shared) (σ:St) (H:Hp) (Q:List (V×V)->Hp->Prop),Inv X pins σ H s->MO trs σ H Q →
  wpAny (model X.prog X.w) X.A (evalPairs (pairTrees keys values X.env pos)) (fun vs s'=>∃ps H',Inv X pins σ H' s'/\VV ps vs/\Q ps H') X.xe s
theorem WE {X:Cx}{pos:Pos}:PPs X pos [] [] []:=fun pins s σ H Q I h=>pairTrees_nil_walk ⟨[],H,I,.nil,h⟩
theorem RS {X:Cx}{pos:Pos}{k v:Expr}{ks:List (Option Expr)}{vs:List Expr}{tk tv:TE}{trs:List (TE×TE)} (hk:PE X k tk) (hv:PE X v tv) (hr:PPs X pos ks vs trs) :
  PPs X pos (some k::ks) (v::vs) ((tk,tv)::trs):=fun pins s σ H Q I h =>
 pairTrees_cons_walk (thn (hk pins s σ H _ I h) fun u s1 ⟨x,H1,I1,rx,q1⟩=>thn (hv pins s1 σ H1 _ I1 q1) fun w2 s2 ⟨y,H2,I2,ry,q2⟩ =>
  thn (hr pins s2 σ H2 _ I2 q2) fun ws s3 ⟨ps,H3,I3,rel,q3⟩=>⟨(x,y)::ps,H3,I3,.cons ⟨rx,ry⟩ rel,q3⟩)
def j6 (kvs more:List (Key×V)):List (Key×V):=more.foldl (fun acc kv=>bW acc kv.1 kv.2) kvs
theorem KV.merge:∀{more:List (Key×V)}{rs:List (Key×Value)}{kvs:List (Key×V)}{vs:List (Key×Value)},KV more rs->KV kvs vs->KV (j6 kvs more) (merged vs rs):=by
 intro more rs kvs vs r;unfold KV at r
 induction r generalizing kvs vs with
 | nil=>intro q;exact q
 | @cons p q ps qs h t ih =>
  intro r0;have e:KV (bW kvs p.1 p.2) (stored vs q.1 q.2):=by
   have:=r0.put p.1 h.2;rw[←h.1];exact this
  exact ih e
theorem tF:∀(more kvs:List (Key×V)),(j6 kvs more).length<=kvs.length+more.length
 | [],kvs=>by show kvs.length<=kvs.length+0;lia
 | p::r,kvs=>by
  have h1:=tF r (bW kvs p.1 p.2);have h2:=fR kvs p.1 p.2;show (j6 (bW kvs p.1 p.2) r).length<=_;rw[List.length_cons];lia
structure M2 (X:Cx)(o:Expr)(m:Str)(apos:Pos)(e f:Expr)(cpos:Pos):Prop where
 base:attributeBase o m X.env (eval o X.env)=eval o X.env
 few:((backTo cpos (starEach [e,f] X.env)).all (fun x=> !x.1)&&(backToKw cpos (keywordEach [] X.env)).all (fun x=>x.1.isSome)
  && decide (([e,f]:List Expr).length+([]:List Keyword).length+(if ([]:List Keyword).isEmpty then 0 else 1)<30))=true
 line:(apos.endLine==cpos.line)=true
 trees:backTo cpos (starEach [e,f] X.env)=[(false,eval e X.env),(false,eval f X.env)]
def IsD (H:Hp)(a:Addr):Prop:=(∃kvs,Rd H a (.dK kvs))∨∃kvs,Rd H a (.dT kvs)
theorem xW {X:Cx}{pins:List (Addr×Obj)}{σ:St}{H:Hp}{s:Shared}{a:Addr} (I:Inv X pins σ H s) (d:IsD H a) :
  s.TypeIs (.ref a) "dict" /\(∀b,Value.ref a= .ref b->∃ob,s.heap.get? b=some ob/\ob.dict=none)/\(a==sysModules)=false:=by
 rcases d with⟨kvs,e⟩|⟨kvs,e⟩
 ·obtain⟨_,hd,vs,_,dd⟩:=l9 I.hok e;refine⟨dd.typeIs,fun b q=> ?_,hd⟩;cases q;obtain⟨ob,_,_,h1,h2,_⟩:=dd;exact⟨ob,h1,h2.2.1⟩
 ·obtain⟨_,hd,xs,_,dd⟩:=sO I.hok e;refine⟨dd.typeIs,fun b q=> ?_,hd⟩;cases q;obtain⟨ob,_,_,h1,h2,_⟩:=dd;exact⟨ob,h1,h2.2.1⟩
section
variable {X:Cx}{pins:List (Addr×Obj)}{σ:St}{H:Hp}{s:Shared}{a:Addr}{y d:V}{u r:Value}{o:Option V}{A:Around}{E:Value->Shared->Prop}
theorem ZA {Q:Value->Shared->Prop}(hu:A.units+1<cLine)(I:Inv X pins σ H s)(g:DGet H a y o)(ry:RelV y u)(rd:RelV d r)(h:∀w' s',Inv X pins σ H s'->RelV (o.getD d) w'->Q w' s') :
  wpAny (model X.prog X.w) A (call (.builtin "dict.get") [.ref a,u,r]) Q E s:=by
 rcases g with⟨kvs,k,e,ey,l⟩|⟨kvs,k,b,e,ey,eb,l⟩
 ·subst ey;obtain⟨z,hd,vs,rel,dd⟩:=l9 I.hok e;refine call_meetsIn PySem.F.slot_dict_get dd.typeIs PySem.F.entry_dict_get (PySem.F.args_dict_get_3 _ _ _) (meets_dict_get_default (bL X.prog X.w) a (sF ry) hd r) ⟨_,dd.mapOf,h _ _ (I.tok _) ?_⟩;rw[l];exact(rel.val k).getD rd
 ·subst ey;cases (show u=Value.ref b from ry);obtain⟨z,hd,xs,rel,dd⟩:=sO I.hok e;refine call_meetsIn PySem.F.slot_dict_get dd.typeIs PySem.F.entry_dict_get (PySem.F.args_dict_get_3 _ _ _) (meetsH_dict_get_default (tupleKind (bL X.prog X.w)) a b hd r) ⟨tupleKind_room_in1 hu,k,xs,qV I.hok eb,dd,h _ _ (I.tok _) ?_⟩;rw[l];exact(rel.val k).getD rd
end
def NP (td ty tx:TE):TE:=fun σ H Q=>td σ H fun x H1=>∃a,x= .ref a/\IsD H1 a/\ty σ H1 fun y H2=>tx σ H2 fun z H3=>∃o,DGet H3 a y o/\Q (o.getD z) H3
section
variable {X:Cx}{o e f:Expr}{apos cpos:Pos}{td ty tx:TE}
theorem k8 (hu:X.A.units+1<cLine)(ho:PE X o td)(he:PE X e ty)(hf:PE X f tx)(m:M2 X o "get" apos e f cpos):PE X (.Call (.Attribute o "get" apos) [e,f] [] cpos) (NP td ty tx):=by
 intro pins s σ H Q I h;refine wpAny_Call_method m.base m.few m.line PySem.F.plainAttrs_dict PySem.F.slot_dict_get PySem.F.type_dict_get (thn (ho pins s σ H _ I h) fun u s1 ⟨x,H1,I1,rx,a,ex,d,q1⟩=> ?_);subst ex;obtain rfl:u=Value.ref a:=rx;obtain⟨t1,t2,_⟩:=xW I1 d;refine⟨t1,t2,?_⟩;rw[m.trees];refine Calls.callWith_builtin rfl (Calls.evalArgs_plain (Calls.spliced_cons (thn (he pins s1 σ H1 _ I1 q1) fun iv s2 ⟨y,H2,I2,ry,q2⟩ =>
  Calls.spliced_cons (thn (hf pins s2 σ H2 _ I2 q2) fun fv s3 ⟨z,H3,I3,rz,ov,g,q3⟩=>Calls.spliced_nil ?_))))
 exact ZA hu I3 g ry rz fun w' s4 I4 rw'=>⟨_,H3,I4,rw',q3⟩
end
section
variable {X:Cx}{pins:List (Addr×Obj)}{σ:St}{H:Hp}{s:Shared}{a:Addr}{kvs:List (Key×V)}{A:Around}{E:Value->Shared->Prop}
end
section
variable {X:Cx}{pins:List (Addr×Obj)}{σ:St}{H:Hp}{s:Shared}{a:Addr}{y:V}{u:Value}{A:Around}{E:Value->Shared->Prop}
end
end L2
namespace L2
open PySem PySem.Spec PyProof.Rows
section
variable {κ:Type}[DecidableEq κ]
theorem JE:∀{l:List κ}{k:κ},l.Nodup->¬k∈l->(l++[k]).Nodup
 | [],k,_,_=>by simp
 | a::r,k,h,hk=>by
  obtain⟨h1,h2⟩:=List.nodup_cons.mp h;show (a::(r++[k])).Nodup;refine List.nodup_cons.mpr ⟨fun m=> ?_,JE h2 fun m=>hk (List.mem_cons.mpr (Or.inr m))⟩;rcases List.mem_append.mp m with q|q
  ·exact h1 q
  ·exact hk (List.mem_cons.mpr (Or.inl (List.mem_singleton.mp q).symm))
end
end L2
namespace L2
open PySem PySem.W PyProof.Rows
def a9 {α:Type}(c:Nat->Nat->Bool):KasT α->α
 | .ret a=>a
 | .ask i j k=>a9 c (k (c i j))
def KasIn {α:Type}(n:Nat)(R:α->Prop):KasT α->Prop
 | .ret a=>R a
 | .ask i j k=>i<n/\j<n/\∀b,KasIn n R (k b)
theorem KasIn.bind {α β:Type}{n:Nat}{R:α->Prop}{S:β->Prop}{f:α->KasT β} (hf:∀a,R a->KasIn n S (f a)):∀{t:KasT α},KasIn n R t->KasIn n S (t.bind f)
 | .ret _,h=>hf _ h
 | .ask _ _ _,h=>⟨h.1,h.2.1,fun b=>KasIn.bind hf (h.2.2 b)⟩
theorem KasIn.val {α:Type}{n:Nat}{R:α->Prop} (c:Nat->Nat->Bool):∀{t:KasT α},KasIn n R t->R (a9 c t)
 | .ret _,h=>h
 | .ask i j k,h=>KasIn.val c (t:=k (c i j)) (h.2.2 (c i j))
theorem KasIn.wp {α:Type}{n:Nat}{R:α->Prop}{c:Nat->Nat->Bool}{cmp:Nat->Nat->(Bool->Shared->Prop)->Shared->Prop}{s:Shared} (hc:∀i j,i<n->j<n->∀C,C (c i j) s->cmp i j C s) {Q:α->Shared->Prop} :
  ∀{t:KasT α},KasIn n R t->Q (a9 c t) s->t.kasWp cmp Q s
 | .ret _,_,q=>q
 | .ask i j k,h,q=>hc i j h.1 h.2.1 _ (KasIn.wp hc (t:=k (c i j)) (h.2.2 (c i j)) q)
abbrev Places (n:Nat)(p:Array Nat):Prop:=p.Perm (List.range n).toArray
theorem Places.lt {n:Nat}{p:Array Nat} (h:Places n p) (h0:0<n) (i:Nat):p.getD i 0<n:=by
 by_cases hi:i<p.size
 ·have e:p.getD i 0=p[i]:=by simp[Array.getD,hi]
  rw[e];have:=h.mem_iff.mp (Array.getElem_mem hi)
  simpa using this
 ·have e:p.getD i 0=0:=by simp[Array.getD,hi]
  rw[e];exact h0
theorem kF {n:Nat}{p:Array Nat} (h:Places n p) (i j:Nat):Places n (kas_rev p i j):=(mirror_perm _ _ _ _).trans h
theorem FL {n:Nat}{p:Array Nat} (h0:0<n) (hp:Places n p):∀(f k:Nat),KasIn n (fun _=>True) (kas_asc p f k)
 | 0,_=>trivial
 | f+1,k=>⟨hp.lt h0 _,hp.lt h0 _,fun b=>by cases b with|true=>exact trivial|false=>exact FL h0 hp f (k+1)⟩
theorem vF {n:Nat}(h0:0<n):∀(f:Nat) {p:Array Nat},Places n p->∀k q,KasIn n (fun r:Array Nat×Nat×Nat=>Places n r.1) (kas_desc f p k q)
 | 0,_,hp,_,_=>hp
 | f+1,p,hp,k,q=>by
  refine⟨hp.lt h0 _,hp.lt h0 _,fun b=> ?_⟩;cases b with
  | true =>
   show KasIn n _ (if q>0 then _ else _)
   split
   ·exact vF h0 f (kF hp _ _) _ _
   ·exact vF h0 f hp _ _
  | false =>
   refine⟨hp.lt h0 _,hp.lt h0 _,fun b=> ?_⟩;cases b with
   | true=>exact hp
   | false=>exact vF h0 f hp _ _
theorem EH {n k m:Nat}{p:Array Nat} (h0:0<n) (hp:Places n p):KasIn n (fun r:Nat×Array Nat=>Places n r.2) (kas_tail3 k m p) :=
 KasIn.bind (R:=fun _=>True) (S:=fun r:Nat×Array Nat=>Places n r.2) (f:=fun j=> .ret (j,kas_rev p 0 k)) (fun _ _=>kF hp 0 k) (FL h0 (kF hp 0 k) (m - k) k)
theorem v3 {n k m:Nat}{p:Array Nat} (h0:0<n) (hp:Places n p):KasIn n (fun r:Nat×Array Nat=>Places n r.2) (kas_descPart k m p) :=
 KasIn.bind (fun r hr=>by
  split
  ·exact EH h0 (kF hr _ _)
  ·exact EH h0 hr) (vF h0 _ hp _ _)
theorem Q7 {n m:Nat}{p:Array Nat} (h0:0<n) (hp:Places n p):KasIn n (fun r:Nat×Array Nat=>Places n r.2) (kas_count m p) :=
 KasIn.bind (fun k _=>by
  split
  ·exact hp
  ·split
   ·refine⟨hp.lt h0 _,hp.lt h0 _,fun b=> ?_⟩;cases b with
    | true=>exact hp
    | false=>exact v3 h0 (kF hp _ _)
   ·exact v3 h0 hp) (FL h0 hp _ _)
theorem wH {n k:Nat}{p:Array Nat} (h0:0<n) (hp:Places n p):∀(f l r:Nat),KasIn n (fun _=>True) (kas_place p k f l r)
 | 0,_,_=>trivial
 | f+1,l,r=>by
  unfold kas_place
  split
  ·exact trivial
  ·refine⟨hp.lt h0 _,hp.lt h0 _,fun b=> ?_⟩;cases b with
   | true=>exact wH h0 hp f _ _
   | false=>exact wH h0 hp f _ _
theorem M6 {n:Nat}(h0:0<n):∀(f:Nat) {p:Array Nat} (k:Nat),Places n p->KasIn n (Places n) (kas_bin f p k)
 | 0,_,_,hp=>hp
 | f+1,_,k,hp=>KasIn.bind (fun _ _=>M6 h0 f (k+1) ((bubble_perm _ _ _).trans hp)) (wH h0 hp _ _ _)
theorem z9 {n:Nat}(h0:0<n):KasIn n (Places n) (kas_sort n) :=
 KasIn.bind (fun r hr=>by
  split
  ·exact M6 h0 _ _ hr
  ·exact hr) (Q7 h0 (Array.Perm.refl _))
def cQ {α:Type}(d:α)(c:Nat->Nat->Bool)(l:List α):List α:=if l.length<2 then l else (a9 c (kas_sort l.length)).toList.map fun i=>l.getD i d
theorem fQ {n:Nat}(c:Nat->Nat->Bool)(h:0<n):Places n (a9 c (kas_sort n)):=(z9 h).val c
theorem z5 {α:Type}(d:α)(c:Nat->Nat->Bool)(l:List α):(cQ d c l).length=l.length:=by
 unfold cQ
 split
 ·rfl
 ·have h:=(fQ (n:=l.length) c (by lia)).size_eq;rw[List.length_map,Array.length_toList,h];simp
end L2
namespace L2
open PySem PySem.W PyProof.Rows PySem.Calls
section
variable {prog:Program}{w:World}{A:Around}{E:Value->Shared->Prop}{s:Shared}
abbrev qX (a:Addr)(h h':Heap):Prop:=∀b o,b≠a->h.get? b=some o->h'.get? b=some o
theorem XS {a:Addr}{vs:List Value}{n:Nat}{P:PySem.Fin->Shared->Prop} (c:Nat->Nat->Bool) (κ:SortKind) (ho:s.heap.get? a=some (seqObj "list" vs.toArray n)) (h64:vs.length<64)
  (hk:2<=vs.length->∀h',qX a s.heap h'->∀R:SortKind->Shared->Prop,R κ { s with heap:=h' }->wpAny (model prog w) A (keyKind' vs.toArray) R (fun _ _=>False) { s with heap:=h' })
  (hc:2<=vs.length->∀h',qX a s.heap h'->∀i j,i<vs.length->j<vs.length->∀C,C (c i j) { s with heap:=h' }->kas_ask prog w A κ vs i j C { s with heap:=h' })
  (h:∀h' e,qX a s.heap h'->h'.get? a=some (seqObj "list" (cQ Value.none c vs).toArray e)->P (.done (.ret .none)) { s with heap:=h' }) :
  wpAny (model prog w) A (Builtin.«list.sort» ⟨[.ref a],[]⟩) P E s:=by
 have lt:a<s.heap.objs.size:=Heap.lt_size ho;generalize hg1:s.heap.update a (Obj.mapSeq fun _=>(#[]:Array Value))=g1;have sb1:Heap.SameBut a s.heap g1:=hg1▸Heap.SameBut.update s.heap a (Obj.mapSeq fun _=>(#[]:Array Value));obtain⟨e1,o1⟩:∃e1,g1.get? a=some (seqObj "list" #[] e1):=hg1▸⟨_,get?_update_seq ho fun _=> #[]⟩;have lt1:a<g1.objs.size:=Heap.lt_size o1;have kp:qX a s.heap ((g1.push (seqObj "tuple" vs.toArray 0)).push (seqObj "list" #[] 0)):=fun b o hb q =>
  Heap.get?_push_of_some _ (Heap.get?_push_of_some _ ((sb1.2 b hb).trans q))
 have o3:((g1.push (seqObj "tuple" vs.toArray 0)).push (seqObj "list" #[] 0)).get? a=some (seqObj "list" #[] e1):=Heap.get?_push_of_some _ (Heap.get?_push_of_some _ o1);generalize hg3:(g1.push (seqObj "tuple" vs.toArray 0)).push (seqObj "list" #[] 0)=g3 at kp o3;have fin:∀out:List Value,out.length=vs.length->out=cQ Value.none c vs->wpAny (model prog w) A (do
   let touched:=(←seqEpoch a) !=e1
   Builtin.List.listUpdate (.ref a) fun _=>out.toArray
   if let some e:=(none:Option Value) then rule "list.sort.comparison-raised";throw e
   if touched then rule "list.sort.modified";raiseError "ValueError" "list modified during sort"
   ret .none) P E { s with heap:=g3 }:=by
  intro out hl ho';obtain⟨e2,o4⟩:∃e2,(g3.update a (Obj.mapSeq fun _=>out.toArray)).get? a=some (seqObj "list" out.toArray e2):=⟨_,get?_update_seq o3 fun _=>out.toArray⟩
  refine wpAny_bind (seqEpoch_at (s:={ s with heap:=g3 }) o3 rfl ?_);refine wpAny_bind (listUpdate_at (s:={ s with heap:=g3 }) o3 rfl ?_ (Nat.zero_le _) (by rw[List.size_toArray,sizeLine_eq];lia));simp only[bne_self_eq_false,Bool.false_eq_true,if_false];refine wpAny_pure (h _ e2 (fun b o hb q=> ?_) (ho'▸o4));exact((Heap.SameBut.update g3 a (Obj.mapSeq fun _=>out.toArray)).2 b hb).trans (kp b o hb q)
 rw[list_sort_plain];refine wpAny_bind (listItems_at ho rfl (wpAny_bind (listUpdate_at ho rfl ?_ (by rw[List.size_toArray,sizeLine_eq];lia) (Nat.zero_le _))));rw[hg1];refine wpAny_bind (seqEpoch_at (s:={ s with heap:=g1 }) o1 rfl ?_);refine wpAny_bind (wpAny_newTuple ?_ (by show vs.length<=_;rw[sizeLine_eq];lia));refine wpAny_bind (wpAny_newList ?_ (Nat.zero_le _));refine wpAny_holding ?_;show wpAny (model prog w) A _ P E { s with heap:=(g1.push (seqObj "tuple" vs.toArray 0)).push (seqObj "list" #[] 0) };rw[hg3]
 dsimp only
 by_cases h2:vs.toArray.size<2
 ·rw[if_pos h2,if_pos h2];have h2':vs.length<2:=by rwa [List.size_toArray]at h2
  refine wpAny_bind (wpAny_pure ?_);rw[StateT.run_pure];refine wpAny_bind (wpAny_pure ?_)
  dsimp only
  have ez:(arrOf (SortSt.mk' general' (vs.toArray.zip vs.toArray) #[] 7 none)).map (·.2)=vs.toArray:=by
   show (vs.toArray.zip vs.toArray).map (·.2)=_
   apply Array.toList_inj.mp
   rw[Array.toList_map,Array.toList_zip,List.map_snd_zip];exact Nat.le_refl _
  rw[ez];exact fin vs rfl (by unfold cQ;rw[if_pos h2'])
 ·rw[if_neg h2,if_neg h2];have h2':2<=vs.length:=by rw[List.size_toArray]at h2;lia
  refine wpAny_bind (wpAny_mono (hk h2' _ kp (fun κ' s'=>κ'=κ/\s'={ s with heap:=g3 }) ⟨rfl,rfl⟩) ?_ fun _ _ x=>x.elim);rintro _ _ ⟨rfl,rfl⟩;refine wpAny_bind (wpAny_mono (kat_run (Q:=fun st' s'=>∃p:Array Nat,p=a9 c (kas_sort vs.length)/\arrOf st'=p.map (kas_item (vs.toArray.zip vs.toArray))/\failedOf st'=none/\s'={ s with heap:=g3 }) (G:=fun p s'=>p=a9 c (kas_sort vs.length)/\s'={ s with heap:=g3 })
   rfl h2' h64 (fun p st' s' _ a2 a3 a4=>⟨p,a4.1,a2,a3,a4.2⟩) ((z9 (by lia)).wp (hc h2' _ kp) ⟨rfl,rfl⟩)) ?_ fun _ _ e=>e)
  rintro ⟨⟨⟩,st'⟩ _ ⟨p,rfl,har,hf,rfl⟩
  dsimp only
  rw[kat_snds rfl har,hf];have hz:=(fQ (n:=vs.length) c (by lia)).size_eq;exact fin _ (by rw[List.length_map,Array.length_toList,hz];simp) (by unfold cQ;rw[if_neg (by lia)])
theorem MG {l:Addr}{vs:List Value}{Q:Value->Shared->Prop} (c:Nat->Nat->Bool) (κ:SortKind) (hl:s.heap.IsList l vs.toArray) (h64:vs.length<64)
  (hk:2<=vs.length->∀h',(∀b o,s.heap.get? b=some o->h'.get? b=some o)->∀R:SortKind->Shared->Prop,R κ { s with heap:=h' }->wpAny (model prog w) A.in1.in1 (keyKind' vs.toArray) R (fun _ _=>False) { s with heap:=h' })
  (hc:2<=vs.length->∀h',(∀b o,s.heap.get? b=some o->h'.get? b=some o)->∀i j,i<vs.length->j<vs.length->∀C,C (c i j) { s with heap:=h' }->kas_ask prog w A.in1.in1 κ vs i j C { s with heap:=h' })
  (h:∀D h' e,s.heap.objs.size<=D->(∀b o,s.heap.get? b=some o->h'.get? b=some o)->h'.get? D=some (seqObj "list" (cQ Value.none c vs).toArray e)->Q (.ref D) { s with heap:=h' }) :
  wpAny (model prog w) A (call (.builtin "sorted") [.ref l]) Q E s:=by
 have hz64:vs.length<=sizeLine:=by rw[sizeLine_eq];lia
 refine Calls.call_function_entry kind_sorted plain_sorted entry_sorted (args_sorted1 _) ?_;unfold Builtin.«sorted»;refine wpAny_bind (m:=checkCount "sorted" 1 1 _) (wpAny_pure (wpAny_bind (collect_list hl ?_ hz64)));refine wpAny_bind (wpAny_newList ?_ hz64);generalize hq:(s.heap.push (seqObj "list" #[] 0)).update s.heap.objs.size (Obj.mapSeq (·++vs.toArray))=q;have qs:q.objs.size=s.heap.objs.size+1:=by rw[←hq,Heap.size_update,size_push']
 have qk:∀b o,s.heap.get? b=some o->q.get? b=some o:=fun b o e=>by
  have bl:b<s.heap.objs.size:=Heap.lt_size e;rw[←hq,Heap.get?_update_ne _ _ _ _ (Nat.ne_of_lt bl),Heap.get?_push_ne _ _ _ (Nat.ne_of_lt bl)];exact e
 have oD:(q.push (seqObj "list" vs.toArray 0)).get? q.objs.size=some (seqObj "list" vs.toArray 0):=Heap.get?_push_size _ rfl;have kD:∀h',qX q.objs.size (q.push (seqObj "list" vs.toArray 0)) h'->∀b o,s.heap.get? b=some o->h'.get? b=some o:=fun h' k b o e =>
  k b o (Nat.ne_of_lt (by rw[qs];exact Nat.lt_succ_of_lt (Heap.lt_size e))) (Heap.get?_push_of_some _ (qk b o e))
 refine wpAny_bind (wpAny_holding (wpAny_call_entry slot_list_sort ⟨_,oD,rfl⟩ entry_list_sort ?body (args_list_sort _)))
 case body =>
  refine XS (s:={ s with heap:=q.push (seqObj "list" vs.toArray 0) }) c κ oD h64 (fun h2 h' k=>hk h2 h' (kD h' k)) (fun h2 h' k=>hc h2 h' (kD h' k)) fun h' e k o'=> ?_;exact⟨_,rfl,wpAny_pure ⟨_,rfl,h _ h' e (by show s.heap.objs.size<=q.objs.size;rw[qs];exact Nat.le_succ _) (kD h' k) o'⟩⟩
end
end L2
namespace L2
open PySem PySem.W PyProof.Rows
def dS:Key->Bool
 | .inl _=>true
 | .inr _=>false
def fT:Key->Key->Bool
 | .inl i,.inl j=>decide (i<j)
 | .inr x,.inr y=>decide (x.cps.toList<y.cps.toList)
 | _,_=>false
def fH:List Key->List Key->Bool
 | a::as,b::bs=>if a=b then fH as bs else fT a b
 | _,_=>false
section
variable {prog:Program}{w:World}{A:Around}{s:Shared}
theorem ZJ {a b:Key}{u v:Value}{Q:Bool->Shared->Prop}{E:Value->Shared->Prop} (k:dS a=dS b) (ru:RelV (kV a) u) (rv:RelV (kV b) v) (q:Q (decide (a=b)) s):wpAny (model prog w) A (eqBool u v) Q E s:=by
 cases a<;>cases b<;>first|(cases k;done)|skip
 ·obtain⟨t,rfl⟩:=ru;obtain⟨t',rfl⟩:=rv;refine wpAny_eqBool_int ?_;rename_i i j;have e:(i==j)=decide ((Sum.inl i:Key)=Sum.inl j):=by
   by_cases z:i=j
   ·subst z;simp
   ·rw[beq_false_of_ne z,decide_eq_false (fun y=>z (Sum.inl.inj y))]
  rw[e];exact q
 ·obtain⟨t,rfl⟩:=ru;obtain⟨t',rfl⟩:=rv;refine wpAny_eqBool_str ?_;rename_i i j;have e:decide (i=j)=decide ((Sum.inr i:Key)=Sum.inr j):=by
   by_cases z:i=j
   ·subst z;simp
   ·rw[decide_eq_false z,decide_eq_false (fun y=>z (Sum.inr.inj y))]
  rw[e];exact q
theorem aAb {a b:Key}{u v:Value}{Q:Bool->Shared->Prop}{E:Value->Shared->Prop} (k:dS a=dS b) (ru:RelV (kV a) u) (rv:RelV (kV b) v) (q:Q (fT a b) s) (t:Bool):wpAny (model prog w) A (oneLt' t u v) Q E s:=by
 cases a<;>cases b<;>first|(cases k;done)|skip
 ·obtain⟨t1,rfl⟩:=ru;obtain⟨t2,rfl⟩:=rv;cases t with
  | true=>exact oneLt_int q
  | false=>exact kat_one _ _ (lt_int q)
 ·obtain⟨t1,rfl⟩:=ru;obtain⟨t2,rfl⟩:=rv;cases t with
  | true=>exact oneLt_str q
  | false=>exact kat_one _ _ (lt_str q)
theorem MC {Q:Bool->Shared->Prop}:∀{as bs:List Key}{us vs:List Value} (i:Nat),as.map dS=bs.map dS->Vals (as.map kV) us->Vals (bs.map kV) vs->Q (fH as bs) s->KatLex prog w A true false Q (us.zip vs) i s
 | [],[],_,_,_,_,.nil,.nil,q=>kat_nil q
 | [],_::_,_,_,_,k,_,_,_=>by cases k
 | _::_,[],_,_,_,k,_,_,_=>by cases k
 | a::as,b::bs,_,_,i,k,.cons ra rs,.cons rb rt,q=>by
  have k1:dS a=dS b:=(List.cons.inj k).1;refine kat_cons (ZJ k1 ra rb ?_);have q':Q (if a=b then fH as bs else fT a b) s:=q
  by_cases z:a=b
  ·rw[if_pos z]at q';rw[decide_eq_true z];exact kat_yes (MC (i+1) (List.cons.inj k).2 rs rt q')
  ·rw[if_neg z]at q';rw[decide_eq_false z];exact kat_no (aAb k1 ra rb q' _)
end
abbrev KRows (H:Hp):List V->List (List Key)->Prop:=Paired fun v r=>∃p,v= .ref p/\H p=some (.tup (r.map kV))
theorem KRows.map {H H':Hp}(f:∀p xs,H p=some (.tup xs)->H' p=some (.tup xs)):∀{vs:List V}{rs:List (List Key)},KRows H vs rs->KRows H' vs rs
 | _,_,.nil=> .nil
 | _,_,.cons ⟨p,e,h⟩ r=> .cons ⟨p,e,f _ _ h⟩ (KRows.map f r)
theorem KRows.same {H H':Hp}{vs:List V}{rs:List (List Key)} (x:KRows H vs rs) (s:Same H H'):KRows H' vs rs:=x.map fun p xs h=>s _ _ h
theorem KRows.get {H:Hp}:∀{vs:List V}{rs:List (List Key)}{i:Nat}{v:V},KRows H vs rs->vs[i]? =some v->∃p r,v= .ref p/\rs[i]? =some r/\H p=some (.tup (r.map kV))
 | _,_,0,_,.cons ⟨p,e,h⟩ _,z=>by cases z;exact⟨p,_,e,rfl,h⟩
 | _,_,i+1,_,.cons _ t,z=>KRows.get (i:=i) t (by simpa using z)
 | _,_,_,_,.nil,z=>by simp at z
def p8 (rs:List (List Key))(i j:Nat):Bool:=fH (rs.getD i []) (rs.getD j [])
def LI (rs:List (List Key))(vs:List V):List V:=cQ .non (p8 rs) vs
section
variable {X:Cx}{pins:List (Addr×Obj)}{σ:St}{H:Hp}{s:Shared}
theorem z8 (I:Inv X pins σ H s){p:Addr}{r:List Key} (e:H p=some (.tup (r.map kV))):∃(o:Obj) (us:List Value) (n:Nat),s.heap.get? p=some o/\o.cls= .type "tuple" /\o.data= .seq us.toArray n/\Vals (r.map kV) us:=by
 obtain⟨_,its,r',o,h1,h2,n,h3⟩:=(show ObjOk X.prog X.w H s.heap p (.tup (r.map kV)) from I.hok p _ e)
 exact⟨o,its,n,h1,h2,h3,r'⟩
theorem BN (I:Inv X pins σ H s){sh:List Bool}{T:Value}{h':Heap} (kp:∀b o,s.heap.get? b=some o->h'.get? b=some o) (hT:∀(k:Key) (u:Value),sh.head? =some (dS k)->RelV (kV k) u->Looks (model X.prog X.w) h' (typeOf u) T) :
  ∀{vs:List V}{rs:List (List Key)}{us:List Value},KRows H vs rs->Vals vs us->(∀r∈rs,r.map dS=sh)->sh≠[]->∃fs,KatTups h' us fs/\fs.length=us.length/\∀v∈fs,Looks (model X.prog X.w) h' (typeOf v) T
 | _,_,_,.nil,.nil,_,_=>⟨[],trivial,rfl,fun _ z=>nomatch z⟩
 | _::_,r::_,_::_,.cons ⟨p,hv,e⟩ q,.cons rv rt,hs,hn=>by
  obtain⟨fs,f1,f2,f3⟩:=BN I kp hT q rt (fun r hr=>hs r (List.mem_cons_of_mem _ hr)) hn;subst hv;cases rv;have hr:=hs r (.head _);cases r with
  | nil=>exact absurd hr.symm hn
  | cons k ks =>
   obtain⟨o,us,n,o1,o2,o3,o4⟩:=z8 I e;cases o4 with
   | cons r1 r2 =>
    rename_i u us;refine⟨u::fs,KatTups.cons (kp _ _ o1) o2 o3 (by simp) f1,by simp[f2],fun v hv=> ?_⟩;rcases List.mem_cons.mp hv with rfl|hv
    ·exact hT k _ (by rw[←hr];rfl) r1
    ·exact f3 v hv
def IK (K:PySem.W.Frag):List V->Hp->VK->Prop:=fun xs H Q=>∃p vs rs sh,xs=[.ref p]/\SqL K H p vs/\KRows H vs rs/\vs.length<64/\(∀r∈rs,r.map dS=sh)/\sh≠[]/\∀l,H l=none->Q (.ref l) (upd H l (.lst (LI rs vs)))
theorem EB {xs:List V}{us:List Value} (c:Nat->Nat->Bool) (r:Vals xs us):Vals (cQ .non c xs) (cQ Value.none c us):=by
 have hl:=r.length;unfold cQ;rw[hl]
 split
 ·exact r
 ·have hp:=fQ (n:=us.length) c (by lia);have hm:∀i∈(a9 c (kas_sort us.length)).toList,i<us.length:=fun i hi=>by
   have h:=hp.mem_iff.mp (Array.mem_toList_iff.mp hi)
   simpa using h
  revert hm;generalize (a9 c (kas_sort us.length)).toList=l;intro hm
  induction l with
  | nil=>exact .nil
  | cons i l ih =>
   refine .cons ?_ (ih fun j hj=>hm j (List.mem_cons_of_mem _ hj));have hi:=hm i (.head _);have hx:xs[i]? =some (xs[i]'(by lia)):=List.getElem?_eq_getElem _;obtain⟨u,hu,ru⟩:=r.get hx;show RelV (xs.getD i .non) (us.getD i Value.none);rw[List.getD_eq_getElem?_getD,List.getD_eq_getElem?_getD,hx,hu];exact ru
theorem tP:c6 X (.builtin "sorted") (IK X.K):=by
 intro pins s σ H xs us Q I r h;obtain⟨p,vs,rs,sh,rfl,hq,kr,h64,hs,hn,q⟩:=h;obtain⟨u,rfl,rx⟩:=nM r;cases rx;obtain⟨its,rv,pl,hz⟩:=I.list hq;have hl:=rv.length;have hT:∃T:Value,(T==T)=true/\(T !=Value.type "tuple")=true/\∀(h':Heap) (k:Key) (u:Value),sh.head? =some (dS k)->RelV (kV k) u->Looks (model X.prog X.w) h' (typeOf u) T:=by
  cases sh with
  | nil=>exact absurd rfl hn
  | cons b sh =>
   cases b with
   | true =>
    refine⟨.type "int",rfl,by decide,fun h' k u hk ru=> ?_⟩;cases k with
    | inl i=>obtain⟨t,rfl⟩:=ru;exact Looks.of_pure rfl
    | inr x=>cases hk
   | false =>
    refine⟨.type "str",rfl,by decide,fun h' k u hk ru=> ?_⟩;cases k with
    | inl i=>cases hk
    | inr x=>obtain⟨t,rfl⟩:=ru;exact Looks.of_pure rfl
 obtain⟨T,t1,t2,t3⟩:=hT;refine MG (p8 rs) (tuples' true) pl.isList (by lia) (fun h2 h' kp R hR=> ?_) (fun h2 h' kp i j hi hj C hC=> ?_) fun D h' e hD kp o'=> ?_
 ·obtain⟨fs,f1,f2,f3⟩:=BN I kp (fun k u=>t3 h' k u) kr rv hs hn;refine kat_kind (s:={ s with heap:=h' }) f1 (by lia) f3 t1 ?_;rw[t2];exact hR
 ·obtain⟨p1,r1,x1,y1,z1⟩:=kr.get (i:=i) (List.getElem?_eq_getElem (by lia));obtain⟨p2,r2,x2,y2,z2⟩:=kr.get (i:=j) (List.getElem?_eq_getElem (by lia));obtain⟨u1,v1,w1⟩:=rv.get (List.getElem?_eq_getElem (show i<vs.length by lia));obtain⟨u2,v2,w2⟩:=rv.get (List.getElem?_eq_getElem (show j<vs.length by lia));rw[x1]at w1;rw[x2]at w2;cases w1;cases w2;obtain⟨o1,us1,n1,g1,c1,d1,l1⟩:=z8 I z1;obtain⟨o2,us2,n2,g2,c2,d2,l2⟩:=z8 I z2;have s1:=hs r1 (List.mem_of_getElem? y1);have s2:=hs r2 (List.mem_of_getElem? y2);have e1:=l1.length;have e2:=l2.length;rw[List.length_map]at e1 e2;have e3:r1.length=r2.length:=by rw[←List.length_map (f:=dS),s1,←s2,List.length_map]
  unfold kas_ask;rw[List.getD_eq_getElem?_getD,List.getD_eq_getElem?_getD,v1,v2];refine kat_lt (s:={ s with heap:=h' }) (kp _ _ g1) d1 (kp _ _ g2) d2 ?_;rw[show decide (us1.toArray.size<us2.toArray.size)=false from decide_eq_false (by rw[List.size_toArray,List.size_toArray];lia)];refine MC 0 (s1.trans s2.symm) l1 l2 ?_;have ec:p8 rs i j=fH r1 r2:=by
   unfold p8;rw[List.getD_eq_getElem?_getD,List.getD_eq_getElem?_getD,y1,y2];rfl
  rw[ec]at hC;exact hC
 ·exact⟨.ref D,_,I.laid (t':=s.toks) kp hD (show ObjOk X.prog X.w _ h' _ (.lst _) from⟨by rw[z5];exact hz,_,e,EB _ rv,o'⟩),rfl,q _ (I.hok.fresh hD)⟩
end
end L2
namespace L2
open PySem PySem.W PyProof.Rows
section
variable {prog:Program}{w:World}{A:Around}{E:Value->Shared->Prop}{s:Shared}{d it:Addr}{o:Obj}{es:Array DictEntry}{ep i:Nat}
theorem wO {Q:Value->Shared->Prop}(hd:(d==sysModules)=false)(ho:s.heap.get? d=some o)(hc:o.ExactDict)(hq:o.data= .dict es ep)
  (k:Q (.ref s.heap.objs.size) { s with heap:=s.heap.push { cls:= .type "dict_keyiterator",data:= .fields #[.ref d,.int 0 0,.int es.size 0,.int ep 0] } }):wpAny (model prog w) A (pyIter (.ref d)) Q E s:=by
 have T:s.TypeIs (.ref d) "dict" :=⟨o,ho,hc.1⟩
 refine wpAny_pyIter_slot T F.slot_dict_iter (wpAny_call_entry F.slot_dict_iter T F.entry_dict_iter ?_ (F.args_dict_iter_1 _));unfold Builtin.«dict.__iter__» Builtin.Dict.dictSlotNone;refine wpAny_bind (wpAny_bind (wpAny_notOrdered_dict T (wpAny_pure ?_)));show wpAny _ A.in1 (Builtin.Dict.showsAll d >>= _) _ _ s;unfold Builtin.Dict.showsAll;rw[if_neg (fun z=>by rw[hd]at z;cases z)];refine wpAny_bind (wpAny_pure (wpAny_bind (wpAny_dictEntries ho hq (wpAny_bind (wpAny_dictEpoch ho hq ?_)))));exact wpAny_bind (wpAny_newObj_type (wpAny_pure ⟨_,rfl,"dict_keyiterator",_,⟨_,Heap.get?_push_size _ rfl,rfl⟩,F.slot_dict_keyiterator_next.lookup,k⟩))
theorem E3 {Q:Option Value->Shared->Prop}{e:DictEntry} (hit:s.heap.IsKeyIter it d i es.size ep) (ho:s.heap.get? d=some o) (hq:o.data= .dict es ep) (hx:es[i]? =some e)
  (k:∀h',h'.IsKeyIter it d (i+1) es.size ep->Heap.SameBut it s.heap h'->Q (some e.key) { s with heap:=h' }):wpAny (model prog w) A (pyNext (.ref it)) Q E s:=by
 obtain⟨oi,hi,ci,di⟩:=id hit;have T:=hit.typeIs;unfold pyNext;refine wpAny_bind (wpAny_attempt (wpAny_callSpecial?_slot (name:=Str.ofString "__next__") T F.slot_dict_keyiterator_next (wpAny_call_entry F.slot_dict_keyiterator_next T F.entry_dict_keyiterator_next ?_ (F.args_dict_keyiterator_next_1 _))));refine wpAny_bind (wpAny_pure (wpAny_bind (wpAny_bind ?_)))
 first|refine wpAny_bind (wpAny_typeNameOfWhole_keyiter T (wpAny_pure (wpAny_bind (wpAny_fieldsOf hi di ?_))))|refine wpAny_bind (wpAny_typeNameOf_keyiter T (wpAny_pure (wpAny_bind (wpAny_fieldsOf hi di ?_))))
 simp only[show Builtin.Dict_items.ownsTuple "dict_keyiterator" =false by decide,Bool.false_eq_true,if_false];show wpAny _ A.in1 (if (Value.ref d==Value.none)=true then _ else _) _ _ s;rw[if_neg (show ¬(Value.ref d==Value.none)=true from Bool.false_ne_true)];refine wpAny_bind (wpAny_pure (wpAny_bind (wpAny_dictEntries ho hq ?_)));rw[if_neg (by simp)];refine wpAny_bind (wpAny_pure (wpAny_bind (wpAny_dictEpoch ho hq ?_)));rw[if_neg (by simp)];refine wpAny_pure ?_;simp only[show ¬((i:Int)<0) from by lia,if_false,Int.toNat_natCast,hx];refine wpAny_bind ?_
 first|refine wpAny_bind (wpAny_typeNameOfWhole_keyiter T (wpAny_pure (wpAny_bind (wpAny_isOneOf_keyiter T ?_))))|refine wpAny_bind (wpAny_typeNameOf_keyiter T (wpAny_pure (wpAny_bind (wpAny_isOneOf_keyiter T ?_))))
 show wpAny _ A.in1 (setField (.ref it) 1 (rawInt ((i:Int)+1)) >>= _) _ _ s;refine wpAny_bind (wpAny_setField hi di (by simp) ?_);have H2:(s.heap.update it (Obj.mapFields (·.setIfInBounds 1 (rawInt ((i:Int)+1))))).IsKeyIter it d (i+1) es.size ep :=
  ⟨_,Heap.get?_update_self _ hi (Obj.isFreed_of_fields (Obj.data_mapFields di _)),(Obj.cls_mapFields ..).trans ci,(Obj.data_mapFields di _).trans (by simp[rawInt])⟩
 refine wpAny_bind (wpAny_holding (wpAny_bind (wpAny_isOneOf_keyiter (s:={ s with heap:=s.heap.update it (Obj.mapFields (·.setIfInBounds 1 (rawInt ((i:Int)+1)))) }) H2.typeIs ?_)));show wpAny _ A.in1 (pure e.key) _ _ _;exact wpAny_pure (wpAny_pure ⟨_,rfl,wpAny_pure (k _ H2 (Heap.SameBut.update ..))⟩)
theorem JC {Q:Option Value->Shared->Prop}(hh:A.handled=none)(hit:s.heap.IsKeyIter it d i es.size ep)(ho:s.heap.get? d=some o)(hq:o.data= .dict es ep)(hx:es.size<=i)
  (k:∀h',Heap.ExtBut it s.heap h'->Q none { s with heap:=h' }):wpAny (model prog w) A (pyNext (.ref it)) Q E s:=by
 obtain⟨oi,hi,ci,di⟩:=id hit;have T:=hit.typeIs;unfold pyNext;refine wpAny_bind (wpAny_attempt (wpAny_callSpecial?_slot (name:=Str.ofString "__next__") T F.slot_dict_keyiterator_next (wpAny_call_entry F.slot_dict_keyiterator_next T F.entry_dict_keyiterator_next ?_ (F.args_dict_keyiterator_next_1 _))));refine wpAny_bind (wpAny_pure (wpAny_bind (wpAny_bind ?_)))
 first|refine wpAny_bind (wpAny_typeNameOfWhole_keyiter T (wpAny_pure (wpAny_bind (wpAny_fieldsOf hi di ?_))))|refine wpAny_bind (wpAny_typeNameOf_keyiter T (wpAny_pure (wpAny_bind (wpAny_fieldsOf hi di ?_))))
 simp only[show Builtin.Dict_items.ownsTuple "dict_keyiterator" =false by decide,Bool.false_eq_true,if_false];show wpAny _ A.in1 (if (Value.ref d==Value.none)=true then _ else _) _ _ s;rw[if_neg (show ¬(Value.ref d==Value.none)=true from Bool.false_ne_true)];refine wpAny_bind (wpAny_pure (wpAny_bind (wpAny_dictEntries ho hq ?_)));rw[if_neg (by simp)];refine wpAny_bind (wpAny_pure (wpAny_bind (wpAny_dictEpoch ho hq ?_)));rw[if_neg (by simp)];refine wpAny_pure ?_;simp only[show ¬((i:Int)<0) from by lia,if_false,Int.toNat_natCast,Array.getElem?_eq_none hx];refine wpAny_bind ?_
 first|refine wpAny_bind (wpAny_typeNameOfWhole_keyiter T (wpAny_pure ?_))|refine wpAny_bind (wpAny_typeNameOf_keyiter T (wpAny_pure ?_))
 show wpAny _ A.in1 (setField (.ref it) 0 .none >>= _) _ _ s;refine wpAny_bind (wpAny_setField hi di (by simp) ?_);show wpAny _ A.in1 (newExc (.type "StopIteration") [] >>= _) _ _ _;refine wpAny_bind ?_;simp only[newExc,newTuple];refine wpAny_bind (wpAny_newObj_type (wpAny_bind (m:=firstArgMember _ _) (wpAny_of_eq (a:=Value.none) (by first|rfl|(simp only[firstArgMember];rfl)) (wpAny_newObj_type ?_ (by size_fits)))) (by size_fits));simp only[raiseNew];refine wpAny_bind (wpAny_handled ?_);rw[show A.in1.handled=none from hh];refine wpAny_bind (wpAny_pure (wpAny_throw ?_));refine wpAny_bind (wpAny_isInstance (b:=true) (T:= "StopIteration") ⟨_,Heap.get?_push_size _ rfl,rfl⟩ isSubtype_stop ?_);exact wpAny_pure (k _ (((Heap.SameBut.update ..).extBut.push _).push _))
end
end L2
namespace L2
open PySem PySem.W PyProof.Rows
def Itk (a:Addr)(o:Obj)(kvs:List (Key×V)):It :=
 ⟨fun i H=>H a=some (.frz o (.dK kvs))/\i<kvs.length,fun i H x H'=>H'=H/\∃k v,kvs[i]? =some (k,v)/\x=kV k,fun i H=>H a=some (.frz o (.dK kvs))/\kvs.length<=i⟩
def Itq (a:Addr)(o:Obj)(kvs:List (List Key×V)):It :=
 ⟨fun i H=>H a=some (.frz o (.dT kvs))/\i<kvs.length,fun i H x H'=>H'=H/\∃k v q,kvs[i]? =some (k,v)/\x= .ref q/\H q=some (.tup (k.map kV)),fun i H=>H a=some (.frz o (.dT kvs))/\kvs.length<=i⟩
theorem KT.get {H:Hp}:∀{kvs:List (List Key×V)}{xs:List (List Key×Addr×Value)}{i:Nat},KT H kvs xs->i<kvs.length->∃k v b u,kvs[i]? =some (k,v)/\xs[i]? =some (k,b,u)/\H b=some (.tup (k.map kV))
 | _,_,0,.cons h _,_=>⟨_,_,_,_,rfl,by rw[h.1];rfl,h.2.1⟩
 | _,_,i+1,.cons _ t,hi=>by
  obtain⟨k,v,b,u,e1,e2,e3⟩:=KT.get (i:=i) t (by simpa using hi);exact⟨k,v,b,u,by simpa using e1,by simpa using e2,e3⟩
 | _,_,_,.nil,hi=>by simp at hi
theorem KT.len {H:Hp}{kvs:List (List Key×V)}{xs:List (List Key×Addr×Value)} (r:KT H kvs xs):kvs.length=xs.length:=Paired.length r
theorem JY {P:Program}{w:World}{K:PySem.W.Frag}{tg:Expr} (a it:Addr) {o:Obj}{es:Array DictEntry}{ep:Nat} (kvs:List (List Key×V)) (hd:o.data= .dict es ep) (hz:es.size=kvs.length) :
  qD P w K tg (Itq a o kvs) [it] it (fun i h=>h.IsKeyIter it a i es.size ep) where
 mem:=by simp
 obj:=fun i h st b hb=>by
  have e:b=it:=by simpa using hb
  subst e;obtain⟨ob,e,c,d⟩:=st;exact⟨ob,e,fun v z=>by rw[d]at z;cases z⟩
 keep:=fun i h h' st k=>st.at fun ob e=>k it (by simp) ob e
 item:=by
  intro X hP hw hK hc i pins s σ H E I hf st hg;subst hP hw hK;obtain⟨ha,hi⟩:=hg;obtain⟨ho,hok⟩:=(show ObjOk X.prog X.w H s.heap a (.frz o (.dT kvs)) from I.hok a _ ha)
  obtain⟨z,y,xs,r,o',es',ep',h1,h2,h3,h4,h5⟩:=hok;rw[ho]at h1;cases h1;rw[hd]at h3;cases h3;obtain⟨k,v,b,u,e1,e2,e3⟩:=KT.get r hi;have e4:=entry_at h4 i;rw[e2]at e4;obtain⟨f0,f1,f2,f3,f4,f5⟩:=hf it (by simp);refine E3 st ho hd e4 fun h' st' sb=> ?_;have I1:Inv X pins σ H { s with heap:=h' }:=I.turned (t':=s.toks) (fun b o hb e=>(sb.2 b hb).trans e) f0 f1 f3 f4 f5;exact⟨_,rfl,letGo_keyiter (s':={ s with heap:=h' }) st' ⟨.ref b,H,I1,rfl,⟨rfl,k,v,b,e1,rfl,e3⟩,st',fun b hb=>(hf b hb).1⟩⟩
 done:=by
  intro X hP hw hK hc i pins s σ H E I hf st hg;subst hP hw hK;obtain⟨ha,hi⟩:=hg;obtain⟨ho,hok⟩:=(show ObjOk X.prog X.w H s.heap a (.frz o (.dT kvs)) from I.hok a _ ha)
  obtain⟨f0,f1,f2,f3,f4,f5⟩:=hf it (by simp);exact JC (I.ok.hd hc) st ho hd (by lia) fun h' eb=>⟨rfl,I.turned (t':=s.toks) (fun b o hb e=>eb b o hb e) f0 f1 f3 f4 f5⟩
 self:=fun _ _ _ _ _ st h=>wpAny_pyIter_keyiter st h
def O4 (td:TE):TI:=fun σ H R=>td σ H fun x H1=>∃a kvs,x= .ref a/\H1 a=some (.dT kvs)/\∀o,R (Itq a o kvs) (upd H1 a (.frz o (.dT kvs)))
section
variable {X:Cx}{tg:Expr}
theorem Inv.freeze {pins:List (Addr×Obj)}{σ:St}{H:Hp}{s:Shared}{a:Addr}{u:HO}{o:Obj} (I:Inv X pins σ H s) (mu:Mut (some u)) (e:H a=some u) (ho:s.heap.get? a=some o) (new:ObjOk X.prog X.w (upd H a (.frz o u)) s.heap a (.frz o u)):Inv X pins σ (upd H a (.frz o u)) s :=
 I.write (t':=s.toks) (h':=s.heap) (by rw[e];exact mu) (.inl rfl) (fun b u _ z=>z) ⟨_,ho⟩ new
theorem QM {l:Expr}{td:TE} (hl:PE X l td):PI X tg l (O4 td):=by
 intro pins s σ H R I h;refine thn (hl pins s σ H _ I h) fun v s1 ⟨x,H1,I1,r1,q1⟩=> ?_;obtain⟨a,kvs,rfl,hq,q⟩:=q1;cases r1;obtain⟨z,y,xs,r,o,es,ep,h1,h2,h3,h4,h5⟩:=(show ObjOk X.prog X.w H1 s1.heap a (.dT kvs) from I1.hok a _ hq)
 have hz:es.size=kvs.length:=by rw[size_of_entries h4,KT.len r]
 have hne:∀b ys,H1 b=some (.tup ys)->upd H1 a (.frz o (.dT kvs)) b=some (.tup ys):=fun b ys e=>by
  have hb:b≠a:=fun z=>by rw[z,hq]at e;cases e
  rw[aP hb];exact e
 have new:ObjOk X.prog X.w (upd H1 a (.frz o (.dT kvs))) s1.heap a (.frz o (.dT kvs)):=⟨h1,z,y,xs,KT.keeps r hne,o,es,ep,h1,h2,h3,h4,h5⟩
 have I2:Inv X pins σ (upd H1 a (.frz o (.dT kvs))) s1:=I1.freeze trivial hq h1 new;refine wO y h1 h2 h3 ?_;refine⟨s1.heap.objs.size,[s1.heap.objs.size],_,_,upd H1 a (.frz o (.dT kvs)),rfl,I2.kept (t':=s1.toks) fun b o e=>Heap.get?_push_of_some _ e,JY a _ kvs h3 hz,⟨_,Heap.get?_push_size _ rfl,rfl,rfl⟩,fun b hb=> ?_,q o⟩;have e:b=s1.heap.objs.size:=by simpa using hb
 subst e;exact I2.fpOk (Nat.le_refl _) (I2.hok.fresh (Nat.le_refl _))
end
end L2
namespace L2
open PySem PySem.W PyProof.Rows
section
variable {X:Cx}{e c:Expr}{te:TE}{lo hi:Option Expr}{tl th ts:TO}{pos p2:Pos}
end
section
variable {X:Cx}
end
section
variable {X:Cx}{pins:List (Addr×Obj)}{σ:St}{H:Hp}{s:Shared}
end
section
variable {X:Cx}
end
end L2
namespace L2
open PySem PySem.W PyProof.Rows
section
variable {K:PySem.W.Frag}{ti:TT}{te:TE}{σ:St}{ci:List Nat}{rest:St}{fin:List V->Hp->Prop}{H:Hp}{a:Addr}
end
end L2
namespace L2
open PySem PySem.W PyProof.Rows
theorem BP:bootBuiltins "sorted" =some (.builtin "sorted"):=by decide +kernel
theorem Room.units1 {k:Nat}{A:Around} (r:Room k A):A.units+1<cLine:=by have:=r.un;lia
section
variable {K:PySem.W.Frag}{H:Hp}{Q:VK}
end
section
variable {H:Hp}{Q:VK}{σ:St}
theorem RJ (h:∀p H',H p=none->Same H H'->H' p=some (.dT [])->Q (.ref p) H'):M4 σ H Q:=gU h
theorem wV {κ:Type}[DecidableEq κ]{kvs:List (κ×V)}{k:κ}{v:V}{e:κ×V} (h:e∈bW kvs k v):e∈kvs∨e.1=k/\e.2=v:=by
 unfold bW at h
 split at h
 ·obtain⟨p,hp,e1⟩:=List.mem_map.mp h
  by_cases z:p.1=k
  ·rw[if_pos z]at e1;subst e1;exact .inr ⟨z,rfl⟩
  ·rw[if_neg z]at e1;subst e1;exact .inl hp
 ·rcases List.mem_append.mp h with h|h
  ·exact .inl h
  ·cases List.mem_singleton.mp h;exact .inr ⟨rfl,rfl⟩
end
end L2
namespace L2
open PySem PySem.W PyProof.Rows
section
variable {X:Cx}{K:PySem.W.Frag}
theorem gS {es:List Expr}{k:Nat}{t:TGs}{n:Nat}{pos:Pos} (hc:X.calm=true) (h:PGs X es t) (hK:X.K=K:=by rfl)
  (hn:(assignEach es X.env).length=n:=by rfl)(hst:(assignEach es X.env).findIdx? (·.1)=none:=by rfl):PG X (.Tuple es k pos) (tL K n t):=by
 subst hK;exact mK hc h hn hst
theorem gE (hK:X.K=K:=by rfl):IxR X (aAe K):=by
 subst hK;exact GB
end
def JT (nx:St->Hp->Prop)(σ:St)(x v:V):VK:=fun y H3=>∃a H4,x= .ref a/\DPut H3 a y v H4/\nx σ H4
def LB (Q:VK)(x:V):VK:=fun y H2=>∃a v,x= .ref a/\DGet H2 a y (some v)/\Q v H2
def UA (R:It->Hp->Prop):VK:=fun x H1=>∃a kvs,x= .ref a/\H1 a=some (.dT kvs)/\∀o,R (Itq a o kvs) (upd H1 a (.frz o (.dT kvs)))
section
variable {K:PySem.W.Frag}{H:Hp}{Q:VK}{σ:St}{nx rt bk ct:St->Hp->Prop}
theorem XD {td ty tv:TE}{nx:St->Hp->Prop}{rt:VK}{bk ct:St->Hp->Prop} (h:tv σ H fun v H1=>td σ H1 fun x H2=>ty σ H2 (JT nx σ x v)):UE td ty tv ⟨nx,rt,bk,ct⟩ σ H:=h
theorem oI {p b:Addr}{v:V}{kvs:List (List Key×V)} (k:List Key) (e:H p=some (.dT kvs)) (eb:H b=some (.tup (k.map kV))) (hl:kvs.length<sizeLine)
  (h:∀H',SameBut p H H'->H' p=some (.dT (bW kvs k v))->nx σ H'):JT nx σ (.ref p) v (.ref b) H :=
 ⟨p,_,rfl,DPut.t e eb hl,h _ SameBut.upd bC⟩
theorem WJ {td ty:TE}(h:td σ H fun x H1=>ty σ H1 (LB Q x)):UJ td ty σ H Q:=h
theorem rU {p b:Addr}{v:V}{kvs:List (List Key×V)} (k:List Key) (e:Rd H p (.dT kvs)) (eb:H b=some (.tup (k.map kV))) (hv:bA kvs k=some v) (h:Q v H):LB Q (.ref p) (.ref b) H :=
 ⟨p,v,rfl,.inr ⟨kvs,k,b,e,rfl,eb,hv.symm⟩,h⟩
theorem RW {td:TE}{R:It->Hp->Prop} (h:td σ H (UA R)):O4 td σ H R:=h
theorem P5 {p:Addr}{kvs:List (List Key×V)}{R:It->Hp->Prop} (e:H p=some (.dT kvs)) (h:∀o H',SameBut p H H'->H' p=some (.frz o (.dT kvs))->R (Itq p o kvs) H'):UA R (.ref p) H :=
 ⟨p,kvs,rfl,e,fun o=>h o _ SameBut.upd bC⟩
theorem ER {p:Addr}{xs:List V}{i:Int} (e:SqL K H p xs) (h0:0<=i) (h1:i<xs.length) (h:∀v∈xs,Q v H):EK K (.ref p) (.int i) H Q:=by
 have hl:i.toNat<xs.length:=by lia
 have e1:=u7 (xs:=xs) (j:=i.toNat) (v:=xs[i.toNat]) (List.getElem?_eq_getElem hl);rw[show ((i.toNat:Nat):Int)=i by lia]at e1;exact⟨p,xs,i,_,rfl,rfl,e,e1,h _ (List.getElem_mem hl)⟩
end
end L2
namespace L2
open PySem PySem.W PyProof.Rows
theorem kS:entryFor table "dict_itemiterator.__iter__" =some Builtin.«dict_keyiterator.__iter__»:=entryFor_alias (id':= "dict_keyiterator.__iter__") (by kernel_rfl) rfl (by decide +kernel) (by kernel_rfl)
theorem zJ {P:Program}{w:World}{k:Key}{u:Value} (h:(bL P w).is k u=true):RelV (kV k) u:=by
 rcases c7 h with⟨i,t,rfl,rfl⟩|⟨x,t,rfl,rfl⟩
 ·exact⟨t,rfl⟩
 ·exact⟨t,rfl⟩
theorem yG {κ:Type}{kvs:List (κ×V)}{vs:List (κ×Value)}{i:Nat} (h:KV kvs vs) (hi:i<kvs.length):∃k v u,kvs[i]? =some (k,v)/\vs[i]? =some (k,u)/\RelV v u:=by
 induction h generalizing i with
 | nil=>exact absurd hi (Nat.not_lt_zero _)
 | @cons x y l m h t ih =>
  cases i with
  | zero=>exact⟨x.1,x.2,y.2,rfl,by rw[h.1];rfl,h.2⟩
  | succ i=>exact ih (Nat.lt_of_succ_lt_succ hi)
theorem BS {P:Program}{w:World}{κ:Type} [DecidableEq κ] {knd:KeyKind P w κ}:∀{es:List DictEntry}{kvs:List (κ×Value)}{i:Nat}{k:κ}{u:Value},Pairs knd es kvs->kvs[i]? =some (k,u)->∃e,es[i]? =some e/\knd.is k e.key=true/\e.val=u
 | _,_,0,_,_,.cons h1 h2 _,z=>by cases z;exact⟨_,rfl,h1,h2⟩
 | _,_,i+1,_,_,.cons _ _ t,z=>by
  obtain⟨e,e1,e2⟩:=BS (i:=i) t (by simpa using z);exact⟨e,by simpa using e1,e2⟩
 | _,_,_,_,_,.nil,z=>by simp at z
theorem J5 {P:Program}{w:World}{K:PySem.W.Frag}{tg:Expr} (a it:Addr) {o:Obj}{es:Array DictEntry}{ep:Nat} (kvs:List (Key×V)) (hd:o.data= .dict es ep) (hz:es.size=kvs.length) :
  qD P w K tg (Itk a o kvs) [it] it (fun i h=>h.IsKeyIter it a i es.size ep) where
 mem:=by simp
 obj:=fun i h st b hb=>by
  have e:b=it:=by simpa using hb
  subst e;obtain⟨ob,e,c,d⟩:=st;exact⟨ob,e,fun v z=>by rw[d]at z;cases z⟩
 keep:=fun i h h' st k=>st.at fun ob e=>k it (by simp) ob e
 item:=by
  intro X hP hw hK hc i pins s σ H E I hf st hg;subst hP hw hK;obtain⟨ha,hi⟩:=hg;obtain⟨ho,z,y,vs,r,o',es',ep',h1,h2,h3,h4,h5,h6⟩:=(show ObjOk X.prog X.w H s.heap a (.frz o (.dK kvs)) from I.hok a _ ha)
  rw[ho]at h1;cases h1;rw[hd]at h3;cases h3;obtain⟨k,v,u,e1,e2,e3⟩:=yG r hi;obtain⟨e,f6,f7,f8⟩:=BS h5 e2;obtain⟨f0,f1,f2,f3,f4,f5⟩:=hf it (by simp);refine E3 st ho hd (e:=e) (by simpa using f6) fun h' st' sb=> ?_;have I1:Inv X pins σ H { s with heap:=h' }:=I.turned (t':=s.toks) (fun b o hb e=>(sb.2 b hb).trans e) f0 f1 f3 f4 f5;exact⟨_,rfl,letGo_keyiter (s':={ s with heap:=h' }) st' ⟨kV k,H,I1,zJ f7,⟨rfl,k,v,e1,rfl⟩,st',fun b hb=>(hf b hb).1⟩⟩
 done:=by
  intro X hP hw hK hc i pins s σ H E I hf st hg;subst hP hw hK;obtain⟨ha,hi⟩:=hg;obtain⟨ho,hok⟩:=(show ObjOk X.prog X.w H s.heap a (.frz o (.dK kvs)) from I.hok a _ ha)
  obtain⟨f0,f1,f2,f3,f4,f5⟩:=hf it (by simp);exact JC (I.ok.hd hc) st ho hd (by lia) fun h' eb=>⟨rfl,I.turned (t':=s.toks) (fun b o hb e=>eb b o hb e) f0 f1 f3 f4 f5⟩
 self:=fun _ _ _ _ _ st h=>wpAny_pyIter_keyiter st h
def OW (td:TE):TI:=fun σ H R=>td σ H fun x H1=>∃a kvs,x= .ref a/\H1 a=some (.dK kvs)/\∀o,R (Itk a o kvs) (upd H1 a (.frz o (.dK kvs)))
section
variable {X:Cx}{tg:Expr}
theorem w5 {l:Expr}{td:TE} (hl:PE X l td):PI X tg l (OW td):=by
 intro pins s σ H R I h;refine thn (hl pins s σ H _ I h) fun v s1 ⟨x,H1,I1,r1,q1⟩=> ?_;obtain⟨a,kvs,rfl,hq,q⟩:=q1;cases r1;obtain⟨z,y,vs,r,o,es,ep,h1,h2,h3,h4,h5,h6⟩:=(show ObjOk X.prog X.w H1 s1.heap a (.dK kvs) from I1.hok a _ hq)
 have hz:es.size=kvs.length:=by rw[r.length,←h5.length];simp
 have new:ObjOk X.prog X.w (upd H1 a (.frz o (.dK kvs))) s1.heap a (.frz o (.dK kvs)):=⟨h1,z,y,vs,r,o,es,ep,h1,h2,h3,h4,h5,h6⟩
 have I2:Inv X pins σ (upd H1 a (.frz o (.dK kvs))) s1:=I1.freeze trivial hq h1 new;refine wO y h1 h2 h3 ?_;refine⟨s1.heap.objs.size,[s1.heap.objs.size],_,_,upd H1 a (.frz o (.dK kvs)),rfl,I2.kept (t':=s1.toks) fun b o e=>Heap.get?_push_of_some _ e,J5 a _ kvs h3 hz,⟨_,Heap.get?_push_size _ rfl,rfl,rfl⟩,fun b hb=> ?_,q o⟩;have e:b=s1.heap.objs.size:=by simpa using hb
 subst e;exact I2.fpOk (Nat.le_refl _) (I2.hok.fresh (Nat.le_refl _))
end
def Iti (a:Addr)(o:Obj)(kvs:List (Key×V)):It :=
 ⟨fun i H=>H a=some (.frz o (.dK kvs))/\i<kvs.length,fun i H x H'=>∃k v q,kvs[i]? =some (k,v)/\x= .ref q/\H q=none/\H'=upd H q (.tup [kV k,v]),fun i H=>H a=some (.frz o (.dK kvs))/\kvs.length<=i⟩
theorem HF {P:Program}{w:World}{K:PySem.W.Frag}{elts:List Expr}{x1:Nat}{tpos:Pos} (a it:Addr) {o:Obj}{es:Array DictEntry}{ep:Nat} (kvs:List (Key×V)) (hd:o.data= .dict es ep) :
  qD P w K (.Tuple elts x1 tpos) (Iti a o kvs) [it] it (fun i h=>∃ok ov,IsItemIter h it a i kvs.length ep ok ov) where
 mem:=by simp
 obj:=fun i h st b hb=>by
  have e:b=it:=by simpa using hb
  subst e;obtain⟨ok,ov,e⟩:=st;exact⟨_,e,fun v z=>by cases z⟩
 keep:=fun i h h' st k=>let ⟨ok,ov,e⟩:=st;⟨ok,ov,k it (by simp) _ e⟩
 item:=by
  intro X hP hw hK hc i pins s σ H E I hf st hg;subst hP hw hK;obtain⟨ha,hi⟩:=hg;obtain⟨ok,ov,st⟩:=st;obtain⟨ho,z,y,vs,r,o',es',ep',h1,h2,h3,h4,h5,h6⟩:=(show ObjOk X.prog X.w H s.heap a (.frz o (.dK kvs)) from I.hok a _ ha)
  rw[ho]at h1;cases h1;rw[hd]at h3;cases h3;obtain⟨k,v,u,e1,e2,e3⟩:=yG r hi;obtain⟨f0,f1,f2,f3,f4,f5⟩:=hf it (by simp);have hl:=r.length;refine wpAny_pyNext_items_item (knd:=bL X.prog X.w) (kvs:=vs) (by rw[←hl];exact st) ⟨o,es,ho,h2,hd,h4,h5,h6⟩ e2 fun key h' kk st' ht hs kp=> ?_;refine⟨_,rfl,?_⟩;refine wpAny_letOwnedTupleGo_items (s:={ s with heap:=h' }) st' fun h'' st'' sb=> ?_;have hq:H s.heap.objs.size=none:=I.hok.fresh (Nat.le_refl _);have hne:s.heap.objs.size≠it:=fun z=>by
   have:=Heap.lt_size (show s.heap.get? it=some _ from st);rw[z]at this;exact Nat.lt_irrefl _ this
  have tup:Vals [kV k,v] [key,u]:= .cons (zJ kk) (.cons e3 .nil);have I1:Inv X pins σ (upd H s.heap.objs.size (.tup [kV k,v])) { s with heap:=s.heap.push { cls:= .type "tuple",data:= .seq #[key,u] } } :=
   I.laid (t':=s.toks) (fun b u e=>Heap.get?_push_of_some _ e) (Nat.le_refl _) ⟨(show 2<=sizeLine by rw[sizeLine_eq];decide),[key,u],tup,⟨_,Heap.get?_push_size _ rfl,rfl,0,rfl⟩⟩
  have n0:upd H s.heap.objs.size (.tup [kV k,v]) it=none:=by rw[aP (Ne.symm hne)];exact f0
  have I2:Inv X pins σ (upd H s.heap.objs.size (.tup [kV k,v])) { s with heap:=h'' }:=Inv.turned (s:={ s with heap:=s.heap.push { cls:= .type "tuple",data:= .seq #[key,u] } }) (h':=h'') (t':=s.toks) (it:=it) I1 (fun b o hb e=>by
   rcases Heap.get?_push_cases e with⟨rfl,rfl⟩|e
   ·exact(sb.2 _ hb).trans ht
   ·exact(sb.2 b hb).trans (kp b o hb e)) n0 f1 f3 f4 f5
  exact⟨.ref s.heap.objs.size,_,I2,rfl,⟨k,v,_,e1,rfl,hq,rfl⟩,⟨key,u,by rw[hl];exact st''⟩,fun b hb=>by
   have e:b=it:=by simpa using hb
   rw[e];exact n0⟩
 done:=by
  intro X hP hw hK hc i pins s σ H E I hf st hg;subst hP hw hK;obtain⟨ha,hi⟩:=hg;obtain⟨ok,ov,st⟩:=st;obtain⟨ho,z,y,vs,r,o',es',ep',h1,h2,h3,h4,h5,h6⟩:=(show ObjOk X.prog X.w H s.heap a (.frz o (.dK kvs)) from I.hok a _ ha)
  rw[ho]at h1;cases h1;rw[hd]at h3;cases h3;have hl:=r.length;obtain⟨f0,f1,f2,f3,f4,f5⟩:=hf it (by simp);exact wpAny_pyNext_items_end (knd:=bL X.prog X.w) (kvs:=vs) (I.ok.hd hc) (by rw[←hl];exact st) ⟨o,es,ho,h2,hd,h4,h5,h6⟩ (List.getElem?_eq_none (by lia)) fun h' eb=>⟨rfl,I.turned (t':=s.toks) (fun b o hb e=>eb b o hb e) f0 f1 f3 f4 f5⟩
 self:=fun A i s Q E st h=>by
  obtain⟨ok,ov,st⟩:=st;have T:s.TypeIs (.ref it) "dict_itemiterator" :=⟨_,st,rfl⟩
  refine wpAny_pyIter_slot T F.slot_dict_itemiterator_iter (wpAny_call_entry F.slot_dict_itemiterator_iter T kS ?_ (F.args_dict_itemiterator_iter_1 _));show wpAny _ _ (ret (.ref it)) _ _ s;exact wpAny_pure ⟨_,rfl,"dict_itemiterator",_,T,F.slot_dict_itemiterator_next.lookup,h⟩
def JN (td:TE):TI:=fun σ H R=>td σ H fun x H1=>∃a kvs,x= .ref a/\H1 a=some (.dK kvs)/\∀o,R (Iti a o kvs) (upd H1 a (.frz o (.dK kvs)))
section
variable {X:Cx}
theorem NN {l:Expr}{td:TE}{elts:List Expr}{x1:Nat}{tpos apos cpos:Pos} (hl:PE X l td) (hbase:attributeBase l "items" X.env (eval l X.env)=eval l X.env:=by rfl) (hline:(apos.endLine==cpos.line)=true:=by rfl) :
  PI X (.Tuple elts x1 tpos) (.Call (.Attribute l "items" apos) [] [] cpos) (JN td):=by
 intro pins s σ H R I h;refine wpAny_Call_method0_late hbase hline (thn (hl pins s σ H _ I h) fun v s1 ⟨x,H1,I1,r1,q1⟩=> ?_);obtain⟨a,kvs,rfl,hq,q⟩:=q1;cases r1;obtain⟨t1,t2,_⟩:=xW I1 (.inl ⟨kvs,.inl hq⟩);refine⟨"dict","dict.items",F.plainAttrs_dict,F.slot_dict_items,F.type_dict_items,t1,t2,Calls.callWith_builtin rfl (PySem.evalArgs_none ?_)⟩;obtain⟨z,y,vs,r,o,es,ep,h1,h2,h3,h4,h5,h6⟩:=(show ObjOk X.prog X.w H1 s1.heap a (.dK kvs) from I1.hok a _ hq)
 have hL:=r.length;refine call_meetsIn F.slot_dict_items t1 F.entry_dict_items (F.args_dict_items_1 _) (meets_dict_items (bL X.prog X.w) a y) ⟨⟨vs,o,es,ep,h1,h2,h3,h4,h5,h6⟩,?_⟩;have new:ObjOk X.prog X.w (upd H1 a (.frz o (.dK kvs))) s1.heap a (.frz o (.dK kvs)):=⟨h1,z,y,vs,r,o,es,ep,h1,h2,h3,h4,h5,h6⟩
 have I2:Inv X pins σ (upd H1 a (.frz o (.dK kvs))) s1:=I1.freeze trivial hq h1 new;have I3:Inv X pins σ (upd H1 a (.frz o (.dK kvs))) { s1 with heap:=s1.heap.push { cls:= .type "dict_items",data:= .fields #[.ref a] } }:=I2.kept (t':=s1.toks) fun b o e=>Heap.get?_push_of_some _ e;refine wpAny_pyIter_items (knd:=bL X.prog X.w) (kvs:=vs) (ep:=ep) ⟨_,Heap.get?_push_size _ rfl,rfl,rfl⟩ ⟨o,es,Heap.get?_push_of_some _ h1,h2,h3,h4,h5,h6⟩ ?_;refine⟨_,[_],_,_,upd H1 a (.frz o (.dK kvs)),rfl,I3.kept (t':=s1.toks) fun b o e=>Heap.get?_push_of_some _ e,HF a _ kvs h3,⟨.none,.none,by rw[hL];exact Heap.get?_push_size _ rfl⟩,fun b hb=> ?_,q o⟩;obtain rfl:=List.mem_singleton.mp hb;exact I3.fpOk (Nat.le_refl _) (I3.hok.fresh (Nat.le_refl _))
end
end L2
namespace L2
open PySem PySem.W PyProof.Rows
section
variable {X:Cx}{pins:List (Addr×Obj)}{σ:St}{H:Hp}{s:Shared}{a:Addr}{o:Obj}{u:HO}
theorem Inv.thaw (I:Inv X pins σ H s)(h0:∀o u,X.H₀ a≠some (.frz o u))(e:H a=some (.frz o u)):Inv X pins σ (upd H a u) s:=by
 have nn:∀b,H b=none->b≠a:=fun b n z=>by rw[z,e]at n;cases n
 have no:∀b c,H b=some (.own c)->b≠a:=fun b c n z=>by rw[z,e]at n;cases n
 have nt:∀b xs,H b=some (.tup xs)->b≠a:=fun b c n z=>by rw[z,e]at n;cases n
 refine⟨I.ok,I.os,I.bare,⟨I.base.keep,I.base.slot,fun b ob q n hx=> ?_,I.base.there,fun b xs q=> ?_,fun b ob xs q=> ?_,fun b ps q=> ?_⟩,I.loc,I.cell,?_,fun x c ec=> ?_,fun p hp=> ?_,fun b v q=> ?_,I.len⟩
 ·have z:=I.base.free b ob q n hx;rw[aP (nn b z)];exact z
 ·have z:=I.base.tups b xs q;rw[aP (nt b xs z)];exact z
 ·have z:=I.base.frzs b ob xs q;have hb:b≠a:=fun y=>h0 ob xs (by rw[←y];exact q);rw[aP hb];exact z
 ·obtain⟨more,z⟩:=I.base.tbls b ps q;refine⟨more,?_⟩;rw[aP (fun y=>by rw[y,e]at z;cases z)];exact z
 ·rw[aP (nn _ I.free)];exact I.free
 ·rw[aP (nn _ (I.freeC x c ec))];exact I.freeC x c ec
 ·obtain⟨p1,p2,p3⟩:=I.pin p hp;exact⟨p1,by rw[aP (nn _ p2)];exact p2,p3⟩
 ·have so:∀b c,H b=some (.own c)->upd H a u b=some (.own c):=fun b c z=>by rw[aP (no b c z)];exact z
  have st:∀b xs,H b=some (.tup xs)->upd H a u b=some (.tup xs):=fun b c z=>by rw[aP (nt b c z)];exact z
  by_cases hb:b=a
  ·subst hb;rw[bC]at q;cases q;obtain⟨_,z⟩:=(show ObjOk X.prog X.w H s.heap b (.frz o u) from I.hok b _ e)
   exact z.stay (fun _ _ _ q=>q) (fun c z=>so c b z) st
  ·rw[aP hb]at q;exact(I.hok b v q).stay (fun _ _ _ q=>q) (fun c z=>so c b z) st
theorem Inv.wasFree (I:Inv X pins σ H s)(h:∀o u,H a≠some (.frz o u)):∀o u,X.H₀ a≠some (.frz o u):=fun o u z=>h o u (I.base.frzs a o u z)
end
def g8 (a:Addr)(R:Hp->Prop):Hp->Prop:=fun H=>∃o u,H a=some (.frz o u)/\R (upd H a u)
def T0 (te:TE):TE:=fun σ H Q=>∃a,(∀o u,H a≠some (.frz o u))/\te σ H fun x=>g8 a (Q x)
def TM (ts:TS):TS:=fun D σ H=>∃a,(∀o u,H a≠some (.frz o u))/\ts ⟨fun σ'=>g8 a (D.nx σ'),fun v=>g8 a (D.rt v),fun σ'=>g8 a (D.bk σ'),fun σ'=>g8 a (D.ct σ')⟩ σ H
section
variable {X:Cx}
theorem vB {e:Expr}{te:TE} (he:PE X e te):PE X e (T0 te):=by
 intro pins s σ H Q I h;obtain⟨a,h0,h⟩:=h;refine thn (he pins s σ H _ I h) fun v s1 ⟨x,H1,I1,r1,o,u,e,q⟩=> ?_;exact⟨x,_,I1.thaw (I.wasFree h0) e,r1,q⟩
theorem IJ {st:Stmt}{ts:TS} (he:PS X st ts):PS X st (TM ts):=by
 intro pins s σ H D I h;obtain⟨a,h0,h⟩:=h;refine thn (he pins s σ H _ I h) fun f s1 z=> ?_;cases f with
 | next=>obtain⟨σ1,H1,I1,o,u,e,q⟩:=z;exact⟨σ1,_,I1.thaw (I.wasFree h0) e,q⟩
 | brk=>obtain⟨σ1,H1,I1,o,u,e,q⟩:=z;exact⟨σ1,_,I1.thaw (I.wasFree h0) e,q⟩
 | cont=>obtain⟨σ1,H1,I1,o,u,e,q⟩:=z;exact⟨σ1,_,I1.thaw (I.wasFree h0) e,q⟩
 | ret v=>obtain⟨x,σ1,H1,I1,r,o,u,e,q⟩:=z;exact⟨x,σ1,_,I1.thaw (I.wasFree h0) e,r,q⟩
end
end L2
namespace L2
open PySem PySem.W PyProof.Rows
theorem FP:∀bs:List Bool,((List.range bs.length).any fun i=>bs.getD i false)=bs.any id
 | []=>rfl
 | b::bs=>by
  rw[List.length_cons,List.range_succ_eq_map,List.any_cons,List.any_map,List.any_cons,←FP bs];rfl
theorem yR:∀{ns:List Int}{us:List Value},Vals (ns.map V.int) us->∃xs:List (Int×Tok),us=xs.map (fun p=>Value.int p.1 p.2)/\ns=xs.map (·.1)
 | [],_,.nil=>⟨[],rfl,rfl⟩
 | n::ns,_,.cons r t=>by
  obtain⟨xs,rfl,rfl⟩:=yR t;obtain⟨tk,rfl⟩:=r;exact⟨(n,tk)::xs,rfl,rfl⟩
section
variable {X:Cx}
def aAw (K:PySem.W.Frag):List V->Hp->VK->Prop:=fun xs H Q=>∃(p:Addr) (bs:List Bool),xs=[.ref p]/\SqL K H p (bs.map V.bl)/\Q (.bl (bs.any id)) H
theorem BW (hc:X.calm=true):c6 X (.builtin "any") (aAw X.K):=by
 intro pins s σ H xs us Q I r h;obtain⟨p,bs,rfl,hq,q⟩:=h;obtain⟨u,rfl,rx⟩:=nM r;cases rx;obtain⟨its,r',pl,hz⟩:=I.list hq;have hl:=pl.isList;have hlt:p<s.heap.objs.size:=by obtain⟨_,e,_⟩:=hl;exact Heap.lt_size e
 have hlen:bs.length=its.length:=by have:=r'.length;rw[List.length_map]at this;exact this
 refine call_any_walk (wpAny_pyIter_list hl ?_);refine⟨s.heap.objs.size,_,_,its.toArray.size,_,_,fun i=>bs.getD i false,rfl,Walks.list (show X.A.in1.handled=none from I.ok.hd hc) s.heap.objs.size p (Nat.ne_of_lt hlt) its.toArray,⟨⟨_,Heap.get?_push_size _ rfl,rfl,rfl⟩,hl.push _⟩,?_,?_⟩
 ·intro i v s' Q' E' hi hQ;have hi':its[i]? =some v:=by simpa using hi
  have hib:i<bs.length:=by rw[hlen];exact(List.getElem?_eq_some_iff.mp hi').1
  obtain⟨u,hu,ru⟩:=r'.get (i:=i) (x:=V.bl bs[i]) (by rw[List.getElem?_map,List.getElem?_eq_getElem hib];rfl);rw[hi']at hu;cases hu;have:v=Value.bool bs[i]:=ru;subst this;refine wpAny_truthy_bool ?_;have eb:bs.getD i false=bs[i]:=by rw[List.getD_eq_getElem?_getD,List.getElem?_eq_getElem hib];rfl
  have hQ':Q' (bs.getD i false) s':=hQ;rw[eb]at hQ';exact hQ'
 ·intro h' tk hk;have eany:(List.range its.toArray.size).any (fun i=>bs.getD i false)=bs.any id:=by
   rw[List.size_toArray,←hlen];exact FP bs
  rw[eany];refine⟨.bl (bs.any id),H,?_,rfl,q⟩;have I1:Inv X pins σ H { s with heap:=s.heap.push { cls:= .type "list_iterator",data:= .fields #[.ref p,.int 0 0] },toks:=s.toks }:=I.kept fun b u e=>Heap.get?_push_of_some _ e;obtain⟨f0,f1,f2,f3,f4,f5⟩:=I.fpOk (Nat.le_refl _) (I.hok.fresh (Nat.le_refl _));exact I1.turned (fun b o hb e=>hk b o (by simpa using hb) e) f0 f1 f3 f4 f5
def aAr (K:PySem.W.Frag):List V->Hp->VK->Prop:=fun xs H Q=>∃(p:Addr) (ns:List Int),xs=[.ref p]/\SqL K H p (ns.map V.int)/\Q (.int ns.sum) H
theorem NL (hc:X.calm=true):c6 X (.builtin "sum") (aAr X.K):=by
 intro pins s σ H xs us Q I r h;obtain⟨p,ns,rfl,hq,q⟩:=h;obtain⟨u,rfl,rx⟩:=nM r;cases rx;obtain⟨its,r',pl,hz⟩:=I.list hq;obtain⟨zs,rfl,rfl⟩:=yR r';have hl:s.heap.IsList p (intItems zs.toArray):=by
  have:=pl.isList
  simpa [intItems] using this
 refine sum_intListG (I.ok.hd hc) hl fun h' tk t' hk=> ?_;have e2:preSum (numAt zs.toArray) zs.toArray.size=(zs.map (·.1)).sum:=by
  rw[preSum_eq,List.take_of_length_le (by simp)]
 rw[e2];exact⟨.int (zs.map (·.1)).sum,H,I.kept hk,⟨t',rfl⟩,q⟩
end
section
variable {K:PySem.W.Frag}{H:Hp}{Q:VK}
theorem PD {p:Addr}{bs:List Bool} (e:SqL K H p (bs.map V.bl)) (h:Q (.bl (bs.any id)) H):aAw K [.ref p] H Q:=⟨p,bs,rfl,e,h⟩
theorem aAE {p:Addr}{ns:List Int} (e:SqL K H p (ns.map V.int)) (h:Q (.int ns.sum) H):aAr K [.ref p] H Q:=⟨p,ns,rfl,e,h⟩
end
theorem ML:bootBuiltins "any" =some (.builtin "any"):=by decide +kernel
theorem OT:bootBuiltins "sum" =some (.builtin "sum"):=by decide +kernel
end L2
namespace L2
open PySem PySem.W PyProof.Rows
theorem U7:typeLookup (.type "list") "keys" =pure none:=by rw[typeLookup_type,builtinLookup_eq_fast];kernel_rfl
theorem V8:typeLookup (.type "list") "__getattr__" =pure none:=by rw[typeLookup_type,builtinLookup_eq_fast];kernel_rfl
theorem EU:isSubtype (.type "AttributeError") (.type "AttributeError")=pure true:=by rw[isSubtype_type];kernel_rfl
theorem SN:((Manifest.find? "AttributeError").elim false fun t=>t.mro.contains "StopIteration" ||t.mro.contains "SystemExit")=false:=by decide +kernel
section
variable {prog:Program}{w:World}{A:Around}{E:Value->Shared->Prop}{s:Shared}
theorem QO {α:Type}{v:Value}{a:Addr}{Q:α->Shared->Prop} (hh:A.handled=none)
  (k:∀e h' tk' o,h'.get? e=some o->o.cls= .type "AttributeError" ->(∀b o,s.heap.get? b=some o->h'.get? b=some o)->E (.ref e) { s with heap:=h',toks:=tk' }) :
  wpAny (model prog w) A (do
   let e ←newExc (.type "AttributeError") [v];let l ←mkText "keys"
   noteAttr e (.ref a) l
   raiseNew e) Q E s:=by
 unfold newExc newTuple;refine wpAny_bind (wpAny_bind (wpAny_newObj_type (wpAny_bind (m:=firstArgMember _ _) (wpAny_of_eq (a:=Value.none) (by simp only[firstArgMember,SN];rfl) (wpAny_newObj_type ?_ (by size_fits)))) (by size_fits)));refine wpAny_bind (wpAny_mkText ?_);refine wpAny_bind ?_;unfold noteAttr;refine wpAny_bind ?_;unfold lacksNameAndObj;have e1:(#[Value.ref s.heap.objs.size,.none,.none,.none,.bool false,.none]++ownMembersOf (.type "AttributeError") [v]:Array Value)= #[Value.ref s.heap.objs.size,.none,.none,.none,.bool false,.none,unsetMember,unsetMember]:=rfl;rw[e1];generalize hs:s.heap.push { cls:=Value.type "tuple",data:=Data.seq #[v] }=h1;have ho:(h1.push { cls:= .type "AttributeError",data:= .fields #[Value.ref s.heap.objs.size,.none,.none,.none,.bool false,.none,unsetMember,unsetMember] }).get? h1.objs.size=some { cls:= .type "AttributeError",data:= .fields #[Value.ref s.heap.objs.size,.none,.none,.none,.bool false,.none,unsetMember,unsetMember] }:=Heap.get?_push_size _ rfl;refine wpAny_bind (wpAny_isInstance (b:=true) (T:= "AttributeError") ⟨_,ho,rfl⟩ EU ?_);refine wpAny_bind (wpAny_load ho ?_);refine wpAny_pure ?_;refine wpAny_bind (wpAny_rule ?_);refine wpAny_bind (wpAny_typeOf (T:= "AttributeError") ⟨_,ho,rfl⟩ ?_);unfold layMembers;refine wpAny_bind (wpAny_load ho ?_);refine wpAny_update ho ?_;simp only[raiseNew];refine wpAny_bind (wpAny_handled ?_);rw[hh];refine wpAny_bind (wpAny_pure (wpAny_throw ?_));refine k h1.objs.size _ _ _ (Heap.get?_update_self _ ho (Obj.isFreed_of_fields (Obj.data_mapFields rfl _))) (Obj.cls_mapFields ..) fun b o e=> ?_;have hb:b≠h1.objs.size:=fun z=>by
  have h2:h1.objs.size=s.heap.objs.size+1:=by rw[←hs];simp[Heap.push]
  have h3:=Heap.lt_size e;rw[z,h2]at h3;exact absurd h3 (Nat.not_lt.mpr (Nat.le_succ _))
 exact(Heap.get?_update_other _ _ (Ne.symm hb)).trans (Heap.get?_push_of_some _ (by rw[←hs];exact Heap.get?_push_of_some _ e))
theorem LH {a:Addr}{its:Array Value}{n:Nat}{tk:Tok}{Q:Fin->Shared->Prop} (hh:A.handled=none) (hx:s.heap.get? a=some { cls:= .type "list",data:= .seq its n })
  (k:∀e h' tk' o,h'.get? e=some o->o.cls= .type "AttributeError" ->(∀b o,s.heap.get? b=some o->h'.get? b=some o)->E (.ref e) { s with heap:=h',toks:=tk' }) :
  wpAny (model prog w) A (Builtin.«object.__getattribute__» ⟨[.ref a,.str "keys" tk],[]⟩) Q E s:=by
 obtain⟨h,g,d,t,os⟩:=s;have hT:(⟨h,g,d,t,os⟩:Shared).TypeIs (.ref a) "list" :=⟨_,hx,rfl⟩
 have f4:=U7
 repeat (any_goals (first|assumption|wp_step))
 refine wpAny_bind (wpAny_mkStr ?_ (by rw[sizeLine_eq];decide +kernel));exact QO hh fun e h' tk' o e1 e2 e3=>k e h' tk' o e1 e2 e3
theorem OD {a:Addr}{its:Array Value}{n:Nat}{tk:Tok}{R:Result->Shared->Prop} (hh:A.handled=none) (hx:s.heap.get? a=some { cls:= .type "list",data:= .seq its n })
  (k:∀e h' tk' o,h'.get? e=some o->o.cls= .type "AttributeError" ->(∀b o,s.heap.get? b=some o->h'.get? b=some o)->R (.error (.ref e)) { s with heap:=h',toks:=tk' }) :
  codeAny (model prog w) A (.call (.builtin "list.__getattribute__") ⟨[.ref a,.str "keys" tk],[]⟩) R s:=by
 obtain⟨h,g,d,t,os⟩:=s;exact codeAny_call_builtin F.slot_list_getattribute.plain F.entry_list_ga (F.slot_list_getattribute.check _ _ _ _ _ _ _ _ (show (⟨h,g,d,t,os⟩:Shared).TypeIs (.ref a) "list" from⟨_,hx,rfl⟩) (F.args_list_getattribute_2 _ _) (LH hh hx k))
theorem XH {a:Addr}{its:Array Value}{n:Nat}{Q:Option Value->Shared->Prop} (hh:A.handled=none) (hx:s.heap.get? a=some { cls:= .type "list",data:= .seq its n })
  (k:∀h' tk',(∀b o,s.heap.get? b=some o->h'.get? b=some o)->Q none { s with heap:=h',toks:=tk' }):wpAny (model prog w) A (getAttr? (.ref a) "keys") Q E s:=by
 obtain⟨h,g,d,t,os⟩:=s;have hT:(⟨h,g,d,t,os⟩:Shared).TypeIs (.ref a) "list" :=⟨_,hx,rfl⟩
 have f2:=F.slot_list_getattribute.lookup;have f3:=F.slot_list_getattribute.bind (.ref a);unfold getAttr? getAttrBy?
 repeat (any_goals (first|assumption|wp_step))
 refine OD hh hx fun e h' tk' o e1 e2 e3=> ?_;have hE:(⟨h',g,d,tk',os⟩:Shared).TypeIs (.ref e) "AttributeError" :=⟨_,e1,e2⟩
 show wpAny (model prog w) A (getattributeRaised (Value.ref a) (Value.str (Str.ofString "keys") t) (.type "list") (.ref e) none false false) _ _ (⟨h',g,d,tk',os⟩:Shared);unfold getattributeRaised;refine wpAny_bind (wpAny_isInstance (b:=true) hE EU ?_);show wpAny (model prog w) A (typeLookup (.type "list") "__getattr__" >>= fun x=>hookOrError (Value.ref a) (Value.str (Str.ofString "keys") t) (.ref e) false false x) _ _ (⟨h',g,d,tk',os⟩:Shared);rw[V8];refine wpAny_bind (wpAny_pure ?_);refine wpAny_throw ?_;refine wpAny_bind (wpAny_isInstance (b:=true) hE EU ?_);exact wpAny_pure (k h' tk' e3)
end
end L2
namespace L2
open PySem PySem.W PyProof.Rows
theorem qZ:entryFor table "dict.update.loop" =some Builtin.«dict.update.loop»:=entryFor_of_tree (by kernel_rfl)
theorem iG:plainId "dict.update.loop" =true:=by decide +kernel
def NK {κ:Type}[DecidableEq κ](kvs ps:List (κ×Value)):List (κ×Value):=ps.foldl (fun acc p=>stored acc p.1 p.2) kvs
theorem K6 {κ:Type}[DecidableEq κ](kvs:List (κ×Value))(k:κ)(v:Value):(stored kvs k v).length<=kvs.length+1:=by
 unfold stored
 split
 ·rw[List.length_map];exact Nat.le_succ _
 ·rw[List.length_append];exact Nat.le_refl _
section
variable {prog:Program}{w:World}{A:Around}{E:Value->Shared->Prop}{κ:Type} [DecidableEq κ] {knd:KeyKind prog w κ}{I d:Addr}{fp wr:List Addr}{n:Nat}{P:Nat->Value->Prop}{St:Nat->Heap->Prop}{R:Result->Shared->Prop}
def aA4 (knd:KeyKind prog w κ)(d:Addr)(wr:List Addr)(P:Nat->Value->Prop)(ps:List (κ×Value))(h:Heap):Prop :=
 ∀i v,P i v->∃(q:Addr) (o:Obj) (key:Value) (k:κ) (u:Value) (c:Nat),v= .ref q/\q∉wr/\q≠d/\h.get? q=some o/\o.cls= .type "tuple" /\o.data= .seq #[key,u] c/\knd.is k key=true/\ps[i]? =some (k,u)
theorem RK (W:Walks prog w A.in1 I fp wr n P St)(hdf:d∉fp)(ps:List (κ×Value))(hn:ps.length=n)(hsz:n<=sizeLine) :
  ∀(k i:Nat) (s:Shared) (kvs:List (κ×Value)),n - i=k->i<=n->St i s.heap->kvs.length<=i->s.heap.DictOf knd d kvs->aA4 knd d wr P ps s.heap →
  (∀h' tk,h'.DictOf knd d (NK kvs (ps.drop i))->(∀b o,b∉wr->b≠d->s.heap.get? b=some o->h'.get? b=some o)->R (.ok (.ret .none)) { s with heap:=h',toks:=tk }) →
  codeAny (model prog w) A (.builtin "dict.update.loop" ⟨[.ref d,.ref I,rawInt i,.none],[]⟩) R s:=by
 have hdw:d∉wr:=fun h=>hdf (W.sub _ h);intro k
 induction k with
 | zero =>
  intro i s kvs hk hi hst hl hd hrow hR;have hin:i=n:=by lia
  subst hin;refine codeAny_builtin qZ ?_;rw[Around.under_plainId iG _];show wpAny _ A.in1 (pyNext (.ref I) >>= _) _ _ s;refine wpAny_bind (W.done s _ _ hst fun h' tk hk'=> ?_);show wpAny _ _ (Builtin.Dict.addKeywords d [] >>= _) _ _ _;refine wpAny_bind (wpAny_pure (wpAny_pure (hR h' tk ?_ fun b o hb _ e=>hk' b o hb e)));rw[List.drop_of_length_le (by lia)];exact hd.at fun o e=>hk' d o hdw e
 | succ k ih =>
  intro i s kvs hk hi hst hl hd hrow hR;have hlt:i<n:=by lia
  refine codeAny_builtin qZ ?_;rw[Around.under_plainId iG _];show wpAny _ A.in1 (pyNext (.ref I) >>= _) _ _ s;refine wpAny_bind (W.item i s _ _ hlt hst fun v h' tk hP hst' hk'=> ?_);obtain⟨q,o,key,kk,u,c,rfl,hqw,hqd,ho,hc,hdt,his,hps⟩:=hrow i v hP;have ho':=hk' q o hqw ho;refine wpAny_bind (wpAny_holding (wpAny_bind (wpAny_tryCatch ?_)));unfold Builtin.Dict.pairItems;refine wpAny_bind (wpAny_typeOf (T:= "tuple") ⟨o,ho',hc⟩ ?_);rw[if_pos (by rfl)];refine wpAny_bind (wpAny_seqItems ho' hdt (wpAny_pure ?_));have hd':h'.DictOf knd d kvs:=hd.at fun o e=>hk' d o hdw e;refine wpAny_holding (wpAny_dictSet_pairs his hd' (fun h2 hd2 sb=> ?_) (by lia));have keep:∀b o,b∉wr->b≠d->s.heap.get? b=some o->h2.get? b=some o:=fun b o hb hbd e=>(sb.2 b hbd).trans (hk' b o hb e);refine wpAny_pure ⟨plainId_quiet iG _,ih (i+1) _ (stored kvs kk u) (by lia) hlt (W.frame _ _ _ hst' fun b hb o e=>(sb.2 b (fun z=>hdf (z▸hb))).trans e) (Nat.le_trans (K6 ..) (by lia)) hd2 (fun j v hj=> ?_) fun h3 tk3 hd3 hk3=> ?_⟩
  ·obtain⟨q,o,key,kk,u,c,e1,e2,e3,e4,e5⟩:=hrow j v hj;exact⟨q,o,key,kk,u,c,e1,e2,e3,keep q o e2 e3 e4,e5⟩
  ·refine hR h3 tk3 ?_ fun b o hb hbd e=>hk3 b o hb hbd (keep b o hb hbd e);have ed:ps.drop i=(kk,u)::ps.drop (i+1):=by
    have hi2:i<ps.length:=by lia
    rw[List.drop_eq_getElem_cons hi2];have:=(List.getElem?_eq_some_iff.mp hps).2;rw[this]
   rw[ed];exact hd3
end
end L2
namespace L2
open PySem PySem.W PyProof.Rows
section
variable {prog:Program}{w:World}{A:Around}{E:Value->Shared->Prop}{κ:Type} [DecidableEq κ] {knd:KeyKind prog w κ}{s:Shared}{l:Addr}{its:Array Value}{c:Nat}
theorem NE {ps:List (κ×Value)}{Q:Value->Shared->Prop} (hh:A.handled=none) (hl:s.heap.get? l=some { cls:= .type "list",data:= .seq its c }) (hsz:its.size<=sizeLine) (hlen:ps.length=its.size)
  (hrow:∀(i:Nat) (v:Value),its[i]? =some v->∃(q:Addr) (o:Obj) (key:Value) (k:κ) (u:Value) (c:Nat),v= .ref q/\s.heap.get? q=some o/\o.cls= .type "tuple" /\o.data= .seq #[key,u] c/\knd.is k key=true/\ps[i]? =some (k,u))
  (h:∀h' tk,h'.DictOf knd s.heap.objs.size (NK [] ps)->(∀b o,s.heap.get? b=some o->h'.get? b=some o)->Q (.ref s.heap.objs.size) { s with heap:=h',toks:=tk }) :
  wpAny (model prog w) A (call (.type "dict") [.ref l]) Q E s:=by
 refine callType_codes (Q₁:=fun obj s₁=>obj= .ref s.heap.objs.size/\s₁={ s with heap:=s.heap.push { cls:= .type "dict",data:= .dict #[] } }) F.kt_called_dict (F.kt_typeCall_dict_1 _) F.entry_dict_init (kt_code_dict_new _ ⟨rfl,rfl⟩) ?_;rintro obj s₁ ⟨rfl,rfl⟩;have hnew:(s.heap.push { cls:= .type "dict",data:= .dict #[] }).DictOf knd s.heap.objs.size []:=Heap.DictOf.new s.heap;have hl':(s.heap.push { cls:= .type "dict",data:= .dict #[] }).get? l=some { cls:= .type "list",data:= .seq its c }:=Heap.get?_push_of_some _ hl;refine⟨hnew.typeIs,F.args_dict_init_2 _ _,?_⟩;unfold Builtin.«dict.__init__»;refine wpAny_bind ?_;unfold Builtin.Dict.selfAndRest;refine wpAny_bind (wpAny_notOrdered_dict hnew.typeIs ?_);show wpAny _ _ (pure (s.heap.objs.size,[Value.ref l])) _ _ _;refine wpAny_pure ?_;show wpAny _ _ (Builtin.Dict.updateFrom "dict.__init__" s.heap.objs.size (.ref l) [] .none) _ _ _;unfold Builtin.Dict.updateFrom;refine wpAny_bind (wpAny_typeOf (T:= "list") ⟨_,hl',rfl⟩ ?_);rw[if_pos (by decide)];refine wpAny_bind (XH hh hl' fun h1 t1 kp1=> ?_);rw[if_pos (show (none:Option Value).isNone=true from rfl)];refine wpAny_bind (wpAny_rule ?_);have hl1:=kp1 _ _ hl';have isl:h1.IsList l its:=⟨_,hl1,rfl,_,rfl⟩
 have lt1:∀b o,s.heap.get? b=some o->b≠h1.objs.size:=fun b o e z=>by
  have:=Heap.lt_size (kp1 b o (Heap.get?_push_of_some _ e));rw[z]at this;exact Nat.lt_irrefl _ this
 have hdI:s.heap.objs.size≠h1.objs.size:=fun z=>by
  have:=Heap.lt_size (kp1 _ _ (Heap.get?_push_size s.heap (o:={ cls:= .type "dict",data:= .dict #[] }) rfl));rw[z]at this;exact Nat.lt_irrefl _ this
 have hdl:∀b o,s.heap.get? b=some o->b≠s.heap.objs.size:=fun b o e z=>by
  have:=Heap.lt_size e;rw[z]at this;exact Nat.lt_irrefl _ this
 refine wpAny_bind (wpAny_pyIter_list isl ?_);refine wpAny_pure ⟨plainId_quiet iG _,?_⟩;have W:=Walks.list (prog:=prog) (w:=w) (A:=A.in1.in1) hh h1.objs.size l (lt1 _ _ hl) its;refine RK (knd:=knd) W (by simp only[List.mem_cons,List.not_mem_nil,or_false,not_or];exact⟨hdI,Ne.symm (hdl _ _ hl)⟩) ps hlen hsz its.size 0 _ [] (Nat.sub_zero _) (Nat.zero_le _) ⟨⟨_,Heap.get?_push_size _ rfl,rfl,rfl⟩,isl.push _⟩ (Nat.le_refl _) ((hnew.at fun o e=>kp1 _ o e).push _) (fun i v hi=> ?_) fun h' tk hd hk=> ?_
 ·obtain⟨q,o,key,k,u,c',e1,e2,e3,e4,e5,e6⟩:=hrow i v hi;refine⟨q,o,key,k,u,c',e1,?_,hdl _ _ e2,Heap.get?_push_of_some _ (kp1 _ _ (Heap.get?_push_of_some _ e2)),e3,e4,e5,e6⟩;simp only[List.mem_cons,List.not_mem_nil,or_false];exact lt1 _ _ e2
 ·refine⟨rfl,h h' tk hd fun b o e=>hk b o ?_ (hdl _ _ e) (Heap.get?_push_of_some _ (kp1 _ _ (Heap.get?_push_of_some _ e)))⟩;simp only[List.mem_cons,List.not_mem_nil,or_false];exact lt1 _ _ e
end
end L2
namespace L2
open PySem PySem.W PyProof.Rows
abbrev DQ (H:Hp):List V->List (Key×V)->Prop:=Paired fun v p=>∃q,v= .ref q/\H q=some (.tup [kV p.1,p.2])
section
variable {X:Cx}{pins:List (Addr×Obj)}{σ:St}{H:Hp}{s:Shared}
theorem QF (I:Inv X pins σ H s){q:Addr}{k:Key}{x:V} (e:H q=some (.tup [kV k,x])):∃(o:Obj) (key u:Value) (n:Nat),s.heap.get? q=some o/\o.cls= .type "tuple" /\o.data= .seq #[key,u] n/\(bL X.prog X.w).is k key=true/\RelV x u:=by
 obtain⟨_,us,r,o,h1,h2,n,h3⟩:=(show ObjOk X.prog X.w H s.heap q (.tup [kV k,x]) from I.hok q _ e)
 cases r with
 | @cons _ key _ _ r1 r =>
  cases r with
  | @cons _ u _ _ r2 r =>
   cases r;exact⟨o,key,u,n,h1,h2,h3,sF r1,r2⟩
theorem x0 (I:Inv X pins σ H s):∀{vs:List V}{ps:List (Key×V)}{us:List Value},DQ H vs ps->Vals vs us →
  ∃rs:List (Key×Value),KV ps rs/\rs.length=us.length/\∀(i:Nat) (v:Value),us[i]? =some v->∃(q:Addr) (o:Obj) (key:Value) (k:Key) (u:Value) (c:Nat),v= .ref q/\s.heap.get? q=some o/\o.cls= .type "tuple" /\o.data= .seq #[key,u] c/\(bL X.prog X.w).is k key=true/\rs[i]? =some (k,u)
 | _,_,_,.nil,.nil=>⟨[],.nil,rfl,fun i v z=>by simp at z⟩
 | _::_,(k,x)::_,_::us,.cons ⟨q,e,hq⟩ t,.cons r rt=>by
  obtain⟨rs,h1,h2,h3⟩:=x0 I t rt;obtain⟨o,key,u,n,o1,o2,o3,o4,o5⟩:=QF I hq;subst e;cases r;refine⟨(k,u)::rs,.cons ⟨rfl,o5⟩ h1,by simp[h2],fun i v z=> ?_⟩;cases i with
  | zero=>cases z;exact⟨q,o,key,k,u,n,rfl,o1,o2,o3,o4,rfl⟩
  | succ i =>
   obtain⟨q,o,key,k,u,c,w1⟩:=h3 i v (by simpa using z);exact⟨q,o,key,k,u,c,by simpa using w1⟩
def NH:List V->Hp->VK->Prop:=fun xs H Q=>∃p vs ps,xs=[.ref p]/\Rd H p (.lst vs)/\DQ H vs ps/\∀l,H l=none->Q (.ref l) (upd H l (.dK (j6 [] ps)))
theorem JR (hc:X.calm=true):c6 X (.type "dict") NH:=by
 intro pins s σ H xs us Q I r h;obtain⟨p,vs,ps,rfl,hq,pr,q⟩:=h;obtain⟨u,rfl,rx⟩:=nM r;cases rx;obtain⟨z,its,n,rv,e⟩:=(show ObjOk X.prog X.w H s.heap p (.lst vs) from hq.ok I.hok)
 obtain⟨rs,h1,h2,h3⟩:=x0 I pr rv;have hl:=rv.length;have hlp:=h1.length;refine NE (knd:=bL X.prog X.w) (ps:=rs) (I.ok.hd hc) e (by rw[List.size_toArray];lia) (by rw[List.size_toArray];exact h2) (fun i v hv=>h3 i v (by simpa using hv)) fun h' tk hd kp=> ?_;have lm:(j6 [] ps).length<=sizeLine:=Nat.le_trans (tF ps []) (by simp;lia);have nm:(s.heap.objs.size==sysModules)=false:=by
  have:=I.big;simp only[beq_eq_false_iff_ne];exact fun z=>by rw[z]at this;exact Nat.lt_irrefl _ this
 exact⟨.ref _,_,I.laid (t':=tk) kp (Nat.le_refl _) (NG lm nm (KV.merge h1 .nil) hd),rfl,q _ (I.hok.fresh (Nat.le_refl _))⟩
end
end L2
namespace L2
open PySem PySem.W PyProof.Rows
section
variable {prog:Program}{w:World}{A:Around}{E:Value->Shared->Prop}{s:Shared}{d it:Addr}{o:Obj}{es:Array DictEntry}{ep i:Nat}{k0 v0:Value}
theorem N0 {Q:Option Value->Shared->Prop}{e:DictEntry} (st:IsItemIter s.heap it d i es.size ep k0 v0) (ho:s.heap.get? d=some o) (hq:o.data= .dict es ep) (hx:es[i]? =some e)
  (k:∀h',IsItemIterOut h' it d (i+1) es.size ep e.key e.val s.heap.objs.size->h'.get? s.heap.objs.size=some { cls:= .type "tuple",data:= .seq #[e.key,e.val] } →
   (∀b u,b≠it->s.heap.get? b=some u->h'.get? b=some u)->Q (some (.ref s.heap.objs.size)) { s with heap:=h' }):wpAny (model prog w) A (pyNext (.ref it)) Q E s:=by
 obtain⟨hp,g,dr,tk,os⟩:=s;have T:Shared.TypeIs ⟨hp,g,dr,tk,os⟩ (.ref it) "dict_itemiterator" :=⟨_,st,rfl⟩
 unfold pyNext;refine wpAny_bind (wpAny_attempt (wpAny_callSpecial?_slot (name:=Str.ofString "__next__") T F.slot_dict_itemiterator_next (wpAny_call_entry F.slot_dict_itemiterator_next T F.entry_dict_itemiterator_next ?_ (F.args_dict_itemiterator_next_1 _))));refine wpAny_bind (wpAny_pure (wpAny_bind (wpAny_bind ?_)))
 first|refine wpAny_bind (wpAny_typeNameOfWhole_itemiter T (wpAny_pure (wpAny_bind (wpAny_fieldsOf st rfl ?_))))|refine wpAny_bind (wpAny_typeNameOf_itemiter T (wpAny_pure (wpAny_bind (wpAny_fieldsOf st rfl ?_))))
 simp only[show Builtin.Dict_items.ownsTuple "dict_itemiterator" =true by decide,if_true];show wpAny _ A.in1 (if (Value.ref d==Value.none)=true then _ else _) _ _ (⟨hp,g,dr,tk,os⟩:Shared);rw[if_neg (show ¬(Value.ref d==Value.none)=true from Bool.false_ne_true)];refine wpAny_bind (wpAny_pure (wpAny_bind (wpAny_dictEntries ho hq ?_)));rw[if_neg (by simp)];refine wpAny_bind (wpAny_pure (wpAny_bind (wpAny_dictEpoch ho hq ?_)));rw[if_neg (by simp)];refine wpAny_pure ?_;simp only[show ¬((i:Int)<0) from by lia,if_false,Int.toNat_natCast,hx];refine wpAny_bind ?_
 first|refine wpAny_bind (wpAny_typeNameOfWhole_itemiter T (wpAny_pure (wpAny_bind (wpAny_isOneOf_itemiter T ?_))))|refine wpAny_bind (wpAny_typeNameOf_itemiter T (wpAny_pure (wpAny_bind (wpAny_isOneOf_itemiter T ?_))))
 show wpAny _ A.in1 (setField (.ref it) 3 (rawInt ((i:Int)+1)) >>= _) _ _ (⟨hp,g,dr,tk,os⟩:Shared);refine wpAny_bind (wpAny_setField_rec st (by simp) fun h1 e1 s1=> ?_)
 replace s1:Heap.SameBut it hp h1:=s1
 replace e1:IsItemIter h1 it d (i+1) es.size ep k0 v0:=by
  unfold IsItemIter;rw[show ((i+1:Nat):Int)=(i:Int)+1 by lia];simpa [rawInt] using e1
 have T1:Shared.TypeIs ⟨h1,g,dr,tk,os⟩ (.ref it) "dict_itemiterator" :=⟨_,e1,rfl⟩
 refine wpAny_bind (wpAny_holding (wpAny_bind (wpAny_isOneOf_itemiter T1 (wpAny_bind (wpAny_isOneOf_itemiter T1 ?_)))));show wpAny _ A.in1 (Builtin.Dict_items.pairFromOwner (.ref it) 6 e.key e.val) _ _ (⟨h1,g,dr,tk,os⟩:Shared);unfold Builtin.Dict_items.pairFromOwner;refine wpAny_bind (wpAny_newTuple ?_);have e2:IsItemIter (h1.push { cls:= .type "tuple",data:= .seq #[e.key,e.val] }) it d (i+1) es.size ep k0 v0:=Heap.get?_push_of_some _ e1;generalize q2:h1.push { cls:= .type "tuple",data:= .seq #[e.key,e.val] }=h2 at e2;have z1:h1.objs.size=hp.objs.size:=s1.1;have il:it<hp.objs.size:=Heap.lt_size st;have t2:h2.get? hp.objs.size=some { cls:= .type "tuple",data:= .seq #[e.key,e.val] }:=by rw[←q2,←z1];exact Heap.get?_push_size _ rfl
 have k2:∀b u,b≠it->hp.get? b=some u->h2.get? b=some u:=fun b u hb z=>by rw[←q2];exact Heap.get?_push_of_some _ (s1.extBut b u hb z)
 show wpAny _ A.in1 (Builtin.Dict_items.ownedTupleIsFree (.ref it) >>= _) _ _ (⟨h2,g,dr,tk,os⟩:Shared);rw[z1];clear q2 e1 s1 T1 z1 h1;refine wpAny_bind ?_;unfold Builtin.Dict_items.ownedTupleIsFree;refine wpAny_bind (wpAny_field e2 rfl (x:= .none) rfl (wpAny_pure ?_));simp only[if_true];refine wpAny_bind (wpAny_field e2 rfl (x:=k0) rfl (wpAny_bind (wpAny_field e2 rfl (x:=v0) rfl ?_)));refine wpAny_bind (wpAny_setField_rec e2 (by simp) fun h3 e3 s3=> ?_)
 replace s3:Heap.SameBut it h2 h3:=s3
 replace e3:IsItemIter h3 it d (i+1) es.size ep e.key v0:=e3
 refine wpAny_bind (wpAny_setField_rec e3 (by simp) fun h4 e4 s4=> ?_)
 replace s4:Heap.SameBut it h3 h4:=s4
 replace e4:IsItemIter h4 it d (i+1) es.size ep e.key e.val:=e4
 refine wpAny_bind (wpAny_setField_rec e4 (by simp) fun h5 e5 s5=> ?_)
 replace s5:Heap.SameBut it h4 h5:=s5
 replace e5:IsItemIterOut h5 it d (i+1) es.size ep e.key e.val hp.objs.size:=e5
 refine wpAny_bind (wpAny_setField_rec e5 (by simp) fun h6 e6 s6=> ?_)
 replace s6:Heap.SameBut it h5 h6:=s6
 replace e6:IsItemIterOut h6 it d (i+1) es.size ep e.key e.val hp.objs.size:=e6
 have kk:∀b u,b≠it->h2.get? b=some u->h6.get? b=some u:=fun b u hb z=>s6.extBut b u hb (s5.extBut b u hb (s4.extBut b u hb (s3.extBut b u hb z)));exact wpAny_bind (wpAny_letGo (wpAny_pure (wpAny_pure ⟨_,rfl,wpAny_pure (k h6 e6 (kk _ _ (Nat.ne_of_gt il) t2) fun b u hb z=>kk b u hb (k2 b u hb z))⟩)))
theorem SV {Q:Option Value->Shared->Prop}(hh:A.handled=none)(st:IsItemIter s.heap it d i es.size ep k0 v0)(ho:s.heap.get? d=some o)(hq:o.data= .dict es ep)(hx:es.size<=i)
  (k:∀h',Heap.ExtBut it s.heap h'->Q none { s with heap:=h' }):wpAny (model prog w) A (pyNext (.ref it)) Q E s:=by
 have T:s.TypeIs (.ref it) "dict_itemiterator" :=⟨_,st,rfl⟩
 unfold pyNext;refine wpAny_bind (wpAny_attempt (wpAny_callSpecial?_slot (name:=Str.ofString "__next__") T F.slot_dict_itemiterator_next (wpAny_call_entry F.slot_dict_itemiterator_next T F.entry_dict_itemiterator_next ?_ (F.args_dict_itemiterator_next_1 _))));refine wpAny_bind (wpAny_pure (wpAny_bind (wpAny_bind ?_)))
 first|refine wpAny_bind (wpAny_typeNameOfWhole_itemiter T (wpAny_pure (wpAny_bind (wpAny_fieldsOf st rfl ?_))))|refine wpAny_bind (wpAny_typeNameOf_itemiter T (wpAny_pure (wpAny_bind (wpAny_fieldsOf st rfl ?_))))
 simp only[show Builtin.Dict_items.ownsTuple "dict_itemiterator" =true by decide,if_true];show wpAny _ A.in1 (if (Value.ref d==Value.none)=true then _ else _) _ _ s;rw[if_neg (show ¬(Value.ref d==Value.none)=true from Bool.false_ne_true)];refine wpAny_bind (wpAny_pure (wpAny_bind (wpAny_dictEntries ho hq ?_)));rw[if_neg (by simp)];refine wpAny_bind (wpAny_pure (wpAny_bind (wpAny_dictEpoch ho hq ?_)));rw[if_neg (by simp)];refine wpAny_pure ?_;simp only[show ¬((i:Int)<0) from by lia,if_false,Int.toNat_natCast,Array.getElem?_eq_none hx];refine wpAny_bind ?_
 first|refine wpAny_bind (wpAny_typeNameOfWhole_itemiter T (wpAny_pure ?_))|refine wpAny_bind (wpAny_typeNameOf_itemiter T (wpAny_pure ?_))
 show wpAny _ A.in1 (setField (.ref it) 2 .none >>= _) _ _ s;refine wpAny_bind (wpAny_setField st rfl (by simp) ?_);show wpAny _ A.in1 (newExc (.type "StopIteration") [] >>= _) _ _ _;refine wpAny_bind ?_;simp only[newExc,newTuple];refine wpAny_bind (wpAny_newObj_type (wpAny_bind (m:=firstArgMember _ _) (wpAny_of_eq (a:=Value.none) (by first|rfl|(simp only[firstArgMember];rfl)) (wpAny_newObj_type ?_ (by size_fits)))) (by size_fits));simp only[raiseNew];refine wpAny_bind (wpAny_handled ?_);rw[show A.in1.handled=none from hh];refine wpAny_bind (wpAny_pure (wpAny_throw ?_));refine wpAny_bind (wpAny_isInstance (b:=true) (T:= "StopIteration") ⟨_,Heap.get?_push_size _ rfl,rfl⟩ isSubtype_stop ?_);exact wpAny_pure (k _ (((Heap.SameBut.update ..).extBut.push _).push _))
end
end L2
namespace L2
open PySem PySem.W PyProof.Rows
section
variable {prog:Program}{w:World}{A:Around}{E:Value->Shared->Prop}{s:Shared}{d it:Addr}{o:Obj}{es:Array DictEntry}{ep i:Nat}
theorem J9 {Q:Value->Shared->Prop}(hd:(d==sysModules)=false)(T:s.TypeIs (.ref d) "dict")
  (k:Q (.ref s.heap.objs.size) { s with heap:=s.heap.push { cls:= .type "dict_items",data:= .fields #[.ref d] } }):wpAny (model prog w) A (call (.builtin "dict.items") [.ref d]) Q E s:=by
 refine wpAny_call_entry F.slot_dict_items T F.entry_dict_items ?_ (F.args_dict_items_1 _);unfold Builtin.«dict.items» Builtin.Dict.noArgs;refine wpAny_bind (wpAny_bind (wpAny_notOrdered_dict T (wpAny_pure ?_)));show wpAny _ A.in1 (Builtin.Dict.showsAll d >>= _) _ _ s;unfold Builtin.Dict.showsAll;rw[if_neg (fun z=>by rw[hd]at z;cases z)];exact wpAny_bind (wpAny_pure (wpAny_bind (wpAny_newObj_type (wpAny_pure ⟨_,rfl,k⟩))))
theorem O3 {v:Addr}{Q:Value->Shared->Prop} (hv:s.heap.IsItemsView v d) (ho:s.heap.get? d=some o) (hq:o.data= .dict es ep)
  (k:Q (.ref s.heap.objs.size) { s with heap:=s.heap.push { cls:= .type "dict_itemiterator",data:= .fields #[.none,.bool false,.ref d,.int 0 0,.int es.size 0,.int ep 0,.none,.none] } }):wpAny (model prog w) A (pyIter (.ref v)) Q E s:=by
 obtain⟨ov,hov,hcv,hdv⟩:=id hv;refine wpAny_pyIter_slot hv.typeIs F.slot_dict_items_iter (wpAny_call_entry F.slot_dict_items_iter hv.typeIs F.entry_dict_items_iter ?_ (F.args_dict_items_iter_1 _));unfold Builtin.«dict_items.__iter__» Builtin.Dict_items.dictOf Builtin.Dict_items.newIterator;refine wpAny_bind (wpAny_pure (wpAny_bind (wpAny_bind (wpAny_field hov hdv (x:= .ref d) rfl (wpAny_pure (wpAny_bind (wpAny_bind (wpAny_dictEntries ho hq (wpAny_bind (wpAny_dictEpoch ho hq ?_))))))))));simp only[show Builtin.Dict_items.ownsTuple "dict_itemiterator" =true by decide,if_true];refine wpAny_newObj_type (wpAny_pure ⟨_,rfl,"dict_itemiterator",_,⟨_,Heap.get?_push_size _ rfl,rfl⟩,F.slot_dict_itemiterator_next.lookup,?_⟩) (by simp only[sizeOk,Builtin.Dict_items.ownedTupleFields,List.size_toArray,List.length_append,List.length_cons,List.length_nil,sizeLine_eq];lia)
 simpa [rawInt,Builtin.Dict_items.ownedTupleFields] using k
end
def Itj (a:Addr)(o:Obj)(kvs:List (List Key×V)):It :=
 ⟨fun i H=>H a=some (.frz o (.dT kvs))/\i<kvs.length,fun i H x H'=>∃k v p q,kvs[i]? =some (k,v)/\x= .ref q/\H p=some (.tup (k.map kV))/\H q=none/\H'=upd H q (.tup [.ref p,v]),fun i H=>H a=some (.frz o (.dT kvs))/\kvs.length<=i⟩
theorem KT.get2 {H:Hp}:∀{kvs:List (List Key×V)}{xs:List (List Key×Addr×Value)}{i:Nat},KT H kvs xs->i<kvs.length->∃k v b u,kvs[i]? =some (k,v)/\xs[i]? =some (k,b,u)/\H b=some (.tup (k.map kV))/\RelV v u
 | _,_,0,.cons h _,_=>⟨_,_,_,_,rfl,by rw[h.1];rfl,h.2.1,h.2.2⟩
 | _,_,i+1,.cons _ t,hi=>by
  obtain⟨k,v,b,u,e1,e2,e3⟩:=KT.get2 (i:=i) t (by simpa using hi);exact⟨k,v,b,u,by simpa using e1,by simpa using e2,e3⟩
 | _,_,_,.nil,hi=>by simp at hi
theorem HK {P:Program}{w:World}{K:PySem.W.Frag}{elts:List Expr}{x1:Nat}{tpos:Pos} (a it:Addr) {o:Obj}{es:Array DictEntry}{ep:Nat} (kvs:List (List Key×V)) (hd:o.data= .dict es ep) (hz:es.size=kvs.length) :
  qD P w K (.Tuple elts x1 tpos) (Itj a o kvs) [it] it (fun i h=>∃ok ov,IsItemIter h it a i es.size ep ok ov) where
 mem:=by simp
 obj:=fun i h st b hb=>by
  have e:b=it:=by simpa using hb
  subst e;obtain⟨ok,ov,e⟩:=st;exact⟨_,e,fun v z=>by cases z⟩
 keep:=fun i h h' st k=>let ⟨ok,ov,e⟩:=st;⟨ok,ov,k it (by simp) _ e⟩
 item:=by
  intro X hP hw hK hc i pins s σ H E I hf st hg;subst hP hw hK;obtain⟨ha,hi⟩:=hg;obtain⟨ok,ov,st⟩:=st;obtain⟨ho,z,y,xs,r,o',es',ep',h1,h2,h3,h4,h5⟩:=(show ObjOk X.prog X.w H s.heap a (.frz o (.dT kvs)) from I.hok a _ ha)
  rw[ho]at h1;cases h1;rw[hd]at h3;cases h3;obtain⟨k,v,b,u,e1,e2,e3,e5⟩:=KT.get2 r hi;have e4:=entry_at h4 i;rw[e2]at e4;obtain⟨f0,f1,f2,f3,f4,f5⟩:=hf it (by simp);refine N0 st ho hd e4 fun h' st' ht kp=> ?_;refine⟨_,rfl,?_⟩;refine wpAny_letOwnedTupleGo_items (s:={ s with heap:=h' }) st' fun h'' st'' sb=> ?_;have hq:H s.heap.objs.size=none:=I.hok.fresh (Nat.le_refl _);have hne:s.heap.objs.size≠it:=fun z=>by
   have:=Heap.lt_size (show s.heap.get? it=some _ from st);rw[z]at this;exact Nat.lt_irrefl _ this
  have tup:Vals [.ref b,v] [.ref b,u]:= .cons rfl (.cons e5 .nil);have I1:Inv X pins σ (upd H s.heap.objs.size (.tup [.ref b,v])) { s with heap:=s.heap.push { cls:= .type "tuple",data:= .seq #[.ref b,u] } } :=
   I.laid (t':=s.toks) (fun b u e=>Heap.get?_push_of_some _ e) (Nat.le_refl _) ⟨(show 2<=sizeLine by rw[sizeLine_eq];decide),[.ref b,u],tup,⟨_,Heap.get?_push_size _ rfl,rfl,0,rfl⟩⟩
  have n0:upd H s.heap.objs.size (.tup [.ref b,v]) it=none:=by rw[aP (Ne.symm hne)];exact f0
  have I2:Inv X pins σ (upd H s.heap.objs.size (.tup [.ref b,v])) { s with heap:=h'' }:=Inv.turned (s:={ s with heap:=s.heap.push { cls:= .type "tuple",data:= .seq #[.ref b,u] } }) (h':=h'') (t':=s.toks) (it:=it) I1 (fun c o hb e=>by
   rcases Heap.get?_push_cases e with⟨rfl,rfl⟩|e
   ·exact(sb.2 _ hb).trans ht
   ·exact(sb.2 c hb).trans (kp c o hb e)) n0 f1 f3 f4 f5
  exact⟨.ref s.heap.objs.size,_,I2,rfl,⟨k,v,b,_,e1,rfl,e3,hq,rfl⟩,⟨_,_,st''⟩,fun b hb=>by
   have e:b=it:=by simpa using hb
   rw[e];exact n0⟩
 done:=by
  intro X hP hw hK hc i pins s σ H E I hf st hg;subst hP hw hK;obtain⟨ha,hi⟩:=hg;obtain⟨ok,ov,st⟩:=st;obtain⟨ho,hok⟩:=(show ObjOk X.prog X.w H s.heap a (.frz o (.dT kvs)) from I.hok a _ ha)
  obtain⟨f0,f1,f2,f3,f4,f5⟩:=hf it (by simp);exact SV (I.ok.hd hc) st ho hd (by lia) fun h' eb=>⟨rfl,I.turned (t':=s.toks) (fun b o hb e=>eb b o hb e) f0 f1 f3 f4 f5⟩
 self:=fun A i s Q E st h=>by
  obtain⟨ok,ov,st⟩:=st;have T:s.TypeIs (.ref it) "dict_itemiterator" :=⟨_,st,rfl⟩
  refine wpAny_pyIter_slot T F.slot_dict_itemiterator_iter (wpAny_call_entry F.slot_dict_itemiterator_iter T kS ?_ (F.args_dict_itemiterator_iter_1 _));show wpAny _ _ (ret (.ref it)) _ _ s;exact wpAny_pure ⟨_,rfl,"dict_itemiterator",_,T,F.slot_dict_itemiterator_next.lookup,h⟩
def JB (td:TE):TI:=fun σ H R=>td σ H fun x H1=>∃a kvs,x= .ref a/\H1 a=some (.dT kvs)/\∀o,R (Itj a o kvs) (upd H1 a (.frz o (.dT kvs)))
section
variable {X:Cx}
theorem MI {l:Expr}{td:TE}{elts:List Expr}{x1:Nat}{tpos apos cpos:Pos} (hl:PE X l td) (hbase:attributeBase l "items" X.env (eval l X.env)=eval l X.env:=by rfl) (hline:(apos.endLine==cpos.line)=true:=by rfl) :
  PI X (.Tuple elts x1 tpos) (.Call (.Attribute l "items" apos) [] [] cpos) (JB td):=by
 intro pins s σ H R I h;refine wpAny_Call_method0_late hbase hline (thn (hl pins s σ H _ I h) fun v s1 ⟨x,H1,I1,r1,q1⟩=> ?_);obtain⟨a,kvs,rfl,hq,q⟩:=q1;cases r1;obtain⟨t1,t2,_⟩:=xW I1 (.inr ⟨kvs,.inl hq⟩);refine⟨"dict","dict.items",F.plainAttrs_dict,F.slot_dict_items,F.type_dict_items,t1,t2,Calls.callWith_builtin rfl (PySem.evalArgs_none ?_)⟩;obtain⟨z,y,xs,r,o,es,ep,h1,h2,h3,h4,h5⟩:=(show ObjOk X.prog X.w H1 s1.heap a (.dT kvs) from I1.hok a _ hq)
 have hz:es.size=kvs.length:=by rw[size_of_entries h4,KT.len r]
 refine J9 y t1 ?_;have hne:∀b ys,H1 b=some (.tup ys)->upd H1 a (.frz o (.dT kvs)) b=some (.tup ys):=fun b ys e=>by
  have hb:b≠a:=fun z=>by rw[z,hq]at e;cases e
  rw[aP hb];exact e
 have new:ObjOk X.prog X.w (upd H1 a (.frz o (.dT kvs))) s1.heap a (.frz o (.dT kvs)):=⟨h1,z,y,xs,KT.keeps r hne,o,es,ep,h1,h2,h3,h4,h5⟩
 have I2:Inv X pins σ (upd H1 a (.frz o (.dT kvs))) s1:=I1.freeze trivial hq h1 new;have I3:Inv X pins σ (upd H1 a (.frz o (.dT kvs))) { s1 with heap:=s1.heap.push { cls:= .type "dict_items",data:= .fields #[.ref a] } }:=I2.kept (t':=s1.toks) fun b o e=>Heap.get?_push_of_some _ e;refine O3 ⟨_,Heap.get?_push_size _ rfl,rfl,rfl⟩ (Heap.get?_push_of_some _ h1) h3 ?_;refine⟨_,[_],_,_,upd H1 a (.frz o (.dT kvs)),rfl,I3.kept (t':=s1.toks) fun b o e=>Heap.get?_push_of_some _ e,HK a _ kvs h3 hz,⟨.none,.none,Heap.get?_push_size _ rfl⟩,fun b hb=> ?_,q o⟩;obtain rfl:=List.mem_singleton.mp hb;exact I3.fpOk (Nat.le_refl _) (I3.hok.fresh (Nat.le_refl _))
end
end L2
namespace L2
open PySem PySem.W PyProof.Rows
section
variable (r:Nat->Int)
def rk (p:Array Nat)(i:Nat):Int:=r (p.getD i 0)
def Asc (p:Array Nat)(m:Nat):Prop:=∀i j,i<=j->j<m->rk r p i<=rk r p j
def cR (i j:Nat):Bool:=decide (r i<r j)
variable {r}{p:Array Nat}
theorem oG {p q:Array Nat}{i j:Nat} (h:p[i]? =q[j]?):rk r p i=rk r q j:=by
 unfold rk;rw[Array.getD_eq_getD_getElem?,Array.getD_eq_getD_getElem?,h]
theorem BO {src d:Nat}(hs:src<p.size)(hd:d<=src)(k:Nat):rk r (bubble p src d) k=if k=src - d then rk r p src else if src - d<k/\k<=src then rk r p (k - 1) else rk r p k:=by
 have e:=getElem?_bubble hs d hd k
 split
 ·rename_i h;rw[if_pos h]at e;exact oG e
 ·rename_i h;rw[if_neg h]at e
  split
  ·rename_i h2;rw[if_pos h2]at e;exact oG e
  ·rename_i h2;rw[if_neg h2]at e;exact oG e
theorem lM {α β:Type}(c:Nat->Nat->Bool)(f:α->KasT β):∀t:KasT α,a9 c (t.bind f)=a9 c (f (a9 c t))
 | .ret _=>rfl
 | .ask i j k=>lM c f (k (c i j))
theorem wT {k:Nat}(hk:Asc r p k):∀(f a b:Nat),a<=b->b<=k->b - a<=f->(∀i,i<a->rk r p i<=rk r p k)->(∀i,b<=i->i<k->rk r p k<rk r p i) →
  a9 (cR r) (kas_place p k f a b)<=k/\(∀i,i<a9 (cR r) (kas_place p k f a b)->rk r p i<=rk r p k)/\∀i,a9 (cR r) (kas_place p k f a b)<=i->i<k->rk r p k<rk r p i
 | 0,a,b,h1,h2,h3,h4,h5=>by
  have e:a9 (cR r) (kas_place p k 0 a b)=a:=rfl;rw[e];exact⟨by lia,h4,fun i hi=>h5 i (by lia)⟩
 | f+1,a,b,h1,h2,h3,h4,h5=>by
  unfold kas_place
  by_cases hab:a≥b
  ·rw[if_pos hab];show a<=k/\(∀i,i<a->_)/\∀i,a<=i->i<k->_;exact⟨by lia,h4,fun i hi=>h5 i (by lia)⟩
  ·rw[if_neg hab];have ea:a9 (cR r) (KasT.ask (p.getD k 0) (p.getD ((a+b)/2) 0) fun c=>if c=true then kas_place p k f a ((a+b)/2) else kas_place p k f ((a+b)/2+1) b) =
    a9 (cR r) (if cR r (p.getD k 0) (p.getD ((a+b)/2) 0)=true then kas_place p k f a ((a+b)/2) else kas_place p k f ((a+b)/2+1) b):=rfl
   rw[ea]
   by_cases hc:cR r (p.getD k 0) (p.getD ((a+b)/2) 0)=true
   ·rw[if_pos hc];have hc':rk r p k<rk r p ((a+b)/2):=of_decide_eq_true hc;refine wT hk f a ((a+b)/2) (by lia) (by lia) (by lia) h4 fun i hi hik=> ?_;have:=hk ((a+b)/2) i hi hik
    lia
   ·rw[if_neg hc];have hc':¬rk r p k<rk r p ((a+b)/2):=fun z=>hc (decide_eq_true z);refine wT hk f ((a+b)/2+1) b (by lia) h2 (by lia) (fun i hi=> ?_) h5;have:=hk i ((a+b)/2) (by lia) (by lia)
    lia
theorem LC {k l:Nat}(hs:k<p.size)(hk:Asc r p k)(hl:l<=k)(h1:∀i,i<l->rk r p i<=rk r p k)(h2:∀i,l<=i->i<k->rk r p k<rk r p i):Asc r (bubble p k (k - l)) (k+1):=by
 intro i j hij hj;rw[BO hs (by lia),BO hs (by lia),show k - (k - l)=l by lia]
 by_cases e1:i=l
 ·rw[if_pos e1]
  by_cases e2:j=l
  ·rw[if_pos e2];exact Int.le_refl _
  ·rw[if_neg e2];rw[if_pos (by lia)];have:=h2 (j - 1) (by lia) (by lia)
   lia
 ·rw[if_neg e1]
  by_cases e2:j=l
  ·rw[if_pos e2,if_neg (by lia)];exact h1 i (by lia)
  ·rw[if_neg e2]
   by_cases e3:l<i
   ·rw[if_pos (by lia),if_pos (by lia)];exact hk (i - 1) (j - 1) (by lia) (by lia)
   ·rw[if_neg (by lia)]
    by_cases e4:l<j
    ·rw[if_pos (by lia)];exact hk i (j - 1) (by lia) (by lia)
    ·rw[if_neg (by lia)];exact hk i j hij (by lia)
theorem PB {n:Nat}:∀(f:Nat) {p:Array Nat} (k:Nat),p.size=n->k+f=n->Asc r p k->Asc r (a9 (cR r) (kas_bin f p k)) n
 | 0,p,k,hs,hk,h=>by
  have e:k=n:=by lia
  rw[←e];exact h
 | f+1,p,k,hs,hk,h=>by
  unfold kas_bin;rw[lM];obtain⟨h1,h2,h3⟩:=wT h k 0 k (Nat.zero_le _) (Nat.le_refl _) (by lia) (fun i hi=>by lia) (fun i h1 h2=>by lia);exact PB f (k+1) ((bubble_size _ _ _).trans hs) (by lia) (LC (by lia) h h1 h2 h3)
theorem EL:∀(f k:Nat),1<=k->Asc r p k->k<=a9 (cR r) (kas_asc p f k)/\a9 (cR r) (kas_asc p f k)<=k+f/\Asc r p (a9 (cR r) (kas_asc p f k))/\(a9 (cR r) (kas_asc p f k)<k+f->rk r p (a9 (cR r) (kas_asc p f k))<rk r p (a9 (cR r) (kas_asc p f k) - 1))
 | 0,k,h0,h=>by
  show k<=k/\k<=k+0/\Asc r p k/\(k<k+0->_);exact⟨Nat.le_refl _,Nat.le_refl _,h,fun z=>by lia⟩
 | f+1,k,h0,h=>by
  unfold kas_asc;have ea:a9 (cR r) (KasT.ask (p.getD k 0) (p.getD (k - 1) 0) fun c=>if c=true then .ret k else kas_asc p f (k+1))=a9 (cR r) (if cR r (p.getD k 0) (p.getD (k - 1) 0)=true then .ret k else kas_asc p f (k+1)):=rfl;rw[ea]
  by_cases hc:cR r (p.getD k 0) (p.getD (k - 1) 0)=true
  ·rw[if_pos hc];show k<=k/\k<=k+(f+1)/\Asc r p k/\(k<k+(f+1)->rk r p k<rk r p (k - 1));exact⟨Nat.le_refl _,by lia,h,fun _=>of_decide_eq_true hc⟩
  ·rw[if_neg hc];have hc':¬rk r p k<rk r p (k - 1):=fun z=>hc (decide_eq_true z);have h':Asc r p (k+1):=fun i j hij hj=>by
    by_cases e:j=k
    ·subst e
     by_cases e2:i=j
     ·subst e2;exact Int.le_refl _
     ·have:=h i (j - 1) (by lia) (by lia)
      lia
    ·exact h i j hij (by lia)
   obtain⟨a1,a2,a3,a4⟩:=EL f (k+1) (by lia) h';exact⟨by lia,by lia,a3,fun z=>a4 (by lia)⟩
end
end L2
namespace L2
open PySem PySem.W PyProof.Rows
section
variable {r:Nat->Int}{p:Array Nat}
def Dif (r:Nat->Int)(p:Array Nat):Prop:=∀i j,i<p.size->j<p.size->rk r p i=rk r p j->i=j
def Dsc (r:Nat->Int)(p:Array Nat)(m:Nat):Prop:=∀i j,i<j->j<m->rk r p j<rk r p i
theorem NF {m:Nat}(hm:m<=p.size)(k:Nat):rk r (kas_rev p 0 m) k=if k<m then rk r p (m - 1 - k) else rk r p k:=by
 have e:=getElem?_mirror_all (i:=0) hm k
 split
 ·rename_i h;rw[if_pos ⟨Nat.zero_le _,h⟩,Nat.zero_add]at e;exact oG e
 ·rename_i h;rw[if_neg (by lia)]at e;exact oG e
theorem II (hd:Dif r p):∀(f k:Nat),1<=k->k+f<=p.size->Dsc r p k->∃m,a9 (cR r) (kas_desc f p k 0)=(p,m,0)/\k<=m/\m<=k+f/\Dsc r p m
 | 0,k,h0,h1,h=>⟨k,rfl,Nat.le_refl _,Nat.le_refl _,h⟩
 | f+1,k,h0,h1,h=>by
  unfold kas_desc
  by_cases hc:cR r (p.getD k 0) (p.getD (k - 1) 0)=true
  ·have hc':rk r p k<rk r p (k - 1):=of_decide_eq_true hc;have h':Dsc r p (k+1):=fun i j hij hj=>by
    by_cases e:j=k
    ·subst e
     by_cases e2:i=j - 1
     ·subst e2;exact hc'
     ·have:=h i (j - 1) (by lia) (by lia)
      lia
    ·exact h i j hij (by lia)
   obtain⟨m,e,a1,a2,a3⟩:=II hd f (k+1) (by lia) (by lia) h';refine⟨m,?_,by lia,by lia,a3⟩;rw[←e];show a9 (cR r) (if cR r (p.getD k 0) (p.getD (k - 1) 0)=true then _ else _)=_;rw[if_pos hc];rfl
  ·have hc':¬rk r p k<rk r p (k - 1):=fun z=>hc (decide_eq_true z);have hn:rk r p (k - 1)<rk r p k:=by
    have h2:rk r p (k - 1)≠rk r p k:=fun z=>by
     have:=hd (k - 1) k (by lia) (by lia) z
     lia
    lia
   refine⟨k,?_,Nat.le_refl _,by lia,h⟩;show a9 (cR r) (if cR r (p.getD k 0) (p.getD (k - 1) 0)=true then _ else _)=_;rw[if_neg hc];show a9 (cR r) (if cR r (p.getD (k - 1) 0) (p.getD k 0)=true then _ else _)=_;rw[if_pos (show cR r (p.getD (k - 1) 0) (p.getD k 0)=true from decide_eq_true hn)];rfl
theorem R7 {m n:Nat}(h1:1<=m)(hm:m<=n)(hs:p.size=n)(h:Dsc r p m):∃a q,a9 (cR r) (kas_tail3 m n p)=(a,q)/\a<=n/\q.size=n/\Asc r q a:=by
 have hasc:Asc r (kas_rev p 0 m) m:=fun i j hij hj=>by
  rw[NF (by lia),NF (by lia),if_pos (by lia),if_pos hj]
  by_cases e:i=j
  ·subst e;exact Int.le_refl _
  ·exact Int.le_of_lt (h (m - 1 - j) (m - 1 - i) (by lia) (by lia))
 obtain⟨a1,a2,a3,_⟩:=EL (n - m) m h1 hasc;refine⟨_,kas_rev p 0 m,by unfold kas_tail3;rw[lM];rfl,by lia,(mirror_size _ _ _ _).trans hs,a3⟩
theorem RB {n:Nat}(hn:1<=n)(hs:p.size=n)(hd:Dif r p):∃a q,a9 (cR r) (kas_count n p)=(a,q)/\a<=n/\q.size=n/\Asc r q a:=by
 have h0:Asc r p 1:=fun i j hij hj=>by
  have:i=j:=by lia
  subst this;exact Int.le_refl _
 obtain⟨a1,a2,a3,a4⟩:=EL (n - 1) 1 (Nat.le_refl _) h0;unfold kas_count;rw[lM];generalize a9 (cR r) (kas_asc p (n - 1) 1)=k at a1 a2 a3 a4 ⊢
 by_cases e1:k=n
 ·rw[if_pos (by rw[e1];exact beq_self_eq_true _)];exact⟨k,p,rfl,by lia,hs,a3⟩
 ·rw[if_neg (by rw[beq_iff_eq];exact e1)]
  by_cases e2:k>1
  ·rw[if_pos e2];have hlt:rk r p 0<rk r p (k - 1):=by
    have h2:=a3 0 (k - 1) (Nat.zero_le _) (by lia);have h3:rk r p 0≠rk r p (k - 1):=fun z=>by
     have:=hd 0 (k - 1) (by lia) (by lia) z
     lia
    lia
   refine⟨k,p,?_,by lia,hs,a3⟩;show a9 (cR r) (if cR r (p.getD 0 0) (p.getD (k - 1) 0)=true then _ else _)=_;rw[if_pos (show cR r (p.getD 0 0) (p.getD (k - 1) 0)=true from decide_eq_true hlt)];rfl
  ·rw[if_neg e2];have ek:k=1:=by lia
   subst ek;have h10:rk r p 1<rk r p 0:=a4 (by lia);unfold kas_descPart;rw[lM];obtain⟨m,e,b1,b2,b3⟩:=II hd (n - (1+1)) (1+1) (by lia) (by lia) (fun i j hij hj=>by
    have:i=0/\j=1:=by lia
    rw[this.1,this.2];exact h10)
   rw[e];have hmn:m<=n:=by
    have:2<=n:=by lia
    lia
   exact R7 (p:=p) (m:=m) (n:=n) (by lia) hmn hs b3
theorem QK {n:Nat}(hn:1<=n)(hr:∀i j,i<n->j<n->r i=r j->i=j):Asc r (a9 (cR r) (kas_sort n)) n:=by
 unfold kas_sort;rw[lM];have hs:(List.range n).toArray.size=n:=by simp
 have eg:∀i,i<n->(List.range n).toArray.getD i 0=i:=fun i hi=>by simp[Array.getD,hi]
 obtain⟨a,q,e,h1,h2,h3⟩:=RB (r:=r) hn hs (fun i j hi hj z=>by
  unfold rk at z;rw[hs]at hi hj;rw[eg i hi,eg j hj]at z;exact hr i j hi hj z)
 rw[e]
 by_cases hlt:a<n
 ·show Asc r (a9 (cR r) (if a<n then _ else _)) n;rw[if_pos hlt];refine PB _ _ h2 (by lia) fun i j hij hj=> ?_
  by_cases ha:a=0
  ·have:i=j:=by lia
   subst this;exact Int.le_refl _
  ·exact h3 i j hij (by lia)
 ·show Asc r (a9 (cR r) (if a<n then _ else _)) n;rw[if_neg hlt];have:a=n:=by lia
  rw[←this];exact h3
end
end L2
namespace L2
open PySem PySem.W PyProof.Rows
theorem BZ {α:Type}{n:Nat}{R:α->Prop}{c c':Nat->Nat->Bool} (h:∀i j,i<n->j<n->c i j=c' i j):∀{t:KasT α},KasIn n R t->a9 c t=a9 c' t
 | .ret _,_=>rfl
 | .ask i j k,q=>by
  show a9 c (k (c i j))=a9 c' (k (c' i j));rw[h i j q.1 q.2.1];exact BZ h (q.2.2 _)
theorem BJ {α:Type}{p q:α->Bool}:∀{l:List α},(∀y∈l,p y=true->q y=true)->(∃x∈l,q x=true/\p x=false)->l.countP p<l.countP q
 | [],_,⟨x,hx,_⟩=>nomatch hx
 | a::l,h,⟨x,hx,h1,h2⟩=>by
  have hl:l.countP p<=l.countP q:=List.countP_mono_left fun y hy=>h y (List.mem_cons_of_mem _ hy);rcases List.mem_cons.mp hx with e|hx
  ·subst e;rw[List.countP_cons_of_pos h1,List.countP_cons_of_neg (by rw[h2];exact Bool.false_ne_true)]
   lia
  ·have ih:=BJ (fun y hy=>h y (List.mem_cons_of_mem _ hy)) ⟨x,hx,h1,h2⟩;cases hp:p a with
   | true =>
    rw[List.countP_cons_of_pos hp,List.countP_cons_of_pos (h a (.head _) hp)]
    lia
   | false =>
    rw[List.countP_cons_of_neg (by rw[hp];exact Bool.false_ne_true)];cases hq:q a with
    | true=>rw[List.countP_cons_of_pos hq];lia
    | false=>rw[List.countP_cons_of_neg (by rw[hq];exact Bool.false_ne_true)];exact ih
structure Ord {α:Type}(lt:α->α->Bool)(l:List α):Prop where
 irr:∀x∈l,lt x x=false
 tr:∀x∈l,∀y∈l,∀z∈l,lt x y=true->lt y z=true->lt x z=true
 tot:∀x∈l,∀y∈l,x≠y->lt x y=true∨lt y x=true
section
variable {α:Type}{lt:α->α->Bool}{l:List α}{d:α}
theorem eQ {i:Nat}(h:i<l.length):l.getD i d∈l:=by
 rw[List.getD_eq_getElem?_getD,List.getElem?_eq_getElem h];exact List.getElem_mem h
theorem rX (nd:l.Nodup){i j:Nat}(hi:i<l.length)(hj:j<l.length)(e:l.getD i d=l.getD j d):i=j:=by
 rw[List.getD_eq_getElem?_getD,List.getElem?_eq_getElem hi,List.getD_eq_getElem?_getD,List.getElem?_eq_getElem hj]at e;have hp:=List.pairwise_iff_getElem.mp nd;rcases Nat.lt_trichotomy i j with h|h|h
 ·exact absurd e (hp i j hi hj h)
 ·exact h
 ·exact absurd e.symm (hp j i hj hi h)
theorem NJ (o:Ord lt l)(nd:l.Nodup)(h2:2<=l.length):∀i j,i<j->j<l.length->lt (l.getD ((a9 (fun i j=>lt (l.getD i d) (l.getD j d)) (kas_sort l.length)).getD i 0) d) (l.getD ((a9 (fun i j=>lt (l.getD i d) (l.getD j d)) (kas_sort l.length)).getD j 0) d)=true:=by
 let r:Nat->Int:=fun i=>((l.countP fun y=>lt y (l.getD i d):Nat):Int)
 have hlt:∀i j,i<l.length->j<l.length->lt (l.getD i d) (l.getD j d)=true->r i<r j:=fun i j hi hj h=>by
  have:=BJ (l:=l) (p:=fun y=>lt y (l.getD i d)) (q:=fun y=>lt y (l.getD j d)) (fun y hy h'=>o.tr y hy _ (eQ hi) _ (eQ hj) h' h) ⟨l.getD i d,eQ hi,h,o.irr _ (eQ hi)⟩;exact Int.ofNat_lt.mpr this
 have hrc:∀i j,i<l.length->j<l.length->(fun i j=>lt (l.getD i d) (l.getD j d)) i j=cR r i j:=fun i j hi hj=>by
  show lt (l.getD i d) (l.getD j d)=decide (r i<r j);cases e:lt (l.getD i d) (l.getD j d) with
  | true=>rw[decide_eq_true (hlt i j hi hj e)]
  | false =>
   rw[decide_eq_false];intro z
   by_cases e2:l.getD i d=l.getD j d
   ·rw[rX nd hi hj e2]at z;exact absurd z (Int.lt_irrefl _)
   ·rcases o.tot _ (eQ hi) _ (eQ hj) e2 with h|h
    ·rw[h]at e;cases e
    ·have:=hlt j i hj hi h
     lia
 have hinj:∀i j,i<l.length->j<l.length->r i=r j->i=j:=fun i j hi hj e=>by
  by_cases e2:l.getD i d=l.getD j d
  ·exact rX nd hi hj e2
  ·rcases o.tot _ (eQ hi) _ (eQ hj) e2 with h|h
   ·have:=hlt i j hi hj h;lia
   ·have:=hlt j i hj hi h;lia
 rw[BZ hrc (z9 (by lia))];have hs:=QK (n:=l.length) (by lia) hinj;have hp:=fQ (n:=l.length) (cR r) (by lia);generalize a9 (cR r) (kas_sort l.length)=q at hs hp;intro i j hij hj;have hqs:q.size=l.length:=by have:=hp.size_eq;simpa using this
 have li:=hp.lt (by lia) i;have lj:=hp.lt (by lia) j;have hne:q.getD i 0≠q.getD j 0:=fun z=>by
  have hnd:q.toList.Nodup:=by
   have h1:=Array.perm_iff_toList_perm.mp hp;exact h1.nodup_iff.mpr (by simpa using List.nodup_range)
  have ei:q.getD i 0=q.toList.getD i 0:=by simp[Array.getD,List.getD_eq_getElem?_getD,show i<q.size by lia]
  have ej:q.getD j 0=q.toList.getD j 0:=by simp[Array.getD,List.getD_eq_getElem?_getD,show j<q.size by lia]
  rw[ei,ej]at z;have:=rX hnd (by rw[Array.length_toList];lia) (by rw[Array.length_toList];lia) z
  lia
 have hle:=hs i j (by lia) (by lia);have e3:l.getD (q.getD i 0) d≠l.getD (q.getD j 0) d:=fun z=>hne (rX nd li lj z);rcases o.tot _ (eQ li) _ (eQ lj) e3 with h|h
 ·exact h
 ·have:=hlt _ _ lj li h;unfold rk at hle
  lia
theorem tZ (c:Nat->Nat->Bool):(cQ d c l).Perm l:=by
 unfold cQ
 split
 ·exact List.Perm.refl _
 ·have h:=Array.perm_iff_toList_perm.mp (fQ (n:=l.length) c (by lia));refine(h.map fun i=>l.getD i d).trans ?_;have e:((List.range l.length).toArray.toList.map fun i=>l.getD i d)=l:=by
   apply List.ext_getElem?
   intro i
   by_cases hi:i<l.length
   ·simp[hi,List.getD_eq_getElem?_getD]
   ·simp[hi]
  rw[e]
theorem y8 (o:Ord lt l)(nd:l.Nodup):(cQ d (fun i j=>lt (l.getD i d) (l.getD j d)) l).Pairwise fun x y=>lt x y=true:=by
 unfold cQ
 split
 ·rename_i h
  match l,h with
  | [],_=>exact .nil
  | [x],_=>exact List.pairwise_singleton _ _
 ·rename_i h;have ha:=NJ (d:=d) o nd (by lia);have hp:=fQ (n:=l.length) (fun i j=>lt (l.getD i d) (l.getD j d)) (by lia);generalize a9 (fun i j=>lt (l.getD i d) (l.getD j d)) (kas_sort l.length)=q at ha hp;have hqs:q.size=l.length:=by have:=hp.size_eq;simpa using this
  rw[List.pairwise_iff_getElem];intro i j hi hj hij;rw[List.length_map,Array.length_toList]at hi hj;have:=ha i j hij (by lia)
  simpa [Array.getD,hi,hj] using this
theorem IW:∀{l k:List α},(∀x∈l,lt x x=false)->(∀x∈l,∀y∈l,∀z∈l,lt x y=true->lt y z=true->lt x z=true)->l.Perm k->l.Pairwise (fun x y=>lt x y=true)->k.Pairwise (fun x y=>lt x y=true)->l=k
 | [],k,_,_,hp,_,_=>(List.nil_perm.mp hp).symm
 | a::l,[],_,_,hp,_,_=>nomatch (List.perm_nil.mp hp)
 | a::l,b::k,hi,ht,hp,h1,h2=>by
  have ha:a∈b::k:=hp.mem_iff.mp (.head _);have hb:b∈a::l:=hp.mem_iff.mpr (.head _);have e:a=b:=by
   rcases List.mem_cons.mp ha with e|ha'
   ·exact e
   ·rcases List.mem_cons.mp hb with e|hb'
    ·exact e.symm
    ·have q1:=(List.pairwise_cons.mp h2).1 a ha';have q2:=(List.pairwise_cons.mp h1).1 b hb';have:=ht a (.head _) b hb a (.head _) q2 q1;rw[hi a (.head _)]at this;cases this
  subst e;rw[IW (fun x hx=>hi x (List.mem_cons_of_mem _ hx)) (fun x hx y hy z hz=>ht x (List.mem_cons_of_mem _ hx) y (List.mem_cons_of_mem _ hy) z (List.mem_cons_of_mem _ hz)) (List.perm_cons a |>.mp hp) (List.pairwise_cons.mp h1).2 (List.pairwise_cons.mp h2).2]
end
end L2
namespace L2
open PySem PySem.W PyProof.Rows
def ltS (x y:Str):Bool:=decide (x.cps.toList<y.cps.toList)
theorem QH {x y:Str}(h:x.cps.toList=y.cps.toList):x=y:=by
 cases x;cases y
 congr 1
 exact Array.toList_inj.mp h
theorem zL (x:Str):ltS x x=false:=decide_eq_false (List.lt_irrefl _)
theorem NQ {x y z:Str}(h1:ltS x y=true)(h2:ltS y z=true):ltS x z=true:=decide_eq_true (List.lt_trans (of_decide_eq_true h1) (of_decide_eq_true h2))
theorem JF {x y:Str}(h:x≠y):ltS x y=true∨ltS y x=true:=by
 by_cases h1:x.cps.toList<y.cps.toList
 ·exact .inl (decide_eq_true h1)
 ·by_cases h2:y.cps.toList<x.cps.toList
  ·exact .inr (decide_eq_true h2)
  ·exact absurd (QH (List.le_antisymm (List.not_lt.mp h2) (List.not_lt.mp h1))) h
theorem V5 (l:List Str):Ord ltS l:=⟨fun x _=>zL x,fun _ _ _ _ _ _ h1 h2=>NQ h1 h2,fun _ _ _ _ h=>JF h⟩
def jF (ss:List Str):List Str:=cQ Str.empty (fun i j=>ltS (ss.getD i Str.empty) (ss.getD j Str.empty)) ss
theorem rP (ss:List Str):(jF ss).Perm ss:=tZ _
theorem R3 {ss:List Str}(nd:ss.Nodup):(jF ss).Pairwise fun x y=>ltS x y=true:=y8 (V5 ss) nd
section
variable {X:Cx}
end
def NO (rs:List (List Key)):Prop:=∃sh,∀r∈rs,r.map dS=sh
theorem ND (a:Key):fT a a=false:=by
 cases a with
 | inl i=>exact decide_eq_false (Int.lt_irrefl _)
 | inr x=>exact zL x
theorem SE {a b c:Key}(h1:fT a b=true)(h2:fT b c=true):fT a c=true:=by
 cases a<;>cases b<;>cases c<;>first|(cases h1;done)|(cases h2;done)|skip
 ·exact decide_eq_true (Int.lt_trans (of_decide_eq_true h1) (of_decide_eq_true h2))
 ·exact NQ h1 h2
theorem MH {a b:Key}(k:dS a=dS b)(h:a≠b):fT a b=true∨fT b a=true:=by
 cases a<;>cases b<;>first|(cases k;done)|skip
 ·rename_i i j;have hij:i≠j:=fun z=>h (by rw[z]);rcases Int.lt_or_gt_of_ne hij with z|z
  ·exact .inl (decide_eq_true z)
  ·exact .inr (decide_eq_true z)
 ·rename_i x y;exact JF fun z=>h (by rw[z])
theorem wS:∀a:List Key,fH a a=false
 | []=>rfl
 | a::as=>by
  show (if a=a then fH as as else fT a a)=false;rw[if_pos rfl];exact wS as
theorem EE:∀{a b:List Key},a.map dS=b.map dS->a≠b->fH a b=true∨fH b a=true
 | [],[],_,h=>absurd rfl h
 | [],_::_,k,_=>by cases k
 | _::_,[],k,_=>by cases k
 | a::as,b::bs,k,h=>by
  show (if a=b then fH as bs else fT a b)=true∨(if b=a then fH bs as else fT b a)=true
  by_cases e:a=b
  ·subst e;rw[if_pos rfl,if_pos rfl];exact EE (List.cons.inj k).2 fun z=>h (by rw[z])
  ·rw[if_neg e,if_neg (fun z=>e z.symm)];exact MH (List.cons.inj k).1 e
theorem zP:∀{a b c:List Key},fH a b=true->fH b c=true->fH a c=true
 | [],_,_,h,_=>by cases h
 | _::_,[],_,h,_=>by cases h
 | _::_,_::_,[],_,h=>by cases h
 | a::as,b::bs,c::cs,h1,h2=>by
  have h1':(if a=b then fH as bs else fT a b)=true:=h1;have h2':(if b=c then fH bs cs else fT b c)=true:=h2;show (if a=c then fH as cs else fT a c)=true
  by_cases e1:a=b
  ·subst e1;rw[if_pos rfl]at h1'
   by_cases e2:a=c
   ·subst e2;rw[if_pos rfl]at h2' ⊢;exact zP h1' h2'
   ·rw[if_neg e2]at h2' ⊢;exact h2'
  ·rw[if_neg e1]at h1'
   by_cases e2:b=c
   ·subst e2;rw[if_neg e1];exact h1'
   ·rw[if_neg e2]at h2';have h3:=SE h1' h2'
    by_cases e3:a=c
    ·subst e3;rw[ND]at h3;cases h3
    ·rw[if_neg e3];exact h3
theorem RV {rs:List (List Key)}(h:NO rs):Ord fH rs:=⟨fun x _=>wS x,fun _ _ _ _ _ _ h1 h2=>zP h1 h2,fun x hx y hy e=>by
 obtain⟨sh,h⟩:=h;exact EE ((h x hx).trans (h y hy).symm) e⟩
def mE (rs:List (List Key)):List (List Key):=cQ [] (p8 rs) rs
theorem kC (rs:List (List Key)):(mE rs).Perm rs:=tZ _
theorem RC {rs:List (List Key)}(h:NO rs)(nd:rs.Nodup):(mE rs).Pairwise fun x y=>fH x y=true:=y8 (d:=[]) (RV h) nd
theorem KK {H:Hp}{vs:List V}{rs:List (List Key)} (k:KRows H vs rs):KRows H (LI rs vs) (mE rs):=by
 have hl:vs.length=rs.length:=Paired.length k;unfold LI mE cQ;rw[hl]
 split
 ·exact k
 ·have hp:=fQ (n:=rs.length) (p8 rs) (by lia);have hm:∀i∈(a9 (p8 rs) (kas_sort rs.length)).toList,i<rs.length:=fun i hi=>by
   have h:=hp.mem_iff.mp (Array.mem_toList_iff.mp hi)
   simpa using h
  revert hm;generalize (a9 (p8 rs) (kas_sort rs.length)).toList=l;intro hm
  induction l with
  | nil=>exact .nil
  | cons i l ih =>
   refine .cons ?_ (ih fun j hj=>hm j (List.mem_cons_of_mem _ hj));have hi:=hm i (.head _);obtain⟨p,r,e1,e2,e3⟩:=k.get (i:=i) (v:=vs.getD i .non) (by rw[List.getD_eq_getElem?_getD,List.getElem?_eq_getElem (by lia)];rfl);refine⟨p,e1,?_⟩;show H p=some (.tup ((rs.getD i []).map kV));rw[List.getD_eq_getElem?_getD,e2];exact e3
end L2
namespace L2
open PySem PySem.W PyProof.Rows
section
variable {X:Cx}{pins:List (Addr×Obj)}{σ:St}{H:Hp}{s:Shared}
end
end L2
namespace L2
open PySem PySem.W PyProof.Rows
section
variable {X:Cx}
end
end L2
namespace L2
open PySem PySem.W PyProof.Rows
theorem Paired.snoc {α β:Type}{F:α->β->Prop}:∀{l:List α}{m:List β}{a:α}{b:β},Paired F l m->F a b->Paired F (l++[a]) (m++[b])
 | _,_,_,_,.nil,h=> .cons h .nil
 | _,_,_,_,.cons r t,h=> .cons r (Paired.snoc t h)
theorem Paired.at2 {α β:Type}{F:α->β->Prop}:∀{l:List α}{m:List β}{i:Nat}{a:α}{b:β},Paired F l m->l[i]? =some a->m[i]? =some b->F a b
 | _,_,0,_,_,.cons r _,h1,h2=>by cases h1;cases h2;exact r
 | _,_,i+1,_,_,.cons _ t,h1,h2=>Paired.at2 (i:=i) t (by simpa using h1) (by simpa using h2)
 | _,_,_,_,_,.nil,h1,_=>by simp at h1
theorem hZ {α:Type}{J:It}{g:TG}{ti:TT}{te:TE}{σ0:St}{fin:List V->Hp->Prop}{H:Hp} (xs:List α) (c:α->Bool) (P:α->V->Hp->Prop) (hm:∀x y H1 H2,P x y H1->Same H1 H2->P x y H2) (hn:xs.length<=sizeLine)
  (hgo:∀i H1,Same H H1->i<xs.length->J.go i H1)(hst:∀H1,Same H H1->J.stop xs.length H1)
  (hb:∀i x H1,xs[i]? =some x->Same H H1->∀v H',J.yld i H1 v H'->Same H1 H'/\∃σ2:St,σ2.length=σ0.length/\(∀(j:Nat) v,σ0[j]? =some (some v)->σ2[j]? =some (some v))/\(∀R:St->Hp->Prop,R σ2 H'->g v σ0 H' R) ∧
   (∀R:Bool->Hp->Prop,(∀H2,Same H' H2->R (c x) H2)->ti σ2 H' R)/\(c x=true->∀H2,Same H' H2->∀R:VK,(∀y H3,P x y H3->Same H2 H3->R y H3)->te σ2 H2 R))
  (hf:∀ys H1,Same H H1->Paired (fun x y=>P x y H1) (xs.filter c) ys->fin ys H1):dW J g ti te σ0 fin H:=by
 refine⟨fun i m ys H1=>i+m=xs.length/\Same H H1/\Paired (fun x y=>P x y H1) ((xs.take i).filter c) ys,⟨xs.length,by lia,Same.refl _,.nil⟩,?_⟩;rintro i m ys H1 ⟨e1,s1,pr⟩;cases m with
 | zero =>
  have ei:i=xs.length:=by lia
  subst ei;rw[List.take_length]at pr;exact .inl ⟨hst H1 s1,hf ys H1 s1 pr⟩
 | succ m =>
  have hi:i<xs.length:=by lia
  refine .inr ⟨hgo i H1 s1 hi,fun v H' y=> ?_⟩;have ex:xs[i]? =some xs[i]:=List.getElem?_eq_getElem hi;have etake:xs.take (i+1)=xs.take i++[xs[i]]:=by rw[List.take_succ,ex];rfl
  have hlen:ys.length<=i:=by
   rw[←Paired.length pr];exact Nat.le_trans (List.length_filter_le _ _) (by rw[List.length_take];lia)
  obtain⟨s2,σ2,l2,c2,hg,ht,he⟩:=hb i xs[i] H1 ex s1 v H' y;refine hg _ ⟨⟨l2,c2⟩,ht _ fun H2 s3=> ?_⟩;cases hc:c xs[i] with
  | true =>
   show te σ2 H2 _;refine he hc H2 s3 _ fun y H3 py s4=>⟨by lia,m,by lia,by lia,((s1.trans s2).trans s3).trans s4,?_⟩
   rw[etake,List.filter_append,List.filter_cons_of_pos hc];exact Paired.snoc (Paired.imp' (fun a b h=>hm a b _ _ h ((s2.trans s3).trans s4)) pr) py
  | false =>
   show ∃m',_;refine⟨m,by lia,by lia,(s1.trans s2).trans s3,?_⟩;rw[etake,List.filter_append,List.filter_cons_of_neg (by rw[hc];exact Bool.false_ne_true),List.filter_nil,List.append_nil];exact Paired.imp' (fun a b h=>hm a b _ _ h (s2.trans s3)) pr
section
variable {K:PySem.W.Frag}{ti:TT}{te:TE}{σ:St}{ci:List Nat}{rest:St}{fin:List V->Hp->Prop}{H:Hp}{a:Addr}
theorem DZ {n:Nat}(hr:ci.map (fun i=>(σ[i]?).join)=rest):bS n ci σ=List.replicate n none++rest:=by unfold bS;rw[hr]
theorem qS {α:Type}{vs:List V}{xs:List α} (f1 f2:α->V) (c:α->Bool) (P:α->V->Hp->Prop) (hm:∀x y H1 H2,P x y H1->Same H1 H2->P x y H2) (hn:xs.length<=sizeLine) (hr:ci.map (fun i=>(σ[i]?).join)=rest) (hl:SqL K H a vs)
  (hv:Paired (fun v x=>∃q,v= .ref q/\H q=some (.tup [f1 x,f2 x])) vs xs)
  (ht:∀x H1,x∈xs->Same H H1->∀R:Bool->Hp->Prop,(∀H2,Same H1 H2->R (c x) H2)->ti (some (f1 x)::some (f2 x)::rest) H1 R)
  (he:∀x H1,x∈xs->c x=true->Same H H1->∀R:VK,(∀y H2,P x y H2->Same H1 H2->R y H2)->te (some (f1 x)::some (f2 x)::rest) H1 R)
  (hf:∀ys H1,Same H H1->Paired (fun x y=>P x y H1) (xs.filter c) ys->fin ys H1):dW (Itl K a) (tL K 2 (iH (bX 0) (iH (bX 1) wJ))) ti te (bS 2 ci σ) fin H:=by
 have e0:bS 2 ci σ=none::none::rest:=DZ hr;rw[e0];have hlen:vs.length=xs.length:=Paired.length hv;refine hZ xs c P hm hn (fun i H1 s hi=>⟨vs,vs[i],s.seq hl,List.getElem?_eq_getElem (by lia)⟩) (fun H1 s=>⟨vs,s.seq hl,by lia⟩) (fun i x H1 hx s1 v H' y=> ?_) hf;obtain⟨rfl,e2⟩:=y;have ev:=e2 vs (s1.seq hl);obtain⟨q,rfl,hq⟩:∃q,v= .ref q/\H q=some (.tup [f1 x,f2 x]):=Paired.at2 hv ev hx;have hmem:=List.mem_of_getElem? hx;refine⟨Same.refl _,some (f1 x)::some (f2 x)::rest,rfl,fun j v hv=> ?_,fun R h=>⟨q,[f1 x,f2 x],rfl,.inl (.inl (s1 _ _ hq)),rfl,f1 x,[f2 x],rfl,f2 x,[],rfl,rfl,h⟩,fun R h=>ht x _ hmem s1 R h,fun hc H2 s2 R h=>he x H2 hmem hc (s1.trans s2) R h⟩
 match j,hv with
 | 0,hv=>cases hv
 | 1,hv=>cases hv
 | j+2,hv=>exact hv
end
end L2
namespace L2
open PySem PySem.W PyProof.Rows
section
variable {K:PySem.W.Frag}{ti:TT}{te:TE}{σ:St}{ci:List Nat}{rest:St}{fin:List V->Hp->Prop}{H:Hp}{a:Addr}
theorem wD {H:Hp}{q:Addr}{o:HO} (h:H q=none):Same H (upd H q o):=fun b u e=>by
 have:b≠q:=fun z=>by rw[z,h]at e;cases e
 rw[aP this];exact e
theorem IE {α:Type}{vs:List V}{xs:List α} (f1 f2 f3:α->V) (c:α->Bool) (P:α->V->Hp->Prop) (hm:∀x y H1 H2,P x y H1->Same H1 H2->P x y H2) (hn:xs.length<=sizeLine) (hr:ci.map (fun i=>(σ[i]?).join)=rest) (hl:SqL K H a vs)
  (hv:Paired (fun v x=>∃q,v= .ref q/\H q=some (.tup [f1 x,f2 x,f3 x])) vs xs)
  (ht:∀x H1,x∈xs->Same H H1->∀R:Bool->Hp->Prop,(∀H2,Same H1 H2->R (c x) H2)->ti (some (f1 x)::some (f2 x)::some (f3 x)::rest) H1 R)
  (he:∀x H1,x∈xs->c x=true->Same H H1->∀R:VK,(∀y H2,P x y H2->Same H1 H2->R y H2)->te (some (f1 x)::some (f2 x)::some (f3 x)::rest) H1 R)
  (hf:∀ys H1,Same H H1->Paired (fun x y=>P x y H1) (xs.filter c) ys->fin ys H1):dW (Itl K a) (tL K 3 (iH (bX 0) (iH (bX 1) (iH (bX 2) wJ)))) ti te (bS 3 ci σ) fin H:=by
 have e0:bS 3 ci σ=none::none::none::rest:=DZ hr;rw[e0];have hlen:vs.length=xs.length:=Paired.length hv;refine hZ xs c P hm hn (fun i H1 s hi=>⟨vs,vs[i],s.seq hl,List.getElem?_eq_getElem (by lia)⟩) (fun H1 s=>⟨vs,s.seq hl,by lia⟩) (fun i x H1 hx s1 v H' y=> ?_) hf;obtain⟨rfl,e2⟩:=y;have ev:=e2 vs (s1.seq hl);obtain⟨q,rfl,hq⟩:∃q,v= .ref q/\H q=some (.tup [f1 x,f2 x,f3 x]):=Paired.at2 hv ev hx;have hmem:=List.mem_of_getElem? hx;refine⟨Same.refl _,some (f1 x)::some (f2 x)::some (f3 x)::rest,rfl,fun j v hv=> ?_,fun R h=>⟨q,[f1 x,f2 x,f3 x],rfl,.inl (.inl (s1 _ _ hq)),rfl,f1 x,[f2 x,f3 x],rfl,f2 x,[f3 x],rfl,f3 x,[],rfl,rfl,h⟩,fun R h=>ht x _ hmem s1 R h,fun hc H2 s2 R h=>he x H2 hmem hc (s1.trans s2) R h⟩
 match j,hv with
 | 0,hv=>cases hv
 | 1,hv=>cases hv
 | 2,hv=>cases hv
 | j+3,hv=>exact hv
theorem MA {kvs:List (Key×V)}{o:Obj} (c:Key×V->Bool) (P:Key×V->V->Hp->Prop) (hm:∀x y H1 H2,P x y H1->Same H1 H2->P x y H2) (hn:kvs.length<=sizeLine) (hr:ci.map (fun i=>(σ[i]?).join)=rest) (h0:H a=some (.frz o (.dK kvs)))
  (ht:∀x H1,x∈kvs->Same H H1->∀R:Bool->Hp->Prop,(∀H2,Same H1 H2->R (c x) H2)->ti (some (kV x.1)::rest) H1 R)
  (he:∀x H1,x∈kvs->c x=true->Same H H1->∀R:VK,(∀y H2,P x y H2->Same H1 H2->R y H2)->te (some (kV x.1)::rest) H1 R)
  (hf:∀ys H1,Same H H1->Paired (fun x y=>P x y H1) (kvs.filter c) ys->fin ys H1):dW (Itk a o kvs) (bX 0) ti te (bS 1 ci σ) fin H:=by
 rw[yX hr];refine hZ kvs c P hm hn (fun i H1 s hi=>⟨s _ _ h0,hi⟩) (fun H1 s=>⟨s _ _ h0,Nat.le_refl _⟩) (fun i x H1 hx s1 v H' y=> ?_) hf;obtain⟨rfl,k,u,e2,rfl⟩:=y;rw[hx]at e2;cases e2;have hmem:=List.mem_of_getElem? hx;refine⟨Same.refl _,some (kV k)::rest,rfl,fun j v hv=> ?_,fun R h=>h,fun R h=>ht _ _ hmem s1 R h,fun hc H2 s2 R h=>he _ H2 hmem hc (s1.trans s2) R h⟩;cases j with
 | zero=>cases hv
 | succ j=>exact hv
theorem ZO {kvs:List (List Key×V)}{o:Obj} (c:List Key×V->Bool) (P:List Key×V->V->Hp->Prop) (hm:∀x y H1 H2,P x y H1->Same H1 H2->P x y H2) (hn:kvs.length<=sizeLine) (hr:ci.map (fun i=>(σ[i]?).join)=rest) (h0:H a=some (.frz o (.dT kvs)))
  (ht:∀x H1 p,x∈kvs->Same H H1->H1 p=some (.tup (x.1.map kV))->∀R:Bool->Hp->Prop,(∀H2,Same H1 H2->R (c x) H2)->ti (some (.ref p)::some x.2::rest) H1 R)
  (he:∀x H1 p,x∈kvs->c x=true->Same H H1->H1 p=some (.tup (x.1.map kV))->∀R:VK,(∀y H2,P x y H2->Same H1 H2->R y H2)->te (some (.ref p)::some x.2::rest) H1 R)
  (hf:∀ys H1,Same H H1->Paired (fun x y=>P x y H1) (kvs.filter c) ys->fin ys H1):dW (Itj a o kvs) (tL K 2 (iH (bX 0) (iH (bX 1) wJ))) ti te (bS 2 ci σ) fin H:=by
 have e0:bS 2 ci σ=none::none::rest:=DZ hr;rw[e0];refine hZ kvs c P hm hn (fun i H1 s hi=>⟨s _ _ h0,hi⟩) (fun H1 s=>⟨s _ _ h0,Nat.le_refl _⟩) (fun i x H1 hx s1 v H' y=> ?_) hf;obtain⟨k,u,p,q,e2,rfl,hp,hq,rfl⟩:=y;rw[hx]at e2;cases e2;have hmem:=List.mem_of_getElem? hx;have sq:Same H1 (upd H1 q (.tup [.ref p,u])):=wD hq;refine⟨sq,some (.ref p)::some u::rest,rfl,fun j v hv=> ?_,fun R h=>⟨q,[.ref p,u],rfl,.inl (.inl bC),rfl,.ref p,[u],rfl,u,[],rfl,rfl,h⟩,fun R h=>ht _ _ p hmem (s1.trans sq) (sq _ _ hp) R h,fun hc H2 s2 R h=>he _ H2 p hmem hc ((s1.trans sq).trans s2) (s2 _ _ (sq _ _ hp)) R h⟩
 match j,hv with
 | 0,hv=>cases hv
 | 1,hv=>cases hv
 | j+2,hv=>exact hv
end
section
variable {σ:St}{H:Hp}{g:TG}{tb:TS}{nx bk ct:St->Hp->Prop}{rt:VK}
theorem R4 {p:Addr}{o:Obj} (kvs:List (Key×V)) (Pv:Nat->St->Hp->Prop) (h0:Pv 0 σ H) (hl:∀i σ H,Pv i σ H->H p=some (.frz o (.dK kvs)))
  (hs:∀i k v σ H,kvs[i]? =some (k,v)->Pv i σ H->g (kV k) σ H fun σ2 H2=>tb ⟨Pv (i+1),rt,nx,Pv (i+1)⟩ σ2 H2)(hd:∀σ H,Pv kvs.length σ H->nx σ H):ET (Itk p o kvs) g tb ⟨nx,rt,bk,ct⟩ σ H:=by
 refine⟨fun i m σ H=>m=kvs.length - i/\i<=kvs.length/\Pv i σ H,⟨kvs.length,by simp,Nat.zero_le _,h0⟩,?_⟩;rintro i m σ H ⟨rfl,hi,q⟩
 by_cases hlt:i<kvs.length
 ·refine .inr ⟨⟨hl i σ H q,hlt⟩,Pv (i+1),fun σ' H' p'=>⟨kvs.length - (i+1),by lia,rfl,hlt,p'⟩,fun x H' y=> ?_⟩;obtain⟨rfl,k,v,e,rfl⟩:=y;exact hs i k v σ _ e q
 ·have e:i=kvs.length:=by lia
  subst e;exact .inl ⟨⟨hl _ σ H q,Nat.le_refl _⟩,hd σ H q⟩
end
def NW (R:It->Hp->Prop):VK:=fun x H1=>∃a kvs,x= .ref a/\H1 a=some (.dK kvs)/\∀o,R (Itk a o kvs) (upd H1 a (.frz o (.dK kvs)))
def IO (R:It->Hp->Prop):VK:=fun x H1=>∃a kvs,x= .ref a/\H1 a=some (.dK kvs)/\∀o,R (Iti a o kvs) (upd H1 a (.frz o (.dK kvs)))
def JI (R:It->Hp->Prop):VK:=fun x H1=>∃a kvs,x= .ref a/\H1 a=some (.dT kvs)/\∀o,R (Itj a o kvs) (upd H1 a (.frz o (.dT kvs)))
def aAQ (Q:VK)(y:V):VK:=fun x H2=>∃a o,x= .ref a/\DGet H2 a y o/\Q (.bl o.isSome) H2
def IZ (Q:VK)(y:V):VK:=fun x H2=>∃a o,x= .ref a/\DGet H2 a y o/\Q (.bl (!o.isSome)) H2
def OL (σ:St)(ty tx:TE)(Q:VK):VK:=fun x H1=>∃a,x= .ref a/\IsD H1 a/\ty σ H1 fun y H2=>tx σ H2 fun z H3=>∃o,DGet H3 a y o/\Q (o.getD z) H3
def YT (a:Addr)(Q:VK)(y:V):VK:=fun z H3=>∃o,DGet H3 a y o/\Q (o.getD z) H3
section
variable {K:PySem.W.Frag}{H:Hp}{Q:VK}{σ:St}{nx:St->Hp->Prop}{R:It->Hp->Prop}{td ty tx:TE}
theorem MW (h:td σ H (NW R)):OW td σ H R:=h
theorem K4 (h:td σ H (IO R)):JN td σ H R:=h
theorem JU (h:td σ H (JI R)):JB td σ H R:=h
theorem wG {p:Addr}{kvs:List (Key×V)} (e:H p=some (.dK kvs)) (h:∀o H',SameBut p H H'->H' p=some (.frz o (.dK kvs))->R (Itk p o kvs) H'):NW R (.ref p) H:=⟨p,kvs,rfl,e,fun o=>h o _ SameBut.upd bC⟩
theorem OR {p:Addr}{kvs:List (Key×V)} (e:H p=some (.dK kvs)) (h:∀o H',SameBut p H H'->H' p=some (.frz o (.dK kvs))->R (Iti p o kvs) H'):IO R (.ref p) H:=⟨p,kvs,rfl,e,fun o=>h o _ SameBut.upd bC⟩
theorem N3 {p:Addr}{kvs:List (List Key×V)} (e:H p=some (.dT kvs)) (h:∀o H',SameBut p H H'->H' p=some (.frz o (.dT kvs))->R (Itj p o kvs) H'):JI R (.ref p) H:=⟨p,kvs,rfl,e,fun o=>h o _ SameBut.upd bC⟩
theorem YM (h:ty σ H fun y H1=>td σ H1 (aAQ Q y)):aAN ty td σ H Q:=h
theorem O6 (h:ty σ H fun y H1=>td σ H1 (IZ Q y)):IY ty td σ H Q:=h
theorem WZ {p:Addr}{z:Str}{kvs:List (Key×V)} (e:Rd H p (.dK kvs)) (h:Q (.bl (bA kvs (.inr z)).isSome) H):aAQ Q (.str z) (.ref p) H:=⟨p,_,rfl,.inl ⟨kvs,.inr z,e,rfl,rfl⟩,h⟩
theorem yH {p:Addr}{z:Str}{kvs:List (Key×V)} (e:Rd H p (.dK kvs)) (h:Q (.bl (!(bA kvs (.inr z)).isSome)) H):IZ Q (.str z) (.ref p) H:=⟨p,_,rfl,.inl ⟨kvs,.inr z,e,rfl,rfl⟩,h⟩
theorem wL {p:Addr}{v:V}{z:Str}{kvs:List (Key×V)} (e:H p=some (.dK kvs)) (hl:kvs.length<sizeLine) (h:∀H',SameBut p H H'->H' p=some (.dK (bW kvs (.inr z) v))->nx σ H'):JT nx σ (.ref p) v (.str z) H :=
 ⟨p,_,rfl,DPut.k (k:= .inr z) e hl,h _ SameBut.upd bC⟩
theorem oK {p:Addr}{v:V}{z:Str}{kvs:List (Key×V)} (e:Rd H p (.dK kvs)) (hv:bA kvs (.inr z)=some v) (h:Q v H):LB Q (.ref p) (.str z) H:=⟨p,v,rfl,.inl ⟨kvs,.inr z,e,rfl,hv.symm⟩,h⟩
theorem R8 (h:∀p H',H p=none->Same H H'->H' p=some (.dK [])->Q (.ref p) H'):OQ σ H Q:=gU h
theorem QV (h:td σ H (OL σ ty tx Q)):NP td ty tx σ H Q:=h
theorem jT {p:Addr}{kvs:List (List Key×V)} (e:H p=some (.dT kvs)) (h:ty σ H fun y H2=>tx σ H2 (YT p Q y)):OL σ ty tx Q (.ref p) H:=⟨p,rfl,.inr ⟨kvs,.inl e⟩,h⟩
theorem lA {p b:Addr}{z:V}{kvs:List (List Key×V)} (k:List Key) (e:H p=some (.dT kvs)) (eb:H b=some (.tup (k.map kV))) (h:Q ((bA kvs k).getD z) H):YT p Q (.ref b) z H:=⟨_,DGet.t e eb,h⟩
theorem Q4 {p:Addr}{vs:List V}{ps:List (Key×V)} (e:H p=some (.lst vs)) (r:DQ H vs ps) (h:∀l H',H l=none->Same H H'->H' l=some (.dK (j6 [] ps))->Q (.ref l) H'):NH [.ref p] H Q:=⟨p,vs,ps,rfl,.inl e,r,gU h⟩
theorem EJ {p:Addr}{vs:List V}{rs:List (List Key)}{sh:List Bool} (e:SqL K H p vs) (kr:KRows H vs rs) (hl:vs.length<64) (hs:∀r∈rs,r.map dS=sh) (hn:sh≠[]) (h:∀l ws H',H l=none->Same H H'->H' l=some (.lst ws)->KRows H' ws (mE rs)->Q (.ref l) H'):IK K [.ref p] H Q :=
 ⟨p,vs,rs,sh,rfl,e,kr,hl,hs,hn,gU fun l H' n S e=>h l _ H' n S e ((KK kr).same S)⟩
theorem sP {te:TE}{p:Addr}{u:HO} (e:H p=some u) (nf:∀o x,u≠ .frz o x) (h:te σ H fun x=>g8 p (Q x)):T0 te σ H Q:=⟨p,fun o x z=>nf o x (by rw[e]at z;exact Option.some.inj z),h⟩
theorem D1 {ts:TS}{bk ct:St->Hp->Prop}{rt:VK}{p:Addr}{u:HO} (e:H p=some u) (nf:∀o x,u≠ .frz o x) (h:ts ⟨fun σ'=>g8 p (nx σ'),fun v=>g8 p (rt v),fun σ'=>g8 p (bk σ'),fun σ'=>g8 p (ct σ')⟩ σ H):TM ts ⟨nx,rt,bk,ct⟩ σ H :=
 ⟨p,fun o x z=>nf o x (by rw[e]at z;exact Option.some.inj z),h⟩
theorem jY {p:Addr}{o:Obj}{u:HO}{R:Hp->Prop} (e:H p=some (.frz o u)) (h:∀H',SameBut p H H'->H' p=some u->R H'):g8 p R H:=⟨o,u,e,h _ SameBut.upd bC⟩
theorem tU {H Hf H1 H2:Hp}{p:Addr}{u:HO} (e:H p=some u) (a:SameBut p H Hf) (b:SameBut p Hf H1) (c:SameBut p H1 H2) (e2:H2 p=some u):Same H H2:=fun x o z=>by
 by_cases hx:x=p
 ·subst hx;rw[e]at z;cases z;exact e2
 ·exact c x o (b x o (a x o z hx) hx) hx
end
section
variable {X:Cx}{K:PySem.W.Frag}
theorem qT {e:Expr}{ta:TE}{f:Str}{pos:Pos} (he:PE X e ta) (hb:attributeBase e f X.env (eval e X.env)=eval e X.env) (hK:X.K=K:=by rfl):PE X (.Attribute e f pos) (QC K ta f):=by
 subst hK;exact bP he hb
theorem xV (hK:X.K=K:=by rfl):OpR X (compareOp .In) (rIn K false):=by
 subst hK;exact NA
end
end L2
namespace L2
open PySem PySem.W PyProof.Rows
section
variable {K:PySem.W.Frag}{ti:TT}{te:TE}{σ:St}{ci:List Nat}{rest:St}{fin:List V->Hp->Prop}{H:Hp}{a:Addr}{α:Type}
theorem oA {vs:List V}{xs:List α} (F:V->α->Prop) (c:α->Bool) (P:α->V->Hp->Prop) (hm:∀x y H1 H2,P x y H1->Same H1 H2->P x y H2) (hn:xs.length<=sizeLine) (hr:ci.map (fun i=>(σ[i]?).join)=rest) (hl:SqL K H a vs) (hv:Paired F vs xs)
  (ht:∀v x H1,F v x->x∈xs->Same H H1->∀R:Bool->Hp->Prop,(∀H2,Same H1 H2->R (c x) H2)->ti (some v::rest) H1 R)
  (he:∀v x H1,F v x->x∈xs->c x=true->Same H H1->∀R:VK,(∀y H2,P x y H2->Same H1 H2->R y H2)->te (some v::rest) H1 R)
  (hf:∀ys H1,Same H H1->Paired (fun x y=>P x y H1) (xs.filter c) ys->fin ys H1):dW (Itl K a) (bX 0) ti te (bS 1 ci σ) fin H:=by
 rw[yX hr];have hlen:vs.length=xs.length:=Paired.length hv;refine hZ xs c P hm hn (fun i H1 s hi=>⟨vs,vs[i],s.seq hl,List.getElem?_eq_getElem (by lia)⟩) (fun H1 s=>⟨vs,s.seq hl,by lia⟩) (fun i x H1 hx s1 v H' y=> ?_) hf;obtain⟨rfl,e2⟩:=y;have ev:=e2 vs (s1.seq hl);have hF:=Paired.at2 hv ev hx;have hmem:=List.mem_of_getElem? hx;refine⟨Same.refl _,some v::rest,rfl,fun j v hv=> ?_,fun R h=>h,fun R h=>ht v x _ hF hmem s1 R h,fun hc H2 s2 R h=>he v x H2 hF hmem hc (s1.trans s2) R h⟩;cases j with
 | zero=>cases hv
 | succ j=>exact hv
theorem WY {kvs:List (Key×V)}{o:Obj}{xs:List α} (F:Key×V->α->Prop) (c:α->Bool) (P:α->V->Hp->Prop) (hm:∀x y H1 H2,P x y H1->Same H1 H2->P x y H2) (hn:xs.length<=sizeLine) (hr:ci.map (fun i=>(σ[i]?).join)=rest) (h0:H a=some (.frz o (.dK kvs))) (hv:Paired F kvs xs)
  (ht:∀e x H1,F e x->x∈xs->Same H H1->∀R:Bool->Hp->Prop,(∀H2,Same H1 H2->R (c x) H2)->ti (some (kV e.1)::some e.2::rest) H1 R)
  (he:∀e x H1,F e x->x∈xs->c x=true->Same H H1->∀R:VK,(∀y H2,P x y H2->Same H1 H2->R y H2)->te (some (kV e.1)::some e.2::rest) H1 R)
  (hf:∀ys H1,Same H H1->Paired (fun x y=>P x y H1) (xs.filter c) ys->fin ys H1):dW (Iti a o kvs) (tL K 2 (iH (bX 0) (iH (bX 1) wJ))) ti te (bS 2 ci σ) fin H:=by
 have e0:bS 2 ci σ=none::none::rest:=DZ hr;rw[e0];have hlen:kvs.length=xs.length:=Paired.length hv;refine hZ xs c P hm hn (fun i H1 s hi=>⟨s _ _ h0,by lia⟩) (fun H1 s=>⟨s _ _ h0,by lia⟩) (fun i x H1 hx s1 v H' y=> ?_) hf;obtain⟨k,u,q,e2,rfl,hq,rfl⟩:=y;have hF:=Paired.at2 hv e2 hx;have hmem:=List.mem_of_getElem? hx;have sq:Same H1 (upd H1 q (.tup [kV k,u])):=wD hq;refine⟨sq,some (kV k)::some u::rest,rfl,fun j v hv=> ?_,fun R h=>⟨q,[kV k,u],rfl,.inl (.inl bC),rfl,kV k,[u],rfl,u,[],rfl,rfl,h⟩,fun R h=>ht _ x _ hF hmem (s1.trans sq) R h,fun hc H2 s2 R h=>he _ x H2 hF hmem hc ((s1.trans sq).trans s2) R h⟩
 match j,hv with
 | 0,hv=>cases hv
 | 1,hv=>cases hv
 | j+2,hv=>exact hv
end
theorem mO {α:Type}{f:α->V}:∀{l:List α}{ys:List V},Paired (fun x y=>y=f x) l ys->ys=l.map f
 | _,_,.nil=>rfl
 | _,_,.cons h t=>by rw[h,mO t];rfl
theorem fO {α:Type}(l:List α):l.filter (fun _=>true)=l:=by simp
theorem FQ {K:PySem.W.Frag}{H:Hp}{Q:VK}{p:Addr}{z:Str}{ss:List Str} (e:SqL K H p (ss.map V.str)) (h:Q (.bl (decide (z∈ss))) H):rIn K false (.str z) (.ref p) H Q:=by
 refine⟨p,_,rfl,.inl e,rfl,?_,?_⟩
 ·rw[List.all_eq_true];intro x hx;obtain⟨y,_,rfl⟩:=List.mem_map.mp hx;rfl
 ·have e2:inV (.str z) (ss.map V.str)=decide (z∈ss):=by
   rw[Bool.eq_iff_iff,decide_eq_true_eq];unfold inV;rw[List.any_eq_true]
   constructor
   ·rintro ⟨x,hx,h⟩;obtain⟨y,hy,rfl⟩:=List.mem_map.mp hx;have:y=z:=by simpa [eqV] using h
    rw[←this];exact hy
   ·intro h;exact⟨.str z,List.mem_map.mpr ⟨z,h,rfl⟩,by simp[eqV]⟩
  show Q (.bl (inV (.str z) (ss.map V.str))) H;rw[e2];exact h
end L2
namespace L2
open PySem PySem.W PyProof.Rows
abbrev aM:=Int×Str×Int
def dM (t:Int)(n:Str):List Key:=[.inl t,.inr n]
def fX (r:aM):List Key:=[.inl r.1,.inr r.2.1,.inl r.2.2]
def aAc (r:aM):List Key:=[.inr r.2.1,.inl r.2.2]
def mD:V->Int
 | .int i=>i
 | _=>0
def zU (kvs:List (List Key×V))(r:aM):List (List Key×V):=bW kvs (dM r.1 r.2.1) (.int (mD ((bA kvs (dM r.1 r.2.1)).getD (.int 0))+r.2.2))
def fZ (rows:List aM):List (List Key×V):=rows.foldl zU []
theorem hG (rows:List aM)(r:aM):fZ (rows++[r])=zU (fZ rows) r:=by unfold fZ;rw[List.foldl_append];rfl
def c9 (rows:List aM)(t:Int)(n:Str):Int:=((rows.filter fun r=>decide (r.1=t)&&decide (r.2.1=n)).map (·.2.2)).sum
theorem K3 (rows:List aM)(r:aM)(t:Int)(n:Str):c9 (rows++[r]) t n=c9 rows t n+if r.1=t/\r.2.1=n then r.2.2 else 0:=by
 unfold c9;rw[List.filter_append,List.map_append,List.sum_append]
 congr 1
 by_cases h:r.1=t/\r.2.1=n
 ·rw[if_pos h,List.filter_cons_of_pos (by simp[h])];simp
 ·rw[if_neg h,List.filter_cons_of_neg (by simpa using h)];simp
theorem D6 {t t':Int}{n n':Str} (h:dM t n=dM t' n'):t=t'/\n=n':=by
 unfold dM at h;injection h with h1 h2;injection h2 with h2;exact⟨Sum.inl.inj h1,Sum.inr.inj h2⟩
theorem jZ {α:Type}{P:List α->Prop} (h0:P []) (hs:∀l a,P l->P (l++[a])) (l:List α):P l:=by
 have:∀m:List α,P m.reverse:=fun m=>by
  induction m with
  | nil=>exact h0
  | cons a m ih=>rw[List.reverse_cons];exact hs _ _ ih
 rw[←List.reverse_reverse l];exact this _
theorem rH (t:Int)(n:Str)(rows:List aM):mD ((bA (fZ rows) (dM t n)).getD (.int 0))=c9 rows t n:=by
 induction rows using jZ with
 | h0=>rfl
 | hs l r ih =>
  rw[hG,K3];unfold zU;rw[kW]
  by_cases e:dM t n=dM r.1 r.2.1
  ·obtain⟨rfl,rfl⟩:=D6 e;rw[if_pos rfl,if_pos ⟨rfl,rfl⟩,←ih];rfl
  ·rw[if_neg e,if_neg (fun h=>e (by rw[h.1,h.2])),ih];lia
theorem NX {κ:Type}[DecidableEq κ]{kvs:List (κ×V)}{k:κ}{v:V} (nd:(kvs.map (·.1)).Nodup):((bW kvs k v).map (·.1)).Nodup:=by
 unfold bW
 split
 ·have e:(kvs.map fun kv=>if kv.1=k then (kv.1,v) else kv).map (·.1)=kvs.map (·.1):=by
   rw[List.map_map]
   apply List.map_congr_left
   intro x _;show (if x.1=k then (x.1,v) else x).1=x.1
   split<;>rfl
  rw[e];exact nd
 ·rename_i h;rw[List.map_append];refine JE nd fun hk=>h ?_;obtain⟨x,hx,e⟩:=List.mem_map.mp hk;rw[List.any_eq_true];exact⟨x,hx,decide_eq_true e⟩
theorem iF {κ:Type}[DecidableEq κ]:∀{kvs:List (κ×V)}{e:κ×V},(kvs.map (·.1)).Nodup->e∈kvs->bA kvs e.1=some e.2
 | a::l,e,nd,h=>by
  have nd':=List.pairwise_cons.mp nd;rcases List.mem_cons.mp h with rfl|h
  ·exact dG rfl
  ·rw[cV (nd'.1 e.1 (List.mem_map.mpr ⟨e,h,rfl⟩))];exact iF nd'.2 h
theorem pJ {κ:Type}[DecidableEq κ]{kvs:List (κ×V)}{k:κ}{v:V} (h:bA kvs k=some v):(k,v)∈kvs:=by
 unfold bA at h;obtain⟨x,hx,e⟩:=Option.map_eq_some_iff.mp h;have h1:=List.find?_some hx;have h2:=List.mem_of_find?_eq_some hx;have h3:x.1=k:=of_decide_eq_true h1;rw[←h3,←e];exact h2
def aB0 (kvs:List (List Key×V)):Prop:=(kvs.map (·.1)).Nodup/\∀e∈kvs,∃t n i,e=(dM t n,.int i)
theorem cW (rows:List aM):aB0 (fZ rows):=by
 induction rows using jZ with
 | h0=>exact⟨List.nodup_nil,fun e h=>nomatch h⟩
 | hs l r ih =>
  rw[hG];refine⟨NX ih.1,fun e he=> ?_⟩;rcases wV he with h|⟨h1,h2⟩
  ·exact ih.2 e h
  ·exact⟨_,_,_,Prod.ext h1 h2⟩
theorem P6 (rows:List aM)(t:Int)(n:Str):∃i,(bA (fZ rows) (dM t n)).getD (.int 0)= .int i:=by
 cases h:bA (fZ rows) (dM t n) with
 | none=>exact⟨0,rfl⟩
 | some v =>
  obtain⟨t',n',i,e⟩:=(cW rows).2 _ (pJ h);cases e;exact⟨i,rfl⟩
theorem rS (rows:List aM):(fZ rows).length<=rows.length:=by
 induction rows using jZ with
 | h0=>exact Nat.le_refl _
 | hs l r ih =>
  rw[hG,List.length_append];exact Nat.le_trans (fR _ _ _) (by simp;lia)
def P7 (e:List Key×V):Bool:=decide (0<mD e.2)
def KD (e:List Key×V):List Key:=e.1++[.inl (mD e.2)]
def iD (rows:List aM):List (List Key):=((fZ rows).filter P7).map KD
theorem mem_told {rows:List aM}{k:List Key}:k∈iD rows↔∃t n,k=fX (t,n,c9 rows t n)/\0<c9 rows t n:=by
 unfold iD
 constructor
 ·intro h;obtain⟨e,he,rfl⟩:=List.mem_map.mp h;obtain⟨h1,h2⟩:=List.mem_filter.mp he;obtain⟨t,n,i,rfl⟩:=(cW rows).2 e h1;have hv:=iF (cW rows).1 h1;have ht:=rH t n rows;rw[hv]at ht;have ht':i=c9 rows t n:=ht;refine⟨t,n,?_,?_⟩
  ·rw[←ht'];rfl
  ·rw[←ht'];exact of_decide_eq_true h2
 ·rintro ⟨t,n,rfl,h⟩;have ht:=rH t n rows;cases hv:bA (fZ rows) (dM t n) with
  | none =>
   rw[hv]at ht;have:(0:Int)=c9 rows t n:=ht
   lia
  | some v =>
   have hm:=pJ hv;obtain⟨t',n',i,e⟩:=(cW rows).2 _ hm;obtain⟨e1,e2⟩:=Prod.mk.inj e;subst e2;rw[hv]at ht;have ht':i=c9 rows t n:=ht;refine List.mem_map.mpr ⟨(dM t n,.int i),List.mem_filter.mpr ⟨hm,?_⟩,?_⟩
   ·show decide (0<i)=true;rw[ht'];exact decide_eq_true h
   ·rw[ht'];rfl
theorem y7 (rows:List aM):(iD rows).Nodup:=by
 unfold iD;have h1:((fZ rows).filter P7).Pairwise fun a b=>a.1≠b.1:=by
  have:=(cW rows).1;rw[List.Nodup,List.pairwise_map]at this;exact this.filter _
 rw[List.Nodup,List.pairwise_map];refine List.Pairwise.imp_of_mem ?_ h1;intro a b ha hb h z;obtain⟨t,n,i,rfl⟩:=(cW rows).2 a (List.mem_filter.mp ha).1;obtain⟨t',n',i',rfl⟩:=(cW rows).2 b (List.mem_filter.mp hb).1
 apply h
 have z':fX (t,n,i)=fX (t',n',i'):=z;unfold fX at z';injection z' with z1 z2;injection z2 with z2 z3;show dM t n=dM t' n';have y1:t=t':=Sum.inl.inj z1;have y2:n=n':=Sum.inr.inj z2;rw[y1,y2]
theorem xX (rows:List aM):∀r∈iD rows,r.map dS=[true,false,true]:=fun r hr=>by
 obtain⟨t,n,rfl,_⟩:=mem_told.mp hr;rfl
def kG (rows:List aM)(t:Int)(ns:List Str):List aM:=(ns.filter fun n=>decide (0<c9 rows t n)).map fun n=>(t,n,c9 rows t n)
theorem FU {a b:aM}(h:fX a=fX b):a=b:=by
 unfold fX at h;injection h with h1 h2;injection h2 with h2 h3;injection h3 with h3;exact Prod.ext (Sum.inl.inj h1) (Prod.ext (Sum.inr.inj h2) (Sum.inl.inj h3))
theorem oR {rows:List aM}{t:Int}{D:List Str}{n:Str} (hn:n∈D):c9 (rows.filter fun r=>decide (r.1=t)&&decide (r.2.1∈D)) t n=c9 rows t n:=by
 unfold c9;rw[List.filter_filter]
 congr 2
 apply List.filter_congr
 intro r _
 by_cases h:r.1=t/\r.2.1=n
 ·have:r.2.1∈D:=by rw[h.2];exact hn
  simp[h,hn]
 ·have h':(decide (r.1=t)&&decide (r.2.1=n))=false:=by simpa using h
  rw[h',Bool.false_and]
theorem J2 {rows:List aM}{t t':Int}{D:List Str}{n:Str} (h:¬(t'=t/\n∈D)):c9 (rows.filter fun r=>decide (r.1=t)&&decide (r.2.1∈D)) t' n=0:=by
 unfold c9;rw[List.filter_filter,List.filter_eq_nil_iff.mpr]
 ·rfl
 ·intro r _ z;simp only[Bool.and_eq_true,decide_eq_true_eq]at z
  apply h
  rw[←z.1.1,←z.1.2];exact⟨z.2.1,z.2.2⟩
theorem F4 (rows:List aM)(t:Int){D:List Str}(nd:D.Nodup):(iD (rows.filter fun r=>decide (r.1=t)&&decide (r.2.1∈D))).Perm ((kG rows t (jF D)).map fX):=by
 have hp:=rP D;have nds:(jF D).Nodup:=hp.nodup_iff.mpr nd;refine(List.perm_ext_iff_of_nodup (y7 _) ?_).mpr fun k=> ?_
 ·rw[List.Nodup,List.pairwise_map];unfold kG;rw[List.pairwise_map];refine List.Pairwise.imp ?_ (nds.filter _);intro a b h z;exact h (Prod.mk.inj (Prod.mk.inj (FU z)).2).1
 ·rw[mem_told];unfold kG;rw[List.map_map]
  constructor
  ·rintro ⟨t',n,rfl,h⟩
   by_cases hc:t'=t/\n∈D
   ·obtain⟨rfl,hn⟩:=hc;rw[oR hn]at h ⊢;exact List.mem_map.mpr ⟨n,List.mem_filter.mpr ⟨hp.mem_iff.mpr hn,decide_eq_true h⟩,rfl⟩
   ·rw[J2 hc]at h;lia
  ·intro h;obtain⟨n,hn,rfl⟩:=List.mem_map.mp h;obtain⟨h1,h2⟩:=List.mem_filter.mp hn;have hD:=hp.mem_iff.mp h1;refine⟨t,n,?_,?_⟩
   ·rw[oR hD];rfl
   ·rw[oR hD];exact of_decide_eq_true h2
theorem ZG (rows:List aM)(t:Int){D:List Str}(nd:D.Nodup):((kG rows t (jF D)).map fX).Pairwise fun x y=>fH x y=true:=by
 unfold kG;rw[List.pairwise_map,List.pairwise_map];refine List.Pairwise.imp ?_ ((R3 nd).filter _);intro a b h;have hne:a≠b:=fun z=>by rw[z,zL]at h;cases h
 show fH (fX (t,a,c9 rows t a)) (fX (t,b,c9 rows t b))=true;unfold fX;show (if (Sum.inl t:Key)= .inl t then (if (Sum.inr a:Key)= .inr b then _ else fT (.inr a) (.inr b)) else _)=true;rw[if_pos rfl,if_neg (fun z=>hne (Sum.inr.inj z))];exact h
theorem HD (rows:List aM)(t:Int){D:List Str}(nd:D.Nodup):mE (iD (rows.filter fun r=>decide (r.1=t)&&decide (r.2.1∈D)))=(kG rows t (jF D)).map fX :=
 IW (lt:=fH) (fun x _=>wS x) (fun _ _ _ _ _ _ a b=>zP a b) ((kC _).trans (F4 rows t nd)) (RC ⟨_,xX _⟩ (y7 _)) (ZG rows t nd)
theorem D3 (rows:List aM)(t:Int){D:List Str}(nd:D.Nodup):(iD (rows.filter fun r=>decide (r.1=t)&&decide (r.2.1∈D))).length<=D.length:=by
 rw[(F4 rows t nd).length_eq,List.length_map];unfold kG;rw[List.length_map];exact Nat.le_trans (List.length_filter_le _ _) (Nat.le_of_eq (rP D).length_eq)
end L2
namespace L2
open PySem PySem.W PyProof.Rows
theorem WT:typeLookup (.type "dict") "__len__" =pure (some (.builtin "dict.__len__")):=by rw[typeLookup_type,builtinLookup_eq_fast];kernel_rfl
section
variable {prog:Program}{w:World}{A:Around}{E:Value->Shared->Prop}{s:Shared}{d:Addr}{κ:Type} [DecidableEq κ] {knd:KeyKind prog w κ}{ps:List (κ×Value)}{ep:Nat}
theorem OX (T:s.TypeIs (.ref d) "dict"){Q:Bool->Shared->Prop}(h:Q false s):wpAny (model prog w) A (Builtin.List.listLengthHint (.ref d)) Q E s:=by
 unfold Builtin.List.listLengthHint;refine wpAny_bind (wpAny_specialOf T WT ?_);generalize q:("dict.__len__" :String)=i0
 wp_delta
 rw[show splitId i0=some ("dict","__len__") from by subst q;decide +kernel];subst q;refine wpAny_bind (wpAny_isInstance (T:= "dict") (b:=true) T (by rw[isSubtype_type];kernel_rfl) (wpAny_ite_split (fun z=>absurd z (by decide)) (fun _=>wpAny_ite_split (fun _=> ?_) (fun z=>absurd (by decide +kernel) z))));exact wpAny_bind (wpAny_typeOf T (wpAny_pure h))
theorem HA {R:Result->Shared->Prop}(hh:A.handled=none)(hm:s.heap.DictAt knd d ps ep)(hd0:(d==sysModules)=false)(S:Addr)(hSd:S≠d)(c0:Nat)(hS:s.heap.get? S=some { cls:= .type "list",data:= .seq #[] c0 })(hn:ps.length<=sizeLine)
  (k:∀h' tk acc c,(∀b o,b≠S->s.heap.get? b=some o->h'.get? b=some o)->h'.get? S=some { cls:= .type "list",dict:=none,data:= .seq acc c,slots:= #[] }->ItemsOf (fun i v=>∃k x,ps[i]? =some (k,x)/\knd.is k v=true) acc ps.length->R (.ok (.ret .none)) { s with heap:=h',toks:=tk }) :
  wpAny (model prog w) A.in1 (Builtin.List.listExtendWith (.ref S) (.ref d) .none) (fun fin s'=>match fin with| .done f=>R (.ok f) s'| .again c'=>c'.quiet=true/\codeAny (model prog w) A c' R s') (fun e s'=>R (.error e) s') s:=by
 obtain⟨o,es,ho,hc,hq,hk,hp,hnd⟩:=id hm;have T:s.TypeIs (.ref d) "dict" :=⟨o,ho,hc.1⟩
 have lS:S<s.heap.objs.size:=Heap.lt_size hS;have ld:d<s.heap.objs.size:=Heap.lt_size ho;have hsz:es.size=ps.length:=by rw[←hp.length];simp
 have W:=(Walks.dictKeys (prog:=prog) (w:=w) (knd:=knd) (A:=A.in1) hh s.heap.objs.size d (Nat.ne_of_lt ld) ps ep).toS;have run:∀(h:Heap) (c1 tk:Nat),h.IsKeyIter s.heap.objs.size d 0 ps.length ep->(∀b u,b≠S->s.heap.get? b=some u->h.get? b=some u)->h.get? S=some { cls:= .type "list",data:= .seq #[] c1 } →
   codeAny (model prog w) A (.builtin "list.extend.loop" ⟨[.ref S,.ref s.heap.objs.size,.none],[]⟩) R { s with heap:=h,toks:=tk }:=by
  intro h c1 tk hit kp hS1;refine codeAny_extend_loopS W hn S (by simp only[List.mem_cons,List.not_mem_nil,or_false,not_or];exact⟨Nat.ne_of_lt lS,hSd⟩) .none ps.length 0 _ #[] c1 rfl (Nat.zero_le _) ⟨hit,o,es,kp d o (Ne.symm hSd) ho,hc,hq,hk,hp,hnd⟩ hS1 (ItemsOf.nil _) fun s' acc c' mv hS2 hacc=> ?_;rw[Moved.eq_with mv];refine k s'.heap s'.toks acc c' (fun b u hb e=>mv.heap b u (fun z=> ?_) (kp b u hb e)) hS2 hacc;rcases List.mem_cons.mp z with z|z
  ·exact hb z
  ·have:=Heap.lt_size e;rw[List.mem_singleton.mp z]at this;exact Nat.lt_irrefl _ this
 unfold Builtin.List.listExtendWith;refine wpAny_bind (wpAny_typeOf (T:= "dict") T ?_);simp only[show Builtin.List.listSameRef (.ref S) (.ref d)=false by simp[Builtin.List.listSameRef,hSd],show (Value.type "dict" ==Value.type "list")=false by decide,show (Value.type "dict" ==Value.type "tuple")=false by decide,Bool.or_false,Bool.false_eq_true,if_false];refine wpAny_bind (wO hd0 ho hc hq ?_);have hS1:=Heap.get?_push_of_some { cls:= .type "dict_keyiterator",data:= .fields #[.ref d,.int 0 0,.int es.size 0,.int ep 0] } hS;refine wpAny_bind (wpAny_holding (OX ⟨o,Heap.get?_push_of_some _ ho,hc.1⟩ ?_));have hit:(s.heap.push { cls:= .type "dict_keyiterator",data:= .fields #[.ref d,.int 0 0,.int es.size 0,.int ep 0] }).IsKeyIter s.heap.objs.size d 0 ps.length ep:=⟨_,Heap.get?_push_size _ rfl,rfl,by rw[hsz];rfl⟩
 refine wpAny_ite_split (fun z=> ?_) (fun _=>wpAny_pure ⟨plainId_quiet F.plain_extend_loop _,run _ c0 _ hit (fun b u _ e=>Heap.get?_push_of_some _ e) hS1⟩);refine wpAny_bind (wpAny_rule (wpAny_bind ?_));show wpAny _ A.in1 (updateSeq S (·.push .none) >>= fun _=>updateSeq S (·.pop)) _ _ _;have u1:=Heap.get?_update_self (Obj.mapSeq (·.push Value.none)) hS1 rfl;have u2:=Heap.get?_update_self (Obj.mapSeq (·.pop)) u1 rfl;refine wpAny_bind (wpAny_updateSeq hS1 rfl (wpAny_updateSeq (hz:=by seq_fits) u1 rfl (wpAny_pure ⟨plainId_quiet F.plain_extend_loop _,run _ _ _ ?_ (fun b u hb e=> ?_) u2⟩)))
 ·exact hit.at fun u e=>(Heap.get?_update_other _ _ (Nat.ne_of_lt lS)).trans ((Heap.get?_update_other _ _ (Nat.ne_of_lt lS)).trans e)
 ·exact(Heap.get?_update_other _ _ (Ne.symm hb)).trans ((Heap.get?_update_other _ _ (Ne.symm hb)).trans (Heap.get?_push_of_some _ e))
theorem OI {Q:Value->Shared->Prop}(hh:A.handled=none)(hm:s.heap.DictAt knd d ps ep)(hd0:(d==sysModules)=false)(hn:ps.length<=sizeLine)
  (k:∀h' tk acc c,(∀b o,s.heap.get? b=some o->h'.get? b=some o)->h'.get? s.heap.objs.size=some { cls:= .type "list",dict:=none,data:= .seq acc c,slots:= #[] }->ItemsOf (fun i v=>∃k x,ps[i]? =some (k,x)/\knd.is k v=true) acc ps.length->Q (.ref s.heap.objs.size) { s with heap:=h',toks:=tk }) :
  wpAny (model prog w) A (call (.type "list") [.ref d]) Q E s:=by
 refine callType_codes (Q₁:=fun x s1=>x= .ref s.heap.objs.size/\s1={ s with heap:=s.heap.push { cls:= .type "list",data:= .seq #[] } }) F.called_list (F.typeCall_list_1 _) F.entry_list_init (code_list_new _ ⟨rfl,rfl⟩) ?_;rintro x s1 ⟨rfl,rfl⟩;have hS:(s.heap.push { cls:= .type "list",data:= .seq #[] }).get? s.heap.objs.size=some { cls:= .type "list",data:= .seq #[] }:=Heap.get?_push_size _ rfl;have hm1:(s.heap.push { cls:= .type "list",data:= .seq #[] }).DictAt knd d ps ep:=hm.at' fun o e=>Heap.get?_push_of_some _ e;have hdS:s.heap.objs.size≠d:=fun z=>by
  obtain⟨o,_,ho,_⟩:=hm;have:=Heap.lt_size ho;rw[←z]at this;exact Nat.lt_irrefl _ this
 refine⟨⟨_,hS,rfl⟩,F.args_list_init_2 _ _,?_⟩;show wpAny _ A.in1.in1 (Builtin.List.listItems (.ref s.heap.objs.size) >>= fun old=>Builtin.List.listUpdate (.ref s.heap.objs.size) (fun _=> #[]) >>= fun _=>letGo old.toList.reverse >>= fun _=>Builtin.List.listExtendWith (.ref s.heap.objs.size) (.ref d) .none) _ _ _;refine wpAny_bind ?_;unfold Builtin.List.listItems;refine wpAny_bind (wpAny_seqItems hS rfl (wpAny_pure ?_));show wpAny _ A.in1.in1 (updateSeq s.heap.objs.size (fun _=> #[]) >>= fun _=>letGo (#[]:Array Value).toList.reverse >>= fun _=>Builtin.List.listExtendWith (.ref s.heap.objs.size) (.ref d) .none) _ _ _;have u1:=Heap.get?_update_self (Obj.mapSeq (fun _=>(#[]:Array Value))) hS rfl;have kp:∀b o,b≠s.heap.objs.size->(s.heap.push { cls:= .type "list",data:= .seq #[] }).get? b=some o->((s.heap.push { cls:= .type "list",data:= .seq #[] }).update s.heap.objs.size (Obj.mapSeq (fun _=>(#[]:Array Value)))).get? b=some o:=fun b o hb e=>(Heap.get?_update_other _ _ (Ne.symm hb)).trans e;refine wpAny_bind (wpAny_updateSeq hS rfl (wpAny_bind (wpAny_letGo ?_)));refine HA (A:=A.in1) hh (hm1.at' fun o e=>kp d o (Ne.symm hdS) e) hd0 _ hdS _ u1 hn fun h' tk acc c kk hS' hacc=> ?_;exact⟨rfl,k h' tk acc c (fun b o e=>kk b o (Nat.ne_of_lt (Heap.lt_size e)) (kp b o (Nat.ne_of_lt (Heap.lt_size e)) (Heap.get?_push_of_some _ e))) hS' hacc⟩
end
section
variable {X:Cx}
def N6:List V->Hp->VK->Prop:=fun xs H Q=>∃p kvs,xs=[.ref p]/\Rd H p (.dK kvs)/\∀l,H l=none->Q (.ref l) (upd H l (.lst (kvs.map fun e=>kV e.1)))
theorem CY {P:Program}{w:World}{kvs:List (Key×V)}{rs:List (Key×Value)} (r:KV kvs rs) {acc:Array Value} (h:ItemsOf (fun i v=>∃k x,rs[i]? =some (k,x)/\(bL P w).is k v=true) acc rs.length):Vals (kvs.map fun e=>kV e.1) acc.toList:=by
 have e0:acc.toList.length=rs.length:=by rw[Array.length_toList];exact h.1
 refine D7 (by rw[List.length_map,e0];exact r.length) fun i x u h1 h2=> ?_;obtain⟨k,y,e1,e2⟩:=h.2 i u (by simpa using h2);rw[List.getElem?_map]at h1;obtain⟨e,he,rfl⟩:=Option.map_eq_some_iff.mp h1;have hi:i<kvs.length:=(List.getElem?_eq_some_iff.mp he).1;obtain⟨k',v',u',f1,f2,f3⟩:=yG r hi;rw[he]at f1;cases f1;rw[e1]at f2;cases f2;exact zJ e2
theorem yU (hc:X.calm=true):c6 X (.type "list") N6:=by
 intro pins s σ H xs us Q I r h;obtain⟨p,kvs,rfl,hq,q⟩:=h;obtain⟨u,rfl,rx⟩:=nM r;cases rx;obtain⟨z,y,rs,kv,o,es,ep,h1,h2,h3,h4,h5,h6⟩:=l9 I.hok hq;have hl:=kv.length;refine OI (knd:=bL X.prog X.w) (ps:=rs) (ep:=ep) (I.ok.hd hc) ⟨o,es,h1,h2,h3,h4,h5,h6⟩ y (by lia) fun h' tk acc c kp hS hacc=> ?_;exact⟨.ref _,_,I.laid (t':=tk) kp (Nat.le_refl _) (show ObjOk X.prog X.w _ h' _ (.lst (kvs.map fun e=>kV e.1)) from⟨by rw[List.length_map];exact z,acc.toList,c,CY kv hacc,by rw[Array.toArray_toList];exact hS⟩),rfl,q _ (I.hok.fresh (Nat.le_refl _))⟩
end
end L2
namespace L2
open PySem PySem.W PyProof.Rows
def uV (v d:Addr):HO:= .ext fun h=>h.IsValuesView v d
def KB (Q:VK):VK:=fun x H1=>∃a kvs,x= .ref a/\Rd H1 a (.dK kvs)/\∀v,H1 v=none->Q (.ref v) (upd H1 v (uV v a))
def TZ (td:TE):TE:=fun σ H Q=>td σ H (KB Q)
section
variable {X:Cx}
theorem K7 {l:Expr}{td:TE}{apos cpos:Pos} (hl:PE X l td) (hbase:attributeBase l "values" X.env (eval l X.env)=eval l X.env:=by rfl) (hline:(apos.endLine==cpos.line)=true:=by rfl) :
  PE X (.Call (.Attribute l "values" apos) [] [] cpos) (TZ td):=by
 intro pins s σ H Q I h;refine wpAny_Call_method0_late hbase hline (thn (hl pins s σ H _ I h) fun v s1 ⟨x,H1,I1,r1,q1⟩=> ?_);obtain⟨a,kvs,rfl,hq,q⟩:=q1;cases r1;obtain⟨t1,t2,_⟩:=xW I1 (.inl ⟨kvs,hq⟩);refine⟨"dict","dict.values",F.plainAttrs_dict,F.slot_dict_values,F.type_dict_values,t1,t2,Calls.callWith_builtin rfl (PySem.evalArgs_none ?_)⟩;obtain⟨z,y,vs,r,o,es,ep,h1,h2,h3,h4,h5,h6⟩:=l9 I1.hok hq;refine call_meetsIn F.slot_dict_values t1 F.entry_dict_values (F.args_dict_values_1 _) (meets_dict_values (bL X.prog X.w) a y) ⟨⟨vs,o,es,ep,h1,h2,h3,h4,h5,h6⟩,?_⟩;have hv:(s1.heap.push { cls:= .type "dict_values",data:= .fields #[.ref a] }).IsValuesView s1.heap.objs.size a:=⟨_,Heap.get?_push_size _ rfl,rfl,rfl⟩
 refine⟨.ref s1.heap.objs.size,_,I1.laid (t':=s1.toks) (fun b u e=>Heap.get?_push_of_some _ e) (Nat.le_refl _) (show ObjOk X.prog X.w _ _ _ (uV s1.heap.objs.size a) from⟨hv,⟨_,Heap.get?_push_size _ rfl⟩,fun g1 g2 p k=> ?_⟩),rfl,q _ (I1.hok.fresh (Nat.le_refl _))⟩;obtain⟨o,e,c⟩:=p;exact⟨o,k o e,c⟩
theorem F7 (ns:List Int):∀j,j<=ns.length->preSum (fun i=>ns.getD i 0) j=(ns.take j).sum
 | 0,_=>by simp[preSum]
 | j+1,h=>by
  rw[preSum,F7 ns j (by lia),List.take_succ,List.getElem?_eq_getElem (by lia),List.sum_append];rw[List.getD_eq_getElem?_getD,List.getElem?_eq_getElem (by lia)];simp
theorem WP (ns:List Int):preSum (fun i=>ns.getD i 0) ns.length=ns.sum:=by rw[F7 ns _ (Nat.le_refl _),List.take_length]
def TU:List V->Hp->VK->Prop:=fun xs H Q=>∃(v d:Addr) (kvs:List (Key×V)) (ns:List Int),xs=[.ref v]/\H v=some (uV v d)/\Rd H d (.dK kvs)/\kvs.map (·.2)=ns.map V.int/\Q (.int ns.sum) H
theorem NV (hc:X.calm=true):c6 X (.builtin "sum") TU:=by
 intro pins s σ H xs us Q I r h;obtain⟨v,d,kvs,ns,rfl,hv,hq,hns,q⟩:=h;obtain⟨u,rfl,rx⟩:=nM r;cases rx;obtain⟨hview,_,_⟩:=(show ObjOk X.prog X.w H s.heap v (uV v d) from I.hok v _ hv)
 have hview:s.heap.IsValuesView v d:=hview;obtain⟨z,y,rs,kv,o,es,ep,h1,h2,h3,h4,h5,h6⟩:=l9 I.hok hq;have hl:=kv.length;have hln:kvs.length=ns.length:=by have:=congrArg List.length hns;rwa [List.length_map,List.length_map]at this
 have ld:d<s.heap.objs.size:=Heap.lt_size h1;have hm:s.heap.DictAt (bL X.prog X.w) d rs ep:=⟨o,es,h1,h2,h3,h4,h5,h6⟩
 refine call_sum_walkG (wpAny_pyIter_values hview hm ?_);refine⟨s.heap.objs.size,_,_,rs.length,_,_,fun i=>ns.getD i 0,rfl,Walks.dictValues (knd:=bL X.prog X.w) (show X.A.in1.handled=none from I.ok.hd hc) s.heap.objs.size d (Nat.ne_of_lt ld) rs ep,⟨⟨_,Heap.get?_push_size _ rfl,rfl,rfl⟩,hm.at' fun o e=>Heap.get?_push_of_some _ e⟩,?_,?_,?_⟩
 ·intro b hb;simp only[List.mem_cons,List.not_mem_nil,or_false]at hb;have hsz:(s.heap.push { cls:= .type "dict_valueiterator",data:= .fields #[.ref d,.int 0 0,.int rs.length 0,.int ep 0] }).objs.size=s.heap.objs.size+1:=by simp[Heap.push]
  rcases hb with rfl|rfl
  ·show s.heap.objs.size<_;rw[hsz];exact Nat.lt_succ_self _
  ·show b<_;rw[hsz];exact Nat.lt_succ_of_lt ld
 ·rintro i u ⟨kk,hk⟩;have hi:i<kvs.length:=by rw[hl];exact(List.getElem?_eq_some_iff.mp hk).1
  obtain⟨k',v',u',f1,f2,f3⟩:=yG kv hi;rw[hk]at f2;cases f2;have e1:(kvs.map (·.2))[i]? =some v':=by rw[List.getElem?_map,f1];rfl
  rw[hns,List.getElem?_map]at e1;obtain⟨n,hn,rfl⟩:=Option.map_eq_some_iff.mp e1;obtain⟨t,rfl⟩:=f3;refine⟨t,?_⟩;show Value.int n t=Value.int (ns.getD i 0) t;rw[List.getD_eq_getElem?_getD,hn];rfl
 ·intro h' tk t' hk;have e2:preSum (fun i=>ns.getD i 0) rs.length=ns.sum:=by
   rw[←hl,hln];exact WP ns
  rw[e2];have I1:Inv X pins σ H { s with heap:=s.heap.push { cls:= .type "dict_valueiterator",data:= .fields #[.ref d,.int 0 0,.int rs.length 0,.int ep 0] },toks:=s.toks }:=I.kept fun b u e=>Heap.get?_push_of_some _ e;obtain⟨f0,f1,f2,f3,f4,f5⟩:=I.fpOk (Nat.le_refl _) (I.hok.fresh (Nat.le_refl _));exact⟨.int ns.sum,H,I1.turned (fun b o hb e=>hk b o (by simpa using hb) e) f0 f1 f3 f4 f5,⟨t',rfl⟩,q⟩
end
end L2
namespace L2
open PySem PySem.W PyProof.Rows
section
variable {X:Cx}{pins:List (Addr×Obj)}{σ:St}{H:Hp}{s:Shared}{h':Heap}
end
section
variable {X:Cx}
end
end L2
namespace L2
open PySem PySem.W PyProof.Rows
def ZK (σ:St)(tv:TE)(rd:V->V->Hp->VK->Prop)(nx:St->Hp->Prop)(x:V):VK:=fun y H2=>∃a v,x= .ref a/\DGet H2 a y (some v)/\tv σ H2 fun y2 H3=>rd v y2 H3 fun z H4=>∃H5,DPut H4 a y z H5/\nx σ H5
def ZR (σ:St)(p:Addr)(k:V)(nx:St->Hp->Prop):VK:=fun z H4=>∃H5,DPut H4 p k z H5/\nx σ H5
section
variable {K:PySem.W.Frag}{H:Hp}{Q:VK}{σ:St}{nx:St->Hp->Prop}{td ty tv:TE}{rd:V->V->Hp->VK->Prop}{rt:VK}{bk ct:St->Hp->Prop}{R:It->Hp->Prop}
theorem VZ (h:td σ H fun x H1=>ty σ H1 (ZK σ tv rd nx x)):UV td ty tv rd ⟨nx,rt,bk,ct⟩ σ H:=h
theorem R9 {p:Addr}{z:Str}{kvs:List (Key×V)}{v:V} (e:Rd H p (.dK kvs)) (hv:bA kvs (.inr z)=some v) (h:tv σ H fun y2 H3=>rd v y2 H3 (ZR σ p (.str z) nx)):ZK σ tv rd nx (.ref p) (.str z) H:=⟨p,v,rfl,.inl ⟨kvs,.inr z,e,rfl,hv.symm⟩,h⟩
theorem W1 {p:Addr}{z:Str}{kvs:List (Key×V)}{v:V} (e:H p=some (.dK kvs)) (hl:kvs.length<sizeLine) (h:∀H',SameBut p H H'->H' p=some (.dK (bW kvs (.inr z) v))->nx σ H'):ZR σ p (.str z) nx v H:=⟨_,DPut.k (k:= .inr z) e hl,h _ SameBut.upd bC⟩
theorem E8 {p:Addr}{kvs:List (Key×V)} (e:Rd H p (.dK kvs)) (h:∀l H',H l=none->Same H H'->H' l=some (.lst (kvs.map fun e=>kV e.1))->Q (.ref l) H'):N6 [.ref p] H Q:=⟨p,kvs,rfl,e,gU h⟩
theorem mR {l b:Addr}{xs zs:List V} (e:H l=some (.lst xs)) (e2:H b=some (.lst zs)) (hz:xs.length+zs.length<=sizeLine) (h:∀H',SameBut l H H'->H' l=some (.lst (xs++zs))->Q .non H'):IX (.ref l) [.ref b] H Q:=⟨l,b,xs,zs,rfl,rfl,e,e2,hz,h _ SameBut.upd bC⟩
theorem VN (h:td σ H (KB Q)):TZ td σ H Q:=h
theorem RO {a:Addr}{kvs:List (Key×V)} (e:Rd H a (.dK kvs)) (h:∀v H',H v=none->Same H H'->H' v=some (uV v a)->Q (.ref v) H'):KB Q (.ref a) H :=
 ⟨a,kvs,rfl,e,fun v hv=>h v _ hv (wD hv) bC⟩
theorem VX {v d:Addr}{kvs:List (Key×V)}{ns:List Int} (e:H v=some (uV v d)) (e2:Rd H d (.dK kvs)) (hn:kvs.map (·.2)=ns.map V.int) (h:Q (.int ns.sum) H):TU [.ref v] H Q:=⟨v,d,kvs,ns,rfl,e,e2,hn,h⟩
end
def cA (ps:List (Str×Int))(z:Str):Int:=((ps.filter fun p=>decide (p.1=z)).map (·.2)).sum
theorem MP (ps:List (Str×Int))(p:Str×Int)(z:Str):cA (ps++[p]) z=cA ps z+if p.1=z then p.2 else 0:=by
 unfold cA;rw[List.filter_append,List.map_append,List.sum_append]
 congr 1
 by_cases h:p.1=z
 ·rw[if_pos h];simp[h]
 ·rw[if_neg h];simp[h]
end L2
namespace L2
open PySem PySem.W PyProof.Rows
theorem MD {te:TE}{σ:St}{ci:List Nat}{rest:St}{fin:List V->Hp->Prop}{H:Hp}{lo:Int}{n:Nat} (P:Nat->V->Hp->Prop) (hm:∀x y H1 H2,P x y H1->Same H1 H2->P x y H2) (hn:n<=sizeLine) (hr:ci.map (fun i=>(σ[i]?).join)=rest)
  (he:∀(i:Nat) H1,i<n->Same H H1->∀R:VK,(∀y H2,P i y H2->Same H1 H2->R y H2)->te (some (.int (lo+i))::rest) H1 R)
  (hf:∀ys H1,Same H H1->Paired (fun x y=>P x y H1) (List.range n) ys->fin ys H1):dW (Itr lo n) (bX 0) wF te (bS 1 ci σ) fin H:=by
 rw[yX hr];refine hZ (List.range n) (fun _=>true) P hm (by rw[List.length_range];exact hn) (fun i H1 s hi=>by rw[List.length_range]at hi;exact hi) (fun H1 s=>by rw[List.length_range];exact Nat.le_refl _) (fun i x H1 hx s1 v H' y=> ?_) (fun ys H1 s1 h=>hf ys H1 s1 (by rw[fO]at h;exact h));obtain⟨rfl,rfl⟩:=y;obtain⟨hi,e⟩:=List.getElem?_eq_some_iff.mp hx;rw[List.length_range]at hi;rw[List.getElem_range]at e;subst e;refine⟨Same.refl _,some (.int (lo+(i:Nat)))::rest,rfl,fun j v hv=> ?_,fun R h=>h,fun R h=>h _ (Same.refl _),fun hc H2 s2 R h=>he i H2 hi (s1.trans s2) R h⟩;cases j with
 | zero=>cases hv
 | succ j=>exact hv
end L2
namespace L2
open PySem PySem.W PyProof.Rows PySem.Calls
section
variable {prog:Program}{w:World}{A:Around}{E:Value->Shared->Prop}{s:Shared}{d v:Addr}{o:Obj}{es:Array DictEntry}{ep:Nat}
end
section
variable {X:Cx}
theorem wM {K:PySem.W.Frag}(h:X.K=K:=by rfl):IxR X (EK K):=by subst h;exact nY
end
section
variable {K:PySem.W.Frag}{H:Hp}{Q:VK}{σ:St}{td:TE}
end
end L2
namespace L2
open PySem PySem.W PyProof.Rows
section
variable {X:Cx}
end
section
variable {X:Cx}{P:Program}{w:World}{K:PySem.W.Frag}{mg:Str->Option Value}{base:Heap}{k':Nat}{o e:Expr}{es:List Expr}{m:Str}{ta:TE}{t:TA}{apos pos:Pos}
theorem ZD (k:Nat){pl:Sem Bool}(hr:Room k' X.A)(ho:PE X o ta)(ha:PA X (e::es) t)(hk:k<=k':=by decide)(hst:starEach (e::es) X.env=(false,eval e X.env)::starEach es X.env:=by rfl)(hpl:(backTo pos (starEach es X.env)).any (·.1)=false:=by rfl)
  (ht:eval (.Call (.Attribute o m apos) (e::es) [] pos) X.env=(do let ov ←eval o X.env;standAt apos.atName;let (f,first) ←holding [ov] (getMethod ov m pl);callWith pos f first (backTo pos (starEach (e::es) X.env)) (backToKw pos (keywordEach [] X.env))):=by rfl)
  (h1:X.prog=P:=by rfl)(h2:X.w=w:=by rfl)(h3:X.K=K:=by rfl)(h4:X.mg=mg:=by rfl)(h5:X.base=base:=by rfl):PE X (.Call (.Attribute o m apos) (e::es) [] pos) (tMD (fun C sp=>Mc P w K mg base C m k sp) m ta t):=by
 subst h1 h2 h3 h4 h5;exact gZ k hr ho ha hk hst hpl ht
end
end L2
namespace L2
open PySem PySem.W PyProof.Rows
theorem Room.units9 {k:Nat}{A:Around} (r:Room k A):A.units+9<cLine:=by have:=r.un;have:cLine=9900:=rfl;lia
section
variable {X:Cx}{pins:List (Addr×Obj)}{σ:St}{H:Hp}{s:Shared}
end
section
variable {X:Cx}
end
section
variable {K:PySem.W.Frag}{H H':Hp}{Q:VK}
end
section
variable {H:Hp}{Q:VK}{σ:St}{ty tx:TE}
end
end L2
namespace L2
open PySem PySem.W PyProof.Rows
section
variable {H:Hp}{Q:VK}
end
end L2
namespace L2
open PySem PySem.Spec PyProof.Rows
section
variable {X:Cx}{args:Arguments}{body:Expr}{lsc:Scope}{pos:Pos}{y:Str}{c cL PL:Addr}
end
section
variable {K:PySem.W.Frag}{ti:TT}{te:TE}{σ:St}{ci:List Nat}{rest:St}{fin:List V->Hp->Prop}{H:Hp}{a:Addr}{α:Type}
end
end L2
namespace L2
open PySem PySem.W PyProof.Rows
section
variable {X:Cx}{pins:List (Addr×Obj)}{σ:St}{H:Hp}{s:Shared}
end
open Classical in
section
variable {X:Cx}{K:PySem.W.Frag}
open Classical in
open Classical in
open Classical in
end
end L2
namespace L2
open PySem PySem.W PyProof.Rows
section
variable {K:PySem.W.Frag}{ti:TT}{te:TE}{σ:St}{ci:List Nat}{rest:St}{fin:List V->Hp->Prop}{H:Hp}{a:Addr}
theorem aAt {kvs:List (List Key×V)}{o:Obj} (c:List Key×V->Bool) (P:List Key×V->V->Hp->Prop) (hm:∀x y H1 H2,P x y H1->Same H1 H2->P x y H2) (hk:∀e∈kvs,e.1.length=2) (hn:kvs.length<=sizeLine) (hr:ci.map (fun i=>(σ[i]?).join)=rest) (h0:H a=some (.frz o (.dT kvs)))
  (ht:∀k1 k2 v H1,([k1,k2],v)∈kvs->Same H H1->∀R:Bool->Hp->Prop,(∀H2,Same H1 H2->R (c ([k1,k2],v)) H2)->ti (some (kV k1)::some (kV k2)::rest) H1 R)
  (he:∀k1 k2 v H1,([k1,k2],v)∈kvs->c ([k1,k2],v)=true->Same H H1->∀R:VK,(∀y H2,P ([k1,k2],v) y H2->Same H1 H2->R y H2)->te (some (kV k1)::some (kV k2)::rest) H1 R)
  (hf:∀ys H1,Same H H1->Paired (fun x y=>P x y H1) (kvs.filter c) ys->fin ys H1):dW (Itq a o kvs) (tL K 2 (iH (bX 0) (iH (bX 1) wJ))) ti te (bS 2 ci σ) fin H:=by
 have e0:bS 2 ci σ=none::none::rest:=DZ hr;rw[e0];refine hZ kvs c P hm hn (fun i H1 s hi=>⟨s _ _ h0,hi⟩) (fun H1 s=>⟨s _ _ h0,Nat.le_refl _⟩) (fun i x H1 hx s1 v H' y=> ?_) hf;obtain⟨rfl,k,u,q,e2,rfl,hq⟩:=y;rw[hx]at e2;cases e2;have hmem:=List.mem_of_getElem? hx;have hl2:=hk _ hmem;obtain⟨k1,k2,rfl⟩:∃k1 k2,k=[k1,k2]:=by
  match k,hl2 with
  | [k1,k2],_=>exact⟨k1,k2,rfl⟩
 refine⟨Same.refl _,some (kV k1)::some (kV k2)::rest,rfl,fun j v hv=> ?_,fun R h=>⟨q,[kV k1,kV k2],rfl,.inl (.inl hq),rfl,kV k1,[kV k2],rfl,kV k2,[],rfl,rfl,h⟩,fun R h=>ht _ _ _ _ hmem s1 R h,fun hc H2 s2 R h=>he _ _ _ H2 hmem hc (s1.trans s2) R h⟩
 match j,hv with
 | 0,hv=>cases hv
 | 1,hv=>cases hv
 | j+2,hv=>exact hv
end
end L2
namespace L2
open PySem PySem.W PyProof.Rows
section
variable {X:Cx}
end
end L2
namespace L2
open PySem PySem.W PyProof.Rows
section
variable {X:Cx}{ek ev:Expr}{tk tv:TE}{pos:Pos}
end
end L2
namespace L2
open PySem PySem.W PyProof.Rows
section
variable {K:Frag}{x qual:Str}{st:Stmt}{f:Addr}
end
end L2
namespace L2
open PySem PySem.W PyProof.Rows
section
variable {prog:Program}{w:World}{A:Around}{E:Value->Shared->Prop}{s:Shared}{κ:SortKind}{D:Keyed->Prop}{ρ:Keyed->Int}{st:SortSt}
end
end L2
namespace L2
open PySem PySem.W PyProof.Rows
section
variable {ρ:Keyed->Int}
variable {all o p ra rb:List Keyed}
end
end L2
namespace L2
open PySem PySem.W PyProof.Rows
section
variable {prog:Program}{w:World}{A:Around}{E:Value->Shared->Prop}{s:Shared}{κ:SortKind}{D:Keyed->Prop}{ρ:Keyed->Int}{st:SortSt}
end
end L2
namespace L2
open PySem PySem.W PyProof.Rows
section
variable {prog:Program}{w:World}{A:Around}{E:Value->Shared->Prop}{s:Shared}{κ:SortKind}{D:Keyed->Prop}{ρ:Keyed->Int}{st:SortSt}
end
end L2
namespace L2
open PySem PySem.W PyProof.Rows
section
variable {prog:Program}{w:World}{A:Around}{E:Value->Shared->Prop}{s:Shared}{κ:SortKind}{D:Keyed->Prop}{ρ:Keyed->Int}{st:SortSt}
end
end L2
namespace L2
open PySem PySem.W PyProof.Rows
section
variable {prog:Program}{w:World}{A:Around}{E:Value->Shared->Prop}{s:Shared}{κ:SortKind}{D:Keyed->Prop}{ρ:Keyed->Int}{st:SortSt}
end
end L2
namespace L2
open PySem PySem.W PyProof.Rows
section
variable {prog:Program}{w:World}{A:Around}{E:Value->Shared->Prop}{s:Shared}{κ:SortKind}{D:Keyed->Prop}{ρ:Keyed->Int}{st:SortSt}
end
end L2
namespace L2
open PySem PySem.W PyProof.Rows
section
variable {prog:Program}{w:World}{A:Around}{E:Value->Shared->Prop}{s:Shared}{κ:SortKind}{D:Keyed->Prop}{ρ:Keyed->Int}{st:SortSt}{a₀:Array Keyed}
end
end L2
namespace L2
open PySem PySem.W PyProof.Rows
section
variable {prog:Program}{w:World}{A:Around}{E:Value->Shared->Prop}{s:Shared}{κ:SortKind}{D:Keyed->Prop}{ρ:Keyed->Int}{st:SortSt}{a₀:Array Keyed}
end
end L2
namespace L2
open PySem PySem.W PyProof.Rows PySem.Calls
section
variable {prog:Program}{w:World}{A:Around}{E:Value->Shared->Prop}{s:Shared}{α:Type}{f:Value->α}{lt:α->α->Bool}{d:α}{l:List α}
end
end L2
namespace L2
open PySem PySem.W PyProof.Rows PySem.Calls
section
variable {X:Cx}{H:Hp}
end
end L2
namespace L2
open PySem PySem.W PyProof.Rows
section
variable {prog:Program}{w:World}{A:Around}{E:Value->Shared->Prop}{s:Shared}
end
open Sem (wp) in
open AutoSeq1 (wpAny_loadPart') in
section
variable {prog:Program}{w:World}{A:Around}{E:Value->Shared->Prop}{s:Shared}
end
end L2
namespace L2
open PySem PySem.W PyProof.Rows
section
variable {prog:Program}{w:World}{A:Around}{E:Value->Shared->Prop}{s:Shared}
end
section
variable {X:Cx}
end
end L2
namespace L2
open PySem PySem.W PyProof.Rows
section
variable {K:PySem.W.Frag}{H:Hp}{σ:St}{Q:VK}{R:It->Hp->Prop}{nx bk ct:St->Hp->Prop}{rt:VK}
end
end L2
namespace L2
open PySem PySem.W PyProof.Rows
section
variable {prog:Program}{w:World}{A:Around}{E:Value->Shared->Prop}{s:Shared}
variable {κ:Type}[DecidableEq κ]{knd:HeapKind prog w κ}
end
section
variable {A:Around}{s:Shared}
end
section
variable {prog:Program}{w:World}{A:Around}{E:Value->Shared->Prop}{s:Shared}
variable {κ:Type}[DecidableEq κ]{knd:HeapKind prog w κ}
end
section
variable {X:Cx}{pins:List (Addr×Obj)}{σ:St}{H:Hp}{s:Shared}
end
section
variable {X:Cx}
end
section
variable {X:Cx}
end
end L2
namespace L2
open PySem PySem.W PyProof.Rows
section
variable {X:Cx}
end
end L2
set_option autoImplicit false
namespace L2
open PySem PySem.Spec PyProof.Rows
section
variable {σ:St}{H:Hp}{nx bk ct:St->Hp->Prop}{rt:VK}
end
end L2
namespace L2
open PySem PySem.W PyProof.Rows PySem.Calls
section
variable {X:Cx}
variable {H:Hp}{Q:VK}
end
end L2
namespace L2
open PySem PySem.Spec PyProof.Rows
section
variable {P:Program}{w:World}
end
section
variable {P:Program}{w:World}{K:PySem.W.Frag}{mg:Str->Option Value}{base:Heap}
end
section
variable {X:Cx}{args:Arguments}{body:Expr}{lsc:Scope}{pos:Pos}{cs:List (Str×Addr)}{cL PL:Addr}
end
section
variable {P:Program}{w:World}{K:PySem.W.Frag}{mg:Str->Option Value}{base:Heap}
end
end L2
namespace L2
open PySem PySem.W PyProof.Rows
section
variable {P:Program}{w:World}{K:PySem.W.Frag}{mg:Str->Option Value}{base:Heap}
end
end L2
namespace L2
open PySem PySem.W PyProof.Rows
end L2
namespace L2
open PySem PySem.W PyProof.Rows
section
variable {X:Cx}{rest a:List Stmt}{u v:kJ->(St->V->Hp->Prop)->St->Hp->Prop}{c:Expr}{tc:TT}{pos:Pos}
end
end L2
namespace L2
open PySem PySem.W PyProof PyProof.Rows
theorem LG {prog:Program}{w:World}{A:Around}{E:Value->Shared->Prop}{s:Shared}{Q:Int->Shared->Prop} (h:Q 0xFCA86420 { s with toks:=s.toks+1 }):wpAny (model prog w) A (PySem.pyHash .none) Q E s:=by
 unfold PySem.pyHash;have hv:[Value.none].any Value.onHeap=false:=rfl;refine wpAny_bind ?_;rw[cRoomFor,if_neg (by rw[hv];exact Bool.false_ne_true)];refine wpAny_pure ?_;refine wpAny_bind (wpAny_specialOf rfl PySem.F.slot_NoneType_hash.lookup ?_);show wpAny _ _ (if (some (Value.builtin "NoneType.__hash__")==some Value.none)=true then _ else _) Q E s;rw[if_neg (by rw[beq_builtin_none];exact Bool.false_ne_true)];refine wpAny_bind (wpAny_specialOf rfl PySem.F.slot_NoneType_hash.lookup ?_);show wpAny _ _ (callSpecialIfBoundUnlessNone? .none "__hash__" _ >>= _) Q E s;refine wpAny_bind (wpAny_callSpecialIfBoundUnlessNone?_slot rfl PySem.F.slot_NoneType_hash
  (wpAny_call_entry PySem.F.slot_NoneType_hash rfl PySem.F.entry_NoneType_hash
   (show wpAny _ _ (do ret (←mkInt 0xFCA86420)) _ _ s from wpAny_ret_mkInt ?_) (PySem.F.args_NoneType_hash_1 _)))
 show wpAny _ _ (if (decide (-(2:Int)^63<=0xFCA86420)&&decide ((0xFCA86420:Int)<2^63))=true then _ else _) Q E _;rw[if_pos (by decide)];exact wpAny_pure h
def T9:Option Str->Value->Bool
 | none,v=>v== .none
 | some x,v=>v.isStrOf x
theorem dU {k:Option Str}{v:Value} (h:T9 k v=true):(k=none/\v= .none)∨∃x t,k=some x/\v= .str x t:=by
 cases k with
 | none=>exact .inl ⟨rfl,by
   cases v<;>first|rfl|exact absurd h (by intro z;cases z)⟩
 | some x =>
  obtain⟨t,e⟩:=Value.isStrOf_shape (show Value.isStrOf x v=true from h);exact .inr ⟨x,t,rfl,e⟩
def aB2 (w:World):Option Str->Int
 | none=>0xFCA86420
 | some x=>hashStr w x
def jX (prog:Program)(w:World):PySem.KeyKind prog w (Option Str) where
 is:=T9
 hash:=aB2 w
 inj:=fun v a b ha hb=>by
  rcases dU ha with⟨rfl,rfl⟩|⟨x,t,rfl,rfl⟩
  ·rcases dU hb with⟨rfl,e⟩|⟨y,u,rfl,e⟩
   ·rfl
   ·cases e
  ·rcases dU hb with⟨rfl,e⟩|⟨y,u,rfl,e⟩
   ·cases e
   ·injection e with e1 _;rw[e1]
 byValue:=fun k v h=>by
  rcases dU h with⟨rfl,rfl⟩|⟨x,t,rfl,rfl⟩<;>rfl
 pyHash:=fun hv h=>by
  rcases dU hv with⟨rfl,rfl⟩|⟨x,t,rfl,rfl⟩
  ·exact LG h
  ·exact wpAny_pyHash_str h
 eqBool:=fun hu hv h=>by
  rcases dU hu with⟨rfl,rfl⟩|⟨x,t,rfl,rfl⟩
  ·rcases dU hv with⟨rfl,rfl⟩|⟨y,u,rfl,rfl⟩
   ·rw[decide_eq_true rfl]at h;exact SeqAt.EqAt.same _ _ _ _ _ h
   ·rw[decide_eq_false (fun z=>nomatch z)]at h;exact SeqAt.EqAt.none_str y u _ _ _ _ h
  ·rcases dU hv with⟨rfl,rfl⟩|⟨y,u,rfl,rfl⟩
   ·rw[decide_eq_false (fun z=>nomatch z)]at h;exact SeqAt.EqAt.str_none x t _ _ _ _ h
   ·rw[show decide (some x=some y)=decide (x=y) by
     by_cases e:x=y
     ·rw[e,decide_eq_true rfl,decide_eq_true rfl]
     ·rw[decide_eq_false e,decide_eq_false (fun z=>e (Option.some.inj z))]]at h
    exact wpAny_eqBool_str h
 «strs»:=fun k x t v h=>by
  rcases dU h with⟨rfl,e⟩|⟨y,u,rfl,e⟩
  ·cases e
  ·injection e with e1 _;subst e1;cases v<;>rfl
def oKV:Option Str->V
 | none=> .non
 | some x=> .str x
theorem EG {P:Program}{w:World}{k:Option Str}{u:Value} (r:RelV (oKV k) u):(jX P w).is k u=true:=by
 cases k with
 | none=>cases (show u=Value.none from r);rfl
 | some x =>
  obtain⟨t,e⟩:=(show ∃t,u=Value.str x t from r)
  subst e;exact wC P w x t
def ndF (P:Program)(w:World)(a:Addr)(kvs:List (Option Str×V)):Heap->Prop:=fun h=>kvs.length<=sizeLine/\(a==sysModules)=false/\∃vs,KV kvs vs/\h.DictOf (jX P w) a vs
def dN (P:Program)(w:World)(a:Addr)(kvs:List (Option Str×V)):HO:= .ext (ndF P w a kvs)
theorem xQ {P:Program}{w:World}{H:Hp}{h:Heap}{a:Addr}{kvs:List (Option Str×V)} (x:ndF P w a kvs h):ObjOk P w H h a (dN P w a kvs):=by
 refine⟨x,?_,fun h1 h2 y k=> ?_⟩
 ·obtain⟨_,_,_,_,o,_,_,e,_⟩:=x;exact⟨o,e⟩
 ·obtain⟨z,hd,vs,rel,o,es,ep,e,r⟩:=y;exact⟨z,hd,vs,rel,o,es,ep,k o e,r⟩
section
variable {X:Cx}{pins:List (Addr×Obj)}{σ:St}{H:Hp}{s:Shared}{a:Addr}{k:Option Str}{v:V}{u r:Value}{A:Around}{E:Value->Shared->Prop}{kvs:List (Option Str×V)}
theorem xN (I:Inv X pins σ H s)(e:H a=some (dN X.prog X.w a kvs)):ndF X.prog X.w a kvs s.heap:=(show ObjOk X.prog X.w H s.heap a (dN X.prog X.w a kvs) from I.hok a _ e).1
theorem ME {Q:Value->Shared->Prop}(I:Inv X pins σ H s)(e:H a=some (dN X.prog X.w a kvs))(hv:bA kvs k=some v)(ry:RelV (oKV k) u)(h:∀w' s',Inv X pins σ H s'->RelV v w'->Q w' s'):wpAny (model X.prog X.w) A (getItem (.ref a) u) Q E s:=by
 obtain⟨z,hd,vs,rel,dd⟩:=xN I e;obtain⟨w',hw,rw'⟩:=RelO.some_of (v:=v) (o:=valueAt vs k) (by rw[←hv];exact rel.val k);exact wpAny_getItem_of (EG ry) dd.mapOf hw (h w' _ (I.tok _) rw')
theorem NY {Q:Unit->Shared->Prop}(I:Inv X pins σ H s)(e:H a=some (dN X.prog X.w a kvs))(l:kvs.length<sizeLine)(ry:RelV (oKV k) u)(rv:RelV v r)(h:∀s',Inv X pins σ (upd H a (dN X.prog X.w a (bW kvs k v))) s'->Q () s'):wpAny (model X.prog X.w) A (setItem (.ref a) u r) Q E s:=by
 obtain⟨z,hd,vs,rel,dd⟩:=xN I e;have hz:vs.length<=sizeLine:=by rw[←rel.length];exact z
 have hl:(bW kvs k v).length<=sizeLine:=by have:=fR kvs k v;lia
 refine wpAny_setItem_pairs (hsz:=hz) (EG ry) dd fun h' dd' hs=>h _ ?_;have he:∃q,h'.get? a=some q:=let ⟨q,_,_,hq,_⟩:=dd';⟨q,hq⟩;exact u6 I (by rw[e];exact True.intro) hs he (xQ ⟨hl,hd,_,rel.put k rv,dd'⟩)
end
def J6 (P:Program)(w:World)(Q:VK)(x:V):VK:=fun y H2=>∃a kvs k v,x= .ref a/\H2 a=some (dN P w a kvs)/\y=oKV k/\bA kvs k=some v/\Q v H2
def UO (P:Program)(w:World)(td ty:TE):TE:=fun σ H Q=>td σ H fun x H1=>ty σ H1 (J6 P w Q x)
def KI (P:Program)(w:World)(nx:St->Hp->Prop)(σ:St)(x v:V):VK:=fun y H3=>∃a kvs k,x= .ref a/\H3 a=some (dN P w a kvs)/\y=oKV k/\kvs.length<sizeLine/\nx σ (upd H3 a (dN P w a (bW kvs k v)))
def UD (P:Program)(w:World)(td ty tv:TE):TS:=fun D σ H=>tv σ H fun v H1=>td σ H1 fun x H2=>ty σ H2 (KI P w D.nx σ x v)
def MV (P:Program)(w:World)(tv:TE):TE:=fun σ H Q=>∀p,H p=none->tv σ (upd H p (dN P w p [])) fun v H2=>H2 p=some (dN P w p [])/\Q (.ref p) (upd H2 p (dN P w p [(none,v)]))
section
variable {X:Cx}{o i value:Expr}{pos pos':Pos}{td ty tv:TE}
theorem nV (ho:PE X o td)(hi:PE X i ty)(hs:SI i):PE X (.Subscript o i pos) (UO X.prog X.w td ty):=by
 intro pins s σ H Q I h;refine IT PySem.F.slot_dict_getitem.lookup hs (thn (ho pins s σ H _ I h) fun u s1 ⟨x,H1,I1,rx,q1⟩=>thn (hi pins s1 σ H1 _ I1 q1) fun iv s2 ⟨y,H2,I2,ry,a,kvs,k,v,ex,g,ey,hv,q2⟩=> ?_);subst ex ey;obtain rfl:u=Value.ref a:=rx;obtain⟨_,_,_,_,dd⟩:=xN I2 g;exact⟨dd.typeIs,ME I2 g hv ry fun w' s3 I3 rw'=>⟨v,H2,I3,rw',q2⟩⟩
theorem VM (ho:PE X o td)(hi:PE X i ty)(hv:PE X value tv)(hs:swapsWith value (some (.Subscript o i pos')) pos.line X.env=pure false):PS X (.Assign [.Subscript o i pos'] value pos) (UD X.prog X.w td ty tv):=by
 intro pins s σ H D I h;refine wpAny_Assign_Subscript (thn (hv pins s σ H _ I h) fun r s1 ⟨v,H1,I1,rv,q1⟩=>thn (ho pins s1 σ H1 _ I1 q1) fun u s2 ⟨x,H2,I2,rx,q2⟩=>thn (hi pins s2 σ H2 _ I2 q2) fun iv s3 ⟨y,H3,I3,ry,a,kvs,k,ex,g,ey,l,q3⟩=> ?_) hs;subst ex ey;obtain rfl:u=Value.ref a:=rx;exact NY I3 g l ry rv fun s4 I4=>⟨σ,_,I4,q3⟩
theorem RN {pos np:Pos}{v:Expr}{j:Nat} (hv:PE X v tv):PE X (.Dict [some (.Constant .none j np)] [v] pos) (MV X.prog X.w tv):=by
 intro pins s σ H Q I q;have hn:=I.hok.fresh (Nat.le_refl s.heap.objs.size);have hs0:(s.heap.objs.size==sysModules)=false:=beq_eq_false_iff_ne.mpr (Ne.symm (Nat.ne_of_lt I.big));have I1:=I.laid (a:=s.heap.objs.size) (o:=dN X.prog X.w s.heap.objs.size []) (h':=s.heap.push { cls:= .type "dict",data:= .dict #[] }) (t':=s.toks) (fun _ _ q=>Heap.get?_push_of_some _ q) (Nat.le_refl _) (xQ ⟨Nat.zero_le _,hs0,[],.nil,Heap.DictOf.new s.heap⟩);have hp:PPs X pos [some (.Constant .none j np)] [v] [(tC .non,tv)]:=RS mJ hv WE;refine wpAny_Dict_walk (knd:=jX X.prog X.w) rfl rfl (fun z=>nomatch z) (show 1<=15 by decide) (thn (hp pins _ σ _ (fun ps H2=>match ps with
  | [(.non,y)]=>H2 s.heap.objs.size=some (dN X.prog X.w s.heap.objs.size [])/\Q (.ref s.heap.objs.size) (upd H2 s.heap.objs.size (dN X.prog X.w s.heap.objs.size [(none,y)]))
  | _=>False) I1 (q _ hn)) fun ws s2 ⟨ps,H2,I2,rel,q2⟩=> ?_)
 split at q2
 ·rename_i y;obtain⟨e,q2⟩:=q2;cases rel with
  | @cons _ b _ _ h t =>
   cases t;obtain⟨b1,b2⟩:=b;obtain⟨z,hd,vs0,r0,dd⟩:=xN I2 e;cases r0;refine⟨[(none,b2)],⟨EG (k:=none) h.1,rfl,trivial⟩,dd,fun h' dd' hs=>⟨.ref s.heap.objs.size,_,?_,rfl,q2⟩⟩;have he:∃q,h'.get? s.heap.objs.size=some q:=let ⟨q,_,_,hq,_⟩:=dd';⟨q,hq⟩;exact u6 I2 (by rw[e];exact True.intro) hs he (xQ ⟨by rw[sizeLine_eq];show 1<=_;lia,hd,[(none,b2)],.cons ⟨rfl,h.2⟩ .nil,dd'⟩)
 ·exact q2.elim
end
def Itv (P:Program)(w:World)(a:Addr)(o:Obj)(kvs:List (Option Str×V)):It :=
 ⟨fun i H=>H a=some (.frz o (dN P w a kvs))/\i<kvs.length,fun i H x H'=>H'=H/\∃k,kvs[i]? =some (k,x),fun i H=>H a=some (.frz o (dN P w a kvs))/\kvs.length<=i⟩
theorem KV.at {κ:Type}{kvs:List (κ×V)}{vs:List (κ×Value)} (r:KV kvs vs) {i:Nat} (hi:i<kvs.length):∃k v u,kvs[i]? =some (k,v)/\vs[i]? =some (k,u)/\RelV v u:=by
 unfold KV at r
 induction r generalizing i with
 | nil=>exact absurd hi (Nat.not_lt_zero _)
 | @cons p q _ _ h t ih =>
  cases i with
  | zero=>exact⟨p.1,p.2,q.2,rfl,by rw[h.1];rfl,h.2⟩
  | succ i=>exact ih (i:=i) (by simpa using hi)
theorem JW {P:Program}{w:World}{K:PySem.W.Frag}{tg:Expr} (ht:∀it v,letOwnedTupleGo tg it v=pure ()) (a it:Addr) {o:Obj}{es:Array DictEntry}{ep:Nat} (kvs:List (Option Str×V)) (hd:o.data= .dict es ep) :
  qD P w K tg (Itv P w a o kvs) [it] it (fun i h=>h.IsValIter it a i kvs.length ep) where
 mem:=by simp
 obj:=fun i h st b hb=>by
  have e:b=it:=by simpa using hb
  subst e;obtain⟨ob,e,c,d⟩:=st;exact⟨ob,e,fun v z=>by rw[d]at z;cases z⟩
 keep:=fun i h h' st k=>by
  obtain⟨ob,e,r⟩:=st;exact⟨ob,k it (by simp) ob e,r⟩
 item:=by
  intro X hP hw hK hc i pins s σ H E I hf st hg;subst hP hw hK;obtain⟨ha,hi⟩:=hg;obtain⟨ho,⟨z,y,vs,r,o',es',ep',h1,h2,h3,h4,h5,h6⟩,_,_⟩:=(show ObjOk X.prog X.w H s.heap a (.frz o (dN X.prog X.w a kvs)) from I.hok a _ ha)
  rw[ho]at h1;cases h1;rw[hd]at h3;cases h3;obtain⟨k,v,u,e1,e2,e3⟩:=r.at hi;obtain⟨f0,f1,f2,f3,f4,f5⟩:=hf it (by simp);have hl:=r.length;refine wpAny_pyNext_values_item (knd:=jX X.prog X.w) (kvs:=vs) (by rw[←hl];exact st) ⟨o,es,ho,h2,hd,h4,h5,h6⟩ e2 fun h' st' sb=> ?_;have I1:Inv X pins σ H { s with heap:=h' }:=I.turned (t':=s.toks) (fun b o hb e=>(sb.2 b hb).trans e) f0 f1 f3 f4 f5;refine⟨_,rfl,?_⟩;rw[ht];exact wpAny_pure ⟨v,H,I1,e3,⟨rfl,k,e1⟩,by rw[hl];exact st',fun b hb=>(hf b hb).1⟩
 done:=by
  intro X hP hw hK hc i pins s σ H E I hf st hg;subst hP hw hK;obtain⟨ha,hi⟩:=hg;obtain⟨ho,⟨z,y,vs,r,o',es',ep',h1,h2,h3,h4,h5,h6⟩,_,_⟩:=(show ObjOk X.prog X.w H s.heap a (.frz o (dN X.prog X.w a kvs)) from I.hok a _ ha)
  rw[ho]at h1;cases h1;rw[hd]at h3;cases h3;have hl:=r.length;obtain⟨f0,f1,f2,f3,f4,f5⟩:=hf it (by simp);exact wpAny_pyNext_values_end (knd:=jX X.prog X.w) (kvs:=vs) (I.ok.hd hc) (by rw[←hl];exact st) ⟨o,es,ho,h2,hd,h4,h5,h6⟩ (List.getElem?_eq_none (by lia)) fun h' eb=>⟨rfl,I.turned (t':=s.toks) (fun b o hb e=>eb b o hb e) f0 f1 f3 f4 f5⟩
 self:=fun _ _ _ _ _ st h=>wpAny_pyIter_valiter st h
def EY (P:Program)(w:World)(R:It->Hp->Prop):VK:=fun x H1=>∃a kvs,x= .ref a/\H1 a=some (dN P w a kvs)/\∀o,R (Itv P w a o kvs) (upd H1 a (.frz o (dN P w a kvs)))
def MR (P:Program)(w:World)(td:TE):TI:=fun σ H R=>td σ H (EY P w R)
section
variable {X:Cx}
theorem Q8 {l tg:Expr}{td:TE}{apos cpos:Pos} (hl:PE X l td) (ht:∀it v,letOwnedTupleGo tg it v=pure ():=by intro _ _;rfl) (hbase:attributeBase l "values" X.env (eval l X.env)=eval l X.env:=by rfl) (hline:(apos.endLine==cpos.line)=true:=by rfl) :
  PI X tg (.Call (.Attribute l "values" apos) [] [] cpos) (MR X.prog X.w td):=by
 intro pins s σ H R I h;refine wpAny_Call_method0_late hbase hline (thn (hl pins s σ H _ I h) fun v s1 ⟨x,H1,I1,r1,q1⟩=> ?_);obtain⟨a,kvs,rfl,hq,q⟩:=q1;cases r1;obtain⟨z,y,vs,r,o,es,ep,h1,h2,h3,h4,h5,h6⟩:=xN I1 hq;have dd:s1.heap.DictOf (jX X.prog X.w) a vs:=⟨o,es,ep,h1,h2,h3,h4,h5,h6⟩
 refine⟨"dict","dict.values",F.plainAttrs_dict,F.slot_dict_values,F.type_dict_values,dd.typeIs,(fun b q=>by cases q;exact⟨o,h1,h2.2.1⟩),Calls.callWith_builtin rfl (PySem.evalArgs_none ?_)⟩;have hL:=r.length;refine call_meetsIn F.slot_dict_values dd.typeIs F.entry_dict_values (F.args_dict_values_1 _) (meets_dict_values (jX X.prog X.w) a y) ⟨⟨vs,dd⟩,?_⟩;have new:ObjOk X.prog X.w (upd H1 a (.frz o (dN X.prog X.w a kvs))) s1.heap a (.frz o (dN X.prog X.w a kvs)):=⟨h1,xQ ⟨z,y,vs,r,dd⟩⟩
 have I2:Inv X pins σ (upd H1 a (.frz o (dN X.prog X.w a kvs))) s1:=I1.freeze trivial hq h1 new;have I3:Inv X pins σ (upd H1 a (.frz o (dN X.prog X.w a kvs))) { s1 with heap:=s1.heap.push { cls:= .type "dict_values",data:= .fields #[.ref a] } }:=I2.kept (t':=s1.toks) fun b o e=>Heap.get?_push_of_some _ e;refine wpAny_pyIter_values (knd:=jX X.prog X.w) (kvs:=vs) (ep:=ep) ⟨_,Heap.get?_push_size _ rfl,rfl,rfl⟩ ⟨o,es,Heap.get?_push_of_some _ h1,h2,h3,h4,h5,h6⟩ ?_;refine⟨_,[_],_,_,upd H1 a (.frz o (dN X.prog X.w a kvs)),rfl,I3.kept (t':=s1.toks) fun b o e=>Heap.get?_push_of_some _ e,JW ht a _ kvs h3,⟨_,Heap.get?_push_size _ rfl,rfl,by rw[hL];rfl⟩,fun b hb=> ?_,q o⟩;obtain rfl:=List.mem_singleton.mp hb;exact I3.fpOk (Nat.le_refl _) (I3.hok.fresh (Nat.le_refl _))
end
def M5 (P:Program)(w:World)(Q:VK)(p:Addr):VK:=fun v H2=>H2 p=some (dN P w p [])/\Q (.ref p) (upd H2 p (dN P w p [(none,v)]))
section
variable {P:Program}{w:World}{H:Hp}{Q:VK}{σ:St}{nx bk ct:St->Hp->Prop}{rt:VK}{R:It->Hp->Prop}{td ty tv:TE}{p:Addr}{kvs:List (Option Str×V)}{v:V}
theorem WA (h:td σ H fun x H1=>ty σ H1 (J6 P w Q x)):UO P w td ty σ H Q:=h
theorem lJ (k:Option Str)(e:H p=some (dN P w p kvs))(hv:bA kvs k=some v)(h:Q v H):J6 P w Q (.ref p) (oKV k) H:=⟨p,kvs,k,v,rfl,e,rfl,hv,h⟩
theorem U5 (h:tv σ H fun v H1=>td σ H1 fun x H2=>ty σ H2 (KI P w nx σ x v)):UD P w td ty tv ⟨nx,rt,bk,ct⟩ σ H:=h
theorem RY (k:Option Str)(e:H p=some (dN P w p kvs))(l:kvs.length<sizeLine)(h:∀H',SameBut p H H'->H' p=some (dN P w p (bW kvs k v))->nx σ H'):KI P w nx σ (.ref p) v (oKV k) H:=⟨p,kvs,k,rfl,e,rfl,l,h _ SameBut.upd bC⟩
theorem QJ (h:∀p H',H p=none->Same H H'->H' p=some (dN P w p [])->tv σ H' (M5 P w Q p)):MV P w tv σ H Q:=fun p hp=>h p _ hp (fun b o e=>by rw[aP (bF e hp)];exact e) bC
theorem O8 (e:H p=some (dN P w p []))(h:∀H',SameBut p H H'->H' p=some (dN P w p [(none,v)])->Q (.ref p) H'):M5 P w Q p v H:=⟨e,h _ SameBut.upd bC⟩
theorem MB (h:td σ H (EY P w R)):MR P w td σ H R:=h
theorem RT (e:H p=some (dN P w p kvs))(h:∀o H',SameBut p H H'->H' p=some (.frz o (dN P w p kvs))->R (Itv P w p o kvs) H'):EY P w R (.ref p) H:=⟨p,kvs,rfl,e,fun o=>h o _ SameBut.upd bC⟩
theorem RL {g:TG}{tb:TS}{o:Obj} (kvs:List (Option Str×V)) (Pv:Nat->St->Hp->Prop) (h0:Pv 0 σ H) (hl:∀i σ H,Pv i σ H->H p=some (.frz o (dN P w p kvs)))
  (hs:∀i k v σ H,kvs[i]? =some (k,v)->Pv i σ H->g v σ H fun σ2 H2=>tb ⟨Pv (i+1),rt,nx,Pv (i+1)⟩ σ2 H2)(hd:∀σ H,Pv kvs.length σ H->nx σ H):ET (Itv P w p o kvs) g tb ⟨nx,rt,bk,ct⟩ σ H:=by
 refine⟨fun i m σ H=>m=kvs.length - i/\i<=kvs.length/\Pv i σ H,⟨kvs.length,by simp,Nat.zero_le _,h0⟩,?_⟩;rintro i m σ H ⟨rfl,hi,q⟩
 by_cases hlt:i<kvs.length
 ·refine .inr ⟨⟨hl i σ H q,hlt⟩,Pv (i+1),fun σ' H' p'=>⟨kvs.length - (i+1),by lia,rfl,hlt,p'⟩,fun x H' y=> ?_⟩;obtain⟨rfl,k,e⟩:=y;exact hs i k x σ _ e q
 ·have e:i=kvs.length:=by lia
  subst e;exact .inl ⟨⟨hl _ σ H q,Nat.le_refl _⟩,hd σ H q⟩
end
end L2
namespace L2
open PySem PySem.W PyProof PyProof.Rows
theorem EO {P:Program}{w:World}{K:PySem.W.Frag}{mg:Str->Option Value}{base:Heap}{N:List Str}{qual:Str}{scope:Scope}{f:Addr}{cd:Value}{A:Around}{outer:List Env}{s₀:Shared}{H₀:Hp}{E:XK} :
  PassesOwn (model P w) (gD (CXE P w) P w K mg base N qual scope f cd A outer s₀ H₀ E).A (gD (CXE P w) P w K mg base N qual scope f cd A outer s₀ H₀ E).env (gD (CXE P w) P w K mg base N qual scope f cd A outer s₀ H₀ E).xe :=
 fun e s' h=>wpAny_leaving_again (SameStack.refl _) h
end L2
namespace L2
def YX {α:Type}:Nat->(List α->Prop)->Prop
 | 0,p=>p []
 | n+1,p=>∀a,YX n (fun l=>p (a::l))
theorem aO {α:Type}:∀(n:Nat) (p:List α->Prop),YX n p->∀us:List α,us.length=n->p us
 | 0,_,h,[],_=>h
 | n+1,_,h,a::us,e=>aO n _ (h a) us (by simpa using e)
 | 0,_,_,_::_,e=>by simp at e
 | _+1,_,_,[],e=>by simp at e
end L2
namespace Prf
open PySem L2
set_option hygiene false
local macro_rules| `(tactic| walk_at"fs")=> `(tactic| exact⟨rfl,rfl,rfl,by decide +kernel,rfl,by decide +kernel,by decide +kernel⟩)
local macro_rules| `(tactic| walk_at"hu")=> `(tactic| (have hu0:=Room.units0 hr;have hu1:=Room.units1 hr;have hu9:=Room.units9 hr))
set_option hygiene true
def top (i:Nat):Stmt:=PySem.Challenge.pw_firstout_k54_plans_that_cannot_be_walked.main.body.getD i (.Pass ⟨0,0,0,0⟩)
abbrev nW:Stmt:=top 0
abbrev gM:Stmt:=top 11
theorem sc_added_up:aR ["plan","going","turn","name","number"] ["plan"] (aC gM):=by walk_at"fs"
abbrev iA:Stmt:=top 12
theorem sc_as_told:aR ["plan"] ["plan"] (aC iA):=by walk_at"fs"
abbrev cO:Stmt:=top 13
theorem sc_rows_that_count:aR ["house","plan","doors"] ["house","plan"] (aC cO):=by walk_at"fs"
abbrev iB:Stmt:=top 14
theorem sc_leaving:aR ["house","plan","numbers","turn","name","number","pair"] ["house","plan"] (aC iB):=by walk_at"fs"
abbrev jO:Stmt:=top 15
theorem sc_coming:aR ["house","plan","numbers","turn","name","number","door","pair"] ["house","plan"] (aC jO):=by walk_at"fs"
abbrev lI:Stmt:=top 16
theorem sc_there:aR ["house","plan","leave","come","inside","room","turn","before"] ["house","plan"] (aC lI):=by walk_at"fs"
abbrev dP:Stmt:=top 17
theorem sc_most_through:aR ["house","turn","name"] ["house","turn","name"] (aC dP):=by walk_at"fs"
abbrev d0:Stmt:=top 18
theorem sc_door_faults:aR ["house","plan","going"] ["house","plan"] (aC d0):=by walk_at"fs"
abbrev dQ:Stmt:=top 19
theorem sc_leave_faults:aR ["house","plan","inside","leave","below_last"] ["house","plan","inside"] (aC dQ):=by walk_at"fs"
abbrev d7:Stmt:=top 20
theorem sc_full_faults:aR ["house","inside"] ["house","inside"] (aC d7):=by walk_at"fs"
abbrev jL:Stmt:=top 21
theorem sc_faults:aR ["house","plan","inside"] ["house","plan"] (aC jL):=by walk_at"fs"
abbrev d6:Stmt:=top 22
theorem sc_need_lawful:aR ["house","plan"] ["house","plan"] (aC d6):=by walk_at"fs"
abbrev lH:Stmt:=top 24
theorem sc_signs:aR ["house","plan","room","turn","doors","rows"] ["house","plan","room","turn"] (aC lH):=by walk_at"fs"
abbrev fK:Stmt:=top 25
theorem sc_no_groups:aR ["house","groups","room"] ["house"] (aC fK):=by walk_at"fs"
abbrev cJ:Stmt:=top 26
theorem sc_groups_at_first:aR ["house","groups","room"] ["house"] (aC cJ):=by walk_at"fs"
abbrev gN:Stmt:=top 27
theorem sc_somebody:aR ["group"] ["group"] (aC gN):=by walk_at"fs"
abbrev jM:Stmt:=top 28
theorem sc_parted:aR ["group","number","going","others","size","room","steps","taken"] ["group","number"] (aC jM):=by walk_at"fs"
abbrev hU:Stmt:=top 29
theorem sc_stepped:aR ["group","name"] ["group","name"] (aC hU):=by walk_at"fs"
abbrev dJ:Stmt:=top 30
theorem sc_groups_after:aR ["house","plan","turn","groups","after","room","others","name","number","parts"] ["house","plan","turn","groups"] (aC dJ):=by walk_at"fs"
abbrev kY:Stmt:=top 31
theorem sc_walks:aR ["house","plan","groups","turn","dealt","group"] ["house","plan"] (aC kY):=by walk_at"fs"
abbrev gK:Stmt:=top 33
theorem sc_is_whole:aR ["thing"] ["thing"] (aC gK):=by walk_at"fs"
abbrev g9:Stmt:=top 36
theorem sc_is_name:aR ["thing"] ["thing"] (aC g9):=by walk_at"fs"
abbrev fS:Stmt:=top 37
theorem sc_need_name:aR ["part","thing"] ["part","thing"] (aC fS):=by walk_at"fs"
abbrev eV:Stmt:=top 38
theorem sc_need_whole:aR ["part","thing","least"] ["part","thing","least"] (aC eV):=by walk_at"fs"
abbrev cC:Stmt:=dA (top 39) 0
theorem sc_Door___init__:aR ["self","name","start","end","wide"] ["self","name","start","end","wide"] (aC cC):=by walk_at"fs"
abbrev fP:Stmt:=dA (top 39) 1
theorem sc_Door_lets:aR ["self","turn"] ["self","turn"] (aC fP):=by walk_at"fs"
abbrev dL:Stmt:=dA (top 39) 2
theorem sc_Door_is_exit:aR ["self"] ["self"] (aC dL):=by walk_at"fs"
abbrev fY:Stmt:=dA (top 39) 3
abbrev fE:Stmt:=top 41
theorem sc_need_turns:aR ["first","last"] ["first","last"] (aC fE):=by walk_at"fs"
abbrev cU:Stmt:=top 42
theorem sc_need_each_once:aR ["names","seen","name"] ["names"] (aC cU):=by walk_at"fs"
abbrev cP:Stmt:=top 43
theorem sc_rooms_spoken_of:aR ["doors","people","names","door"] ["doors","people"] (aC cP):=by walk_at"fs"
abbrev fB:Stmt:=top 44
theorem sc_need_rooms:aR ["names","sizes","name"] ["names","sizes"] (aC fB):=by walk_at"fs"
abbrev dH:Stmt:=top 45
theorem sc_added_people:aR ["sizes","people","inside","room","number"] ["sizes","people"] (aC dH):=by walk_at"fs"
abbrev fA:Stmt:=top 46
theorem sc_need_space:aR ["sizes","people","inside"] ["sizes","people"] (aC fA):=by walk_at"fs"
abbrev cF:Stmt:=dA (top 47) 0
theorem sc_House___init__:aR ["self","rooms","doors","people","last","first","sizes","door"] ["self","rooms","doors","people","last","first"] (aC cF):=by walk_at"fs"
abbrev d9:Stmt:=dA (top 47) 1
theorem sc_House_rooms:aR ["self"] ["self"] (aC d9):=by walk_at"fs"
abbrev d8:Stmt:=dA (top 47) 2
theorem sc_House_doors:aR ["self"] ["self"] (aC d8):=by walk_at"fs"
abbrev cK:Stmt:=dA (top 47) 3
theorem sc_House_need_room:aR ["self","room"] ["self","room"] (aC cK):=by walk_at"fs"
abbrev eF:Stmt:=dA (top 47) 4
theorem sc_House_holds:aR ["self","room"] ["self","room"] (aC eF):=by walk_at"fs"
abbrev eI:Stmt:=dA (top 47) 5
theorem sc_House_found:aR ["self","room"] ["self","room"] (aC eI):=by walk_at"fs"
abbrev fW:Stmt:=dA (top 47) 6
abbrev cM:Stmt:=dA (top 47) 7
theorem sc_House_from_room:aR ["self","room"] ["self","room"] (aC cM):=by walk_at"fs"
abbrev eX:Stmt:=dA (top 47) 8
theorem sc_House_door:aR ["self","name"] ["self","name"] (aC eX):=by walk_at"fs"
abbrev fD:Stmt:=dA (top 47) 9
theorem sc_House_lets:aR ["self","name","turn","door"] ["self","name","turn"] (aC fD):=by walk_at"fs"
abbrev d5:Stmt:=dA (top 47) 10
theorem sc_House_total:aR ["self"] ["self"] (aC d5):=by walk_at"fs"
abbrev eJ:Stmt:=dA (top 47) 11
theorem sc_House_pairs:aR ["self","pairs","turn"] ["self"] (aC eJ):=by walk_at"fs"
abbrev dR:Stmt:=top 49
theorem sc__law_cell_at:aR ["_law_script","_law_k"] ["_law_script","_law_k"] (aC dR):=by walk_at"fs"
abbrev fC:Stmt:=top 50
theorem sc__law_drawn:aR ["_law_cell","_law_k","_law_number"] ["_law_cell","_law_k"] (aC fC):=by walk_at"fs"
abbrev fM:Stmt:=top 51
theorem sc__law_name:aR ["_law_cell","_law_k","_law_some","_law_rest","_law_place"] ["_law_cell","_law_k"] (aC fM):=by walk_at"fs"
abbrev eZ:Stmt:=top 52
theorem sc__law_house:aR ["_law_script","_law_cell","_law_names","_law_rooms","_law_doors","_law_k","_law_number","_law_end","_law_people","_law_first"] ["_law_script"] (aC eZ):=by walk_at"fs"
abbrev fL:Stmt:=top 53
theorem sc__law_plan:aR ["_law_house_here","_law_cells","_law_rows","_law_names","_law_cell","_law_turn"] ["_law_house_here","_law_cells"] (aC fL):=by walk_at"fs"
abbrev dO:Stmt:=top 54
theorem sc__law_refused:aR ["_law_house_here","_law_plan_here","e"] ["_law_house_here","_law_plan_here"] (aC dO):=by walk_at"fs"
abbrev mG:Stmt:=top 55
theorem sc_law:aR ["_law_script","_law_house_here","_law_plan_here"] ["_law_script"] (aC mG):=by walk_at"fs"
theorem RA:("abcdefghijklmnopqrstuvwxyz" :Str).length=26:=by rw[cE];rfl
theorem QZ:("door" :Str).length=4:=by rw[cE];rfl
theorem RM:("leave" :Str).length=5:=by rw[cE];rfl
theorem Q1:("full" :Str).length=4:=by rw[cE];rfl
theorem SH:("the plan has faults" :Str).length=19:=by rw[cE];rfl
theorem RD:("name" :Str).length=4:=by rw[cE];rfl
theorem QS:("start" :Str).length=5:=by rw[cE];rfl
theorem SG:("wide" :Str).length=4:=by rw[cE];rfl
theorem SD:("the first turn is below 0" :Str).length=25:=by rw[cE];rfl
theorem SU:("the last turn is below the first one" :Str).length=36:=by rw[cE];rfl
theorem J3:("a row of people is below 0" :Str).length=26:=by rw[cE];rfl
theorem LS:("more are in a room than it holds" :Str).length=32:=by rw[cE];rfl
theorem KN:("nowhere" :Str).length=7:=by rw[cE];rfl
theorem LP:(" is no name" :Str).length=11:=by rw[cE];rfl
theorem LE:(" is no whole number from " :Str).length=25:=by rw[cE];rfl
theorem K5:(" on" :Str).length=3:=by rw[cE];rfl
theorem KG:("end" :Str).length=3:=by rw[cE];rfl
theorem KU:("a" :Str).length=1:=by rw[cE];rfl
theorem LM:("z" :Str).length=1:=by rw[cE];rfl
structure DCls (K:W.Frag)(C:Addr):Prop where
 ic:ICls K C
 n_name:NoAttr K C "name"
 n_start:NoAttr K C "start"
 n_end:NoAttr K C "end"
 n_wide:NoAttr K C "wide"
 n_first:NoAttr K C "first"
 n_last:NoAttr K C "last"
 n_sizes:NoAttr K C "sizes"
 n_people:NoAttr K C "people"
 n_named_doors:NoAttr K C "named_doors"
set_option genInjectivity false in
set_option genSizeOfSpec false in
structure M (K:W.Frag)(mg:Str->Option Value) where
 JQ:Addr
 JP:FuncData
 aB6:FunV K "_wall" "_wall" nW JQ JP
 aB8:Binds K JP ["k"] []
 sR:Addr
 sW:FuncData
 iJ:FunV K "added_up" "added_up" gM sR sW
 LY:Binds K sW ["plan"] []
 uJ:Addr
 uI:FuncData
 qC:FunV K "as_told" "as_told" iA uJ uI
 PU:Binds K uI ["plan"] []
 iT:Addr
 iU:FuncData
 dB:FunV K "rows_that_count" "rows_that_count" cO iT iU
 vW:Binds K iU ["house","plan"] []
 uE:Addr
 uP:FuncData
 j3:FunV K "leaving" "leaving" iB uE uP
 PP:Binds K uP ["house","plan"] []
 xI:Addr
 xF:FuncData
 sQ:FunV K "coming" "coming" jO xI xF
 SZ:Binds K xF ["house","plan"] []
 BF:Addr
 AM:FuncData
 vK:FunV K "there" "there" lI BF AM
 X7:Binds K AM ["house","plan"] []
 lQ:Addr
 lP:FuncData
 iI:FunV K "most_through" "most_through" dP lQ lP
 AR:Binds K lP ["house","turn","name"] []
 mX:Addr
 nI:FuncData
 jJ:FunV K "door_faults" "door_faults" d0 mX nI
 DD:Binds K nI ["house","plan"] []
 lN:Addr
 lV:FuncData
 iL:FunV K "leave_faults" "leave_faults" dQ lN lV
 A6:Binds K lV ["house","plan","inside"] []
 nH:Addr
 nJ:FuncData
 jI:FunV K "full_faults" "full_faults" d7 nH nJ
 DA:Binds K nJ ["house","inside"] []
 xH:Addr
 xJ:FuncData
 l6:FunV K "faults" "faults" jL xH xJ
 SW:Binds K xJ ["house","plan"] []
 nE:Addr
 m8:FuncData
 jK:FunV K "need_lawful" "need_lawful" d6 nE m8
 DF:Binds K m8 ["house","plan"] []
 BB:Addr
 A8:FuncData
 vL:FunV K "signs" "signs" lH BB A8
 X5:Binds K A8 ["house","plan","room","turn"] []
 qO:Addr
 qQ:FuncData
 gX:FunV K "no_groups" "no_groups" fK qO qQ
 HV:Binds K qQ ["house"] []
 iX:Addr
 iW:FuncData
 fV:FunV K "groups_at_first" "groups_at_first" cJ iX iW
 vV:Binds K iW ["house"] []
 sZ:Addr
 sY:FuncData
 kN:FunV K "somebody" "somebody" gN sZ sY
 L3:Binds K sY ["group"] []
 xD:Addr
 xK:FuncData
 sS:FunV K "parted" "parted" jM xD xK
 TC:Binds K xK ["group","number"] []
 uH:Addr
 uN:FuncData
 mS:FunV K "stepped" "stepped" hU uH uN
 PK:Binds K uN ["group","name"] []
 lT:Addr
 lO:FuncData
 iM:FunV K "groups_after" "groups_after" dJ lT lO
 AY:Binds K lO ["house","plan","turn","groups"] []
 A4:Addr
 BC:FuncData
 oB:FunV K "walks" "walks" kY A4 BC
 X4:Binds K BC ["house","plan"] []
 sU:Addr
 sT:FuncData
 nR:FunV K "is_whole" "is_whole" gK sU sT
 LZ:Binds K sT ["thing"] []
 uK:Addr
 uD:FuncData
 qB:FunV K "is_name" "is_name" g9 uK uD
 PN:Binds K uD ["thing"] []
 qJ:Addr
 qP:FuncData
 gW:FunV K "need_name" "need_name" fS qJ qP
 HW:Binds K qP ["part","thing"] []
 o6:Addr
 oW:FuncData
 kQ:FunV K "need_whole" "need_whole" eV o6 oW
 GO:Binds K oW ["part","thing","least"] []
 o0:Addr
 oZ:FuncData
 kO:FunV K "need_turns" "need_turns" fE o0 oZ
 GH:Binds K oZ ["first","last"] []
 jS:Addr
 jR:FuncData
 fF:FunV K "need_each_once" "need_each_once" cU jS jR
 xG:Binds K jR ["names"] []
 iV:Addr
 iS:FuncData
 fU:FunV K "rooms_spoken_of" "rooms_spoken_of" cP iV iS
 vY:Binds K iS ["doors","people"] []
 pH:Addr
 pD:FuncData
 gH:FunV K "need_rooms" "need_rooms" fB pH pD
 GL:Binds K pD ["names","sizes"] []
 l0:Addr
 lY:FuncData
 eT:FunV K "added_people" "added_people" dH l0 lY
 AO:Binds K lY ["sizes","people"] []
 o8:Addr
 o9:FuncData
 kP:FunV K "need_space" "need_space" fA o8 o9
 GK:Binds K o9 ["sizes","people"] []
 l7:Addr
 lR:FuncData
 b9:FunV K "_law_cell_at" "_law_cell_at" dR l7 lR
 AW:Binds K lR ["_law_script","_law_k"] []
 pI:Addr
 o7:FuncData
 bJ:FunV K "_law_drawn" "_law_drawn" fC pI o7
 GF:Binds K o7 ["_law_cell","_law_k"] []
 qM:Addr
 qI:FuncData
 jC:FunV K "_law_name" "_law_name" fM qM qI
 HU:Binds K qI ["_law_cell","_law_k"] []
 oU:Addr
 pF:FuncData
 kR:FunV K "_law_house" "_law_house" eZ oU pF
 GJ:Binds K pF ["_law_script"] []
 qL:Addr
 qN:FuncData
 mI:FunV K "_law_plan" "_law_plan" fL qL qN
 IC:Binds K qN ["_law_house_here","_law_cells"] []
 lU:Addr
 lZ:FuncData
 iK:FunV K "_law_refused" "_law_refused" dO lU lZ
 A5:Binds K lZ ["_law_house_here","_law_plan_here"] []
 LX:Addr
 L4:FuncData
 aBO:FunV K "law" "law" mG LX L4
 aB9:Binds K L4 ["_law_script"] []
 g4:Addr
 fJ:FuncData
 zH:FunV K "__init__" "Door.__init__" cC g4 fJ
 zG:Binds K fJ ["self","name","start","end","wide"] []
 qR:Addr
 qK:FuncData
 HZ:FunV K "lets" "Door.lets" fP qR qK
 HY:Binds K qK ["self","turn"] []
 l8:Addr
 lW:FuncData
 A7:FunV K "is_exit" "Door.is_exit" dL l8 lW
 AZ:Binds K lW ["self"] []
 uL:Addr
 uG:FuncData
 aAX:FunV K "words" "Door.words" fY uL uG
 aAU:Binds K uG ["self"] []
 jQ:Addr
 gP:FuncData
 xM:FunV K "__init__" "House.__init__" cF jQ gP
 xE:Binds K gP ["self","rooms","doors","people","last","first"] []
 mZ:Addr
 m5:FuncData
 DH:FunV K "rooms" "House.rooms" d9 mZ m5
 DJ:Binds K m5 ["self"] []
 nC:Addr
 nD:FuncData
 DM:FunV K "doors" "House.doors" d8 nC nD
 DK:Binds K nD ["self"] []
 iY:Addr
 iR:FuncData
 vR:FunV K "need_room" "House.need_room" cK iY iR
 vQ:Binds K iR ["self","room"] []
 nG:Addr
 mW:FuncData
 DI:FunV K "holds" "House.holds" eF nG mW
 DC:Binds K mW ["self","room"] []
 nF:Addr
 mY:FuncData
 DP:FunV K "found" "House.found" eI nF mY
 C7:Binds K mY ["self","room"] []
 uM:Addr
 uQ:FuncData
 aAS:FunV K "into" "House.into" fW uM uQ
 aAT:Binds K uQ ["self","room"] []
 iZ:Addr
 iQ:FuncData
 vX:FunV K "from_room" "House.from_room" cM iZ iQ
 vP:Binds K iQ ["self","room"] []
 oX:Addr
 oV:FuncData
 GN:FunV K "door" "House.door" eX oX oV
 GR:Binds K oV ["self","name"] []
 oT:Addr
 oY:FuncData
 GW:FunV K "lets" "House.lets" fD oT oY
 GM:Binds K oY ["self","name","turn"] []
 nK:Addr
 nA:FuncData
 C5:FunV K "total" "House.total" d5 nK nA
 DO:Binds K nA ["self"] []
 m9:Addr
 nB:FuncData
 C8:FunV K "pairs" "House.pairs" eJ m9 nB
 DB:Binds K nB ["self"] []
 aB5:mg "_wall" =some (.ref JQ)
 L6:mg "added_up" =some (.ref sR)
 PM:mg "as_told" =some (.ref uJ)
 vT:mg "rows_that_count" =some (.ref iT)
 P0:mg "leaving" =some (.ref uE)
 TD:mg "coming" =some (.ref xI)
 X6:mg "there" =some (.ref BF)
 A9:mg "most_through" =some (.ref lQ)
 DL:mg "door_faults" =some (.ref mX)
 A3:mg "leave_faults" =some (.ref lN)
 DN:mg "full_faults" =some (.ref nH)
 TL:mg "faults" =some (.ref xH)
 C6:mg "need_lawful" =some (.ref nE)
 X3:mg "signs" =some (.ref BB)
 ID:mg "no_groups" =some (.ref qO)
 vS:mg "groups_at_first" =some (.ref iX)
 LV:mg "somebody" =some (.ref sZ)
 SY:mg "parted" =some (.ref xD)
 PV:mg "stepped" =some (.ref uH)
 AX:mg "groups_after" =some (.ref lT)
 X8:mg "walks" =some (.ref A4)
 L5:mg "is_whole" =some (.ref sU)
 P1:mg "is_name" =some (.ref uK)
 IA:mg "need_name" =some (.ref qJ)
 GG:mg "need_whole" =some (.ref o6)
 GD:mg "need_turns" =some (.ref o0)
 xB:mg "need_each_once" =some (.ref jS)
 vZ:mg "rooms_spoken_of" =some (.ref iV)
 GT:mg "need_rooms" =some (.ref pH)
 AV:mg "added_people" =some (.ref l0)
 GX:mg "need_space" =some (.ref o8)
 BA:mg "_law_cell_at" =some (.ref l7)
 GV:mg "_law_drawn" =some (.ref pI)
 HX:mg "_law_name" =some (.ref qM)
 GQ:mg "_law_house" =some (.ref oU)
 IB:mg "_law_plan" =some (.ref qL)
 AQ:mg "_law_refused" =some (.ref lU)
 aCa:mg "law" =some (.ref LX)
 PQ:∃ds,Vals [.int 1] ds/\Binds K fJ ["self","name","start","end","wide"] ds
 PY:∃ds,Vals [.non,.int 1] ds/\Binds K fJ ["self","name","start","end","wide"] ds
 L7:∃ds,Vals [.int 0] ds/\Binds K gP ["self","rooms","doors","people","last","first"] ds
 gG:Addr
 aAY:mg "Door" =some (.ref gG)
 aF:Addr
 X9:mg "House" =some (.ref aF)
 zF:Addr
 LW:mg "OutError" =some (.ref zF)
 GU:Addr
 TB:mg "NoDoor" =some (.ref GU)
 CJ:Addr
 PZ:mg "NoHouse" =some (.ref CJ)
 cH:Addr
 GE:mg "NoPlan" =some (.ref cH)
 GP:Addr
 TK:mg "NoTurn" =some (.ref GP)
 X2:Addr
 aB7:mg "Twice" =some (.ref X2)
 TH:Addr
 aB4:mg "NoRoom" =some (.ref TH)
 P2:Addr
 aBP:mg "Unknown" =some (.ref P2)
 rE:DCls K gG
 YA:Mk K gG g4
 GI:iP K gG "lets" qR
 zE:iP K gG "is_exit" l8
 YB:iP K gG "words" uL
 aY:DCls K aF
 TF:Mk K aF jQ
 BE:iP K aF "rooms" mZ
 AS:iP K aF "doors" nC
 uO:iP K aF "need_room" iY
 BD:iP K aF "holds" nG
 AT:iP K aF "found" nF
 YC:iP K aF "into" uM
 uF:iP K aF "from_room" iZ
 DG:iP K aF "door" oX
 DE:iP K aF "lets" oT
 AN:iP K aF "total" nK
 AU:iP K aF "pairs" m9
 S0:W.specialIn K (.ref gG) "__getattribute__" =some (some (.builtin "type.__getattribute__"))/\W.readsIn K gG (.type "type")=true/\W.findCls K (.ref gG) (.type "type") "__init__" =some (.val (.ref g4))
 SX:aAo K cH
 PX:mU K cH
 uR:W.exmOne K (.ref cH) (.ref zF)=some true
 xC:W.kitOne K (.ref cH) (.ref GP)=some false
 vU:W.kitOne K (.ref cH) (.ref CJ)=some false
 xL:W.kitOne K (.ref cH) (.ref GU)=some false
 xA:W.kitOne K (.ref cH) (.ref cH)=some true
 sV:W.kitOne K (.ref cH) (.type "ValueError")=some true
 GY:mg "ValueError" =none
 GS:mg "sorted" =none
 oE:mg "range" =none
 U0:mg "any" =none
 nS:mg "len" =none
 aBM:mg "min" =none
 dY:mg "isinstance" =none
 aBK:mg "int" =none
 aBN:mg "str" =none
 aBJ:mg "all" =none
 aAW:mg "dict" =none
 PR:mg "list" =none
 U1:mg "sum" =none
 aAV:mg "bool" =none
 aBL:mg "max" =none
 lX:∃t:Tok,mg "LONGEST_NAME" =some (.int 8 t)
theorem gl_ {G:Prop}(h:∀G':Prop,G'=G->G'):G:=h G rfl
set_option hygiene false
local macro_rules| `(tactic| walk_at"g1")=> `(tactic| (refine gl_ ?_;intro G_ hG_))
local macro_rules| `(tactic| walk_at"g2")=> `(tactic| subst hG_)
local macro_rules| `(tactic| walk_at"cx")=> `(tactic| try dsimp only[cxK,cxP,cxW,cxM,cxB])
set_option hygiene true
local macro_rules| `(tactic| walk_at"hp")=> `(tactic| first|assumption|(refine' Same.at ?s ?h;(case s=>assumption);(case h=>walk_at"hp"))|(refine' SqL.of ?h;(case h=>walk_at"hp"))|(refine' SqT.of ?h;(case h=>walk_at"hp"))|(refine' Same.seq ?s ?h;(case s=>assumption);(case h=>walk_at"hp"))|(refine' Same.sqT ?s ?h;(case s=>assumption);(case h=>walk_at"hp")))
local macro_rules| `(tactic| walk_at"sm")=> `(tactic| first|assumption|exact Same.refl _|(refine' Same.snoc ?s ?h;(case s=>assumption);(case h=>walk_at"sm")))
local macro_rules| `(tactic| walk_at"sb")=> `(tactic| first|assumption|exact SameBut.refl|(refine' SameBut.snoc ?s ?h;(case s=>assumption);(case h=>walk_at"sb"))|(refine' SameBut.snocS ?s ?h;(case s=>assumption);(case h=>walk_at"sb")))
local macro_rules| `(tactic| walk_at"lk")=> `(tactic| first|assumption|exact YK|(with_reducible exact XR)|(refine' aBj ?d ?h;(case d=>decide +kernel);(case h=>walk_at"lk")))
local macro_rules| `(tactic| walk_at"sz")=> `(tactic| first|with_reducible assumption|lia|omega|(simp only[fN,zY,RA,QZ,RM,Q1,SH,RD,QS,SG,SD,SU,J3,LS,KN,LP,LE,K5,KG,KU,LM,sizeLine_eq,List.length_cons,List.length_nil,List.length_append,List.length_map];done)|(simp only[fN,zY,RA,QZ,RM,Q1,SH,RD,QS,SG,SD,SU,J3,LS,KN,LP,LE,K5,KG,KU,LM,sizeLine_eq,List.length_cons,List.length_nil,List.length_append,List.length_map];omega)|(simp only[fN,zY,RA,QZ,RM,Q1,SH,RD,QS,SG,SD,SU,J3,LS,KN,LP,LE,K5,KG,KU,LM,sizeLine_eq,List.length_cons,List.length_nil,List.length_append,List.length_map]at *;omega))
local macro_rules| `(tactic| walk_at"sd")=> `(tactic| first|with_reducible assumption|lia|omega|decide)
local macro_rules| `(tactic| walk_at"dc")=> `(tactic| first|((with_reducible refine ICls.cl (DCls.ic ?_));assumption)|((with_reducible refine DCls.ic ?_);assumption)|((with_reducible refine DCls.n_name ?_);assumption)|((with_reducible refine DCls.n_start ?_);assumption)|((with_reducible refine DCls.n_end ?_);assumption)|((with_reducible refine DCls.n_wide ?_);assumption)|((with_reducible refine DCls.n_first ?_);assumption)|((with_reducible refine DCls.n_last ?_);assumption)|((with_reducible refine DCls.n_sizes ?_);assumption)|((with_reducible refine DCls.n_people ?_);assumption)|((with_reducible refine DCls.n_named_doors ?_);assumption))
local macro_rules| `(tactic| walk_at"rd1")=> `(tactic| first|(with_reducible first|refine NC ?_|refine ZQ ?_|refine aBZ ?_|refine aBE ?_|refine aBb ?_|refine aBz ?_|refine aA2 ?_|refine aBG ?_|refine aBr ?_|refine aA5 ?_|refine aBp ?_|refine aBu ?_|refine aBk ?_|refine aBg ?_|refine rd_v10 ?_|refine rd_v11 ?_|refine rd_v12 ?_|refine XV ?_|refine Z3 ?_|refine aBB ?_|refine aA7 ?_|refine VP ?_|refine aAZ ?_|refine aAu ?_|refine XG ?_|refine aBh ?_|refine Y1 ?_|refine aA3 ?_|refine N8 ?_|refine M0 ?_|refine X0 ?_|refine WF ?_|refine rd_s0 ?_|refine aBF ?_|refine aBw ?_|refine aBt ?_|refine aA1 ?_|refine aBv ?_|refine aBs ?_|refine aBd ?_|refine aA9 ?_|refine aBe ?_|refine rd_s10 ?_|refine rd_s11 ?_|refine rd_s12 ?_|refine aAP ?_|refine WX ?_|refine W2 ?_|refine rd_retN ?_|refine aAs ?_|refine aAm ?_|refine aBx ?_|refine XI ?_|refine rd_orV ?_|refine rd_notV ?_|refine rd_ifE ?_|refine RQ ?_|refine rd_un ?_|refine rd_U ?_|refine Z2 ?_|refine rd_eqB ?_|refine ZE ?_|refine rd_eqSN ?_|refine rd_eqNS ?_|refine rd_eqNN ?_|refine rd_neI ?_|refine rd_neB ?_|refine rd_neS ?_|refine rd_neNN ?_|refine rd_isNN ?_|refine rd_isNS ?_|refine rd_isNI ?_|refine rd_isNR ?_|refine WS ?_|refine V2 ?_|refine rd_ntNI ?_|refine rd_ntNR ?_|refine VL ?_|refine rd_ntNV ?_|refine aAg ?_|refine Y6 ?_|refine XL ?_|refine WQ ?_|refine WI ?_|refine aA8 ?_|refine aBD ?_|refine rd_bm0 ?_|refine rd_bmS ?_|refine rd_bm0I ?_|refine rd_isiII ?_|refine rd_isiIB ?_|refine rd_isiBB ?_|refine rd_isiBI ?_|refine rd_isiSS ?_|refine rd_isiNS ?_|refine XO ?_|refine XT ?_|refine rd_intB ?_|refine rd_intI ?_|refine OU ?_|refine W6 ?_|refine YU ?_|refine rd_gsub ?_|refine VU ?_|refine P9 ?_|refine aAB ?_|refine Q9 ?_|refine rd_iTup ?_|refine QT ?_|refine R0 ?_|refine rd_iStr ?_|refine rd_iStrV ?_|refine rd_break ?_|refine rd_cont ?_|refine aAF ?_|refine WA ?_|refine U5 ?_|refine MB ?_)|((with_reducible refine' aAG ?s ?_);(case s=>decide))|((with_reducible refine' WR ?s ?_);(case s=>walk_at"sd");intro h0' h1')|((with_reducible refine' rd_repL ?e ?a ?b ?s ?_);(case e=>walk_at"hp");(case a=>decide);(case b=>decide);(case s=>first|(simp;done)|(simp[sizeLine_eq];done)|walk_at"sz");intro p' H' n' S' e')|((with_reducible refine' YQ ?s ?r ?_);(case s=>walk_at"sd");(case r=>walk_at"sd"))|((with_reducible refine' VC ?s ?r ?_);(case s=>walk_at"sd");(case r=>walk_at"sd"))|((with_reducible refine' X1 ?s ?r ?_);(case s=>walk_at"sd");(case r=>walk_at"sd"))|((with_reducible refine' VG ?s ?_);(case s=>walk_at"sz");intro p' H' n' S' e')|((with_reducible refine' VR ?s ?_);(case s=>walk_at"sz");intro p' H' n' S' e')|((with_reducible refine XB ?_);intro p' H' n' S' e')|((with_reducible refine' W0 ?e ?c ?n ?l ?_);(case e=>walk_at"hp");(case c=>walk_at"dc");(case n=>walk_at"dc");(case l=>walk_at"lk"))|((with_reducible refine' SK ?e ?c ?n ?l ?_);(case e=>walk_at"hp");(case c=>walk_at"dc");(case n=>walk_at"dc");(case l=>kernel_rfl);intro H' B' e')|((with_reducible refine' Y3 ?e ?l ?F ?_);(case e=>walk_at"hp");(case l=>walk_at"lk");(case F=>assumption))|((with_reducible refine' rd_isiC ?e ?i ?k ?_);(case e=>walk_at"hp");(case i=>walk_at"dc");(case k=>assumption))|((with_reducible refine' rd_ixL ?e ?l ?_);(case e=>walk_at"hp");(case l=>rfl))|((with_reducible refine' VS ?e ?s ?r ?_);(case e=>walk_at"hp");(case s=>walk_at"sd");(case r=>walk_at"sd");intro v' hv')|((with_reducible refine' rd_ix3i ?e ?s ?r ?_);(case e=>walk_at"hp");(case s=>walk_at"sd");(case r=>walk_at"sd");intro v' hv')|((with_reducible refine' rd_setLm ?e ?l ?_);(case e=>walk_at"hp");(case l=>rfl);intro H' B' e')|((with_reducible refine' XE ?e ?_);(case e=>walk_at"hp"))|((with_reducible refine' V1 ?e ?_);(case e=>walk_at"sz"))|((with_reducible refine' U2 ?e ?_);(case e=>walk_at"sz"))|((with_reducible refine' ZF ?e ?_);(case e=>walk_at"sz");intro hl')|((with_reducible refine' Z8 ?e ?_);(case e=>walk_at"hp");intro p' H' n' S' e')|((with_reducible refine' OB ?e ?_);(case e=>walk_at"hp");intro p' H' n' S' e')|((with_reducible refine' IN ?e ?f ?s ?_);(case e=>walk_at"hp");(case f=>walk_at"hp");(case s=>walk_at"sz");intro p' H' n' S' e')|((with_reducible refine' rd_listOf ?e ?_);(case e=>walk_at"hp");intro p' H' n' S' e')|((with_reducible refine' aAv ?e ?_);(case e=>walk_at"hp"))|((with_reducible refine' BT ?e ?_);(case e=>walk_at"hp"))|((with_reducible refine' OH ?s ?r ?_);(case s=>walk_at"sd");(case r=>walk_at"sd"))|((with_reducible refine' OF ?s ?r ?t ?u ?_);(case s=>walk_at"sd");(case r=>walk_at"sd");(case t=>walk_at"sd");(case u=>walk_at"sd"))|((with_reducible refine' rd_str ?s ?r ?_);(case s=>walk_at"sd");(case r=>walk_at"sd");intro hl')|((with_reducible refine' rd_gtupL ?e ?l ?_);(case e=>walk_at"hp");(case l=>rfl))|((with_reducible refine' WC ?e ?l ?_);(case e=>walk_at"hp");(case l=>rfl))|((with_reducible refine' rd_ifP ?s ?_);(case s=>walk_at"sd"))|((with_reducible refine' YG ?s ?_);(case s=>walk_at"sd"))|((with_reducible refine' rd_ifnP ?s ?_);(case s=>walk_at"sd"))|((with_reducible refine' rd_ifnN ?s ?_);(case s=>walk_at"sd")))
local macro_rules| `(tactic| walk_at"go")=> `(tactic| repeat walk_at"rd1")
local macro_rules| `(tactic| walk_at"gs")=> `(tactic| repeat ((fail_if_success (with_reducible refine SM ?_));walk_at"rd1"))
local macro_rules| `(tactic| walk_at"nn")=> `(tactic| repeat first|exact nn_nil|refine nn_app ?_ ?_|refine nn_cons (by omega) ?_|exact nn_map (fun n=>by omega))
section
variable {P:Program}{w:World}{K:W.Frag}{mg:Str->Option Value}{base:Heap}
def YE:V->Bool
 | .int _=>true
 | _=>false
def wR (K:W.Frag):Sp:=fun vs H Q _=>∃x n,vs=[x]/\BTy K H x n/\Q (.bl (YE x)) H
theorem QW {H:Hp}{Q:VK}{E:XK}{i:Int} (h:Q (.bl true) H):wR K [.int i] H Q E:=⟨_,_,rfl,.int i,h⟩
theorem G9 (m:M K mg):bD P w K mg base CX0 1 m.sU m.sT ["thing"] (wR K):=by
 refine m.nR.ok sc_is_whole (fun vs H Q E h=> ?_) (fun cdv A outer s H vs Q E hr h=> ?_)
 ·walk_at"g1";obtain⟨x,n,rfl,b,k⟩:=h;walk_at"g2";rfl
 ·walk_at"g1";obtain⟨x,n,rfl,b,k⟩:=h;walk_at"g2";have nd:=sc_is_whole.nd;walk_at"hu";refine⟨_,(aE (aZ (ED (bK wZ rfl m.dY dD (aA (pv 0) (aA (DV rfl m.aBK aAD) aB))) (EN (aAO (bK wZ rfl m.dY dD (aA (pv 0) (aA (DV rfl m.aAV VA) aB)))))))),?_⟩;refine aN (σ:=[some (x)]) rfl ?_;walk_at"cx";refine⟨_,rfl,_,_,_,_,_,rfl,b.ty,rfl,LO b "int" (.inl rfl),_,rfl,?_⟩;refine zK (fun h1=>⟨_,rfl,_,_,_,_,_,rfl,b.ty,rfl,LO b "bool" (.inr (.inl rfl)),_,rfl,?_⟩) (fun h1=> ?_)
  ·cases b<;>first|exact k|exact absurd h1 (by decide)
  ·cases b<;>first|exact k|exact absurd (by decide) h1
theorem G8 (m:M K mg):Fc P w K mg base "is_whole" 1 ["thing"] (wR K):=⟨_,_,m.L5,m.nR.kp,m.LZ,G9 m⟩
def nmB:V->Bool
 | .str z=>cS z
 | _=>false
def zX (K:W.Frag):Sp:=fun vs H Q _=>∃x n,vs=[x]/\BTy K H x n/\(∀z,x= .str z->z.length<=1000)/\∀H',Same H H'->Q (.bl (nmB x)) H'
theorem XX {H:Hp}{Q:VK}{E:XK}{z:Str} (hz:cS z=true) (h:∀H',Same H H'->Q (.bl true) H'):zX K [.str z] H Q E :=
 ⟨_,_,rfl,.str z,fun y e=>by cases e;exact Nat.le_trans (M3 hz) (by decide),fun H' s=>by rw[show nmB (.str z)=true from hz];exact h H' s⟩
theorem le1 (a c:Nat):(!decide ([c]<[a]))=decide (a<=c):=by
 have:([c]<[a])↔c<a:=by
  constructor
  ·intro h;cases h with
   | rel h=>exact h
   | cons h=>cases h
  ·exact fun h=> .rel h
 by_cases h:c<a
 ·rw[decide_eq_true (this.mpr h),decide_eq_false (by lia)];rfl
 ·rw[decide_eq_false (fun z=>h (this.mp z)),decide_eq_true (by lia)];rfl
theorem aBc:("a" :Str).cps.toList=[97]:=by decide +kernel
theorem aA0:("z" :Str).cps.toList=[122]:=by decide +kernel
theorem BH {α:Type}(p:α->Bool)(d:α):∀l:List α,((List.range l.length).map fun i=>p (l.getD i d)).all id=l.all p
 | []=>rfl
 | a::l=>by
  rw[List.length_cons,List.range_succ_eq_map,List.map_cons,List.all_cons,List.map_map,List.all_cons,←BH p d l];rfl
theorem SS {H:Hp}{p:Addr}{o:HO} (h:H p=none):Same H (upd H p o):=fun b u e=>by rw[aP (bF e h)];exact e
theorem KH (m:M K mg):bD P w K mg base CX0 1 m.uK m.uD ["thing"] (zX K):=by
 refine m.qB.ok sc_is_name (fun vs H Q E h=> ?_) (fun cdv A outer s H vs Q E hr h=> ?_)
 ·walk_at"g1";obtain⟨x,n,rfl,b,hz,k⟩:=h;walk_at"g2";rfl
 ·walk_at"g1";obtain⟨x,n,rfl,b,hz,k⟩:=h;walk_at"g2";have nd:=sc_is_name.nd;walk_at"hu";obtain⟨tok_LONGEST_NAME,lX⟩:=m.lX;refine⟨_,(aD (dE (tK (i6 (bK wZ rfl m.dY dD (aA (pv 0) (aA (DV rfl m.aBN ZX) aB))))) (aE (aZ DR)) b5)
   (aE (aZ (ED (D5 J0 J0 aG (bK CI rfl m.nS kI (aA (pv 0) aB)) (VJ rfl lX)) (EN (bK (SF rfl) rfl m.aBJ Z1 (aA (cD (N:=["sign"]) (nl:=1) (ci:=[]) rfl (blk (s.heap.objs.size+1) rfl rfl rfl (by kernel_rfl)) (YO (pv 0)) (fun _ _ _ _=>(aI (i:=0) (show (["sign"]:List Str).Nodup by decide +kernel) rfl (by walk_at"oi"))) (fun _ _ _ _=>f9) (fun _ _ _ _=>(D5 O2 O2 gR (pv 0) gR))) aB))))))),?_⟩
  refine aN (σ:=[some (x)]) rfl ?_;walk_at"cx";refine⟨_,rfl,_,_,_,_,_,rfl,b.ty,rfl,LO b "str" (.inr (.inr rfl)),_,rfl,?_⟩;refine zK (fun h1=> ?_) (fun h1=> ?_)
  ·show Q (.bl false) H;cases b<;>first|exact k H (Same.refl H)|exact absurd h1 (by decide)
  ·have hs:∃z,x= .str z:=by
    cases b<;>first|exact⟨_,rfl⟩|exact absurd (by decide) h1
   obtain⟨z,rfl⟩:=hs;have hl:=hz z rfl;have hl':z.length<=sizeLine:=Nat.le_of_lt (N9 hl);refine⟨_,rfl,z,rfl,hl',_,_,rfl,rfl,_,rfl,?_⟩;refine zK (fun h2=>⟨_,_,rfl,rfl,_,rfl,?_⟩) (fun h2=>⟨_,rfl,?_⟩)
   ·refine zK (fun h3=> ?_) (fun h3=> ?_)
    ·refine⟨_,rfl,z,rfl,?_⟩;refine W5 z.cps.size (fun i=> .bl (sgB (z.cps.toList.getD i 0))) hl' (fun H'=>H'=H) rfl (fun _ _=>rfl) (fun i _ hi _=>hi) ?_ ?_ ?_ ?_ ?_
     ·rintro i _ x H' hi rfl hq_;walk_at"g1";obtain⟨rfl,c,hc,rfl⟩:=hq_;walk_at"g2";refine⟨⟨rfl,fun j v hv=> ?_⟩,rfl,?_⟩
      ·match j,hv with
       | 0,hv=>cases hv
       | j+1,hv=>cases hv
      ·have hc':z.cps.toList.getD i 0=c:=by
        rw[List.getD_eq_getElem?_getD,Array.getElem?_toList,hc];rfl
       refine⟨_,rfl,_,_,rfl,rfl,_,rfl,?_⟩;rw[aBc,hc'];refine zK (fun h4=>⟨_,_,rfl,rfl,?_,rfl⟩) (fun h4=>⟨?_,rfl⟩)
       ·have h4':97<=c:=by rw[show (⟨#[c]⟩:Str).cps.toList=[c] from rfl,le1]at h4;exact of_decide_eq_true h4
        rw[aA0,show (⟨#[c]⟩:Str).cps.toList=[c] from rfl,le1];unfold sgB;rw[decide_eq_true h4',Bool.true_and]
       ·have h4':¬97<=c:=by rw[show (⟨#[c]⟩:Str).cps.toList=[c] from rfl,le1]at h4;exact fun z=>h4 (decide_eq_true z)
        unfold sgB;rw[decide_eq_false h4',Bool.false_and]
     ·exact fun _ _ _ _ f q=>f _ _ q
     ·rintro σ H Q Q' f hq_;walk_at"g1";obtain⟨v,e,i,j,e1,e2,k,e3,q⟩:=hq_;walk_at"g2";refine⟨v,e,i,j,e1,e2,k,e3,?_⟩;revert q
      split
      ·rintro hq_;walk_at"g1";obtain⟨i,j,e1,e2,q⟩:=hq_;walk_at"g2";exact⟨i,j,e1,e2,f _ _ q⟩
      ·exact fun q=>f _ _ q
     ·exact fun _ _ _ _ _ f q=>f _ _ q
     ·rintro _ rfl p hp;refine⟨p,(List.range z.cps.size).map (fun i=>sgB (z.cps.toList.getD i 0)),rfl,SqL.of ?_,?_⟩
      ·rw[bC,List.map_map];rfl
      ·have e:=BH sgB 0 z.cps.toList;rw[Array.length_toList]at e;rw[e];have e2:nmB (.str z)=z.cps.toList.all sgB:=by
        show cS z=_;unfold cS;rw[show decide (1<=(z.length:Int))=true from h2,show decide ((z.length:Int)<=8)=true from h3];rfl
       rw[←e2];exact k _ (SS hp)
    ·have e2:nmB (.str z)=false:=by
      show cS z=_;unfold cS;rw[show decide ((z.length:Int)<=8)=false from by simpa using h3];simp
     have:=k H (Same.refl H);rw[e2]at this;exact this
   ·have e2:nmB (.str z)=false:=by
     show cS z=_;unfold cS;rw[show decide (1<=(z.length:Int))=false from by simpa using h2];simp
    have:=k H (Same.refl H);rw[e2]at this;exact this
theorem KR (m:M K mg):Fc P w K mg base "is_name" 1 ["thing"] (zX K):=⟨_,_,m.P1,m.qB.kp,m.PN,KH m⟩
local macro_rules| `(tactic| walk_at"rd1")=> `(tactic| first|(with_reducible refine QW ?_)|((with_reducible refine' XX ?s ?_);(case s=>assumption);intro H' S'))
inductive kA (K:W.Frag)(vs:List V)(H:Hp)(Q:VK)(E:XK):Prop
 | mk (part z:Str) (_:vs=[.str part,.str z]) (_:cS z=true) (_:∀H',Same H H'->Q .non H'):kA K vs H Q E
theorem HM {H:Hp}{Q:VK}{E:XK}{part z:Str} (hz:cS z=true) (h:∀H',Same H H'->Q .non H'):kA K [.str part,.str z] H Q E:=⟨_,_,rfl,hz,h⟩
theorem E1 (m:M K mg):bD P w K mg base CX0 2 m.qJ m.qP ["part","thing"] (kA K):=by
 refine m.gW.ok sc_need_name (fun vs H Q E h=> ?_) (fun cdv A outer s H vs Q E hr h=> ?_)
 ·walk_at"g1";obtain⟨part,z,rfl,hz,k⟩:=h;walk_at"g2";rfl
 ·walk_at"g1";obtain⟨part,z,rfl,hz,k⟩:=h;walk_at"g2";have nd:=sc_need_name.nd;walk_at"hu";have qB:= @KR P w K mg base m;refine⟨_,(aE (dE (tK (i6 (bG qB hr (aA (pv 1) aB)))) (aE gO) b5)),?_⟩;refine aN (σ:=[some (.str part),some (.str z)]) rfl ?_;walk_at"cx";walk_at"go";exact k _ (by walk_at"sm")
theorem F2 (m:M K mg):Fc P w K mg base "need_name" 2 ["part","thing"] (kA K):=⟨_,_,m.IA,m.gW.kp,m.HW,E1 m⟩
inductive jH (K:W.Frag)(vs:List V)(H:Hp)(Q:VK)(E:XK):Prop
 | mk (part:Str) (i l:Int) (_:vs=[.str part,.int i,.int l]) (_:l<=i) (_:Q .non H):jH K vs H Q E
theorem E2 {H:Hp}{Q:VK}{E:XK}{part:Str}{i l:Int} (hz:l<=i) (h:Q .non H):jH K [.str part,.int i,.int l] H Q E:=⟨_,_,_,rfl,hz,h⟩
theorem C3 (m:M K mg):bD P w K mg base CX0 2 m.o6 m.oW ["part","thing","least"] (jH K):=by
 refine m.kQ.ok sc_need_whole (fun vs H Q E h=> ?_) (fun cdv A outer s H vs Q E hr h=> ?_)
 ·walk_at"g1";obtain⟨part,i,l,rfl,hz,k⟩:=h;walk_at"g2";rfl
 ·walk_at"g1";obtain⟨part,i,l,rfl,hz,k⟩:=h;walk_at"g2";have nd:=sc_need_whole.nd;walk_at"hu";have nR:= @G8 P w K mg base m;refine⟨_,(aE (dE (PW.pt (DS (tK (i6 (bG nR hr (aA (pv 1) aB)))) (EX (bV pM (pv 1) (pv 2) (cB _))))) (aE gO) b5)),?_⟩;refine aN (σ:=[some (.str part),some (.int i),some (.int l)]) rfl ?_;walk_at"cx";walk_at"go";exact k
theorem CZ (m:M K mg):Fc P w K mg base "need_whole" 2 ["part","thing","least"] (jH K):=⟨_,_,m.GG,m.kQ.kp,m.GO,C3 m⟩
local macro_rules| `(tactic| walk_at"rd1")=> `(tactic| first|((with_reducible refine' HM ?s ?_);(case s=>assumption);intro H' S')|((with_reducible refine' E2 ?s ?_);(case s=>walk_at"sd")))
abbrev yY (n s e w:V):List (Str×V):=c8 "wide" w (c8 "end" e (c8 "start" s (c8 "name" n [])))
def DY (e:V):Prop:=e= .non∨∃z,e= .str z/\cS z=true
inductive hV (K:W.Frag)(vs:List V)(H:Hp)(Q:VK)(E:XK):Prop
 | mk (p C dx:Addr) (n s:Str) (e:V) (wd:Int) (_:vs=[.ref p,.str n,.str s,e,.int wd]) (_:DCls K C) (_:H p=some (.ins C dx [])) (_:cS n=true) (_:cS s=true) (_:DY e) (_:0<=wd) (_:∀H',SameBut p H H'->H' p=some (.ins C dx (yY (.str n) (.str s) e (.int wd)))->Q .non H'):hV K vs H Q E
theorem v7 {H:Hp}{Q:VK}{E:XK}{p C dx:Addr}{n s:Str}{e:V}{wd:Int} (dc:DCls K C) (hp:H p=some (.ins C dx [])) (hn:cS n=true) (hs:cS s=true) (he:DY e) (hw:0<=wd)
  (k:∀H',SameBut p H H'->H' p=some (.ins C dx (yY (.str n) (.str s) e (.int wd)))->Q .non H'):hV K [.ref p,.str n,.str s,e,.int wd] H Q E:=⟨_,_,_,_,_,_,_,rfl,dc,hp,hn,hs,he,hw,k⟩
theorem wQ (m:M K mg):bD P w K mg base CX0 3 m.g4 m.fJ ["self","name","start","end","wide"] (hV K):=by
 refine m.zH.ok sc_Door___init__ (fun vs H Q E h=> ?_) (fun cdv A outer s H vs Q E hr h=> ?_)
 ·walk_at"g1";obtain⟨p,C,dx,n,st,e,wd,rfl,dc,hp,hn,hs,he,hw,k⟩:=h;walk_at"g2";rfl
 ·walk_at"g1";obtain⟨p,C,dx,n,st,e,wd,rfl,dc,hp,hn,hs,he,hw,k⟩:=h;walk_at"g2";have nd:=sc_Door___init__.nd;walk_at"hu";have gW:= @F2 P w K mg base m;have kQ:= @CZ P w K mg base m;refine⟨_,(aD (bR (bG gW hr (aA gR (aA (pv 1) aB))))
   (aD (bR (bG gW hr (aA gR (aA (pv 2) aB))))
   (aD (dE (bV WH (pv 3) mJ (cB _)) (aE (bR (bG gW hr (aA gR (aA (pv 3) aB))))) b5)
   (aD (bR (bG kQ hr (aA gR (aA (pv 4) (aA aG aB)))))
   (aD (j4 (pv 0) (pv 1) rfl)
   (aD (j4 (pv 0) (pv 2) rfl)
   (aD (j4 (pv 0) (pv 3) rfl)
   (aE (j4 (pv 0) (pv 4) rfl))))))))),?_⟩
  refine aN (σ:=[some (.ref p),some (.str n),some (.str st),some (e),some (.int wd)]) rfl ?_;walk_at"cx";rcases he with rfl|⟨z,rfl,hz⟩
  ·walk_at"go";exact k _ (by walk_at"sb") (by assumption)
  ·walk_at"go";exact k _ (by walk_at"sb") (by assumption)
theorem O1 (m:M K mg):Kc P w K mg base "Door" m.gG 3 [] (hV K):=⟨_,_,_,_,m.aAY,m.YA,.nil,m.zG,wQ m⟩
theorem SR {H:Hp}{Q:VK}{E:XK}{C:Addr}{vs dvs:List V}{n s:Str}{e:V}{wd:Int} (ev:vs++dvs=[.str n,.str s,e,.int wd]) (dc:DCls K C) (hn:cS n=true) (hs:cS s=true) (he:DY e) (hw:0<=wd)
  (k:∀p dx H',H p=none->Same H H'->H' p=some (.ins C dx (yY (.str n) (.str s) e (.int wd)))->Q (.ref p) H'):DU C (hV K) dvs E Q vs H :=
 RG (fun p dx H0 Q' h k' s0=>by rw[ev];exact v7 dc h hn hs he hw k') k
local macro_rules| `(tactic| walk_at"rd1")=> `(tactic| ((with_reducible refine' SR ?v ?d ?hn ?hs ?he ?hw ?_);(case v=>rfl);(case d=>assumption);(case hn=>assumption);(case hs=>assumption);(case he=>first|assumption|exact .inl rfl|exact .inr ⟨_,rfl,by assumption⟩);(case hw=>walk_at"sd");intro p' dx' H' n' S' e'))
inductive k6 (K:W.Frag)(vs:List V)(H:Hp)(Q:VK)(E:XK):Prop
 | mk (p C dx:Addr) (fs:List (Str×V)) (e:V) (_:vs=[.ref p]) (_:DCls K C) (_:H p=some (.ins C dx fs)) (_:fs.lookup ("end" :Str)=some e) (_:Q (.bl (decide (e= .non))) H):k6 K vs H Q E
theorem VI {H:Hp}{Q:VK}{E:XK}{p C dx:Addr}{fs:List (Str×V)} (hp:H p=some (.ins C dx fs)) (dc:DCls K C) (l:fs.lookup ("end" :Str)=some .non) (k:Q (.bl true) H):k6 K [.ref p] H Q E:=⟨_,_,_,_,_,rfl,dc,hp,l,k⟩
theorem WB {H:Hp}{Q:VK}{E:XK}{p C dx:Addr}{fs:List (Str×V)}{z:Str} (hp:H p=some (.ins C dx fs)) (dc:DCls K C) (l:fs.lookup ("end" :Str)=some (.str z)) (k:Q (.bl false) H):k6 K [.ref p] H Q E :=
 ⟨_,_,_,_,_,rfl,dc,hp,l,by rw[decide_eq_false (fun z=>by cases z)];exact k⟩
theorem yI (m:M K mg):bD P w K mg base CX0 1 m.l8 m.lW ["self"] (k6 K):=by
 refine m.A7.ok sc_Door_is_exit (fun vs H Q E h=> ?_) (fun cdv A outer s H vs Q E hr h=> ?_)
 ·walk_at"g1";obtain⟨p,C,dx,fs,e,rfl,dc,hp,l,k⟩:=h;walk_at"g2";rfl
 ·walk_at"g1";obtain⟨p,C,dx,fs,e,rfl,dc,hp,l,k⟩:=h;walk_at"g2";have nd:=sc_Door_is_exit.nd;walk_at"hu";refine⟨_,(aE (aZ (uW Y9 (bP (pv 0) rfl) mJ (cB _)))),?_⟩;refine aN (σ:=[some (.ref p)]) rfl ?_;walk_at"cx";walk_at"go";exact k
theorem xY (m:M K mg):Mc P w K mg base m.gG "is_exit" 1 (k6 K):=⟨_,_,_,m.rE.ic.cl,m.zE,m.AZ,yI m⟩
local macro_rules| `(tactic| walk_at"rd1")=> `(tactic| first|((with_reducible refine' VI ?e ?d ?l ?_);(case e=>walk_at"hp");(case d=>assumption);(case l=>walk_at"lk"))|((with_reducible refine' WB ?e ?d ?l ?_);(case e=>walk_at"hp");(case d=>assumption);(case l=>walk_at"lk")))
inductive kK (K:W.Frag)(vs:List V)(H:Hp)(Q:VK)(E:XK):Prop
 | mk (p C dx:Addr) (fs:List (Str×V)) (t wd:Int) (_:vs=[.ref p,.int t]) (_:DCls K C) (_:H p=some (.ins C dx fs)) (_:fs.lookup ("wide" :Str)=some (.int wd)) (_:Q (.int wd) H):kK K vs H Q E
theorem G0 {H:Hp}{Q:VK}{E:XK}{p C dx:Addr}{fs:List (Str×V)}{t wd:Int} (hp:H p=some (.ins C dx fs)) (dc:DCls K C) (l:fs.lookup ("wide" :Str)=some (.int wd)) (k:Q (.int wd) H):kK K [.ref p,.int t] H Q E:=⟨_,_,_,_,_,_,rfl,dc,hp,l,k⟩
theorem FI (m:M K mg):bD P w K mg base CX0 1 m.qR m.qK ["self","turn"] (kK K):=by
 refine m.HZ.ok sc_Door_lets (fun vs H Q E h=> ?_) (fun cdv A outer s H vs Q E hr h=> ?_)
 ·walk_at"g1";obtain⟨p,C,dx,fs,t,wd,rfl,dc,hp,l,k⟩:=h;walk_at"g2";rfl
 ·walk_at"g1";obtain⟨p,C,dx,fs,t,wd,rfl,dc,hp,l,k⟩:=h;walk_at"g2";have nd:=sc_Door_lets.nd;walk_at"hu";refine⟨_,(aE (aZ (bP (pv 0) rfl))),?_⟩;refine aN (σ:=[some (.ref p),some (.int t)]) rfl ?_;walk_at"cx";walk_at"go";exact k
theorem EQ (m:M K mg):Mc P w K mg base m.gG "lets" 1 (kK K):=⟨_,_,_,m.rE.ic.cl,m.GI,m.HY,FI m⟩
local macro_rules| `(tactic| walk_at"rd1")=> `(tactic| ((with_reducible refine' v7 ?d ?e ?hn ?hs ?he ?hw ?_);(case d=>assumption);(case e=>walk_at"hp");(case hn=>assumption);(case hs=>assumption);(case he=>assumption);(case hw=>walk_at"sd");intro H' B' e'))
abbrev aH:=Str×Str×V×(Int->Int)
def P3:HO->Prop
 | .lst _=>True
 | .dK _=>True
 | .dT _=>True
 | .tbl _=>True
 | .ins _ _ fs=>fs=[]
 | _=>False
structure aV where
 at':Hp->V->aH->Prop
 same:∀{H H' v d},at' H v d->Same H H'->at' H' v d
 but:∀{H H' v d p o},at' H v d->H p=some o->P3 o->SameBut p H H'->at' H' v d
def UI (P:Program)(w:World)(K:W.Frag)(mg:Str->Option Value)(base:Heap)(kL:Option Nat)(p C dx:Addr)(fs:List (Str×V))(fp:List (Addr×HO))(lt:Int->Int):Prop:=∀kl,kL=some kl →
 ∃sp,Mc P w K mg base C "lets" kl sp/\∀(H':Hp) (t:Int) (Q:VK),H' p=some (.ins C dx fs)->(∀x∈fp,H' x.1=some x.2)->0<=t->(∀H'',Same H' H''->Q (.int (lt t)) H'')->sp [.ref p,.int t] H' Q E0
inductive DoorAt (P:Program)(w:World)(K:W.Frag)(mg:Str->Option Value)(base:Heap)(kL:Option Nat)(H:Hp)(v:V)(d:aH):Prop
 | mk (p C dx:Addr) (fs:List (Str×V)) (fp:List (Addr×HO)) (_:v= .ref p) (_:H p=some (.ins C dx fs)) (_:DCls K C) (_:fs.lookup ("name" :Str)=some (.str d.1)) (_:fs.lookup ("start" :Str)=some (.str d.2.1)) (_:fs.lookup ("end" :Str)=some d.2.2.1) (_:fs.lookup ("is_exit" :Str)=none) (_:fs.lookup ("lets" :Str)=none) (_:Mc P w K mg base C "is_exit" 1 (k6 K)) (_:∀x∈fp,H x.1=some x.2/\¬P3 x.2) (_:UI P w K mg base kL p C dx fs fp d.2.2.2):DoorAt P w K mg base kL H v d
inductive UG (P:Program)(w:World)(K:W.Frag)(mg:Str->Option Value)(base:Heap)(kL:Option Nat)(H:Hp)(v:V)(n st:Str)(e:V)(lt:Int->Int):Prop
 | mk (p C dx:Addr) (fs:List (Str×V)) (fp:List (Addr×HO)) (_:v= .ref p) (_:H p=some (.ins C dx fs)) (_:DCls K C) (_:fs.lookup ("name" :Str)=some (.str n)) (_:fs.lookup ("start" :Str)=some (.str st)) (_:fs.lookup ("end" :Str)=some e) (_:fs.lookup ("is_exit" :Str)=none) (_:fs.lookup ("lets" :Str)=none) (_:Mc P w K mg base C "is_exit" 1 (k6 K)) (_:∀x∈fp,H x.1=some x.2/\¬P3 x.2) (_:UI P w K mg base kL p C dx fs fp lt):UG P w K mg base kL H v n st e lt
theorem DoorAt.ex {kL:Option Nat}{H:Hp}{v:V}{n st:Str}{e:V}{lt:Int->Int} (h:DoorAt P w K mg base kL H v (n,st,e,lt)):UG P w K mg base kL H v n st e lt:=by
 walk_at"g1";obtain⟨p,C,dx,fs,fp,h1,h2,h3,h4,h5,h6,h7,h8,h9,h10,h11⟩:=h;walk_at"g2";exact⟨p,C,dx,fs,fp,h1,h2,h3,h4,h5,h6,h7,h8,h9,h10,h11⟩
def aQ (P:Program)(w:World)(K:W.Frag)(mg:Str->Option Value)(base:Heap)(kL:Option Nat):aV where
 at':=DoorAt P w K mg base kL
 same:=fun⟨p,C,dx,fs,fp,e,hp,dc,l1,l2,l3,l4,l5,mc,hf,lt⟩ s=>⟨p,C,dx,fs,fp,e,s _ _ hp,dc,l1,l2,l3,l4,l5,mc,fun x hx=>⟨s _ _ (hf x hx).1,(hf x hx).2⟩,lt⟩
 but:=fun {H H' v d q o} ⟨p,C,dx,fs,fp,e,hp,dc,l1,l2,l3,l4,l5,mc,hf,lt⟩ ho so sb=>⟨p,C,dx,fs,fp,e,sb _ _ hp (fun z=>by
   rw[z,ho]at hp;cases hp;have h:fs=[]:=so;rw[h]at l1;cases l1),dc,l1,l2,l3,l4,l5,mc,fun x hx=>⟨sb _ _ (hf x hx).1 (fun z=>by
   have h:=(hf x hx).1;rw[z,ho]at h;cases h;exact(hf x hx).2 so),(hf x hx).2⟩,lt⟩
local macro_rules| `(tactic| walk_at"rd1")=> `(tactic| first|(with_reducible refine XD ?_)|(with_reducible refine WJ ?_)|(with_reducible refine YM ?_)|(with_reducible refine O6 ?_)|(with_reducible refine MW ?_)|(with_reducible refine K4 ?_)|(with_reducible refine JU ?_)|(with_reducible refine QV ?_)|((with_reducible refine R8 ?_);intro p' H' n' S' e')|((with_reducible refine RJ ?_);intro p' H' n' S' e'))
theorem gJ {H:Hp}{Q:VK}{l:Addr}{xs:List V}{y:V} (e:H l=some (.lst xs)) (hz:xs.length<sizeLine) (h:∀H',SameBut l H H'->H' l=some (.lst (xs++[y]))->Q .non H'):IS (.ref l) [y] H Q :=
 ⟨l,xs,y,rfl,rfl,e,hz,h _ SameBut.upd bC⟩
inductive rN (vs:List V)(H:Hp)(Q:VK)(E:XK):Prop
 | mk (f l:Int) (_:vs=[.int f,.int l]) (_:0<=f) (_:f<=l) (_:Q .non H):rN vs H Q E
theorem VW {H:Hp}{Q:VK}{E:XK}{f l:Int} (h0:0<=f) (h1:f<=l) (h:Q .non H):rN [.int f,.int l] H Q E:=⟨_,_,rfl,h0,h1,h⟩
theorem CM (m:M K mg):bD P w K mg base CX0 1 m.o0 m.oZ ["first","last"] (rN):=by
 refine m.kO.ok sc_need_turns (fun vs H Q E h=> ?_) (fun cdv A outer s H vs Q E hr h=> ?_)
 ·walk_at"g1";obtain⟨f,l,rfl,h0,h1,k⟩:=h;walk_at"g2";rfl
 ·walk_at"g1";obtain⟨f,l,rfl,h0,h1,k⟩:=h;walk_at"g2";have nd:=sc_need_turns.nd;walk_at"hu";refine⟨_,(aD (dE (bV pM (pv 0) aG (cB _)) (aE gO) b5)
   (aE (dE (bV pM (pv 1) (pv 0) (cB _)) (aE gO) b5))),?_⟩
  refine aN (σ:=[some (.int f),some (.int l)]) rfl ?_;walk_at"cx";walk_at"go";exact k
theorem C4 (m:M K mg):Fc P w K mg base "need_turns" 1 ["first","last"] (rN):=⟨_,_,m.GD,m.kO.kp,m.GH,CM m⟩
inductive u8 (K:W.Frag)(vs:List V)(H:Hp)(Q:VK)(E:XK):Prop
 | mk (a:Addr) (ss:List Str) (_:vs=[.ref a]) (_:SqL K H a (ss.map V.str)) (_:ss.Nodup) (_:ss.length<=100) (_:∀H',Same H H'->Q .non H'):u8 K vs H Q E
theorem NS {H:Hp}{Q:VK}{E:XK}{a:Addr}{ss:List Str} (hS:SqL K H a (ss.map V.str)) (nd:ss.Nodup) (hl:ss.length<=100) (h:∀H',Same H H'->Q .non H'):u8 K [.ref a] H Q E:=⟨_,_,rfl,hS,nd,hl,h⟩
theorem lF {α:Type}{ss:List α} (nd:ss.Nodup) {i:Nat}{z:α} (hz:ss[i]? =some z):z∉ss.take i:=fun h=>by
 obtain⟨hi,e⟩:=List.getElem?_eq_some_iff.mp hz;obtain⟨j,hj,ej⟩:=List.getElem_of_mem h;rw[List.length_take]at hj;rw[List.getElem_take]at ej;exact(List.pairwise_iff_getElem.mp nd) j i (by lia) hi (by lia) (ej.trans e.symm)
theorem bT {α:Type}{ss:List α}{i:Nat}{z:α} (hz:ss[i]? =some z):ss.take (i+1)=ss.take i++[z]:=by rw[List.take_succ,hz];rfl
theorem vM (m:M K mg):bD P w K mg base CX0 1 m.jS m.jR ["names"] (u8 K):=by
 refine m.fF.ok sc_need_each_once (fun vs H Q E h=> ?_) (fun cdv A outer s H vs Q E hr h=> ?_)
 ·walk_at"g1";obtain⟨a,ss,rfl,hS,hnd,hlen,k⟩:=h;walk_at"g2";rfl
 ·walk_at"g1";obtain⟨a,ss,rfl,hS,hnd,hlen,k⟩:=h;walk_at"g2";have nd:=sc_need_each_once.nd;walk_at"hu";refine⟨_,(aD (aX (i:=1) nd rfl (by walk_at"oi") wP)
   (aE (cX PassesOwn.never rfl (bM (pv 0)) (aI (i:=2) nd rfl (by walk_at"oi")) (aD (dE (D8 (aAC hu1 (pv 2) (pv 1)) (by with_unfolding_all rfl)) (aE gO) b5)
   (aE (jV hu1 (pv 1) (pv 2) DR rfl)))))),?_⟩
  refine aN (σ:=[some (.ref a),none,none]) rfl ?_;walk_at"cx";walk_at"go";rename_i p H1 n1 S1 e1;let Pv1:Nat->St->Hp->Prop:=fun i σ' H'=>SameBut p H1 H'/\∃kvs,H' p=some (.dK kvs)/\kvs.length<=i/\(∀z,(bA kvs (.inr z)).isSome=true->z∈ss.take i)/\∃x,σ'=[some (.ref a),some (.ref p),x];refine dI (ss.map V.str) Pv1 ⟨SameBut.refl,[],e1,Nat.le_refl _,(fun z h=>by cases h),_,rfl⟩ (fun i σ' H' _ q=>(SameBut.same n1 S1 q.1).seq hS) ?_ ?_
  ·rintro i x _ H' hx hq_;walk_at"g1";obtain⟨sb,kvs,ek,hk,hin,y,rfl⟩:=hq_;walk_at"g2";rw[List.getElem?_map]at hx;obtain⟨z,hz,rfl⟩:=Option.map_eq_some_iff.mp hx;have hi:i<ss.length:=(List.getElem?_eq_some_iff.mp hz).1;have hno:(bA kvs (.inr z)).isSome=false:=by
    cases e:(bA kvs (.inr z)).isSome with
    | false=>rfl
    | true=>exact absurd (hin z e) (lF hnd hz)
   walk_at"go";refine WZ (.inl ek) ?_;rw[hno];walk_at"go";refine wL ek (by rw[sizeLine_eq];lia) fun H9 B9 e9=> ?_;refine⟨by walk_at"sb",_,e9,Nat.le_trans (fR _ _ _) (by lia),fun y hy=> ?_,_,rfl⟩;rw[kW]at hy;rw[bT hz]
   by_cases e:(Sum.inr y:Key)= .inr z
   ·cases e;exact List.mem_append_right _ (.head _)
   ·rw[if_neg e]at hy;exact List.mem_append_left _ (hin y hy)
  ·rintro _ H' hq_;walk_at"g1";obtain⟨sb,kvs,ek,hk,hin,y,rfl⟩:=hq_;walk_at"g2";exact k _ (SameBut.same n1 S1 sb)
theorem vN (m:M K mg):Fc P w K mg base "need_each_once" 1 ["names"] (u8 K):=⟨_,_,m.xB,m.fF.kp,m.xG,vM m⟩
def cZ (rs:List Str)(d:aH):Prop:=d.2.1∈rs/\(d.2.2.1= .non∨∃z,d.2.2.1= .str z/\z∈rs)
def bZ (H:Hp)(v:V)(p:Str×Int):Prop:=∃q,v= .ref q/\H q=some (.tup [.str p.1,.int p.2])
theorem kH {H H':Hp}{vs:List V}{ps:List (Str×Int)} (h:Paired (bZ H) vs ps) (s:Same H H'):Paired (bZ H') vs ps:=Paired.imp' (fun v z ⟨q,e,h⟩=>⟨q,e,s _ _ h⟩) h
inductive p9 (K:W.Frag)(D:aV)(vs:List V)(H:Hp)(Q:VK)(E:XK):Prop
 | mk (a b:Addr) (us:List V) (ds:List aH) (rs:List Str) (ws:List V) (ps:List (Str×Int)) (_:vs=[.ref a,.ref b]) (_:SqL K H a us) (_:Paired (D.at' H) us ds) (_:(∀d∈ds,cZ rs d)) (_:ds.length<=20) (_:SqL K H b ws) (_:Paired (bZ H) ws ps) (_:(∀p∈ps,p.1∈rs)) (_:ps.length<=40) (_:∀p (ss:List Str) H',Same H H'->H' p=some (.lst (ss.map V.str))->(∀z∈ss,z∈rs)->ss.length<=80->Q (.ref p) H'):p9 K D vs H Q E
theorem ST {D:aV}{H:Hp}{Q:VK}{E:XK}{a b:Addr}{us:List V}{ds:List aH}{rs:List Str}{ws:List V}{ps:List (Str×Int)} (hS:SqL K H a us) (hd:Paired (D.at' H) us ds) (hr:∀d∈ds,cZ rs d) (hl:ds.length<=20) (hb:SqL K H b ws) (hw:Paired (bZ H) ws ps) (hwr:∀p∈ps,p.1∈rs) (hwl:ps.length<=40) (h:∀p (ss:List Str) H',Same H H'->H' p=some (.lst (ss.map V.str))->(∀z∈ss,z∈rs)->ss.length<=80->Q (.ref p) H'):p9 K D [.ref a,.ref b] H Q E:=⟨_,_,_,_,_,_,_,rfl,hS,hd,hr,hl,hb,hw,hwr,hwl,h⟩
theorem tX (m:M K mg):bD P w K mg base CX0 2 m.iV m.iS ["doors","people"] (p9 K (aQ P w K mg base (some 1))):=by
 refine m.fU.ok sc_rooms_spoken_of (fun vs H Q E h=> ?_) (fun cdv A outer s H vs Q E hr h=> ?_)
 ·walk_at"g1";obtain⟨a,b,us,ds,rs,ws,ps,rfl,hS,hd,hr',hlen,hb,hw,hwr,hwl,k⟩:=h;walk_at"g2";rfl
 ·walk_at"g1";obtain⟨a,b,us,ds,rs,ws,ps,rfl,hS,hd,hr',hlen,hb,hw,hwr,hwl,k⟩:=h;walk_at"g2";have nd:=sc_rooms_spoken_of.nd;walk_at"hu";refine⟨_,(aD (aX (i:=2) nd rfl (by walk_at"oi") (eK aB))
   (aD (cX PassesOwn.never rfl (bM (pv 0)) (aI (i:=3) nd rfl (by walk_at"oi")) (aD (bR (jE PySem.F.plainAttrs_list PySem.F.slot_list_append PySem.F.type_list_append gI (pv 2) (aA (bP (pv 3) rfl) aB)))
   (aE (dE (tK (i6 (gF 1 hr (pv 3)))) (aE (bR (jE PySem.F.plainAttrs_list PySem.F.slot_list_append PySem.F.type_list_append gI (pv 2) (aA (bP (pv 3) rfl) aB)))) b5))))
   (aE (aZ (aU oM (pv 2) (cD (N:=["room","number"]) (nl:=2) (ci:=[]) rfl (blk (s.heap.objs.size+1) rfl rfl rfl (by kernel_rfl)) (bM (pv 1)) (fun _ _ _ _=>(gS (K:=K) (n:=2) rfl (aW (aI (i:=0) (show (["room","number"]:List Str).Nodup by decide +kernel) rfl (by walk_at"oi")) (aW (aI (i:=1) (show (["room","number"]:List Str).Nodup by decide +kernel) rfl (by walk_at"oi")) cY)))) (fun _ _ _ _=>f9) (fun _ _ _ _=>(pv 0)))))))),?_⟩
  refine aN (σ:=[some (.ref a),some (.ref b),none,none]) rfl ?_;walk_at"cx";have hul:us.length=ds.length:=Paired.length hd;walk_at"go";rename_i p H1 n1 S1 e1;let Pv2:Nat->St->Hp->Prop:=fun i σ' H'=>SameBut p H1 H'/\(∃ss:List Str,H' p=some (.lst (ss.map V.str))/\(∀z∈ss,z∈rs)/\ss.length<=2 * i)/\∃x,σ'=[some (.ref a),some (.ref b),some (.ref p),x];refine dI us Pv2 ⟨SameBut.refl,⟨[],e1,(fun _ z=>nomatch z),Nat.le_refl _⟩,_,rfl⟩ (fun i σ' H' _ q=>(SameBut.same n1 S1 q.1).seq hS) ?_ ?_
  ·rintro i x _ H' hx hq_;walk_at"g1";obtain⟨sb,⟨ss,es,hin,hsl⟩,y,rfl⟩:=hq_;walk_at"g2";have hi:i<us.length:=(List.getElem?_eq_some_iff.mp hx).1;obtain⟨d,hdx⟩:∃d,ds[i]? =some d:=⟨_,List.getElem?_eq_getElem (by lia)⟩
   walk_at"g1";obtain⟨n,st,e,lt⟩:=d;walk_at"g2";walk_at"g1";obtain⟨q,C9,dx,fs,fp,rfl,hq,dcC,l1,l2,l3,l4,l5,mcE,hfp,hlt⟩:=DoorAt.ex (Paired.at2 hd hx hdx);walk_at"g2";obtain⟨r1,r2⟩:=hr' _ (List.mem_of_getElem? hdx);have hqp:q≠p:=fun z=>by rw[z,n1]at hq;cases hq
   have hq':H' q=some (.ins C9 dx fs):=sb _ _ (S1 _ _ hq) hqp;rcases r2 with r2|⟨z,r2,r3⟩
   ·have r2:e= .non:=r2;subst r2;walk_at"go";refine gJ es (by rw[sizeLine_eq,List.length_map];lia) fun H8 B8 e8=> ?_;have hq8:=B8 _ _ hq' hqp;walk_at"go";exact⟨by walk_at"sb",⟨ss++[st],by rw[e8,List.map_append];rfl,fun z hz=>(List.mem_append.mp hz).elim (hin z) (fun w=>by cases List.mem_singleton.mp w;exact r1),by rw[List.length_append];show ss.length+1<=_;lia⟩,_,rfl⟩
   ·have r2:e= .str z:=r2;subst r2;walk_at"go";refine gJ es (by rw[sizeLine_eq,List.length_map];lia) fun H8 B8 e8=> ?_;have hq8:=B8 _ _ hq' hqp;walk_at"go";refine gJ e8 (by rw[sizeLine_eq,List.length_append,List.length_map];show ss.length+1<_;lia) fun H9 B9 e9=> ?_;walk_at"go";refine⟨by walk_at"sb",⟨ss++[st]++[z],by rw[e9,List.map_append,List.map_append];rfl,fun z hz=> ?_,by rw[List.length_append,List.length_append];show ss.length+1+1<=_;lia⟩,_,rfl⟩;rcases List.mem_append.mp hz with hz|hz
    ·exact(List.mem_append.mp hz).elim (hin z) (fun w=>by cases List.mem_singleton.mp w;exact r1)
    ·cases List.mem_singleton.mp hz;exact r3
  ·rintro _ H' hq_;walk_at"g1";obtain⟨sb,⟨ss,es,hin,hsl⟩,y,rfl⟩:=hq_;walk_at"g2";have sH:Same H H':=SameBut.same n1 S1 sb;have hb':=sH.seq hb;walk_at"go";refine qS (α:=Str×Int) (xs:=ps) (vs:=ws) (fun p=> .str p.1) (fun p=> .int p.2) (fun _=>true) (fun p y _=>y= .str p.1) (fun _ _ _ _ h _=>h) (by rw[sizeLine_eq];lia) (rest:=[]) (by rfl) hb' (kH hw sH) (fun x H1 hx s1 R hR=>hR _ (Same.refl _)) (fun x H1 hx _ s1 R hR=> ?_) ?_
   ·walk_at"go";exact hR _ _ rfl (Same.refl _)
   intro ys H2 s2 hys;rw[fO]at hys;obtain rfl:=mO hys;walk_at"go";rename_i q3 H3 n3 S3 e3 q4 H4 n4 S4 e4;refine k _ (ss++ps.map (·.1)) _ (by walk_at"sm") (by rw[e4,List.map_append,List.map_map];rfl) (fun z hz=> ?_) (by rw[List.length_append,List.length_map];lia);rcases List.mem_append.mp hz with hz|hz
   ·exact hin z hz
   ·obtain⟨p,hp,rfl⟩:=List.mem_map.mp hz;exact hwr p hp
theorem tJ (m:M K mg):Fc P w K mg base "rooms_spoken_of" 2 ["doors","people"] (p9 K (aQ P w K mg base (some 1))):=⟨_,_,m.vZ,m.fU.kp,m.vY,tX m⟩
inductive r6 (K:W.Frag)(vs:List V)(H:Hp)(Q:VK)(E:XK):Prop
 | mk (a b:Addr) (ss:List Str) (kvs:List (Key×V)) (_:vs=[.ref a,.ref b]) (_:SqL K H a (ss.map V.str)) (_:Rd H b (.dK kvs)) (_:(∀z∈ss,(bA kvs (.inr z)).isSome=true)) (_:∀H',Same H H'->Q .non H'):r6 K vs H Q E
theorem JH {H:Hp}{Q:VK}{E:XK}{a b:Addr}{ss:List Str}{kvs:List (Key×V)} (hS:SqL K H a (ss.map V.str)) (hb:Rd H b (.dK kvs)) (hk:∀z∈ss,(bA kvs (.inr z)).isSome=true) (h:∀H',Same H H'->Q .non H'):r6 K [.ref a,.ref b] H Q E:=⟨_,_,_,_,rfl,hS,hb,hk,h⟩
theorem V6 {H H':Hp}{a:Addr}{u:HO} (s:Same H H') (r:Rd H a u):Rd H' a u:=r.elim (fun e=> .inl (s _ _ e)) fun⟨o,e⟩=> .inr ⟨o,s _ _ e⟩
theorem CS (m:M K mg):bD P w K mg base CX0 1 m.pH m.pD ["names","sizes"] (r6 K):=by
 refine m.gH.ok sc_need_rooms (fun vs H Q E h=> ?_) (fun cdv A outer s H vs Q E hr h=> ?_)
 ·walk_at"g1";obtain⟨a,b,ss,kvs,rfl,hS,hb,hk,k⟩:=h;walk_at"g2";rfl
 ·walk_at"g1";obtain⟨a,b,ss,kvs,rfl,hS,hb,hk,k⟩:=h;walk_at"g2";have nd:=sc_need_rooms.nd;walk_at"hu";refine⟨_,(aE (cX PassesOwn.never rfl (bM (pv 0)) (aI (i:=2) nd rfl (by walk_at"oi")) (aE (dE (D8 (CA hu1 (pv 2) (pv 1)) (by with_unfolding_all rfl)) (aE gO) b5)))),?_⟩;refine aN (σ:=[some (.ref a),some (.ref b),none]) rfl ?_;walk_at"cx";walk_at"go";let Pv3:Nat->St->Hp->Prop:=fun i σ' H'=>Same H H'/\∃x,σ'=[some (.ref a),some (.ref b),x];refine dI (ss.map V.str) Pv3 ⟨Same.refl _,_,rfl⟩ (fun i σ' H' _ q=>q.1.seq hS) ?_ ?_
  ·rintro i x _ H' hx ⟨s1,y,rfl⟩;rw[List.getElem?_map]at hx;obtain⟨z,hz,rfl⟩:=Option.map_eq_some_iff.mp hx;have hz':=hk z (List.mem_of_getElem? hz);walk_at"go";refine yH (V6 s1 hb) ?_;rw[hz'];walk_at"go";exact⟨s1,_,rfl⟩
  ·rintro _ H' ⟨s1,y,rfl⟩;exact k _ s1
theorem tD (m:M K mg):Fc P w K mg base "need_rooms" 1 ["names","sizes"] (r6 K):=⟨_,_,m.GT,m.gH.kp,m.GL,CS m⟩
theorem SQ {H:Hp}{Q:VK}{i j:Int} (h:Q (.int (i+j)) H):Y4 (.int i) (.int j) H Q:=by
 first|exact h|exact⟨_,_,rfl,rfl,h⟩|exact .inl ⟨_,_,rfl,rfl,h⟩
theorem F1 {H H':Hp}{p c:Addr}{kvs:List (Key×V)}{xs:List V} (h:SqL K H c xs) (hp:H p=some (.dK kvs)) (sb:SameBut p H H'):SqL K H' c xs:=by
 rcases h with (h|⟨o,h⟩)|h
 ·exact .inl (.inl (sb _ _ h fun z=>by rw[z,hp]at h;cases h))
 ·exact .inl (.inr ⟨o,sb _ _ h fun z=>by rw[z,hp]at h;cases h⟩)
 ·exact .inr h
def szK (rz:List (Str×Int)):List (Key×V):=rz.map fun e=>((.inr e.1:Key),V.int e.2)
theorem IF (rz:List (Str×Int)):(szK rz).map (·.1)=(rz.map (·.1)).map (Sum.inr:Str->Key):=by unfold szK;rw[List.map_map,List.map_map];rfl
theorem tH {rs:List Str}(nd:rs.Nodup):(rs.map (Sum.inr:Str->Key)).Nodup:=by
 rw[List.Nodup,List.pairwise_map];exact List.Pairwise.imp (fun h z=>h (Sum.inr.inj z)) nd
theorem wY {rz:List (Str×Int)}(nd:(rz.map (·.1)).Nodup):((szK rz).map (·.1)).Nodup:=by rw[IF];exact tH nd
theorem zV {rz:List (Str×Int)}(nd:(rz.map (·.1)).Nodup){e:Str×Int}(h:e∈rz):bA (szK rz) (.inr e.1)=some (.int e.2) :=
 iF (e:=((.inr e.1:Key),V.int e.2)) (wY nd) (List.mem_map.mpr ⟨e,h,rfl⟩)
theorem FF {rz:List (Str×Int)}(nd:(rz.map (·.1)).Nodup){z:Str}(h:z∈rz.map (·.1)):∃i,(z,i)∈rz/\bA (szK rz) (.inr z)=some (.int i):=by
 obtain⟨e,he,rfl⟩:=List.mem_map.mp h;exact⟨e.2,he,zV nd he⟩
theorem tO {kvs:List (Key×V)}{k:Key} (h:∀e∈kvs,e.1≠k):bA kvs k=none:=by
 induction kvs with
 | nil=>rfl
 | cons a l ih =>
  rw[cV (h a (.head _))];exact ih fun e he=>h e (List.mem_cons_of_mem _ he)
theorem B0:∀(ps kvs:List (Key×V)),(ps.map (·.1)).Nodup->(∀e∈kvs,∀q∈ps,e.1≠q.1)->j6 kvs ps=kvs++ps
 | [],kvs,_,_=>(List.append_nil _).symm
 | (k,v)::ps,kvs,nd,h=>by
  have nd':=List.pairwise_cons.mp nd;show j6 (bW kvs k v) ps=_;rw[oP v (tO fun e he=>h e he _ (.head _)),B0 ps _ nd'.2,List.append_assoc]
  ·rfl
  ·intro e he q hq;rcases List.mem_append.mp he with he|he
   ·exact h e he q (List.mem_cons_of_mem _ hq)
   ·cases List.mem_singleton.mp he;exact nd'.1 q.1 (List.mem_map.mpr ⟨q,hq,rfl⟩)
theorem P8 {rz:List (Str×Int)}(nd:(rz.map (·.1)).Nodup):j6 [] (szK rz)=szK rz:=by
 rw[B0 _ _ (wY nd) (fun e he=>absurd he (List.not_mem_nil))];rfl
theorem DT {kvs:List (Key×V)}:∀(o:Obj) (x:HO),HO.dK kvs≠ .frz o x:=fun _ _ z=>by cases z
def yF (rz:List (Str×Int))(ps:List (Str×Int))(kvs:List (Key×V)):Prop:=∀z∈rz.map (·.1),bA kvs (.inr z)=some (.int (cA ps z))
inductive rV (K:W.Frag)(vs:List V)(H:Hp)(Q:VK)(E:XK):Prop
 | mk (a b:Addr) (rz:List (Str×Int)) (ws:List V) (ps:List (Str×Int)) (_:vs=[.ref a,.ref b]) (_:H a=some (.dK (szK rz))) (_:SqL K H b ws) (_:Paired (bZ H) ws ps) (_:(∀p∈ps,p.1∈rz.map (·.1))) (_:(rz.map (·.1)).Nodup) (_:rz.length<=100) (_:∀p H' kvs,H p=none->Same H H'->H' p=some (.dK kvs)->kvs.map (·.1)=(szK rz).map (·.1)->yF rz ps kvs->Q (.ref p) H'):rV K vs H Q E
theorem IU {H:Hp}{Q:VK}{E:XK}{a b:Addr}{rz:List (Str×Int)}{ws:List V}{ps:List (Str×Int)} (ha:H a=some (.dK (szK rz))) (hb:SqL K H b ws) (hw:Paired (bZ H) ws ps) (hwr:∀p∈ps,p.1∈rz.map (·.1)) (nd:(rz.map (·.1)).Nodup) (hl:rz.length<=100) (h:∀p H' kvs,H p=none->Same H H'->H' p=some (.dK kvs)->kvs.map (·.1)=(szK rz).map (·.1)->yF rz ps kvs->Q (.ref p) H'):rV K [.ref a,.ref b] H Q E:=⟨_,_,_,_,_,rfl,ha,hb,hw,hwr,nd,hl,h⟩
theorem SA {kvs:List (Key×V)}{k:Key}{v:V} (h:(bA kvs k).isSome=true):(bW kvs k v).map (·.1)=kvs.map (·.1):=by
 unfold bW;rw[lK,if_pos h,List.map_map]
 apply List.map_congr_left
 intro x _;show (if x.1=k then (x.1,v) else x).1=x.1
 split<;>rfl
theorem y0 (m:M K mg):bD P w K mg base CX0 1 m.l0 m.lY ["sizes","people"] (rV K):=by
 refine m.eT.ok sc_added_people (fun vs H Q E h=> ?_) (fun cdv A outer s H vs Q E hr h=> ?_)
 ·walk_at"g1";obtain⟨a,b,rz,ws,ps,rfl,ha,hb,hw,hwr,ndz,hlen,k⟩:=h;walk_at"g2";rfl
 ·walk_at"g1";obtain⟨a,b,rz,ws,ps,rfl,ha,hb,hw,hwr,ndz,hlen,k⟩:=h;walk_at"g2";have nd:=sc_added_people.nd;walk_at"hu";refine⟨_,(aD (aX (i:=2) nd rfl (by walk_at"oi") wP)
   (aD (IJ (cX PassesOwn.never rfl (w5 (pv 0)) (aI (i:=3) nd rfl (by walk_at"oi")) (aE (jV hu1 (pv 2) (pv 3) aG rfl))))
   (aD (cX PassesOwn.never rfl (bM (pv 1)) (mK (n:=2) rfl (aW (aI (i:=3) nd rfl (by walk_at"oi")) (aW (aI (i:=4) nd rfl (by walk_at"oi")) cY))) (aE (VO hu1 (pv 2) (pv 3) (pv 4) aAy (fun _ _ _=>rfl))))
   (aE (aZ (pv 2)))))),?_⟩
  refine aN (σ:=[some (.ref a),some (.ref b),none,none,none]) rfl ?_;walk_at"cx";walk_at"go";rename_i p H1 n1 S1 e1;have hap:a≠p:=fun z=>by rw[z,n1]at ha;cases ha
  have ha1:=S1 _ _ ha;have hl2:(szK rz).length=rz.length:=by unfold szK;rw[List.length_map]
  refine D1 ha1 DT ?_;walk_at"go";refine wG ha1 fun o H2 B2 e2=> ?_;have ep2:H2 p=some (.dK []):=B2 _ _ e1 (Ne.symm hap);have hwl:ws.length=ps.length:=Paired.length hw;let Pv1:Nat->St->Hp->Prop:=fun i σ' H'=>SameBut p H2 H'/\H' p=some (.dK ((rz.take i).map fun e=>((.inr e.1:Key),V.int 0)))/\∃x,σ'=[some (.ref a),some (.ref b),some (.ref p),x,none];refine R4 (szK rz) Pv1 ⟨SameBut.refl,ep2,_,rfl⟩ (fun i σ' H' q=>q.1 _ _ e2 hap) ?_ ?_
  ·rintro i kk v _ H' hx hq_;walk_at"g1";obtain⟨sb,ek,y,rfl⟩:=hq_;walk_at"g2";unfold szK at hx;rw[List.getElem?_map]at hx;walk_at"g1";obtain⟨⟨z,sz⟩,hz,ez⟩:=Option.map_eq_some_iff.mp hx;walk_at"g2";cases ez;have hi:i<rz.length:=(List.getElem?_eq_some_iff.mp hz).1;have hnone:bA ((rz.take i).map fun e=>((.inr e.1:Key),V.int 0)) (.inr z)=none:=tO fun e he=>by
    obtain⟨d,hd,rfl⟩:=List.mem_map.mp he;intro zz;have hn:z∉(rz.map (·.1)).take i:=lF ndz (by rw[List.getElem?_map,hz];rfl)
    apply hn
    rw[←List.map_take];exact List.mem_map.mpr ⟨d,hd,Sum.inr.inj zz⟩
   show (_:TG) (.str z) _ _ _;walk_at"go";refine wL ek (by rw[sizeLine_eq,List.length_map,List.length_take];lia) fun H9 B9 e9=> ?_;refine⟨by walk_at"sb",?_,_,rfl⟩;rw[e9,oP _ hnone,bT hz,List.map_append];rfl
  ·rintro _ H' hq_;walk_at"g1";obtain⟨sb,ek,y,rfl⟩:=hq_;walk_at"g2";rw[hl2,List.take_length]at ek;refine jY (sb _ _ e2 hap) fun H3 B3 e3=> ?_;have ep3:=B3 _ _ ek (Ne.symm hap);have sH:Same H H3:=fun x u hx=>by
    by_cases ex:x=a
    ·subst ex;rw[ha]at hx;cases hx;exact e3
    ·have hxp:x≠p:=fun z=>by rw[z,n1]at hx;cases hx
     exact B3 _ _ (sb _ _ (B2 _ _ (S1 _ _ hx) ex) hxp) ex
   have hb3:=sH.seq hb;have hw3:=kH hw sH;have hnb:∀{H':Hp}{v:V}{r:Str×Int},SameBut p H3 H'->bZ H3 v r->bZ H' v r:=fun sb ⟨q,e,hq⟩=>⟨q,e,sb _ _ hq fun z=>by rw[z,ep3]at hq;cases hq⟩
   walk_at"go";let Pv2:Nat->St->Hp->Prop:=fun i σ' H'=>SameBut p H3 H'/\(∃kvs,H' p=some (.dK kvs)/\kvs.map (·.1)=(szK rz).map (·.1)/\yF rz (ps.take i) kvs)/\∃x y,σ'=[some (.ref a),some (.ref b),some (.ref p),x,y];refine dI ws Pv2 ⟨SameBut.refl,⟨_,ep3,?_,?_⟩,_,_,rfl⟩ (fun i σ' H' _ q=>F1 hb3 ep3 q.1) ?_ ?_
   ·unfold szK;rw[List.map_map,List.map_map];rfl
   ·intro z hz;obtain⟨e,he,rfl⟩:=List.mem_map.mp hz;exact iF (e:=((.inr e.1:Key),V.int 0)) (by rw[show (rz.map fun e=>((.inr e.1:Key),V.int 0)).map (·.1)=(szK rz).map (·.1) from by unfold szK;rw[List.map_map,List.map_map];rfl];exact wY ndz) (List.mem_map.mpr ⟨e,he,rfl⟩)
   ·rintro i x _ H' hx hq_;walk_at"g1";obtain⟨sb',⟨kvs,ek',hkk,hin⟩,x1,x2,rfl⟩:=hq_;walk_at"g2";have hi:i<ws.length:=(List.getElem?_eq_some_iff.mp hx).1;obtain⟨⟨z,nn⟩,hpx⟩:∃d,ps[i]? =some d:=⟨_,List.getElem?_eq_getElem (by lia)⟩
    obtain⟨q,rfl,hq⟩:=Paired.at2 hw3 hx hpx;have hq':H' q=some (.tup [.str z,.int nn]):=sb' _ _ hq fun zz=>by rw[zz,ep3]at hq;cases hq
    have hzr:z∈rz.map (·.1):=hwr _ (List.mem_of_getElem? hpx);have hkl:kvs.length=rz.length:=by rw[←List.length_map (f:=fun e:Key×V=>e.1),hkk,List.length_map,hl2]
    walk_at"go";refine VZ ?_;walk_at"go";refine R9 (.inl ek') (hin z hzr) ?_;walk_at"go";refine SQ ?_;refine W1 ek' (by rw[sizeLine_eq];lia) fun H9 B9 e9=> ?_;refine⟨by walk_at"sb",⟨_,e9,?_,fun y hy=> ?_⟩,_,_,rfl⟩
    ·rw[SA (by rw[hin z hzr];rfl)];exact hkk
    ·rw[kW,bT hpx,MP]
     by_cases e:(Sum.inr y:Key)= .inr z
     ·cases e;rw[if_pos rfl,if_pos rfl]
     ·rw[if_neg e,if_neg (fun zz=>e (by rw[show z=y from zz])),Int.add_zero];exact hin y hy
   ·rintro _ H' hq_;walk_at"g1";obtain⟨sb',⟨kvs,ek',hkk,hin⟩,x1,x2,rfl⟩:=hq_;walk_at"g2";rw[hwl,List.take_length]at hin;walk_at"go";exact k _ _ _ n1 (SameBut.same n1 (fun x u hx=>sH x u hx) sb') ek' hkk hin
theorem pU (m:M K mg):Fc P w K mg base "added_people" 1 ["sizes","people"] (rV K):=⟨_,_,m.AV,m.eT.kp,m.AO,y0 m⟩
def wK (rz ps:List (Str×Int)):Prop:=(∀p∈ps,0<=p.2)/\∀e∈rz,cA ps e.1<=e.2
inductive sJ (K:W.Frag)(vs:List V)(H:Hp)(Q:VK)(E:XK):Prop
 | mk (a b:Addr) (rz:List (Str×Int)) (ws:List V) (ps:List (Str×Int)) (_:vs=[.ref a,.ref b]) (_:H a=some (.dK (szK rz))) (_:SqL K H b ws) (_:Paired (bZ H) ws ps) (_:(∀p∈ps,p.1∈rz.map (·.1))) (_:(rz.map (·.1)).Nodup) (_:rz.length<=100) (_:ps.length<=100) (_:wK rz ps) (_:∀H',Same H H'->Q .non H'):sJ K vs H Q E
theorem V0 {H:Hp}{Q:VK}{E:XK}{a b:Addr}{rz:List (Str×Int)}{ws:List V}{ps:List (Str×Int)} (ha:H a=some (.dK (szK rz))) (hb:SqL K H b ws) (hw:Paired (bZ H) ws ps) (hwr:∀p∈ps,p.1∈rz.map (·.1)) (nd:(rz.map (·.1)).Nodup) (hl:rz.length<=100) (hpl:ps.length<=100) (hf:wK rz ps) (h:∀H',Same H H'->Q .non H'):sJ K [.ref a,.ref b] H Q E:=⟨_,_,_,_,_,rfl,ha,hb,hw,hwr,nd,hl,hpl,hf,h⟩
theorem tR {α:Type}:∀{l:List α}{ys:List V},Paired (fun _ y=>y=V.bl false) l ys->ys=(l.map fun _=>false).map V.bl
 | _,_,.nil=>rfl
 | _,_,.cons h t=>by rw[h,tR t];rfl
theorem BL {α:Type}(l:List α):(l.map fun _=>false).any id=false:=by simp
theorem CP (m:M K mg):bD P w K mg base CX0 2 m.o8 m.o9 ["sizes","people"] (sJ K):=by
 refine m.kP.ok sc_need_space (fun vs H Q E h=> ?_) (fun cdv A outer s H vs Q E hr h=> ?_)
 ·walk_at"g1";obtain⟨a,b,rz,ws,ps,rfl,ha,hb,hw,hwr,ndz,hlen,hpl,hf,k⟩:=h;walk_at"g2";rfl
 ·walk_at"g1";obtain⟨a,b,rz,ws,ps,rfl,ha,hb,hw,hwr,ndz,hlen,hpl,hf,k⟩:=h;walk_at"g2";have nd:=sc_need_space.nd;walk_at"hu";have eT:= @pU P w K mg base m;refine⟨_,(aD (dE (i6 (bK (BW rfl) rfl m.U0 ML (aA (cD (N:=["room","number"]) (nl:=2) (ci:=[]) rfl (blk (s.heap.objs.size+1) rfl rfl rfl (by kernel_rfl)) (bM (pv 1)) (fun _ _ _ _=>(gS (K:=K) (n:=2) rfl (aW (aI (i:=0) (show (["room","number"]:List Str).Nodup by decide +kernel) rfl (by walk_at"oi")) (aW (aI (i:=1) (show (["room","number"]:List Str).Nodup by decide +kernel) rfl (by walk_at"oi")) cY)))) (fun _ _ _ _=>f9) (fun _ _ _ _=>(uW pM (pv 1) aG (cB _)))) aB))) (aE gO) b5)
   (aD (aX (i:=2) nd rfl (by walk_at"oi") (bG eT hr (aA (pv 0) (aA (pv 1) aB))))
   (aE (dE (i6 (bK (BW rfl) rfl m.U0 ML (aA (vB (cD (N:=["room","inside","sizes"]) (nl:=1) (ci:=[2,0]) rfl (blk (s.heap.objs.size+1) rfl rfl rfl (by kernel_rfl)) (w5 (pv 0)) (fun _ _ _ _=>(aI (i:=0) (show (["room","inside","sizes"]:List Str).Nodup by decide +kernel) rfl (by walk_at"oi"))) (fun _ _ _ _=>f9) (fun _ _ _ _=>(uW pK (iE hu1 (pv 1) (pv 0) (fun _ _=>rfl)) (iE hu1 (pv 2) (pv 0) (fun _ _=>rfl)) (cB _))))) aB))) (aE gO) b5)))),?_⟩
  refine aN (σ:=[some (.ref a),some (.ref b),none]) rfl ?_;walk_at"cx";walk_at"go";refine qS (α:=Str×Int) (xs:=ps) (vs:=ws) (fun p=> .str p.1) (fun p=> .int p.2) (fun _=>true) (fun p y _=>y= .bl false) (fun _ _ _ _ h _=>h) (by rw[sizeLine_eq];lia) (rest:=[]) (by rfl) hb hw (fun x H1 hx s1 R hR=>hR _ (Same.refl _)) (fun x H1 hx _ s1 R hR=> ?_) ?_
  ·have h0:=hf.1 x hx;walk_at"go";exact hR _ _ (by rw[decide_eq_false (by lia)]) (Same.refl _)
  intro ys H2 s2 hys;rw[fO]at hys;obtain rfl:=tR hys;walk_at"go";rename_i q H3 n3 S3 e3;refine PD (SqL.of e3) ?_;rw[BL];walk_at"go";have sA:Same H H3:=s2.trans S3;refine IU (sA _ _ ha) (sA.seq hb) (kH hw sA) hwr ndz hlen fun p H4 kvs n4 S4 e4 hkk hv=> ?_;have ha4:=S4 _ _ (sA _ _ ha);walk_at"go";refine sP ha4 DT ?_;walk_at"go";refine wG ha4 fun o H5 B5 e5=> ?_;have hpa:p≠a:=fun z=>by rw[z,sA _ _ ha]at n4;cases n4
  have ep5:=B5 _ _ e4 hpa;refine MA (fun _=>true) (fun _ y _=>y= .bl false) (fun _ _ _ _ h _=>h) (by rw[sizeLine_eq];unfold szK;rw[List.length_map];lia) (rest:=[some (.ref p),some (.ref a)]) (by rfl) e5 (fun x H6 hx s6 R hR=>hR _ (Same.refl _)) ?_ ?_
  ·rintro x H6 hx - s6 R hR;obtain⟨e,he,rfl⟩:=List.mem_map.mp hx;have hfe:=hf.2 e he;show (_:TE) (some (V.str e.1)::[some (.ref p),some (.ref a)]) H6 R;walk_at"go";refine oK (.inl (s6 _ _ ep5)) (hv e.1 (List.mem_map.mpr ⟨e,he,rfl⟩)) ?_;walk_at"go";refine oK (.inr ⟨o,s6 _ _ e5⟩) (zV ndz he) ?_;walk_at"go";exact hR _ _ (by rw[decide_eq_false (by lia)]) (Same.refl _)
  intro ys H6 s6 hys;rw[fO]at hys;obtain rfl:=tR hys;walk_at"go";rename_i q7 H7 n7 S7 e7;refine jY (S7 _ _ (s6 _ _ e5)) fun H8 B8 e8=> ?_;have hq7:q7≠a:=fun z=>by rw[z,s6 _ _ e5]at n7;cases n7
  have e78:=B8 _ _ e7 hq7;walk_at"go";refine PD (SqL.of e78) ?_;rw[BL];walk_at"go";exact k _ (tU (ha) (fun x u hx hxa=>B5 _ _ (S4 _ _ (sA _ _ hx)) hxa) (Same.but (s6.trans S7)) B8 e8)
theorem CU (m:M K mg):Fc P w K mg base "need_space" 2 ["sizes","people"] (sJ K):=⟨_,_,m.GX,m.kP.kp,m.GK,CP m⟩
def RoomsAt (H:Hp)(vs:List V)(rz:List (Str×Int)):Prop:=Paired (bZ H) vs rz
theorem RoomsAt.sm {H H':Hp}{vs:List V}{rs:List (Str×Int)} (h:RoomsAt H vs rs) (s:Same H H'):RoomsAt H' vs rs:=Paired.imp' (fun v z ⟨q,e,h⟩=>⟨q,e,s _ _ h⟩) h
theorem v4 {H:Hp}:∀{vs:List V}{rs:List (Str×Int)},RoomsAt H vs rs->DQ H vs (szK rs)
 | _,_,.nil=> .nil
 | _,_,.cons h t=> .cons h (v4 t)
theorem rZ {D:aV}{H H':Hp}{us:List V}{ds:List aH} (h:Paired (D.at' H) us ds) (s:Same H H'):Paired (D.at' H') us ds:=Paired.imp' (fun v d h=>D.same h s) h
abbrev IR (f l:Int)(qs qp qd:Addr):List (Str×V):=c8 "named_doors" (.ref qd) (c8 "people" (.ref qp) (c8 "sizes" (.ref qs) (c8 "last" (.int l) (c8 "first" (.int f) []))))
def pT (D:aV)(H:Hp)(nk:List (Key×V))(ds:List aH):Prop:=Paired (fun e d=>e.1= .inr d.1/\D.at' H e.2 d) nk ds
theorem R6 {D:aV}{H H':Hp}{nk:List (Key×V)}{ds:List aH} (h:pT D H nk ds) (s:Same H H'):pT D H' nk ds:=Paired.imp' (fun e d h=>⟨h.1,D.same h.2 s⟩) h
structure aL (C:Addr)(D:aV)(H:Hp)(h:Addr)(f l:Int)(rz ps:List (Str×Int))(ds:List aH):Prop where
 ex:∃dx qs qp qd nk kvs,H h=some (.ins C dx (IR f l qs qp qd))/\H qs=some (.dK (szK rz))/\H qp=some (.dK kvs)/\kvs.map (·.1)=(szK rz).map (·.1)/\yF rz ps kvs/\H qd=some (.dK nk)/\pT D H nk ds
theorem bB {C:Addr}{D:aV}{H H':Hp}{h:Addr}{f l:Int}{rz ps:List (Str×Int)}{ds:List aH} (x:aL C D H h f l rz ps ds) (s:Same H H'):aL C D H' h f l rz ps ds:=by
 walk_at"g1";obtain⟨dx,qs,qp,qd,nk,kvs,e1,e2,e3,e4,e5,e6,e7⟩:=x.ex;walk_at"g2";exact⟨dx,qs,qp,qd,nk,kvs,s _ _ e1,s _ _ e2,s _ _ e3,e4,e5,s _ _ e6,R6 e7 s⟩
theorem JG {H H':Hp}{p c C dx:Addr}{fs:List (Str×V)}{xs:List V} (h:SqL K H c xs) (hp:H p=some (.ins C dx fs)) (sb:SameBut p H H'):SqL K H' c xs:=by
 rcases h with (h|⟨o,h⟩)|h
 ·exact .inl (.inl (sb _ _ h fun z=>by rw[z,hp]at h;cases h))
 ·exact .inl (.inr ⟨o,sb _ _ h fun z=>by rw[z,hp]at h;cases h⟩)
 ·exact .inr h
theorem yD {α β:Type}{F:α->β->Prop}:∀{l:List α}{m:List β}{x:α},Paired F l m->x∈l->∃y∈m,F x y
 | _,_,_,.cons r t,h=>by
  rcases List.mem_cons.mp h with rfl|h
  ·exact⟨_,.head _,r⟩
  ·obtain⟨y,hy,f⟩:=yD t h;exact⟨y,List.mem_cons_of_mem _ hy,f⟩
 | _,_,_,.nil,h=>nomatch h
inductive gQ (K:W.Frag)(D:aV)(vs:List V)(H:Hp)(Q:VK)(E:XK):Prop
 | mk (p C dx a b c:Addr) (ws us cs:List V) (rz ps:List (Str×Int)) (ds:List aH) (f l:Int) (_:vs=[.ref p,.ref a,.ref b,.ref c,.int l,.int f]) (_:DCls K C) (_:H p=some (.ins C dx [])) (_:H a=some (.lst ws)) (_:RoomsAt H ws rz) (_:SqL K H b us) (_:Paired (D.at' H) us ds) (_:SqL K H c cs) (_:Paired (bZ H) cs ps) (_:(rz.map (·.1)).Nodup) (_:(ds.map (·.1)).Nodup) (_:(∀d∈ds,cZ (rz.map (·.1)) d)) (_:(∀p∈ps,p.1∈rz.map (·.1))) (_:wK rz ps) (_:rz.length<=20) (_:ds.length<=20) (_:ps.length<=40) (_:0<=f) (_:f<=l) (_:∀H',SameBut p H H'->aL C D H' p f l rz ps ds->Q .non H'):gQ K D vs H Q E
theorem FE {D:aV}{H:Hp}{Q:VK}{E:XK}{p C dx a b c:Addr}{ws us cs:List V}{rz ps:List (Str×Int)}{ds:List aH}{f l:Int} (dc:DCls K C) (hp:H p=some (.ins C dx [])) (ha:H a=some (.lst ws)) (hr:RoomsAt H ws rz) (hb:SqL K H b us) (hd:Paired (D.at' H) us ds) (hc:SqL K H c cs) (hcp:Paired (bZ H) cs ps) (nr:(rz.map (·.1)).Nodup) (nd:(ds.map (·.1)).Nodup) (hin:∀d∈ds,cZ (rz.map (·.1)) d) (hpr:∀p∈ps,p.1∈rz.map (·.1)) (hf:wK rz ps) (lr:rz.length<=20) (ld:ds.length<=20) (lp:ps.length<=40) (h0:0<=f) (h1:f<=l)
  (k:∀H',SameBut p H H'->aL C D H' p f l rz ps ds->Q .non H'):gQ K D [.ref p,.ref a,.ref b,.ref c,.int l,.int f] H Q E:=⟨_,_,_,_,_,_,_,_,_,_,_,_,_,_,rfl,dc,hp,ha,hr,hb,hd,hc,hcp,nr,nd,hin,hpr,hf,lr,ld,lp,h0,h1,k⟩
theorem vO (m:M K mg):bD P w K mg base CX0 4 m.jQ m.gP ["self","rooms","doors","people","last","first"] (gQ K (aQ P w K mg base (some 1))):=by
 refine m.xM.ok sc_House___init__ (fun vs H Q E h=> ?_) (fun cdv A outer s H vs Q E hr h=> ?_)
 ·walk_at"g1";obtain⟨p,C,dx,a,b,c,ws,us,cs,rz,ps,ds,f,l,rfl,dc,hp,ha,hra,hb,hd,hc,hcp,nr,nd',hin,hpr,hf,lr,ld,lp,h0,h1,k⟩:=h;walk_at"g2";rfl
 ·walk_at"g1";obtain⟨p,C,dx,a,b,c,ws,us,cs,rz,ps,ds,f,l,rfl,dc,hp,ha,hra,hb,hd,hc,hcp,nr,nd',hin,hpr,hf,lr,ld,lp,h0,h1,k⟩:=h;walk_at"g2";have nd:=sc_House___init__.nd;walk_at"hu";have eT:= @pU P w K mg base m;have fF:= @vN P w K mg base m;have gH:= @tD P w K mg base m;have kP:= @CU P w K mg base m;have kO:= @C4 P w K mg base m;have fU:= @tJ P w K mg base m;refine⟨_,(aD (bR (bG kO hr (aA (pv 5) (aA (pv 4) aB))))
   (aD (bR (bG fF hr (aA (cD (N:=["name","size"]) (nl:=2) (ci:=[]) rfl (blk (s.heap.objs.size+1) rfl rfl rfl (by kernel_rfl)) (bM (pv 1)) (fun _ _ _ _=>(gS (K:=K) (n:=2) rfl (aW (aI (i:=0) (show (["name","size"]:List Str).Nodup by decide +kernel) rfl (by walk_at"oi")) (aW (aI (i:=1) (show (["name","size"]:List Str).Nodup by decide +kernel) rfl (by walk_at"oi")) cY)))) (fun _ _ _ _=>f9) (fun _ _ _ _=>(pv 0))) aB)))
   (aD (bR (bG fF hr (aA (cD (N:=["door"]) (nl:=1) (ci:=[]) rfl (blk (s.heap.objs.size+1) rfl rfl rfl (by kernel_rfl)) (bM (pv 2)) (fun _ _ _ _=>(aI (i:=0) (show (["door"]:List Str).Nodup by decide +kernel) rfl (by walk_at"oi"))) (fun _ _ _ _=>f9) (fun _ _ _ _=>(qT (K:=K) (pv 0) rfl))) aB)))
   (aD (aX (i:=6) nd rfl (by walk_at"oi") (tI (JR rfl) rfl m.aAW WN (aA (pv 1) aB)))
   (aD (bR (bG gH hr (aA (bG fU hr (aA (pv 2) (aA (pv 3) aB))) (aA (pv 6) aB))))
   (aD (bR (bG kP hr (aA (pv 6) (aA (pv 3) aB))))
   (aD (j4 (pv 0) (pv 5) rfl)
   (aD (j4 (pv 0) (pv 4) rfl)
   (aD (j4 (pv 0) (pv 6) rfl)
   (aD (j4 (pv 0) (bG eT hr (aA (pv 6) (aA (pv 3) aB))) rfl)
   (aD (j4 (pv 0) wP rfl)
   (aE (cX PassesOwn.never rfl (bM (pv 2)) (aI (i:=7) nd rfl (by walk_at"oi")) (aE (jV hu1 (bP (pv 0) rfl) (bP (pv 7) rfl) (pv 7) rfl))))))))))))))),?_⟩
  refine aN (σ:=[some (.ref p),some (.ref a),some (.ref b),some (.ref c),some (.int l),some (.int f),none,none]) rfl ?_;walk_at"cx";have hul:us.length=ds.length:=Paired.length hd;have hwl:ws.length=rz.length:=Paired.length hra;walk_at"go";refine VW h0 h1 ?_;walk_at"go";refine qS (α:=Str×Int) (xs:=rz) (vs:=ws) (fun e=> .str e.1) (fun e=> .int e.2) (fun _=>true) (fun z y _=>y= .str z.1) (fun _ _ _ _ h _=>h) (by rw[sizeLine_eq];lia) (rest:=[]) (by rfl) (SqL.of ha) hra (fun x H1 hx s1 R hR=>hR _ (Same.refl _)) (fun x H1 hx _ s1 R hR=> ?_) ?_
  ·walk_at"go";exact hR _ _ rfl (Same.refl _)
  intro ys H1 s1 hys;rw[fO]at hys;obtain rfl:=mO hys;walk_at"go";rename_i q1 H2 n2 S2 e2;refine NS (ss:=rz.map (·.1)) (SqL.of (by rw[e2,List.map_map];rfl)) nr (by rw[List.length_map];lia) fun H3 S3=> ?_;have sA:Same H H3:=(s1.trans S2).trans S3;walk_at"go";refine oA (α:=aH) (xs:=ds) (vs:=us) ((aQ P w K mg base (some 1)).at' H3) (fun _=>true) (fun d y _=>y= .str d.1) (fun _ _ _ _ h _=>h) (by rw[sizeLine_eq];lia) (rest:=[]) (by rfl) (sA.seq hb) (rZ hd sA) (fun v x H1 _ hx s1 R hR=>hR _ (Same.refl _)) ?_ ?_
  ·rintro v ⟨n,st,e,lt⟩ H4 hv hm - s4 R hR;walk_at"g1";obtain⟨q,C9,dx',fs,fp,rfl,hq,dcC,l1,l2,l3,l4,l5,mcE,hfp,hlt⟩:=DoorAt.ex hv;walk_at"g2";have hq':=s4 _ _ hq;walk_at"go";exact hR _ _ rfl (Same.refl _)
  intro ys H4 s4 hys;rw[fO]at hys;obtain rfl:=mO hys;walk_at"go";rename_i q5 H5 n5 S5 e5;refine NS (ss:=ds.map (·.1)) (SqL.of (by rw[e5,List.map_map];rfl)) nd' (by rw[List.length_map];lia) fun H6 S6=> ?_;have sB:Same H H6:=((sA.trans s4).trans S5).trans S6;walk_at"go";refine Q4 (sB _ _ ha) (v4 (hra.sm sB)) fun qs H7 n7 S7 e7=> ?_;rw[P8 nr]at e7;have sC:Same H H7:=sB.trans S7;walk_at"go";refine ST (sC.seq hb) (rZ hd sC) hin ld (sC.seq hc) (kH hcp sC) hpr lp fun q8 ss H8 S8 e8 hss lss=> ?_;walk_at"go";refine JH (SqL.of e8) (.inl (S8 _ _ e7)) (fun z hz=>by obtain⟨i,_,e⟩:=FF nr (hss z hz);rw[e];rfl) fun H9 S9=> ?_;have sD:Same H7 H9:=S8.trans S9;walk_at"go";refine V0 (sD _ _ e7) ((sC.trans sD).seq hc) (kH hcp (sC.trans sD)) hpr nr (by lia) (by lia) hf fun H10 S10=> ?_;have sE:Same H H10:=(sC.trans sD).trans S10;have es:H10 qs=some (.dK (szK rz)):=S10 _ _ (sD _ _ e7);have hp10:=sE _ _ hp;have hqp:qs≠p:=fun z=>by rw[z,hp10]at es;cases es
  walk_at"go";rename_i H11 B11 e11 H12 B12 e12 H13 B13 e13;have sb13:SameBut p H10 H13:=by walk_at"sb"
  have es13:=sb13 _ _ es hqp;have hc13:SqL K H13 c cs:=JG (sE.seq hc) hp10 sb13;have hcp13:Paired (bZ H13) cs ps:=Paired.imp' (fun v r ⟨q,e,hq⟩=>⟨q,e,sb13 _ _ (sE _ _ hq) fun z=>by rw[z,hp]at hq;cases hq⟩) hcp;refine IU es13 hc13 hcp13 hpr nr (by lia) fun qp H14 kvs n14 S14 e14 hkk hv14=> ?_;have hp14:=S14 _ _ e13;walk_at"go";rename_i H15 B15 e15 qd H16 n16 S16 e16 H17 B17 e17;have hqd:qd≠p:=fun z=>by rw[z,e15]at n16;cases n16
  have sb17:SameBut p H10 H17:=((((sb13.trans S14.but).trans B15).trans S16.but).trans B17)
  have es17:=sb17 _ _ es hqp;have ed17:=B17 _ _ e16 hqd;have hqpp:qp≠p:=fun z=>by rw[z,e13]at n14;cases n14
  have eq17:H17 qp=some (.dK kvs):=B17 _ _ (S16 _ _ (B15 _ _ e14 hqpp)) hqpp;have hqpd:qp≠qd:=fun z=>by rw[←z,B15 _ _ e14 hqpp]at n16;cases n16
  have fresh:∀x u,H10 x=some u->x≠p->x≠qd:=fun x u hx hxp z=>by
   have h15:H15 x=some u:=B15 _ _ (S14 _ _ (sb13 _ _ hx hxp)) hxp;rw[z,n16]at h15;cases h15
  have hb17:SqL K H17 b us:=JG (sE.seq hb) hp10 sb17;have hd17:Paired ((aQ P w K mg base (some 1)).at' H17) us ds:=Paired.imp' (fun v d h=>(aQ P w K mg base (some 1)).but ((aQ P w K mg base (some 1)).same h sE) hp10 rfl sb17) hd;have ddq:∀{H':Hp}{v:V}{d:aH},SameBut qd H17 H'->(aQ P w K mg base (some 1)).at' H17 v d->(aQ P w K mg base (some 1)).at' H' v d:=fun sb h=>(aQ P w K mg base (some 1)).but h ed17 trivial sb;refine BT hb17 ?_;let Pv1:Nat->St->Hp->Prop:=fun i σ' H'=>SameBut qd H17 H'/\(∃nk,H' qd=some (.dK nk)/\nk.length<=i/\Paired (fun e d=>e.1= .inr d.1/\(aQ P w K mg base (some 1)).at' H17 e.2 d) nk (ds.take i))/\∃x,σ'=[some (.ref p),some (.ref a),some (.ref b),some (.ref c),some (.int l),some (.int f),some (.ref qs),x];refine dI us Pv1 ⟨SameBut.refl,⟨[],ed17,Nat.le_refl _,.nil⟩,_,rfl⟩ (fun i σ' H' _ q=>F1 hb17 ed17 q.1) ?_ ?_
  ·rintro i x _ H' hx hq_;walk_at"g1";obtain⟨sb,⟨nk,ek,hk,pr⟩,y,rfl⟩:=hq_;walk_at"g2";have hi:i<us.length:=(List.getElem?_eq_some_iff.mp hx).1;obtain⟨d,hdx⟩:∃d,ds[i]? =some d:=⟨_,List.getElem?_eq_getElem (by lia)⟩
   have hD:=Paired.at2 hd17 hx hdx;walk_at"g1";obtain⟨n,st,e,lt⟩:=d;walk_at"g2";have hD':=ddq sb hD;walk_at"g1";obtain⟨q,C9,dx',fs,fp,rfl,hq',dcC,l1,l2,l3,l4,l5,mcE,hfp,hlt⟩:=DoorAt.ex hD';walk_at"g2";have hpp:H' p=some (.ins C dx (IR f l qs qp qd)):=sb _ _ e17 (Ne.symm hqd);have hnone:bA nk (.inr n)=none:=tO fun e he=>by
    walk_at"g1";obtain⟨d',hd',h1,_⟩:=yD pr he;walk_at"g2";rw[h1];intro z;have hn:n∉(ds.map (·.1)).take i:=lF nd' (by rw[List.getElem?_map,hdx];rfl)
    apply hn
    rw[←List.map_take];exact List.mem_map.mpr ⟨d',hd',Sum.inr.inj z⟩
   walk_at"go";refine wL ek (by rw[sizeLine_eq];lia) fun H9' B9' e9'=> ?_;rw[oP _ hnone]at e9';refine⟨by walk_at"sb",⟨_,e9',by rw[List.length_append];show nk.length+1<=_;lia,?_⟩,_,rfl⟩;rw[bT hdx];exact L2.Paired.snoc pr ⟨rfl,hD⟩
  ·rintro _ H' hq_;walk_at"g1";obtain⟨sb,⟨nk,ek,hk,pr⟩,y,rfl⟩:=hq_;walk_at"g2";rw[hul,List.take_length]at pr;refine k _ (fun x u hx hxp=>sb _ _ (sb17 _ _ (sE _ _ hx) hxp) (fresh x u (sE _ _ hx) hxp)) ⟨dx,qs,qp,qd,nk,kvs,sb _ _ e17 (Ne.symm hqd),sb _ _ es17 (fresh _ _ es hqp),sb _ _ eq17 hqpd,hkk,hv14,ek,?_⟩;exact Paired.imp' (fun e d h=>⟨h.1,ddq sb h.2⟩) pr
theorem J4 (m:M K mg):Kc P w K mg base "House" m.aF 4 [] (gQ K (aQ P w K mg base (some 1))):=⟨_,_,_,_,m.X9,m.TF,.nil,m.xE,vO m⟩
theorem OZ {C:Addr}{D:aV}{H:Hp}{Q:VK}{E:XK}{dvs vs:List V}{a b c:Addr}{ws us cs:List V}{rz ps:List (Str×Int)}{ds:List aH}{f l:Int} (ev:vs++dvs=[.ref a,.ref b,.ref c,.int l,.int f]) (dc:DCls K C) (ha:H a=some (.lst ws)) (hr:RoomsAt H ws rz) (hb:SqL K H b us) (hd:Paired (D.at' H) us ds) (hc:SqL K H c cs) (hcp:Paired (bZ H) cs ps) (nr:(rz.map (·.1)).Nodup) (nd:(ds.map (·.1)).Nodup) (hin:∀d∈ds,cZ (rz.map (·.1)) d) (hpr:∀p∈ps,p.1∈rz.map (·.1)) (hf:wK rz ps) (lr:rz.length<=20) (ld:ds.length<=20) (lp:ps.length<=40) (h0:0<=f) (h1:f<=l)
  (k:∀p H',H p=none->Same H H'->aL C D H' p f l rz ps ds->Q (.ref p) H'):DU C (gQ K D) dvs E Q vs H:=by
 intro x dx nx nd0 ne;have s0:Same H (upd (upd H dx (.own x)) x (.ins C dx [])):=fun b o e=>by
  rw[aP (bF e nx),aP (bF e nd0)];exact e
 rw[ev];exact FE dc bC (s0 _ _ ha) (hr.sm s0) (s0.seq hb) (rZ hd s0) (s0.seq hc) (kH hcp s0) nr nd hin hpr hf lr ld lp h0 h1 fun H' sb hh=>⟨rfl,k x H' nx (fun b o q=>sb b o (s0 b o q) (bF q nx)) hh⟩
theorem WU (rz:List (Str×Int)):((szK rz).map fun e=>kV e.1)=(rz.map (·.1)).map V.str:=by unfold szK;rw[List.map_map,List.map_map];rfl
theorem yO {D:aV}{H:Hp}:∀{nk:List (Key×V)}{ds:List aH},pT D H nk ds->(nk.map fun e=>kV e.1)=(ds.map (·.1)).map V.str
 | _,_,.nil=>rfl
 | (k,v)::_,_,.cons h t=>by
  rw[List.map_cons,yO t,List.map_cons,List.map_cons];have:k= .inr _:=h.1;rw[this];rfl
theorem xU {D:aV}{H:Hp}:∀{nk:List (Key×V)}{ds:List aH},pT D H nk ds->nk.map (·.1)=(ds.map (·.1)).map (Sum.inr:Str->Key)
 | _,_,.nil=>rfl
 | (k,v)::_,_,.cons h t=>by
  rw[List.map_cons,xU t,List.map_cons,List.map_cons];have:k= .inr _:=h.1;rw[this]
theorem MK {D:aV}{H:Hp}{nk:List (Key×V)}{ds:List aH} (h:pT D H nk ds):nk.length=ds.length:=Paired.length h
theorem QD {D:aV}{H:Hp}{nk:List (Key×V)}{ds:List aH} (h:pT D H nk ds) (nd:(ds.map (·.1)).Nodup) {d:aH} (hd:d∈ds):∃v,bA nk (.inr d.1)=some v/\D.at' H v d:=by
 obtain⟨i,hi,e⟩:=List.getElem_of_mem hd;have hl:=MK h;have hx:nk[i]? =some nk[i]:=List.getElem?_eq_getElem (by lia);obtain⟨h1,h2⟩:=Paired.at2 h hx (show ds[i]? =some d by rw[List.getElem?_eq_getElem hi,e]);refine⟨_,?_,h2⟩;rw[←h1];exact iF (by rw[xU h];exact tH nd) (List.mem_of_getElem? hx)
inductive lB (C:Addr)(D:aV)(g:List (Str×Int)->List aH->List Str)(vs:List V)(H:Hp)(Q:VK)(E:XK):Prop
 | mk (h:Addr) (f l:Int) (rz ps:List (Str×Int)) (ds:List aH) (_:vs=[.ref h]) (_:aL C D H h f l rz ps ds) (_:∀p H',H p=none->Same H H'->H' p=some (.lst ((g rz ds).map V.str))->Q (.ref p) H'):lB C D g vs H Q E
theorem lL {C:Addr}{D:aV}{g:List (Str×Int)->List aH->List Str}{H:Hp}{Q:VK}{E:XK}{h:Addr}{f l:Int}{rz ps:List (Str×Int)}{ds:List aH} (hh:aL C D H h f l rz ps ds) (k:∀p H',H p=none->Same H H'->H' p=some (.lst ((g rz ds).map V.str))->Q (.ref p) H'):lB C D g [.ref h] H Q E:=⟨_,_,_,_,_,_,rfl,hh,k⟩
theorem AI (m:M K mg):bD P w K mg base CX0 1 m.mZ m.m5 ["self"] (lB m.aF (aQ P w K mg base (some 1)) fun rz _=>rz.map (·.1)):=by
 refine m.DH.ok sc_House_rooms (fun vs H Q E h=> ?_) (fun cdv A outer s H vs Q E hr h=> ?_)
 ·walk_at"g1";obtain⟨h,f,l,rz,ps,ds,rfl,hh,k⟩:=h;walk_at"g2";rfl
 ·walk_at"g1";obtain⟨h,f,l,rz,ps,ds,rfl,hh,k⟩:=h;walk_at"g2";have nd:=sc_House_rooms.nd;walk_at"hu";have w_dc_House:=m.aY;refine⟨_,(aE (aZ (tI (yU rfl) rfl m.PR JO (aA (bP (pv 0) rfl) aB)))),?_⟩;refine aN (σ:=[some (.ref h)]) rfl ?_;walk_at"cx";walk_at"g1";obtain⟨dx,qs,qp,qd,nk,kvs,e1,e2,e3,e4,e5,e6,e7⟩:=hh.ex;walk_at"g2";walk_at"go";refine E8 (.inl e2) fun p H1 n1 S1 e8=> ?_;rw[WU]at e8;walk_at"go";exact k _ _ n1 S1 e8
theorem kZ (m:M K mg):Mc P w K mg base m.aF "rooms" 1 (lB m.aF (aQ P w K mg base (some 1)) fun rz _=>rz.map (·.1)):=⟨_,_,_,m.aY.ic.cl,m.BE,m.DJ,AI m⟩
theorem AG (m:M K mg):bD P w K mg base CX0 1 m.nC m.nD ["self"] (lB m.aF (aQ P w K mg base (some 1)) fun _ ds=>ds.map (·.1)):=by
 refine m.DM.ok sc_House_doors (fun vs H Q E h=> ?_) (fun cdv A outer s H vs Q E hr h=> ?_)
 ·walk_at"g1";obtain⟨h,f,l,rz,ps,ds,rfl,hh,k⟩:=h;walk_at"g2";rfl
 ·walk_at"g1";obtain⟨h,f,l,rz,ps,ds,rfl,hh,k⟩:=h;walk_at"g2";have nd:=sc_House_doors.nd;walk_at"hu";have w_dc_House:=m.aY;refine⟨_,(aE (aZ (tI (yU rfl) rfl m.PR JO (aA (bP (pv 0) rfl) aB)))),?_⟩;refine aN (σ:=[some (.ref h)]) rfl ?_;walk_at"cx";walk_at"g1";obtain⟨dx,qs,qp,qd,nk,kvs,e1,e2,e3,e4,e5,e6,e7⟩:=hh.ex;walk_at"g2";walk_at"go";refine E8 (.inl e6) fun p H1 n1 S1 e8=> ?_;rw[yO e7]at e8;walk_at"go";exact k _ _ n1 S1 e8
theorem lE (m:M K mg):Mc P w K mg base m.aF "doors" 1 (lB m.aF (aQ P w K mg base (some 1)) fun _ ds=>ds.map (·.1)):=⟨_,_,_,m.aY.ic.cl,m.AS,m.DK,AG m⟩
inductive j8 (C:Addr)(D:aV)(vs:List V)(H:Hp)(Q:VK)(E:XK):Prop
 | mk (h:Addr) (z:Str) (f l:Int) (rz ps:List (Str×Int)) (ds:List aH) (_:vs=[.ref h,.str z]) (_:aL C D H h f l rz ps ds) (_:(rz.map (·.1)).Nodup) (_:z∈rz.map (·.1)) (_:∀H',Same H H'->Q .non H'):j8 C D vs H Q E
theorem qE {C:Addr}{D:aV}{H:Hp}{Q:VK}{E:XK}{h:Addr}{z:Str}{f l:Int}{rz ps:List (Str×Int)}{ds:List aH} (hh:aL C D H h f l rz ps ds) (nr:(rz.map (·.1)).Nodup) (hz:z∈rz.map (·.1)) (k:∀H',Same H H'->Q .non H'):j8 C D [.ref h,.str z] H Q E:=⟨_,_,_,_,_,_,_,rfl,hh,nr,hz,k⟩
theorem tV (m:M K mg):bD P w K mg base CX0 2 m.iY m.iR ["self","room"] (j8 m.aF (aQ P w K mg base (some 1))):=by
 refine m.vR.ok sc_House_need_room (fun vs H Q E h=> ?_) (fun cdv A outer s H vs Q E hr h=> ?_)
 ·walk_at"g1";obtain⟨h,z,f,l,rz,ps,ds,rfl,hh,nr,hz,k⟩:=h;walk_at"g2";rfl
 ·walk_at"g1";obtain⟨h,z,f,l,rz,ps,ds,rfl,hh,nr,hz,k⟩:=h;walk_at"g2";have nd:=sc_House_need_room.nd;walk_at"hu";have gH:= @tD P w K mg base m;have w_dc_House:=m.aY;refine⟨_,(aE (bR (bG gH hr (aA (eK (aA (pv 1) aB)) (aA (bP (pv 0) rfl) aB))))),?_⟩;refine aN (σ:=[some (.ref h),some (.str z)]) rfl ?_;walk_at"cx";walk_at"g1";obtain⟨dx,qs,qp,qd,nk,kvs,e1,e2,e3,e4,e5,e6,e7⟩:=hh.ex;walk_at"g2";obtain⟨i,hi,ev⟩:=FF nr hz;walk_at"go";rename_i p H1 n1 S1 e8;refine JH (ss:=[z]) (SqL.of e8) (.inl (S1 _ _ e2)) (fun y hy=>by cases List.mem_singleton.mp hy;rw[ev];rfl) fun H2 S2=> ?_;walk_at"go";exact k _ (S1.trans S2)
theorem hJ (m:M K mg):Mc P w K mg base m.aF "need_room" 2 (j8 m.aF (aQ P w K mg base (some 1))):=⟨_,_,_,m.aY.ic.cl,m.uO,m.vQ,tV m⟩
inductive rG (C:Addr)(D:aV)(vs:List V)(H:Hp)(Q:VK)(E:XK):Prop
 | mk (h:Addr) (z:Str) (i f l:Int) (rz ps:List (Str×Int)) (ds:List aH) (_:vs=[.ref h,.str z]) (_:aL C D H h f l rz ps ds) (_:(rz.map (·.1)).Nodup) (_:(z,i)∈rz) (_:∀H',Same H H'->Q (.int i) H'):rG C D vs H Q E
theorem VF {C:Addr}{D:aV}{H:Hp}{Q:VK}{E:XK}{h:Addr}{z:Str}{i f l:Int}{rz ps:List (Str×Int)}{ds:List aH} (hh:aL C D H h f l rz ps ds) (nr:(rz.map (·.1)).Nodup) (hz:(z,i)∈rz) (k:∀H',Same H H'->Q (.int i) H'):rG C D [.ref h,.str z] H Q E:=⟨_,_,_,_,_,_,_,_,rfl,hh,nr,hz,k⟩
theorem z6 (m:M K mg):bD P w K mg base CX0 3 m.nG m.mW ["self","room"] (rG m.aF (aQ P w K mg base (some 1))):=by
 refine m.DI.ok sc_House_holds (fun vs H Q E h=> ?_) (fun cdv A outer s H vs Q E hr h=> ?_)
 ·walk_at"g1";obtain⟨h,z,i,f,l,rz,ps,ds,rfl,hh,nr,hz,k⟩:=h;walk_at"g2";rfl
 ·walk_at"g1";obtain⟨h,z,i,f,l,rz,ps,ds,rfl,hh,nr,hz,k⟩:=h;walk_at"g2";have nd:=sc_House_holds.nd;walk_at"hu";have w_dc_House:=m.aY;have w_mc_House_need_room:= @hJ P w K mg base m;refine⟨_,(aD (bR (gZ 2 hr (pv 0) (aA (pv 1) aB)))
   (aE (aZ (iE hu1 (bP (pv 0) rfl) (pv 1) (fun _ _=>rfl))))),?_⟩
  refine aN (σ:=[some (.ref h),some (.str z)]) rfl ?_;walk_at"cx";walk_at"g1";obtain⟨dx,qs,qp,qd,nk,kvs,e1,e2,e3,e4,e5,e6,e7⟩:=hh.ex;walk_at"g2";walk_at"go";refine qE hh nr (List.mem_map.mpr ⟨_,hz,rfl⟩) fun H1 S1=> ?_;have e11:=S1 _ _ e1;walk_at"go";refine oK (.inl (S1 _ _ e2)) (zV nr hz) ?_;walk_at"go";exact k _ S1
theorem zW (m:M K mg):Mc P w K mg base m.aF "holds" 3 (rG m.aF (aQ P w K mg base (some 1))):=⟨_,_,_,m.aY.ic.cl,m.BD,m.DC,z6 m⟩
inductive rT (C:Addr)(D:aV)(vs:List V)(H:Hp)(Q:VK)(E:XK):Prop
 | mk (h:Addr) (z:Str) (f l:Int) (rz ps:List (Str×Int)) (ds:List aH) (_:vs=[.ref h,.str z]) (_:aL C D H h f l rz ps ds) (_:(rz.map (·.1)).Nodup) (_:z∈rz.map (·.1)) (_:∀H',Same H H'->Q (.int (cA ps z)) H'):rT C D vs H Q E
theorem AD {C:Addr}{D:aV}{H:Hp}{Q:VK}{E:XK}{h:Addr}{z:Str}{f l:Int}{rz ps:List (Str×Int)}{ds:List aH} (hh:aL C D H h f l rz ps ds) (nr:(rz.map (·.1)).Nodup) (hz:z∈rz.map (·.1)) (k:∀H',Same H H'->Q (.int (cA ps z)) H'):rT C D [.ref h,.str z] H Q E:=⟨_,_,_,_,_,_,_,rfl,hh,nr,hz,k⟩
theorem AA (m:M K mg):bD P w K mg base CX0 3 m.nF m.mY ["self","room"] (rT m.aF (aQ P w K mg base (some 1))):=by
 refine m.DP.ok sc_House_found (fun vs H Q E h=> ?_) (fun cdv A outer s H vs Q E hr h=> ?_)
 ·walk_at"g1";obtain⟨h,z,f,l,rz,ps,ds,rfl,hh,nr,hz,k⟩:=h;walk_at"g2";rfl
 ·walk_at"g1";obtain⟨h,z,f,l,rz,ps,ds,rfl,hh,nr,hz,k⟩:=h;walk_at"g2";have nd:=sc_House_found.nd;walk_at"hu";have w_dc_House:=m.aY;have w_mc_House_need_room:= @hJ P w K mg base m;refine⟨_,(aD (bR (gZ 2 hr (pv 0) (aA (pv 1) aB)))
   (aE (aZ (iE hu1 (bP (pv 0) rfl) (pv 1) (fun _ _=>rfl))))),?_⟩
  refine aN (σ:=[some (.ref h),some (.str z)]) rfl ?_;walk_at"cx";walk_at"g1";obtain⟨dx,qs,qp,qd,nk,kvs,e1,e2,e3,e4,e5,e6,e7⟩:=hh.ex;walk_at"g2";walk_at"go";refine qE hh nr hz fun H1 S1=> ?_;have e11:=S1 _ _ e1;walk_at"go";refine oK (.inl (S1 _ _ e3)) (e5 z hz) ?_;walk_at"go";exact k _ S1
theorem qW (m:M K mg):Mc P w K mg base m.aF "found" 3 (rT m.aF (aQ P w K mg base (some 1))):=⟨_,_,_,m.aY.ic.cl,m.AT,m.C7,AA m⟩
inductive vD (C:Addr)(D:aV)(vs:List V)(H:Hp)(Q:VK)(E:XK):Prop
 | mk (h:Addr) (d:aH) (f l:Int) (rz ps:List (Str×Int)) (ds:List aH) (_:vs=[.ref h,.str d.1]) (_:aL C D H h f l rz ps ds) (_:(ds.map (·.1)).Nodup) (_:d∈ds) (_:∀v,D.at' H v d->Q v H):vD C D vs H Q E
theorem yW {C:Addr}{D:aV}{H:Hp}{Q:VK}{E:XK}{h:Addr}{d:aH}{f l:Int}{rz ps:List (Str×Int)}{ds:List aH} (hh:aL C D H h f l rz ps ds) (nd:(ds.map (·.1)).Nodup) (hd:d∈ds) (k:∀v,D.at' H v d->Q v H):vD C D [.ref h,.str d.1] H Q E:=⟨_,_,_,_,_,_,_,rfl,hh,nd,hd,k⟩
theorem CL (m:M K mg):bD P w K mg base CX0 1 m.oX m.oV ["self","name"] (vD m.aF (aQ P w K mg base (some 1))):=by
 refine m.GN.ok sc_House_door (fun vs H Q E h=> ?_) (fun cdv A outer s H vs Q E hr h=> ?_)
 ·walk_at"g1";obtain⟨h,d,f,l,rz,ps,ds,rfl,hh,ndd,hd,k⟩:=h;walk_at"g2";rfl
 ·walk_at"g1";obtain⟨h,d,f,l,rz,ps,ds,rfl,hh,ndd,hd,k⟩:=h;walk_at"g2";have nd:=sc_House_door.nd;walk_at"hu";have w_dc_House:=m.aY;refine⟨_,(aD (dE (D8 (CA hu1 (pv 1) (bP (pv 0) rfl)) (by with_unfolding_all rfl)) (aE gO) b5)
   (aE (aZ (iE hu1 (bP (pv 0) rfl) (pv 1) (fun _ _=>rfl))))),?_⟩
  refine aN (σ:=[some (.ref h),some (.str d.1)]) rfl ?_;walk_at"cx";walk_at"g1";obtain⟨dx,qs,qp,qd,nk,kvs,e1,e2,e3,e4,e5,e6,e7⟩:=hh.ex;walk_at"g2";obtain⟨v,ev,hv⟩:=QD e7 ndd hd;walk_at"go";refine yH (.inl e6) ?_;rw[show (bA nk (.inr d.1)).isSome=true by rw[ev];rfl];walk_at"go";refine oK (.inl e6) ev ?_;walk_at"go";exact k _ hv
theorem jD (m:M K mg):Mc P w K mg base m.aF "door" 1 (vD m.aF (aQ P w K mg base (some 1))):=⟨_,_,_,m.aY.ic.cl,m.DG,m.GR,CL m⟩
def bE (rz:List (Str×Int))(f:Int)(n:Nat):List (Str×Int):=((List.range n).map fun (i:Nat)=>rz.map fun e=>(e.1,f+(i:Int))).flatten
theorem i9 (rz:List (Str×Int))(f:Int)(n:Nat):bE rz f (n+1)=bE rz f n++rz.map fun e=>(e.1,f+(n:Int)):=by
 unfold bE;rw[List.range_succ,List.map_append,List.flatten_append];simp
theorem kM (rz:List (Str×Int))(f:Int):∀n,(bE rz f n).length=n * rz.length
 | 0=>by simp[bE]
 | n+1=>by rw[i9,List.length_append,kM rz f n,List.length_map,Nat.succ_mul]
theorem FB {H:Hp}{t:Int}:∀{rz:List (Str×Int)}{ys:List V},Paired (fun (e:Key×V) y=>∀z,e.1= .inr z->bZ H y (z,t)) (szK rz) ys->Paired (bZ H) ys (rz.map fun e=>(e.1,t))
 | [],_,.nil=> .nil
 | _::_,_,.cons h t=> .cons (h _ rfl) (FB t)
theorem JA {H H':Hp}{p:Addr}{xs ws:List V}{ps:List (Str×Int)} (h:Paired (bZ H) ws ps) (e:H p=some (.lst xs)) (sb:SameBut p H H'):Paired (bZ H') ws ps:=Paired.imp' (fun v r ⟨q,e1,h⟩=>⟨q,e1,sb _ _ h fun z=>by rw[z,e]at h;cases h⟩) h
theorem nL {α β:Type}{F:α->β->Prop}:∀{l l2:List α}{m m2:List β},Paired F l m->Paired F l2 m2->Paired F (l++l2) (m++m2)
 | _,_,_,_,.nil,h=>h
 | _,_,_,_,.cons r t,h=> .cons r (nL t h)
inductive sI (C:Addr)(D:aV)(vs:List V)(H:Hp)(Q:VK)(E:XK):Prop
 | mk (h:Addr) (f l:Int) (rz ps:List (Str×Int)) (ds:List aH) (_:vs=[.ref h]) (_:aL C D H h f l rz ps ds) (_:0<=f) (_:f<=l) (_:l<1000000000000) (_:l - f<=1000) (_:rz.length<=20) (_:∀p ys H',H p=none->Same H H'->H' p=some (.lst ys)->Paired (bZ H') ys (bE rz f (l+1 - f).toNat)->Q (.ref p) H'):sI C D vs H Q E
theorem zN {C:Addr}{D:aV}{H:Hp}{Q:VK}{E:XK}{h:Addr}{f l:Int}{rz ps:List (Str×Int)}{ds:List aH} (hh:aL C D H h f l rz ps ds) (h0:0<=f) (h1:f<=l) (h2:l<1000000000000) (h3:l - f<=1000) (lr:rz.length<=20) (k:∀p ys H',H p=none->Same H H'->H' p=some (.lst ys)->Paired (bZ H') ys (bE rz f (l+1 - f).toNat)->Q (.ref p) H'):sI C D [.ref h] H Q E:=⟨_,_,_,_,_,_,rfl,hh,h0,h1,h2,h3,lr,k⟩
theorem AK (m:M K mg):bD P w K mg base CX0 1 m.m9 m.nB ["self"] (sI m.aF (aQ P w K mg base (some 1))):=by
 refine m.C8.ok sc_House_pairs (fun vs H Q E h=> ?_) (fun cdv A outer s H vs Q E hr h=> ?_)
 ·walk_at"g1";obtain⟨h,f,l,rz,ps,ds,rfl,hh,h0,h1,h2,h3,lr,k⟩:=h;walk_at"g2";rfl
 ·walk_at"g1";obtain⟨h,f,l,rz,ps,ds,rfl,hh,h0,h1,h2,h3,lr,k⟩:=h;walk_at"g2";have nd:=sc_House_pairs.nd;walk_at"hu";have w_dc_House:=m.aY;refine⟨_,(aD (aX (i:=1) nd rfl (by walk_at"oi") (eK aB))
   (aD (cX PassesOwn.never rfl (BY rfl m.oE (aA (bP (pv 0) rfl) (aA (aU cG (bP (pv 0) rfl) aG) aB))) (aI (i:=2) nd rfl (by walk_at"oi")) (aE (bR (jE PySem.F.plainAttrs_list PySem.F.slot_list_extend PySem.F.type_list_extend mQ (pv 1) (aA (vB (cD (N:=["room","turn"]) (nl:=1) (ci:=[2]) rfl (blk (s.heap.objs.size+1) rfl rfl rfl (by kernel_rfl)) (w5 (bP (pv 0) rfl)) (fun _ _ _ _=>(aI (i:=0) (show (["room","turn"]:List Str).Nodup by decide +kernel) rfl (by walk_at"oi"))) (fun _ _ _ _=>f9) (fun _ _ _ _=>(bY (aA (pv 0) (aA (pv 1) aB)))))) aB)))))
   (aE (aZ (pv 1))))),?_⟩
  refine aN (σ:=[some (.ref h),none,none]) rfl ?_;walk_at"cx";walk_at"g1";obtain⟨dx,qs,qp,qd,nk,kvs,e1,e2,e3,e4,e5,e6,e7⟩:=hh.ex;walk_at"g2";have hl2:(szK rz).length=rz.length:=by unfold szK;rw[List.length_map]
  walk_at"go";rename_i p H1 n1 S1 ep;have e21:=S1 _ _ e2;have e11:=S1 _ _ e1;have hqsp:qs≠p:=fun z=>by rw[z,n1]at e2;cases e2
  have hhp:h≠p:=fun z=>by rw[z,n1]at e1;cases e1
  let Pv1:Nat->St->Hp->Prop:=fun i σ' H'=>SameBut p H1 H'/\(∃ys,H' p=some (.lst ys)/\Paired (bZ H') ys (bE rz f i))/\∃x,σ'=[some (.ref h),some (.ref p),x];refine z4 Pv1 ⟨SameBut.refl,⟨[],ep,.nil⟩,_,rfl⟩ ?_ ?_
  ·rintro i _ H' hi hq_;walk_at"g1";obtain⟨sb,⟨ys,ey,hys⟩,x,rfl⟩:=hq_;walk_at"g2";have e2':=sb _ _ e21 hqsp;have e1':=sb _ _ e11 hhp;have hyl:ys.length=i * rz.length:=by rw[Paired.length hys,kM]
   have hyb:ys.length<=1001 * 20:=by
    rw[hyl];exact Nat.mul_le_mul (by lia) lr
   walk_at"go";refine sP e2' DT ?_;walk_at"go";refine wG e2' fun o H2 B2 e22=> ?_;have hpq:p≠qs:=Ne.symm hqsp;refine MA (fun _=>true) (fun e y H=>∀z,e.1= .inr z->bZ H y (z,f+(i:Int))) (fun _ _ _ _ hh s z hz=>let ⟨q,a1,a2⟩:=hh z hz;⟨q,a1,s _ _ a2⟩) (by rw[sizeLine_eq];lia) (rest:=[some (.int (f+(i:Int)))]) (by rfl) e22 (fun x H6 hx s6 R hR=>hR _ (Same.refl _)) ?_ ?_
   ·rintro x H6 hx - s6 R hR;obtain⟨e,he,rfl⟩:=List.mem_map.mp hx;show (_:TE) (some (V.str e.1)::[some (.int (f+(i:Int)))]) H6 R;walk_at"go";rename_i q7 H7 n7 S7 e77;exact hR _ _ (fun z hz=>by cases hz;exact⟨q7,rfl,e77⟩) S7
   intro zs H3 s3 hzs;rw[fO]at hzs;have hzp:=FB hzs;walk_at"go";rename_i q4 H4 n4 S4 e44;refine jY (S4 _ _ (s3 _ _ e22)) fun H5 B5 e55=> ?_;have hq4:q4≠qs:=fun z=>by rw[z,s3 _ _ e22]at n4;cases n4
   have ey2:=B2 _ _ ey hpq;have ey5:H5 p=some (.lst ys):=B5 _ _ (S4 _ _ (s3 _ _ ey2)) hpq;have sX:Same H' H5:=tU e2' B2 (Same.but (s3.trans S4)) B5 e55;have hz5:Paired (bZ H5) zs (rz.map fun e=>(e.1,f+(i:Int))):=Paired.imp' (fun v r ⟨q,a1,a2⟩=>⟨q,a1,B5 _ _ (S4 _ _ a2) fun z=>by rw[z,s3 _ _ e22]at a2;cases a2⟩) hzp;have hzl:zs.length=rz.length:=by rw[Paired.length hz5,List.length_map]
   walk_at"go";refine mR ey5 (B5 _ _ e44 hq4) (by rw[sizeLine_eq];lia) fun H6 B6 e66=> ?_;walk_at"go";refine⟨(sb.trans sX.but).trans B6,⟨_,e66,?_⟩,_,rfl⟩;rw[i9];exact nL (JA (kH hys sX) ey5 B6) (JA hz5 ey5 B6)
  ·rintro _ H' hq_;walk_at"g1";obtain⟨sb,⟨ys,ey,hys⟩,x,rfl⟩:=hq_;walk_at"g2";walk_at"go";exact k _ _ _ n1 (SameBut.same n1 S1 sb) ey hys
theorem lD (m:M K mg):Mc P w K mg base m.aF "pairs" 1 (sI m.aF (aQ P w K mg base (some 1))):=⟨_,_,_,m.aY.ic.cl,m.AU,m.DB,AK m⟩
local macro_rules| `(tactic| walk_at"rd1")=> `(tactic| first|(with_reducible refine VN ?_)|(with_reducible refine rd_v13 ?_)|(with_reducible refine rd_s13 ?_)|(with_reducible refine rd_v14 ?_)|(with_reducible refine rd_s14 ?_)|(with_reducible refine rd_v15 ?_)|(with_reducible refine rd_s15 ?_)|(with_reducible refine rd_v16 ?_)|(with_reducible refine rd_s16 ?_)|(with_reducible refine rd_v17 ?_)|(with_reducible refine rd_s17 ?_)|(with_reducible refine rd_v18 ?_)|(with_reducible refine rd_s18 ?_)|(with_reducible refine rd_iEnum ?_)|((with_reducible refine' rd_iEnumV ?e ?_);(case e=>walk_at"hp"))|((with_reducible refine' rd_repS ?a ?b ?c ?_);(case a=>walk_at"sd");(case b=>walk_at"sd");(case c=>walk_at"sz")))
def E7 (rz ps:List (Str×Int)):Int:=(rz.map fun e=>cA ps e.1).sum
theorem v9 {rz ps:List (Str×Int)}:∀{kvs:List (Key×V)}{l:List (Str×Int)},(kvs.map (·.1)).Nodup->kvs.map (·.1)=(szK l).map (·.1)->(∀e∈l,∀v,(Sum.inr e.1,v)∈kvs->v= .int (cA ps e.1))->kvs.map (·.2)=(l.map fun e=>cA ps e.1).map V.int
 | [],[],_,_,_=>rfl
 | [],_::_,_,h,_=>by cases h
 | _::_,[],_,h,_=>by cases h
 | (k,v)::kvs,e::l,nd,h,hv=>by
  have h1:=(List.cons.inj h).1;have h2:=(List.cons.inj h).2;have nd2:=(List.nodup_cons.mp nd).2;have ih:=v9 (rz:=rz) (ps:=ps) (kvs:=kvs) (l:=l) nd2 h2 fun e' he' v' hv'=>hv e' (List.mem_cons_of_mem _ he') v' (List.mem_cons_of_mem _ hv');have hk:k= .inr e.1:=h1;rw[List.map_cons,List.map_cons,List.map_cons,ih]
  congr 1
  exact hv e (.head _) v (by rw[hk];exact .head _)
inductive rK (C:Addr)(D:aV)(vs:List V)(H:Hp)(Q:VK)(E:XK):Prop
 | mk (h:Addr) (f l:Int) (rz ps:List (Str×Int)) (ds:List aH) (_:vs=[.ref h]) (_:aL C D H h f l rz ps ds) (_:(rz.map (·.1)).Nodup) (_:∀H',Same H H'->Q (.int (E7 rz ps)) H'):rK C D vs H Q E
theorem WM {C:Addr}{D:aV}{H:Hp}{Q:VK}{E:XK}{h:Addr}{f l:Int}{rz ps:List (Str×Int)}{ds:List aH} (hh:aL C D H h f l rz ps ds) (nr:(rz.map (·.1)).Nodup) (k:∀H',Same H H'->Q (.int (E7 rz ps)) H'):rK C D [.ref h] H Q E:=⟨_,_,_,_,_,_,rfl,hh,nr,k⟩
theorem zM (m:M K mg):bD P w K mg base CX0 1 m.nK m.nA ["self"] (rK m.aF (aQ P w K mg base (some 1))):=by
 refine m.C5.ok sc_House_total (fun vs H Q E h=> ?_) (fun cdv A outer s H vs Q E hr h=> ?_)
 ·walk_at"g1";obtain⟨h,f,l,rz,ps,ds,rfl,hh,nr,k⟩:=h;walk_at"g2";rfl
 ·walk_at"g1";obtain⟨h,f,l,rz,ps,ds,rfl,hh,nr,k⟩:=h;walk_at"g2";have nd:=sc_House_total.nd;walk_at"hu";have w_dc_House:=m.aY;refine⟨_,(aE (aZ (bK (NV rfl) rfl m.U1 OT (aA (K7 (bP (pv 0) rfl)) aB)))),?_⟩;refine aN (σ:=[some (.ref h)]) rfl ?_;walk_at"cx";walk_at"g1";obtain⟨dx,qs,qp,qd,nk,kvs,e1,e2,e3,e4,e5,e6,e7⟩:=hh.ex;walk_at"g2";have ndk:(kvs.map (·.1)).Nodup:=by rw[e4,IF];exact tH nr
  have hv:kvs.map (·.2)=(rz.map fun e=>cA ps e.1).map V.int:=v9 (rz:=rz) ndk e4 fun e he v hm=>by
   have h1:=iF ndk hm;have h2:=e5 e.1 (List.mem_map.mpr ⟨e,he,rfl⟩);have h3:bA kvs (.inr e.1)=some v:=h1;rw[h2]at h3;exact(Option.some.inj h3).symm
  walk_at"go";refine RO (.inl e3) fun v H1 n1 S1 ev=> ?_;walk_at"go";refine VX ev (.inl (S1 _ _ e3)) hv ?_;exact k _ S1
theorem zZ (m:M K mg):Mc P w K mg base m.aF "total" 1 (rK m.aF (aQ P w K mg base (some 1))):=⟨_,_,_,m.aY.ic.cl,m.AN,m.DO,zM m⟩
def eM (ds:List aH)(z:Str):List Str:=(ds.filter fun d=>decide (d.2.1=z)).map (·.1)
inductive uU (C:Addr)(D:aV)(g:List aH->Str->List Str)(vs:List V)(H:Hp)(Q:VK)(E:XK):Prop
 | mk (h:Addr) (z:Str) (f l:Int) (rz ps:List (Str×Int)) (ds:List aH) (_:vs=[.ref h,.str z]) (_:aL C D H h f l rz ps ds) (_:(rz.map (·.1)).Nodup) (_:z∈rz.map (·.1)) (_:ds.length<=20) (_:(∀d∈ds,cZ (rz.map (·.1)) d)) (_:∀p H',H p=none->Same H H'->H' p=some (.lst ((g ds z).map V.str))->Q (.ref p) H'):uU C D g vs H Q E
theorem Z4 {C:Addr}{D:aV}{g:List aH->Str->List Str}{H:Hp}{Q:VK}{E:XK}{h:Addr}{z:Str}{f l:Int}{rz ps:List (Str×Int)}{ds:List aH} (hh:aL C D H h f l rz ps ds) (nr:(rz.map (·.1)).Nodup) (hz:z∈rz.map (·.1)) (ld:ds.length<=20) (hin:∀d∈ds,cZ (rz.map (·.1)) d) (k:∀p H',H p=none->Same H H'->H' p=some (.lst ((g ds z).map V.str))->Q (.ref p) H'):uU C D g [.ref h,.str z] H Q E:=⟨_,_,_,_,_,_,_,rfl,hh,nr,hz,ld,hin,k⟩
theorem uB (m:M K mg):bD P w K mg base CX0 3 m.iZ m.iQ ["self","room"] (uU m.aF (aQ P w K mg base (some 1)) eM):=by
 refine m.vX.ok sc_House_from_room (fun vs H Q E h=> ?_) (fun cdv A outer s H vs Q E hr h=> ?_)
 ·walk_at"g1";obtain⟨h,z,f,l,rz,ps,ds,rfl,hh,nr,hz,hlen,hin,k⟩:=h;walk_at"g2";rfl
 ·walk_at"g1";obtain⟨h,z,f,l,rz,ps,ds,rfl,hh,nr,hz,hlen,hin,k⟩:=h;walk_at"g2";have nd:=sc_House_from_room.nd;walk_at"hu";have w_dc_House:=m.aY;have w_mc_House_need_room:= @hJ P w K mg base m;refine⟨_,(aD (bR (gZ 2 hr (pv 0) (aA (pv 1) aB)))
   (aE (aZ (vB (cD (N:=["name","door","room"]) (nl:=2) (ci:=[1]) rfl (blk (s.heap.objs.size+1) rfl rfl rfl (by kernel_rfl)) (NN (bP (pv 0) rfl)) (fun _ _ _ _=>(gS (K:=K) (n:=2) rfl (aW (aI (i:=0) (show (["name","door","room"]:List Str).Nodup by decide +kernel) rfl (by walk_at"oi")) (aW (aI (i:=1) (show (["name","door","room"]:List Str).Nodup by decide +kernel) rfl (by walk_at"oi")) cY)))) (fun _ _ _ _=>(j7 (bV yJ (qT (K:=K) (pv 1) rfl) (pv 2) (cB _)))) (fun _ _ _ _=>(pv 0))))))),?_⟩
  refine aN (σ:=[some (.ref h),some (.str z)]) rfl ?_;walk_at"cx";walk_at"g1";obtain⟨dx,qs,qp,qd,nk,kvs,e1,e2,e3',e4',e5',e6,e7⟩:=hh.ex;walk_at"g2";walk_at"go";refine qE hh nr hz fun H1 S1=> ?_;have e31:=S1 _ _ e6;have e11:=S1 _ _ e1;walk_at"go";refine sP e31 DT ?_;walk_at"go";refine OR e31 fun o H2 B2 e32=> ?_;have hn2:pT (aQ P w K mg base (some 1)) H2 nk ds:=Paired.imp' (fun e d h=>⟨h.1,(aQ P w K mg base (some 1)).but ((aQ P w K mg base (some 1)).same h.2 S1) e31 trivial B2⟩) e7;refine WY (α:=aH) (xs:=ds) (fun e d=>e.1= .inr d.1/\(aQ P w K mg base (some 1)).at' H2 e.2 d) (fun d=>decide (d.2.1=z)) (fun d y _=>y= .str d.1) (fun _ _ _ _ h _=>h) (by rw[sizeLine_eq];lia) (rest:=[some (.str z)]) (by rfl) e32 hn2 ?_ ?_ ?_
  ·rintro ⟨kk,v⟩ ⟨n,st,e,lt⟩ H3 ⟨h1,h2⟩ hm s3 R hR;walk_at"g1";obtain⟨q,C9,dx,fs,fp,h3,hq,dcC,l1,l2,l3,l4,l5,mcE,hfp,hlt⟩:=DoorAt.ex h2;walk_at"g2";cases h1;have h3:v= .ref q:=h3;subst h3;have hq:=s3 _ _ hq;show (_:TT) (some (V.str n)::some (V.ref q)::[some (.str z)]) H3 R;walk_at"go";exact hR _ (Same.refl _)
  ·rintro ⟨kk,v⟩ ⟨n,st,e,lt⟩ H3 ⟨h1,h2⟩ hm - s3 R hR;cases h1;show (_:TE) (some (V.str n)::some v::[some (.str z)]) H3 R;walk_at"go";exact hR _ _ rfl (Same.refl _)
  intro ys H3 s3 hys;have ey:=mO hys;walk_at"go";rename_i p H4 n4 S4 e4;refine jY (S4 _ _ (s3 _ _ e32)) fun H5 B5 e5=> ?_;have hpq:p≠qd:=fun z=>by rw[z,s3 _ _ e32]at n4;cases n4
  have hn:H p=none:=by
   cases hq:H p with
   | none=>rfl
   | some u =>
    have:=s3 _ _ (B2 _ _ (S1 _ _ hq) hpq);rw[n4]at this;cases this
  walk_at"go";refine k p H5 hn (tU e6 (fun x u hx hxa=>B2 _ _ (S1 _ _ hx) hxa) (Same.but (s3.trans S4)) B5 e5) ?_;have:=B5 _ _ e4 hpq;rw[this,ey];unfold eM;rw[List.map_map];rfl
theorem t7 (m:M K mg):Mc P w K mg base m.aF "from_room" 3 (uU m.aF (aQ P w K mg base (some 1)) eM):=⟨_,_,_,m.aY.ic.cl,m.uF,m.vP,uB m⟩
def qH (f l:Int)(d:aH)(t:Int):Int:=if f<=t/\t<l then d.2.2.2 t else 0
inductive rY (C:Addr)(D:aV)(vs:List V)(H:Hp)(Q:VK)(E:XK):Prop
 | mk (h:Addr) (d:aH) (t f l:Int) (rz ps:List (Str×Int)) (ds:List aH) (_:vs=[.ref h,.str d.1,.int t]) (_:aL C D H h f l rz ps ds) (_:(ds.map (·.1)).Nodup) (_:d∈ds) (_:0<=f) (_:∀H',Same H H'->Q (.int (qH f l d t)) H'):rY C D vs H Q E
theorem W4 {C:Addr}{D:aV}{H:Hp}{Q:VK}{E:XK}{h:Addr}{d:aH}{t f l:Int}{rz ps:List (Str×Int)}{ds:List aH} (hh:aL C D H h f l rz ps ds) (nd:(ds.map (·.1)).Nodup) (hd:d∈ds) (hf:0<=f) (k:∀H',Same H H'->Q (.int (qH f l d t)) H'):rY C D [.ref h,.str d.1,.int t] H Q E:=⟨_,_,_,_,_,_,_,_,rfl,hh,nd,hd,hf,k⟩
theorem CW (m:M K mg):bD P w K mg base CX0 3 m.oT m.oY ["self","name","turn"] (rY m.aF (aQ P w K mg base (some 1))):=by
 refine m.GW.ok sc_House_lets (fun vs H Q E h=> ?_) (fun cdv A outer s H vs Q E hr h=> ?_)
 ·walk_at"g1";obtain⟨h,d,t,f,l,rz,ps,ds,rfl,hh,ndd,hd,hf,k⟩:=h;walk_at"g2";rfl
 ·walk_at"g1";obtain⟨h,d,t,f,l,rz,ps,ds,rfl,hh,ndd,hd,hf,k⟩:=h;walk_at"g2";have nd:=sc_House_lets.nd;walk_at"hu";have w_dc_House:=m.aY;have w_mc_House_door:= @jD P w K mg base m;refine⟨_,(aD (aX (i:=3) nd rfl (by walk_at"oi") (gZ 1 hr (pv 0) (aA (pv 1) aB)))
   (aD (dE (PW.pt (DS (bV pM (pv 2) (bP (pv 0) rfl) (cB _)) (EX (bV aBq (pv 2) (bP (pv 0) rfl) (cB _))))) (aE (aZ aG)) b5)
   (aE (aZ (gZ 1 hr (pv 3) (aA (pv 2) aB)))))),?_⟩
  refine aN (σ:=[some (.ref h),some (.str d.1),some (.int t),none]) rfl ?_;walk_at"cx";walk_at"g1";obtain⟨dx,qs,qp,qd,nk,kvs,e1,_⟩:=hh.ex;walk_at"g2";walk_at"g1";obtain⟨n,st,e,lt⟩:=d;walk_at"g2";walk_at"go";refine yW (d:=(n,st,e,lt)) hh ndd hd fun v hv=> ?_;walk_at"g1";obtain⟨q2,C2,dx2,fs2,fp2,rfl,hq2,dcC,l1,l2,l3,l4,l5,mcE,hfp,hlt⟩:=DoorAt.ex hv;walk_at"g2";obtain⟨sp,mcL,hsp⟩:=hlt _ rfl;walk_at"go";refine i7 (fun hc=> ?_) (fun hc=> ?_)
  ·have hk:qH f l (n,st,e,lt) t=0:=by unfold qH;rw[if_neg (by lia)]
   rw[hk]at k;walk_at"go";exact k _ (Same.refl _)
  ·walk_at"go";refine i7 (fun hc2=> ?_) (fun hc2=> ?_)
   ·have hk:qH f l (n,st,e,lt) t=0:=by unfold qH;rw[if_neg (by lia)]
    rw[hk]at k;walk_at"go";exact k _ (Same.refl _)
   ·have hk:qH f l (n,st,e,lt) t=lt t:=by unfold qH;rw[if_pos (by lia)]
    rw[hk]at k;walk_at"go";exact hsp _ _ _ hq2 (fun x hx=>(hfp x hx).1) (by lia) k
theorem CK (m:M K mg):Mc P w K mg base m.aF "lets" 3 (rY m.aF (aQ P w K mg base (some 1))):=⟨_,_,_,m.aY.ic.cl,m.DE,m.GM,CW m⟩
def t9 (H:Hp)(v:V)(r:aM):Prop:=∃q,v= .ref q/\H q=some (.tup [.int r.1,.str r.2.1,.int r.2.2])
abbrev bI (H:Hp)(vs:List V)(rows:List aM):Prop:=Paired (t9 H) vs rows
theorem dZ {H H':Hp}{vs:List V}{rows:List aM} (h:bI H vs rows) (s:Same H H'):bI H' vs rows:=Paired.imp' (fun v r ⟨q,e,h⟩=>⟨q,e,s _ _ h⟩) h
theorem mF {α β:Type}{F:α->β->Prop}:∀{l:List α}{m:List β},Paired F l m->Paired (fun b a=>F a b) m l
 | _,_,.nil=> .nil
 | _,_,.cons h t=> .cons h (mF t)
def cnt (ns:List Str)(f l:Int)(r:aM):Bool:=decide (r.2.1∈ns)&&(decide (f<=r.1)&&decide (r.1<l))
inductive sK (K:W.Frag)(C:Addr)(D:aV)(vs:List V)(H:Hp)(Q:VK)(E:XK):Prop
 | mk (h a:Addr) (f l:Int) (rz ps:List (Str×Int)) (ds:List aH) (us:List V) (rows:List aM) (_:vs=[.ref h,.ref a]) (_:aL C D H h f l rz ps ds) (_:SqL K H a us) (_:bI H us rows) (_:rows.length<=200) (_:∀p ys H',H p=none->Same H H'->H' p=some (.lst ys)->bI H' ys (rows.filter (cnt (ds.map (·.1)) f l))->Q (.ref p) H'):sK K C D vs H Q E
theorem IQ {C:Addr}{D:aV}{H:Hp}{Q:VK}{E:XK}{h a:Addr}{f l:Int}{rz ps:List (Str×Int)}{ds:List aH}{us:List V}{rows:List aM} (hh:aL C D H h f l rz ps ds) (hS:SqL K H a us) (hp:bI H us rows) (hl:rows.length<=200) (k:∀p ys H',H p=none->Same H H'->H' p=some (.lst ys)->bI H' ys (rows.filter (cnt (ds.map (·.1)) f l))->Q (.ref p) H'):sK K C D [.ref h,.ref a] H Q E:=⟨_,_,_,_,_,_,_,_,_,rfl,hh,hS,hp,hl,k⟩
theorem tW (m:M K mg):bD P w K mg base CX0 2 m.iT m.iU ["house","plan"] (sK K m.aF (aQ P w K mg base (some 1))):=by
 refine m.dB.ok sc_rows_that_count (fun vs H Q E h=> ?_) (fun cdv A outer s H vs Q E hr h=> ?_)
 ·walk_at"g1";obtain⟨h,a,f,l,rz,ps,ds,us,rows,rfl,hh,hS,hpl,hlen,k⟩:=h;walk_at"g2";rfl
 ·walk_at"g1";obtain⟨h,a,f,l,rz,ps,ds,us,rows,rfl,hh,hS,hpl,hlen,k⟩:=h;walk_at"g2";have nd:=sc_rows_that_count.nd;walk_at"hu";have w_dc_House:=m.aY;have w_mc_House_doors:= @lE P w K mg base m;refine⟨_,(aD (aX (i:=2) nd rfl (by walk_at"oi") (gF 1 hr (pv 0)))
   (aE (aZ (cD (N:=["row","doors","house"]) (nl:=1) (ci:=[2,0]) rfl (blk (s.heap.objs.size+1) rfl rfl rfl (by kernel_rfl)) (bM (pv 1)) (fun _ _ _ _=>(aI (i:=0) (show (["row","doors","house"]:List Str).Nodup by decide +kernel) rfl (by walk_at"oi"))) (fun _ _ _ _=>(j7 (PW.pt (PH (bV (xV (K:=K)) (dF (gE (K:=K)) (pv 0) aG (fun _ _=>rfl)) (pv 1) (by with_unfolding_all rfl)) (IL (SB J0 pM (qT (K:=K) (pv 2) rfl) (dF (gE (K:=K)) (pv 0) aG (fun _ _=>rfl)) (qT (K:=K) (pv 2) rfl))))))) (fun _ _ _ _=>(pv 0)))))),?_⟩
  refine aN (σ:=[some (.ref h),some (.ref a),none]) rfl ?_;walk_at"cx";walk_at"g1";obtain⟨dx,qs,qp,qd,nk,kvs,e1,e2,e3,e4,e5,e6,e7⟩:=hh.ex;walk_at"g2";walk_at"go";refine lL hh fun p1 H1 n1 S1 e8=> ?_;have e11:=S1 _ _ e1;walk_at"go";refine oA (α:=aM) (xs:=rows) (vs:=us) (t9 H1) (cnt (ds.map (·.1)) f l) (fun r y H=>t9 H y r) (fun _ _ _ _ ⟨q,h1,h2⟩ s=>⟨q,h1,s _ _ h2⟩) (by rw[sizeLine_eq];lia) (rest:=[some (.ref p1),some (.ref h)]) (by rfl) (S1.seq hS) (dZ hpl S1) ?_ ?_ ?_
  ·rintro v ⟨t0,n0,j0⟩ H2 ⟨q,rfl,hq⟩ hm s2 R hR;have hq':H2 q=some (.tup [.int t0,.str n0,.int j0]):=s2 _ _ hq;have ep:=s2 _ _ e8;have eh:=s2 _ _ e11;walk_at"go";refine⟨q,_,1,_,rfl,rfl,SqT.of hq',rfl,?_⟩;walk_at"go";refine FQ (SqL.of ep) ?_;have hR':=hR _ (Same.refl _);unfold cnt at hR';walk_at"go";refine i7 (fun hc=> ?_) (fun hc=> ?_)
   ·rw[decide_eq_true hc,Bool.true_and]at hR';walk_at"go";refine⟨q,_,0,_,rfl,rfl,SqT.of hq',rfl,?_⟩;walk_at"go";refine i7 (fun hc2=> ?_) (fun hc2=> ?_)
    ·rw[decide_eq_true hc2,Bool.true_and]at hR';walk_at"go";exact hR'
    ·rw[decide_eq_false hc2,Bool.false_and]at hR';exact⟨false,rfl,hR'⟩
   ·rw[decide_eq_false hc,Bool.false_and]at hR';exact hR'
  ·rintro v ⟨t0,n0,j0⟩ H2 ⟨q,rfl,hq⟩ hm - s2 R hR;walk_at"go";exact hR _ _ ⟨q,rfl,s2 _ _ hq⟩ (Same.refl _)
  intro ys H2 s2 hys;have hpl2:=mF hys;walk_at"go";rename_i p3 H3 n3 S3 e33;refine k _ _ _ ?_ ((S1.trans s2).trans S3) e33 (dZ hpl2 S3);cases hq:H p3 with
  | none=>rfl
  | some u=>rw[s2 _ _ (S1 _ _ hq)]at n3;cases n3
theorem mL (m:M K mg):Fc P w K mg base "rows_that_count" 2 ["house","plan"] (sK K m.aF (aQ P w K mg base (some 1))):=⟨_,_,m.vT,m.dB.kp,m.vW,tW m⟩
def t8 (key:aM->Option (List Key))(kvs:List (List Key×V))(r:aM):List (List Key×V):=match key r with
 | some k=>bW kvs k (.int (mD ((bA kvs k).getD (.int 0))+r.2.2))
 | none=>kvs
def iN (key:aM->Option (List Key))(rows:List aM):List (List Key×V):=rows.foldl (t8 key) []
theorem jW (key:aM->Option (List Key))(rows:List aM)(r:aM):iN key (rows++[r])=t8 key (iN key rows) r:=by unfold iN;rw[List.foldl_append];rfl
def oS (key:aM->Option (List Key))(rows:List aM)(k:List Key):Int:=((rows.filter fun r=>decide (key r=some k)).map (·.2.2)).sum
theorem MJ (key:aM->Option (List Key))(rows:List aM)(r:aM)(k:List Key):oS key (rows++[r]) k=oS key rows k+if key r=some k then r.2.2 else 0:=by
 unfold oS;rw[List.filter_append,List.map_append,List.sum_append]
 congr 1
 by_cases h:key r=some k
 ·rw[if_pos h];simp[h]
 ·rw[if_neg h];simp[h]
theorem P4 (key:aM->Option (List Key))(k:List Key)(rows:List aM):mD ((bA (iN key rows) k).getD (.int 0))=oS key rows k:=by
 induction rows using jZ with
 | h0=>rfl
 | hs l r ih =>
  rw[jW,MJ];unfold t8;cases hk:key r with
  | none =>
   rw[if_neg (by intro z;cases z),Int.add_zero];exact ih
  | some k2 =>
   show mD ((bA (bW (iN key l) k2 _) k).getD (.int 0))=_;rw[kW]
   by_cases e:k=k2
   ·subst e;rw[if_pos rfl,if_pos rfl,←ih];rfl
   ·rw[if_neg e,if_neg (fun z=>e (Option.some.inj z).symm),Int.add_zero];exact ih
theorem O0 (key:aM->Option (List Key))(rows:List aM):∀e∈iN key rows,∃i,e.2= .int i:=by
 induction rows using jZ with
 | h0=>intro e h;nomatch h
 | hs l r ih =>
  rw[jW];unfold t8;cases hk:key r with
  | none=>exact ih
  | some k2 =>
   intro e he;rcases wV he with h|⟨h1,h2⟩
   ·exact ih e h
   ·exact⟨_,h2⟩
theorem wU (key:aM->Option (List Key))(rows:List aM)(k:List Key):∃i,(bA (iN key rows) k).getD (.int 0)= .int i:=by
 cases h:bA (iN key rows) k with
 | none=>exact⟨0,rfl⟩
 | some v =>
  obtain⟨i,e⟩:=O0 key rows _ (pJ h);exact⟨i,e⟩
theorem FC (key:aM->Option (List Key))(rows:List aM):(iN key rows).length<=rows.length:=by
 induction rows using jZ with
 | h0=>exact Nat.le_refl _
 | hs l r ih =>
  rw[jW,List.length_append];unfold t8;cases hk:key r with
  | none=>exact Nat.le_trans ih (Nat.le_add_right _ _)
  | some k2=>exact Nat.le_trans (fR _ _ _) (by simp;lia)
def i8 (ds:List aH)(n:Str):Option aH:=ds.find? fun d=>decide (d.1=n)
theorem sL {ds:List aH}{n:Str} (h:n∈ds.map (·.1)):∃d∈ds,d.1=n/\i8 ds n=some d:=by
 obtain⟨d,hd,e⟩:=List.mem_map.mp h;cases hf:i8 ds n with
 | none =>
  have:=List.find?_eq_none.mp hf d hd;exact absurd (decide_eq_true e) this
 | some d2 =>
  have h1:decide (d2.1=n)=true:=List.find?_some (p:=fun d:aH=>decide (d.1=n)) hf;exact⟨d2,List.mem_of_find?_eq_some hf,of_decide_eq_true h1,rfl⟩
def oO (ds:List aH)(r:aM):Option (List Key):=(i8 ds r.2.1).map fun d=>[.inr d.2.1,.inl r.1]
def lC (ds:List aH)(r:aM):Option (List Key):=(i8 ds r.2.1).bind fun d=>match d.2.2.1 with
 | .str z=>some [.inr z,.inl r.1]
 | _=>none
inductive lG (K:W.Frag)(C:Addr)(D:aV)(key:List aH->aM->Option (List Key))(vs:List V)(H:Hp)(Q:VK)(E:XK):Prop
 | mk (h a:Addr) (f l:Int) (rz ps:List (Str×Int)) (ds:List aH) (us:List V) (rows:List aM) (_:vs=[.ref h,.ref a]) (_:aL C D H h f l rz ps ds) (_:(ds.map (·.1)).Nodup) (_:(∀d∈ds,cZ (rz.map (·.1)) d)) (_:SqL K H a us) (_:bI H us rows) (_:rows.length<=200) (_:∀p H',H p=none->Same H H'->H' p=some (.dT (iN (key ds) (rows.filter (cnt (ds.map (·.1)) f l))))->Q (.ref p) H'):lG K C D key vs H Q E
theorem zQ {C:Addr}{D:aV}{key:List aH->aM->Option (List Key)}{H:Hp}{Q:VK}{E:XK}{h a:Addr}{f l:Int}{rz ps:List (Str×Int)}{ds:List aH}{us:List V}{rows:List aM} (hh:aL C D H h f l rz ps ds) (nd:(ds.map (·.1)).Nodup) (hin:∀d∈ds,cZ (rz.map (·.1)) d) (hS:SqL K H a us) (hp:bI H us rows) (hl:rows.length<=200) (k:∀p H',H p=none->Same H H'->H' p=some (.dT (iN (key ds) (rows.filter (cnt (ds.map (·.1)) f l))))->Q (.ref p) H'):lG K C D key [.ref h,.ref a] H Q E:=⟨_,_,_,_,_,_,_,_,_,rfl,hh,nd,hin,hS,hp,hl,k⟩
theorem KY (m:M K mg):bD P w K mg base CX0 3 m.uE m.uP ["house","plan"] (lG K m.aF (aQ P w K mg base (some 1)) oO):=by
 refine m.j3.ok sc_leaving (fun vs H Q E h=> ?_) (fun cdv A outer s H vs Q E hr h=> ?_)
 ·walk_at"g1";obtain⟨h,a,f,l,rz,ps,ds,us,rows,rfl,hh,ndd,hin,hS,hpl,hlen,k⟩:=h;walk_at"g2";rfl
 ·walk_at"g1";obtain⟨h,a,f,l,rz,ps,ds,us,rows,rfl,hh,ndd,hin,hS,hpl,hlen,k⟩:=h;walk_at"g2";have nd:=sc_leaving.nd;walk_at"hu";have dB:= @mL P w K mg base m;have w_dc_House:=m.aY;have w_mc_House_door:= @jD P w K mg base m;refine⟨_,(aD (aX (i:=2) nd rfl (by walk_at"oi") rL)
   (aD (cX PassesOwn.never rfl (bM (bG dB hr (aA (pv 0) (aA (pv 1) aB)))) (mK (n:=3) rfl (aW (aI (i:=3) nd rfl (by walk_at"oi")) (aW (aI (i:=4) nd rfl (by walk_at"oi")) (aW (aI (i:=5) nd rfl (by walk_at"oi")) cY)))) (aD (aX (i:=6) nd rfl (by walk_at"oi") (bY (aA (bP (gZ 1 hr (pv 0) (aA (pv 4) aB)) rfl) (aA (pv 3) aB))))
   (aE (jV hu1 (pv 2) (pv 6) (aU cG (k8 hu1 (pv 2) (pv 6) aG ⟨rfl,rfl,rfl,rfl⟩) (pv 5)) rfl))))
   (aE (aZ (pv 2))))),?_⟩
  refine aN (σ:=[some (.ref h),some (.ref a),none,none,none,none,none]) rfl ?_;walk_at"cx";walk_at"go";rename_i p H1 n1 S1 ep;refine IQ (bB hh S1) (S1.seq hS) (dZ hpl S1) hlen fun q ys H2 n2 S2 eq hcr=> ?_;generalize hce:rows.filter (cnt (ds.map (·.1)) f l)=cr at hcr k;have hcn:∀r∈cr,r.2.1∈ds.map (·.1):=fun r hr=>by
   rw[←hce]at hr;have:=(List.mem_filter.mp hr).2;unfold cnt at this;rw[Bool.and_eq_true]at this;exact of_decide_eq_true this.1
  have hcl:cr.length<=200:=by rw[←hce];exact Nat.le_trans (List.length_filter_le _ _) hlen
  have hyl:ys.length=cr.length:=Paired.length hcr;have ep2:=S2 _ _ ep;have hqp:q≠p:=fun z=>by rw[z,ep]at n2;cases n2
  have hh2:=bB hh (S1.trans S2);have npd:∀x u,H x=some u->x≠p:=fun x u hx z=>by rw[z,n1]at hx;cases hx
  walk_at"go";let Pv1:Nat->St->Hp->Prop:=fun i σ' H'=>SameBut p H2 H'/\H' p=some (.dT (iN (oO ds) (cr.take i)))/\∃x y z u,σ'=[some (.ref h),some (.ref a),some (.ref p),x,y,z,u];refine dI ys Pv1 ⟨SameBut.refl,ep2,_,_,_,_,rfl⟩ (fun i σ' H' _ g=>SqL.of (g.1 _ _ eq hqp)) ?_ ?_
  ·rintro i x _ H' hx hq_;walk_at"g1";obtain⟨sb,ek,x1,x2,x3,x4,rfl⟩:=hq_;walk_at"g2";have hi:i<ys.length:=(List.getElem?_eq_some_iff.mp hx).1;obtain⟨⟨t,n,j⟩,hrx⟩:∃r,cr[i]? =some r:=⟨_,List.getElem?_eq_getElem (by lia)⟩
   obtain⟨q1,rfl,hq1⟩:=Paired.at2 hcr hx hrx;have hq1':H' q1=some (.tup [.int t,.str n,.int j]):=sb _ _ hq1 fun z=>by rw[z,ep2]at hq1;cases hq1
   have sH:Same H H':=fun x u hx=>sb _ _ (S2 _ _ (S1 _ _ hx)) (npd x u hx);have hh':=bB hh sH;walk_at"g1";obtain⟨dx,qs,qp,qd,nk,kvs,e1,_⟩:=hh'.ex;walk_at"g2";walk_at"g1";obtain⟨⟨dn,dst,de,dw⟩,hd,rfl,hdo⟩:=sL (hcn _ (List.mem_of_getElem? hrx));walk_at"g2";have hkey:oO ds (t,dn,j)=some [.inr dst,.inl t]:=by
    unfold oO;rw[show i8 ds ((t,dn,j):aM).2.1=some (dn,dst,de,dw) from hdo];rfl
   obtain⟨i0,ei⟩:=wU (oO ds) (cr.take i) [.inr dst,.inl t];have hkl:=FC (oO ds) (cr.take i);rw[List.length_take]at hkl;walk_at"go";refine yW (d:=(dn,dst,de,dw)) hh' ndd hd fun v hv=> ?_;walk_at"g1";obtain⟨q2,C2,dx2,fs2,fp2,rfl,hq2,dcC,l1,l2,l3,l4,l5,mcE,hfp,hlt⟩:=DoorAt.ex hv;walk_at"g2";walk_at"go";rename_i b3 H3 n3 S3 e3;refine jT (S3 _ _ ek) ?_;walk_at"go";refine lA [.inr dst,.inl t] (S3 _ _ ek) e3 ?_;rw[ei];walk_at"go";refine oI [.inr dst,.inl t] (S3 _ _ ek) e3 (by rw[sizeLine_eq];lia) fun H4 B4 e4=> ?_;refine⟨(sb.trans S3.but).trans B4,?_,_,_,_,_,rfl⟩;rw[e4,bT hrx,jW];unfold t8;rw[hkey];show _=some (HO.dT (bW _ _ (.int (mD ((bA _ _).getD (.int 0))+j))));rw[ei];rfl
  ·rintro _ H' hq_;walk_at"g1";obtain⟨sb,ek,x1,x2,x3,x4,rfl⟩:=hq_;walk_at"g2";rw[hyl,List.take_length]at ek;walk_at"go";exact k _ _ n1 (fun x u hx=>sb _ _ (S2 _ _ (S1 _ _ hx)) (npd x u hx)) ek
theorem y9 (m:M K mg):Fc P w K mg base "leaving" 3 ["house","plan"] (lG K m.aF (aQ P w K mg base (some 1)) oO):=⟨_,_,m.P0,m.j3.kp,m.PP,KY m⟩
theorem N7 (m:M K mg):bD P w K mg base CX0 3 m.xI m.xF ["house","plan"] (lG K m.aF (aQ P w K mg base (some 1)) lC):=by
 refine m.sQ.ok sc_coming (fun vs H Q E h=> ?_) (fun cdv A outer s H vs Q E hr h=> ?_)
 ·walk_at"g1";obtain⟨h,a,f,l,rz,ps,ds,us,rows,rfl,hh,ndd,hin,hS,hpl,hlen,k⟩:=h;walk_at"g2";rfl
 ·walk_at"g1";obtain⟨h,a,f,l,rz,ps,ds,us,rows,rfl,hh,ndd,hin,hS,hpl,hlen,k⟩:=h;walk_at"g2";have nd:=sc_coming.nd;walk_at"hu";have dB:= @mL P w K mg base m;have w_dc_House:=m.aY;have w_mc_House_door:= @jD P w K mg base m;refine⟨_,(aD (aX (i:=2) nd rfl (by walk_at"oi") rL)
   (aD (cX PassesOwn.never rfl (bM (bG dB hr (aA (pv 0) (aA (pv 1) aB)))) (mK (n:=3) rfl (aW (aI (i:=3) nd rfl (by walk_at"oi")) (aW (aI (i:=4) nd rfl (by walk_at"oi")) (aW (aI (i:=5) nd rfl (by walk_at"oi")) cY)))) (aD (aX (i:=6) nd rfl (by walk_at"oi") (gZ 1 hr (pv 0) (aA (pv 4) aB)))
   (aE (dE (tK (i6 (gF 1 hr (pv 6)))) (aD (aX (i:=7) nd rfl (by walk_at"oi") (bY (aA (bP (pv 6) rfl) (aA (pv 3) aB))))
   (aE (jV hu1 (pv 2) (pv 7) (aU cG (k8 hu1 (pv 2) (pv 7) aG ⟨rfl,rfl,rfl,rfl⟩) (pv 5)) rfl))) b5))))
   (aE (aZ (pv 2))))),?_⟩
  refine aN (σ:=[some (.ref h),some (.ref a),none,none,none,none,none,none]) rfl ?_;walk_at"cx";walk_at"go";rename_i p H1 n1 S1 ep;refine IQ (bB hh S1) (S1.seq hS) (dZ hpl S1) hlen fun q ys H2 n2 S2 eq hcr=> ?_;generalize hce:rows.filter (cnt (ds.map (·.1)) f l)=cr at hcr k;have hcn:∀r∈cr,r.2.1∈ds.map (·.1):=fun r hr=>by
   rw[←hce]at hr;have:=(List.mem_filter.mp hr).2;unfold cnt at this;rw[Bool.and_eq_true]at this;exact of_decide_eq_true this.1
  have hcl:cr.length<=200:=by rw[←hce];exact Nat.le_trans (List.length_filter_le _ _) hlen
  have hyl:ys.length=cr.length:=Paired.length hcr;have ep2:=S2 _ _ ep;have hqp:q≠p:=fun z=>by rw[z,ep]at n2;cases n2
  have hh2:=bB hh (S1.trans S2);have npd:∀x u,H x=some u->x≠p:=fun x u hx z=>by rw[z,n1]at hx;cases hx
  walk_at"go";let Pv2:Nat->St->Hp->Prop:=fun i σ' H'=>SameBut p H2 H'/\H' p=some (.dT (iN (lC ds) (cr.take i)))/\∃x y z u w,σ'=[some (.ref h),some (.ref a),some (.ref p),x,y,z,u,w];refine dI ys Pv2 ⟨SameBut.refl,ep2,_,_,_,_,_,rfl⟩ (fun i σ' H' _ g=>SqL.of (g.1 _ _ eq hqp)) ?_ ?_
  ·rintro i x _ H' hx hq_;walk_at"g1";obtain⟨sb,ek,x1,x2,x3,x4,x5,rfl⟩:=hq_;walk_at"g2";have hi:i<ys.length:=(List.getElem?_eq_some_iff.mp hx).1;obtain⟨⟨t,n,j⟩,hrx⟩:∃r,cr[i]? =some r:=⟨_,List.getElem?_eq_getElem (by lia)⟩
   obtain⟨q1,rfl,hq1⟩:=Paired.at2 hcr hx hrx;have hq1':H' q1=some (.tup [.int t,.str n,.int j]):=sb _ _ hq1 fun z=>by rw[z,ep2]at hq1;cases hq1
   have sH:Same H H':=fun x u hx=>sb _ _ (S2 _ _ (S1 _ _ hx)) (npd x u hx);have hh':=bB hh sH;walk_at"g1";obtain⟨dx,qs,qp,qd,nk,kvs,e1,_⟩:=hh'.ex;walk_at"g2";walk_at"g1";obtain⟨⟨dn,dst,de,dw⟩,hd,rfl,hdo⟩:=sL (hcn _ (List.mem_of_getElem? hrx));walk_at"g2";have hkl:=FC (lC ds) (cr.take i);rw[List.length_take]at hkl;have hend:=(hin _ hd).2;walk_at"go";refine yW (d:=(dn,dst,de,dw)) hh' ndd hd fun v hv=> ?_;walk_at"g1";obtain⟨q2,C2,dx2,fs2,fp2,rfl,hq2,dcC,l1,l2,l3,l4,l5,mcE,hfp,hlt⟩:=DoorAt.ex hv;walk_at"g2";rcases hend with hend|⟨z,hend,hz⟩
   ·have hde:de= .non:=hend;subst hde;have hkey:lC ds (t,dn,j)=none:=by
     unfold lC;rw[show i8 ds ((t,dn,j):aM).2.1=some (dn,dst,.non,dw) from hdo];rfl
    walk_at"go";refine⟨sb,?_,_,_,_,_,_,rfl⟩;rw[ek,bT hrx,jW];unfold t8;rw[hkey]
   ·have hde:de= .str z:=hend;subst hde;have hkey:lC ds (t,dn,j)=some [.inr z,.inl t]:=by
     unfold lC;rw[show i8 ds ((t,dn,j):aM).2.1=some (dn,dst,.str z,dw) from hdo];rfl
    obtain⟨i0,ei⟩:=wU (lC ds) (cr.take i) [.inr z,.inl t];walk_at"go";rename_i b3 H3 n3 S3 e3;refine jT (S3 _ _ ek) ?_;walk_at"go";refine lA [.inr z,.inl t] (S3 _ _ ek) e3 ?_;rw[ei];walk_at"go";refine oI [.inr z,.inl t] (S3 _ _ ek) e3 (by rw[sizeLine_eq];lia) fun H4 B4 e4=> ?_;refine⟨(sb.trans S3.but).trans B4,?_,_,_,_,_,_,rfl⟩;rw[e4,bT hrx,jW];unfold t8;rw[hkey];show _=some (HO.dT (bW _ _ (.int (mD ((bA _ _).getD (.int 0))+j))));rw[ei];rfl
  ·rintro _ H' hq_;walk_at"g1";obtain⟨sb,ek,x1,x2,x3,x4,x5,rfl⟩:=hq_;walk_at"g2";rw[hyl,List.take_length]at ek;walk_at"go";exact k _ _ n1 (fun x u hx=>sb _ _ (S2 _ _ (S1 _ _ hx)) (npd x u hx)) ek
theorem N5 (m:M K mg):Fc P w K mg base "coming" 3 ["house","plan"] (lG K m.aF (aQ P w K mg base (some 1)) lC):=⟨_,_,m.TD,m.sQ.kp,m.SZ,N7 m⟩
theorem wN (key:aM->Option (List Key))(rows:List aM)(k:List Key):(bA (iN key rows) k).getD (.int 0)= .int (oS key rows k):=by
 obtain⟨i,e⟩:=wU key rows k;have h:=P4 key k rows;rw[e]at h ⊢;rw[←h];rfl
theorem pairsN_mem {rz:List (Str×Int)}{f:Int}{z:Str}{t:Int}:∀{n:Nat},(z,t)∈bE rz f n↔z∈rz.map (·.1)/\∃i:Nat,i<n/\t=f+i
 | 0=>⟨(fun h=>by cases h),(fun⟨_,i,h,_⟩=>absurd h (Nat.not_lt_zero _))⟩
 | n+1=>by
  rw[i9,List.mem_append,pairsN_mem (n:=n)]
  constructor
  ·rintro (⟨h1,i,h2,h3⟩|h)
   ·exact⟨h1,i,by lia,h3⟩
   ·obtain⟨e,he,ee⟩:=List.mem_map.mp h;cases ee;exact⟨List.mem_map.mpr ⟨e,he,rfl⟩,n,by lia,rfl⟩
  ·rintro hq_;walk_at"g1";obtain⟨h1,i,h2,h3⟩:=hq_;walk_at"g2"
   by_cases hi:i=n
   ·subst hi;obtain⟨e,he,rfl⟩:=List.mem_map.mp h1;exact .inr (List.mem_map.mpr ⟨e,he,by rw[h3]⟩)
   ·exact .inl ⟨h1,i,by lia,h3⟩
theorem kE {rz:List (Str×Int)}(nd:(rz.map (·.1)).Nodup)(f:Int):∀n,(bE rz f n).Nodup
 | 0=>by simp[bE]
 | n+1=>by
  rw[i9,List.nodup_append];refine⟨kE nd f n,?_,?_⟩
  ·rw[List.Nodup,List.pairwise_map]at nd ⊢;exact nd.imp fun h z=>h (Prod.mk.inj z).1
  ·intro a ha b hb e;subst e;obtain⟨z,t⟩:=a;walk_at"g1";obtain⟨_,i,hi,ht⟩:=pairsN_mem.mp ha;walk_at"g2";obtain⟨e,_,ee⟩:=List.mem_map.mp hb;cases ee
   lia
theorem x6 (rz:List (Str×Int))(f:Int)(m:Nat):∀k,∃l,bE rz f (m+k)=bE rz f m++l
 | 0=>⟨[],by rw[Nat.add_zero,List.append_nil]⟩
 | k+1=>by
  obtain⟨l,e⟩:=x6 rz f m k;exact⟨l++_,by rw[←Nat.add_assoc,i9,e,List.append_assoc]⟩
theorem F9 {rz:List (Str×Int)}{f:Int}{n i:Nat}{z:Str}{t:Int} (h:(bE rz f n)[i]? =some (z,t)) (ht:t≠f):(z,t - 1)∈(bE rz f n).take i/\f<t:=by
 have hi:=(List.getElem?_eq_some_iff.mp h).1;walk_at"g1";obtain⟨hz,m,hm,rfl⟩:=pairsN_mem.mp (List.mem_of_getElem? h);walk_at"g2";have hm0:0<m:=by
  cases m with
  | zero=>exact absurd (by simp) ht
  | succ m=>exact Nat.succ_pos _
 obtain⟨l,el⟩:=x6 rz f m (n - m);rw[show m+(n - m)=n by lia]at el;have hge:(bE rz f m).length<=i:=by
  rcases Nat.lt_or_ge i (bE rz f m).length with hlt|hge
  ·rw[el,List.getElem?_append_left hlt]at h;walk_at"g1";obtain⟨_,j,hj,ej⟩:=pairsN_mem.mp (List.mem_of_getElem? h);walk_at"g2"
   lia
  ·exact hge
 refine⟨?_,by lia⟩;have h1:(z,f+(m:Int) - 1)∈bE rz f m:=pairsN_mem.mpr ⟨hz,m - 1,by lia,by lia⟩;rw[el,List.take_append,List.take_of_length_le hge];exact List.mem_append_left _ h1
def cN (p:Str×Int):List Key:=[.inr p.1,.inl p.2]
theorem EF {a b:Str×Int}(h:cN a=cN b):a=b:=by
 unfold cN at h;injection h with h1 h2;injection h2 with h2;exact Prod.ext (Sum.inr.inj h1) (Sum.inl.inj h2)
def mV (ps:List (Str×Int))(L C:List Key->Int)(z:Str)(f:Int):Nat->Int
 | 0=>cA ps z
 | n+1=>mV ps L C z f n - L (cN (z,f+(n:Int)))+C (cN (z,f+(n:Int)))
def jN (ps:List (Str×Int))(L C:List Key->Int)(f:Int)(pp:List (Str×Int)):List (List Key×V):=pp.map fun p=>(cN p,V.int (mV ps L C p.1 f (p.2 - f).toNat))
theorem wI {ps:List (Str×Int)}{L C:List Key->Int}{f:Int}{pp:List (Str×Int)} (nd:pp.Nodup) {p:Str×Int} (h:p∈pp):bA (jN ps L C f pp) (cN p)=some (.int (mV ps L C p.1 f (p.2 - f).toNat)):=by
 refine iF (e:=(cN p,V.int (mV ps L C p.1 f (p.2 - f).toNat))) ?_ (List.mem_map.mpr ⟨p,h,rfl⟩);unfold jN;rw[List.map_map,List.Nodup,List.pairwise_map];exact nd.imp fun hne z=>hne (EF z)
theorem FT {ps:List (Str×Int)}{L C:List Key->Int}{f:Int}{pp:List (Str×Int)}{p:Str×Int} (h:p∉pp):bA (jN ps L C f pp) (cN p)=none:=by
 have:∀e∈jN ps L C f pp,e.1≠cN p:=fun e he z=>by
  obtain⟨q,hq,rfl⟩:=List.mem_map.mp he;exact h (EF z▸hq)
 revert this;generalize jN ps L C f pp=kvs;intro this
 induction kvs with
 | nil=>rfl
 | cons a l ih =>
  rw[cV (this a (.head _))];exact ih fun e he=>this e (List.mem_cons_of_mem _ he)
inductive w9 (K:W.Frag)(C:Addr)(D:aV)(vs:List V)(H:Hp)(Q:VK)(E:XK):Prop
 | mk (h a:Addr) (f l:Int) (rz ps:List (Str×Int)) (ds:List aH) (us:List V) (rows:List aM) (_:vs=[.ref h,.ref a]) (_:aL C D H h f l rz ps ds) (_:(rz.map (·.1)).Nodup) (_:(ds.map (·.1)).Nodup) (_:(∀d∈ds,cZ (rz.map (·.1)) d)) (_:0<=f) (_:f<=l) (_:l<1000000000000) (_:l - f<=1000) (_:rz.length<=20) (_:SqL K H a us) (_:bI H us rows) (_:rows.length<=200) (_:∀p H',H p=none->Same H H'->H' p=some (.dT (jN ps (oS (oO ds) (rows.filter (cnt (ds.map (·.1)) f l))) (oS (lC ds) (rows.filter (cnt (ds.map (·.1)) f l))) f (bE rz f (l+1 - f).toNat)))->Q (.ref p) H'):w9 K C D vs H Q E
theorem SL (m:M K mg):bD P w K mg base CX0 4 m.BF m.AM ["house","plan"] (w9 K m.aF (aQ P w K mg base (some 1))):=by
 refine m.vK.ok sc_there (fun vs H Q E h=> ?_) (fun cdv A outer s H vs Q E hr h=> ?_)
 ·walk_at"g1";obtain⟨h,a,f,l,rz,ps,ds,us,rows,rfl,hh,nr,ndd,hin,h0,h1,h2,h3,lr,hS,hpl,hlen,k⟩:=h;walk_at"g2";rfl
 ·walk_at"g1";obtain⟨h,a,f,l,rz,ps,ds,us,rows,rfl,hh,nr,ndd,hin,h0,h1,h2,h3,lr,hS,hpl,hlen,k⟩:=h;walk_at"g2";have nd:=sc_there.nd;walk_at"hu";have sQ:= @N5 P w K mg base m;have j3:= @y9 P w K mg base m;have w_dc_House:=m.aY;have w_mc_House_pairs:= @lD P w K mg base m;have w_mc_House_found:= @qW P w K mg base m;refine⟨_,(aD (aX (i:=2) nd rfl (by walk_at"oi") (bG j3 hr (aA (pv 0) (aA (pv 1) aB))))
   (aD (aX (i:=3) nd rfl (by walk_at"oi") (bG sQ hr (aA (pv 0) (aA (pv 1) aB))))
   (aD (aX (i:=4) nd rfl (by walk_at"oi") rL)
   (aD (cX PassesOwn.never rfl (bM (gF 1 hr (pv 0))) (mK (n:=2) rfl (aW (aI (i:=5) nd rfl (by walk_at"oi")) (aW (aI (i:=6) nd rfl (by walk_at"oi")) cY))) (aE (dE (bV yJ (pv 6) (bP (pv 0) rfl) (cB _)) (aE (jV hu1 (pv 4) (bY (aA (pv 5) (aA (pv 6) aB))) (gZ 3 hr (pv 0) (aA (pv 5) aB)) rfl)) (aD (aX (i:=7) nd rfl (by walk_at"oi") (bY (aA (pv 5) (aA (aU tT (pv 6) aG) aB))))
   (aE (jV hu1 (pv 4) (bY (aA (pv 5) (aA (pv 6) aB))) (aU cG (aU tT (iE hu1 (pv 4) (pv 7) (fun _ _=>rfl)) (k8 hu1 (pv 2) (pv 7) aG ⟨rfl,rfl,rfl,rfl⟩)) (k8 hu1 (pv 3) (pv 7) aG ⟨rfl,rfl,rfl,rfl⟩)) rfl))))))
   (aE (aZ (pv 4))))))),?_⟩
  refine aN (σ:=[some (.ref h),some (.ref a),none,none,none,none,none,none]) rfl ?_;walk_at"cx";walk_at"g1";obtain⟨dx,qs,qp,qd,nk,kvs,e1,_⟩:=hh.ex;walk_at"g2";walk_at"go";refine zQ hh ndd hin hS hpl hlen fun pL H1 n1 S1 eL=> ?_;walk_at"go";refine zQ (bB hh S1) ndd hin (S1.seq hS) (dZ hpl S1) hlen fun pC H2 n2 S2 eC=> ?_;have e12:=S2 _ _ (S1 _ _ e1);walk_at"go";rename_i p H3 n3 S3 ep;have e13:=S3 _ _ e12;walk_at"go";have sA:Same H H3:=(S1.trans S2).trans S3;refine zN (bB hh sA) h0 h1 h2 h3 lr fun q ys H4 n4 S4 eq hpp=> ?_;have ep4:=S4 _ _ ep;have hqp:q≠p:=fun z=>by rw[z,ep]at n4;cases n4
  have npd:∀x u,H2 x=some u->x≠p:=fun x u hx z=>by rw[z,n3]at hx;cases hx
  have pnd:=kE nr f (l+1 - f).toNat;have pll:=kM rz f (l+1 - f).toNat;have plb:(l+1 - f).toNat * rz.length<=1001 * 20:=Nat.mul_le_mul (by lia) lr;have hyl:ys.length=(bE rz f (l+1 - f).toNat).length:=Paired.length hpp;generalize hLe:oS (oO ds) (rows.filter (cnt (ds.map (·.1)) f l))=LL at k;generalize hCe:oS (lC ds) (rows.filter (cnt (ds.map (·.1)) f l))=CC at k;walk_at"go";let Pv1:Nat->St->Hp->Prop:=fun i σ' H'=>SameBut p H4 H'/\H' p=some (.dT (jN ps LL CC f ((bE rz f (l+1 - f).toNat).take i)))/\∃x y z,σ'=[some (.ref h),some (.ref a),some (.ref pL),some (.ref pC),some (.ref p),x,y,z];refine dI ys Pv1 ⟨SameBut.refl,ep4,_,_,_,rfl⟩ (fun i σ' H' _ g=>SqL.of (g.1 _ _ eq hqp)) ?_ ?_
  ·rintro i x _ H' hx hq_;walk_at"g1";obtain⟨sb,ek,x1,x2,x3,rfl⟩:=hq_;walk_at"g2";have hi:i<ys.length:=(List.getElem?_eq_some_iff.mp hx).1;obtain⟨⟨z,t⟩,hrx⟩:∃r,(bE rz f (l+1 - f).toNat)[i]? =some r:=⟨_,List.getElem?_eq_getElem (by lia)⟩
   obtain⟨q1,rfl,hq1⟩:=Paired.at2 hpp hx hrx;have hq1':H' q1=some (.tup [.str z,.int t]):=sb _ _ hq1 fun zz=>by rw[zz,ep4]at hq1;cases hq1
   have sH2:Same H2 H':=fun x u hx=>sb _ _ (S4 _ _ (S3 _ _ hx)) (npd x u hx);have hh':=bB hh ((S1.trans S2).trans sH2);have e1':=sH2 _ _ e12;have eL':=sH2 _ _ (S2 _ _ eL);have eC':=sH2 _ _ eC;have hz:z∈rz.map (·.1):=(pairsN_mem.mp (List.mem_of_getElem? hrx)).1;have hnew:(z,t)∉(bE rz f (l+1 - f).toNat).take i:=lF pnd hrx;have hkl:(jN ps LL CC f ((bE rz f (l+1 - f).toNat).take i)).length<=20020:=by unfold jN;rw[List.length_map,List.length_take];lia
   have nd':((bE rz f (l+1 - f).toNat).take i).Nodup:=pnd.sublist (List.take_sublist _ _);walk_at"go";refine i7 (fun hc=> ?_) (fun hc=> ?_)
   ·subst hc;walk_at"go";refine AD hh' nr hz fun H5 S5=> ?_;walk_at"go";rename_i b6 H6 n6 S6 e6;have ek6:=S6 _ _ (S5 _ _ ek);refine oI (cN (z,t)) ek6 e6 (by rw[sizeLine_eq];lia) fun H7 B7 e7=> ?_;refine⟨(sb.trans (S5.trans S6).but).trans B7,?_,_,_,_,rfl⟩;rw[e7,oP _ (FT hnew),bT hrx];unfold jN;rw[List.map_append]
    congr 3
    show [(cN (z,t),V.int (cA ps z))]=[(cN (z,t),V.int (mV ps LL CC z t (t - t).toNat))];rw[show (t - t).toNat=0 by lia];rfl
   ·obtain⟨hah,hft⟩:=F9 hrx hc;have gL:(bA (iN (oO ds) (rows.filter (cnt (ds.map (·.1)) f l))) (cN (z,t - 1))).getD (.int 0)= .int (LL (cN (z,t - 1))):=by rw[←hLe];exact wN _ _ _
    have gC:(bA (iN (lC ds) (rows.filter (cnt (ds.map (·.1)) f l))) (cN (z,t - 1))).getD (.int 0)= .int (CC (cN (z,t - 1))):=by rw[←hCe];exact wN _ _ _
    walk_at"go";rename_i b6 H6 n6 S6 e6;refine rU (cN (z,t - 1)) (.inl (S6 _ _ ek)) e6 (wI nd' hah) ?_;walk_at"go";refine jT (S6 _ _ eL') ?_;walk_at"go";refine lA (cN (z,t - 1)) (S6 _ _ eL') e6 ?_;rw[gL];walk_at"go";refine jT (S6 _ _ eC') ?_;walk_at"go";refine lA (cN (z,t - 1)) (S6 _ _ eC') e6 ?_;rw[gC];walk_at"go";rename_i b8 H8 n8 S8 e8;have ek8:=S8 _ _ (S6 _ _ ek);refine oI (cN (z,t)) ek8 e8 (by rw[sizeLine_eq];lia) fun H9 B9 e9=> ?_;refine⟨(sb.trans (S6.trans S8).but).trans B9,?_,_,_,_,rfl⟩;rw[e9,oP _ (FT hnew),bT hrx];unfold jN;rw[List.map_append]
    congr 3
    show [(cN (z,t),V.int (mV ps LL CC z f (t - 1 - f).toNat - LL (cN (z,t - 1))+CC (cN (z,t - 1))))]=[(cN (z,t),V.int (mV ps LL CC z f (t - f).toNat))];rw[show (t - f).toNat=(t - 1 - f).toNat+1 by lia];show _=[(cN (z,t),V.int (mV ps LL CC z f (t - 1 - f).toNat - LL (cN (z,f+((t - 1 - f).toNat:Int)))+CC (cN (z,f+((t - 1 - f).toNat:Int)))))];rw[show f+((t - 1 - f).toNat:Int)=t - 1 by lia]
  ·rintro _ H' hq_;walk_at"g1";obtain⟨sb,ek,x1,x2,x3,rfl⟩:=hq_;walk_at"g2";rw[hyl,List.take_length]at ek;walk_at"go";refine k _ _ ?_ (fun x u hx=>sb _ _ (S4 _ _ (S3 _ _ (S2 _ _ (S1 _ _ hx)))) (npd x u (S2 _ _ (S1 _ _ hx)))) ek;cases hq:H p with
   | none=>rfl
   | some u=>rw[S2 _ _ (S1 _ _ hq)]at n3;cases n3
theorem QL (m:M K mg):Fc P w K mg base "there" 4 ["house","plan"] (w9 K m.aF (aQ P w K mg base (some 1))):=⟨_,_,m.X6,m.vK.kp,m.X7,SL m⟩
inductive yV (K:W.Frag)(vs:List V)(H:Hp)(Q:VK)(E:XK):Prop
 | mk (a:Addr) (us:List V) (rows:List aM) (_:vs=[.ref a]) (_:SqL K H a us) (_:bI H us rows) (_:rows.length<=200) (_:∀p H',H p=none->Same H H'->H' p=some (.dT (fZ rows))->Q (.ref p) H'):yV K vs H Q E
theorem UH {H:Hp}{Q:VK}{E:XK}{a:Addr}{us:List V}{rows:List aM} (hS:SqL K H a us) (hr:bI H us rows) (hl:rows.length<=200) (h:∀p H',H p=none->Same H H'->H' p=some (.dT (fZ rows))->Q (.ref p) H'):yV K [.ref a] H Q E:=⟨_,_,_,rfl,hS,hr,hl,h⟩
theorem HB (m:M K mg):bD P w K mg base CX0 1 m.sR m.sW ["plan"] (yV K):=by
 refine m.iJ.ok sc_added_up (fun vs H Q E h=> ?_) (fun cdv A outer s H vs Q E hr h=> ?_)
 ·walk_at"g1";obtain⟨a,us,rows,rfl,hS,hpl,hlen,k⟩:=h;walk_at"g2";rfl
 ·walk_at"g1";obtain⟨a,us,rows,rfl,hS,hpl,hlen,k⟩:=h;walk_at"g2";have nd:=sc_added_up.nd;walk_at"hu";refine⟨_,(aD (aX (i:=1) nd rfl (by walk_at"oi") rL)
   (aD (cX PassesOwn.never rfl (bM (pv 0)) (mK (n:=3) rfl (aW (aI (i:=2) nd rfl (by walk_at"oi")) (aW (aI (i:=3) nd rfl (by walk_at"oi")) (aW (aI (i:=4) nd rfl (by walk_at"oi")) cY)))) (aE (jV hu1 (pv 1) (bY (aA (pv 2) (aA (pv 3) aB))) (aU cG (k8 hu1 (pv 1) (bY (aA (pv 2) (aA (pv 3) aB))) aG ⟨rfl,rfl,rfl,rfl⟩) (pv 4)) rfl)))
   (aE (aZ (pv 1))))),?_⟩
  refine aN (σ:=[some (.ref a),none,none,none,none]) rfl ?_;walk_at"cx";have hul:us.length=rows.length:=Paired.length hpl;walk_at"go";rename_i p H1 n1 S1 e1;let Pv1:Nat->St->Hp->Prop:=fun i σ' H'=>SameBut p H1 H'/\H' p=some (.dT (fZ (rows.take i)))/\∃x y z,σ'=[some (.ref a),some (.ref p),x,y,z];refine dI us Pv1 ⟨SameBut.refl,e1,_,_,_,rfl⟩ (fun i σ' H' _ q=>(SameBut.same n1 S1 q.1).seq hS) ?_ ?_
  ·rintro i x _ H' hx hq_;walk_at"g1";obtain⟨sb,ek,x1,x2,x3,rfl⟩:=hq_;walk_at"g2";have hi:i<us.length:=(List.getElem?_eq_some_iff.mp hx).1;obtain⟨⟨t,n,j⟩,hrx⟩:∃r,rows[i]? =some r:=⟨_,List.getElem?_eq_getElem (by lia)⟩
   obtain⟨q,rfl,hq⟩:=Paired.at2 hpl hx hrx;have hq':H' q=some (.tup [.int t,.str n,.int j]):=(SameBut.same n1 S1 sb) _ _ hq;obtain⟨i0,ei⟩:=P6 (rows.take i) t n;have hkl:=rS (rows.take i);rw[List.length_take]at hkl;walk_at"go";refine jT ek ?_;walk_at"go";rename_i b1 H2 n2 S2 e2;refine lA (dM t n) (by walk_at"hp") (by assumption) ?_;rw[ei];walk_at"go";rename_i b3 H3 n3 S3 e3;refine oI (dM t n) (by walk_at"hp") (by assumption) (by rw[sizeLine_eq];lia) fun H4 B4 e4=> ?_;refine⟨by walk_at"sb",?_,_,_,_,rfl⟩;rw[e4,bT hrx,hG];unfold zU;rw[ei];rfl
  ·rintro _ H' hq_;walk_at"g1";obtain⟨sb,ek,x1,x2,x3,rfl⟩:=hq_;walk_at"g2";rw[hul,List.take_length]at ek;walk_at"go";exact k _ _ n1 (SameBut.same n1 S1 sb) ek
theorem wA (m:M K mg):Fc P w K mg base "added_up" 1 ["plan"] (yV K):=⟨_,_,m.L6,m.iJ.kp,m.LY,HB m⟩
theorem kX {α β γ:Type}{F:α->γ->Prop} (g:β->γ):∀{l:List β}{m:List α},Paired (fun x y=>F y (g x)) l m->Paired F m (l.map g)
 | _,_,.nil=> .nil
 | _,_,.cons r t=> .cons r (kX g t)
theorem D2 {H:Hp}{Q:VK}{p:Addr}{xs:List V}{j:Nat}{v:V} (e:SqL K H p xs) (hx:xs[j]? =some v) (h:Q v H):EK K (.ref p) (.int (j:Int)) H Q:=⟨p,xs,_,v,rfl,rfl,e,u7 hx,h⟩
theorem aBA {kvs:List (List Key×V)}:∀(o:Obj) (x:HO),HO.dT kvs≠ .frz o x:=fun _ _ z=>by cases z
theorem QY {C:Addr}{D:aV}{H H':Hp}{p:Addr}{kvs:List (List Key×V)}{h:Addr}{f l:Int}{rz ps:List (Str×Int)}{ds:List aH} (x:aL C D H h f l rz ps ds) (e:H p=some (.dT kvs)) (s:SameBut p H H'):aL C D H' h f l rz ps ds:=by
 walk_at"g1";obtain⟨dx,qs,qp,qd,nk,kv,e1,e2,e3,e4,e5,e6,e7⟩:=x.ex;walk_at"g2";have ne:∀(q:Addr) (o:HO),H q=some o->(∀k,o≠ .dT k)->q≠p:=fun q o h hn z=>by
  rw[z,e]at h;cases h;exact hn _ rfl
 exact⟨dx,qs,qp,qd,nk,kv,s _ _ e1 (ne _ _ e1 fun _ z=>by cases z),s _ _ e2 (ne _ _ e2 fun _ z=>by cases z),s _ _ e3 (ne _ _ e3 fun _ z=>by cases z),e4,e5,s _ _ e6 (ne _ _ e6 fun _ z=>by cases z),Paired.imp' (fun _ d hd=>⟨hd.1,D.but hd.2 e trivial s⟩) e7⟩
theorem tN {rz:List (Str×Int)}{f:Int}{n:Nat} (h:rz.length<=20) (hn:n<=1001):(bE rz f n).length<=20100:=by
 rw[kM]
 calc _<=_:=Nat.le_refl _
  _<=20100:=by
   first|exact Nat.le_trans (Nat.mul_le_mul hn h) (by decide)|exact Nat.le_trans (Nat.mul_le_mul h hn) (by decide)
theorem MZ {H:Hp}{Q:VK}{p:Addr}{z:Str}{ss:List Str} (e:SqL K H p (ss.map V.str)) (h:Q (.bl (!decide (z∈ss))) H):rIn K true (.str z) (.ref p) H Q:=by
 walk_at"g1";obtain⟨p',xs,e1,e2,e3,e4,e5⟩:=FQ (Q:=fun v H'=>v= .bl (decide (z∈ss))/\H'=H) e ⟨rfl,rfl⟩;walk_at"g2";refine⟨p',xs,e1,e2,e3,e4,?_⟩;have e5:V.bl (inV (.str z) xs)= .bl (decide (z∈ss)):=e5.1;have e6:inV (.str z) xs=decide (z∈ss):=by injection e5
 show Q (.bl (!inV (.str z) xs)) H;rw[e6];exact h
def nP (ds:List aH)(f l t:Int)(n:Str):Int:=match i8 ds n with
 | some d=>qH f l d t
 | none=>0
theorem HR {ds:List aH}{n:Str} (h:n∉ds.map (·.1)):i8 ds n=none:=by
 unfold i8;rw[List.find?_eq_none];intro d hd z;exact h (List.mem_map.mpr ⟨d,hd,by simpa using z⟩)
inductive u9 (C:Addr)(D:aV)(vs:List V)(H:Hp)(Q:VK)(E:XK):Prop
 | mk (h:Addr) (t:Int) (n:Str) (f l:Int) (rz ps:List (Str×Int)) (ds:List aH) (_:vs=[.ref h,.int t,.str n]) (_:aL C D H h f l rz ps ds) (_:(ds.map (·.1)).Nodup) (_:0<=f) (_:ds.length<=20) (_:∀H',Same H H'->Q (.int (nP ds f l t n)) H'):u9 C D vs H Q E
theorem ZH {C:Addr}{D:aV}{H:Hp}{Q:VK}{E:XK}{h:Addr}{t:Int}{n:Str}{f l:Int}{rz ps:List (Str×Int)}{ds:List aH} (hh:aL C D H h f l rz ps ds) (nd:(ds.map (·.1)).Nodup) (hf:0<=f) (ld:ds.length<=20) (k:∀H',Same H H'->Q (.int (nP ds f l t n)) H'):u9 C D [.ref h,.int t,.str n] H Q E:=⟨_,_,_,_,_,_,_,_,rfl,hh,nd,hf,ld,k⟩
theorem yC (m:M K mg):bD P w K mg base CX0 8 m.lQ m.lP ["house","turn","name"] (u9 m.aF (aQ P w K mg base (some 1))):=by
 refine m.iI.ok sc_most_through (fun vs H Q E h=> ?_) (fun cdv A outer s H vs Q E hr h=> ?_)
 ·walk_at"g1";obtain⟨h,t,n,f,l,rz,ps,ds,rfl,hh,ndd,hf,ld,k⟩:=h;walk_at"g2";rfl
 ·walk_at"g1";obtain⟨h,t,n,f,l,rz,ps,ds,rfl,hh,ndd,hf,ld,k⟩:=h;walk_at"g2";have nd:=sc_most_through.nd;walk_at"hu";have w_dc_House:=m.aY;have w_mc_House_doors:= @lE P w K mg base m;have w_mc_House_lets:= @CK P w K mg base m;refine⟨_,(aD (dE (bV EZ (pv 2) (gF 1 hr (pv 0)) (by with_unfolding_all rfl)) (aE (aZ aG)) b5)
   (aE (aZ (gZ 3 hr (pv 0) (aA (pv 2) (aA (pv 1) aB)))))),?_⟩
  refine aN (σ:=[some (.ref h),some (.int t),some (.str n)]) rfl ?_;walk_at"cx";walk_at"g1";obtain⟨dx,qs,qp,qd,nk,kvs0,e1,_⟩:=hh.ex;walk_at"g2";walk_at"go";refine lL hh fun p1 H1 n1 S1 f1=> ?_;walk_at"go";refine MZ (SqL.of f1) ?_;walk_at"go"
  by_cases hm:n∈ds.map (·.1)
  ·walk_at"g1";obtain⟨d,hd,rfl,hdo⟩:=sL hm;walk_at"g2";rw[decide_eq_true hm];have e11:=S1 _ _ e1;have hk:nP ds f l t d.1=qH f l d t:=by unfold nP;rw[hdo]
   rw[hk]at k;walk_at"go";refine W4 (d:=d) (bB hh S1) ndd hd hf fun H2 S2=> ?_;exact k _ (S1.trans S2)
  ·rw[decide_eq_false hm];have hk:nP ds f l t n=0:=by unfold nP;rw[HR hm]
   rw[hk]at k;walk_at"go";exact k _ S1
theorem xO (m:M K mg):Fc P w K mg base "most_through" 8 ["house","turn","name"] (u9 m.aF (aQ P w K mg base (some 1))):=⟨_,_,m.A9,m.iI.kp,m.AR,yC m⟩
def flK (w:Str)(p:Str×Int):List Key:=[.inl p.2,.inr w,.inr p.1]
def szF (rz:List (Str×Int))(z:Str):Int:=match rz.find? fun e=>decide (e.1=z) with
 | some e=>e.2
 | none=>0
theorem vG:∀{rz:List (Str×Int)},(rz.map (·.1)).Nodup->∀{e:Str×Int},e∈rz->szF rz e.1=e.2
 | a::l,nd,e,h=>by
  have nd':=List.nodup_cons.mp nd;rcases List.mem_cons.mp h with rfl|h
  ·unfold szF;rw[List.find?_cons_of_pos (by simp)]
  ·have hne:¬a.1=e.1:=fun z=>nd'.1 (show a.1∈_ by rw[z];exact List.mem_map.mpr ⟨e,h,rfl⟩);have ih:=vG nd'.2 h;unfold szF at ih ⊢;rw[List.find?_cons_of_neg (by simpa using hne)];exact ih
def FJ (e:List Key×V):Str×Int:=match e.1 with
 | [.inl t,.inr n]=>(n,t)
 | _=>(⟨#[]⟩,0)
def dfB (ds:List aH)(f l:Int)(e:List Key×V):Bool:=decide (mD e.2>nP ds f l (FJ e).2 (FJ e).1)
def dfK (ds:List aH)(f l:Int)(rows:List aM):List (List Key):=((fZ rows).filter (dfB ds f l)).map fun e=>flK "door" (FJ e)
abbrev goL (ds:List aH)(f l:Int)(rows:List aM):List Key->Int:=oS (oO ds) (rows.filter (cnt (ds.map (·.1)) f l))
abbrev goC (ds:List aH)(f l:Int)(rows:List aM):List Key->Int:=oS (lC ds) (rows.filter (cnt (ds.map (·.1)) f l))
def lvB (ps:List (Str×Int))(L C LT:List Key->Int)(f:Int)(x:Str×Int):Bool:=decide (LT (cN x)>mV ps L C x.1 f (x.2 - f).toNat)
def lfK (rz ps:List (Str×Int))(L C LT:List Key->Int)(f l:Int):List (List Key):=(((bE rz f (l+1 - f).toNat).filter fun x=>decide (x.2<l)).filter (lvB ps L C LT f)).map (flK "leave")
def fuB (rz ps:List (Str×Int))(L C:List Key->Int)(f:Int)(x:Str×Int):Bool:=decide (mV ps L C x.1 f (x.2 - f).toNat>szF rz x.1)
def ffK (rz ps:List (Str×Int))(L C:List Key->Int)(f l:Int):List (List Key):=((bE rz f (l+1 - f).toNat).filter (fuB rz ps L C f)).map (flK "full")
def fI (rz ps:List (Str×Int))(ds:List aH)(f l:Int)(rows:List aM):List (List Key):=(dfK ds f l rows++lfK rz ps (goL ds f l rows) (goC ds f l rows) (goL ds f l rows) f l)++ffK rz ps (goL ds f l rows) (goC ds f l rows) f l
theorem JJ (ds:List aH)(f l:Int)(rows:List aM):(dfK ds f l rows).length<=rows.length:=by
 unfold dfK;rw[List.length_map];exact Nat.le_trans (List.length_filter_le _ _) (rS rows)
theorem WW {rz ps:List (Str×Int)}{L C LT:List Key->Int}{f l:Int} (h:(bE rz f (l+1 - f).toNat).length<=20100):(lfK rz ps L C LT f l).length<=20100:=by
 unfold lfK;rw[List.length_map];exact Nat.le_trans (List.length_filter_le _ _) (Nat.le_trans (List.length_filter_le _ _) h)
theorem W9 {rz ps:List (Str×Int)}{L C:List Key->Int}{f l:Int} (h:(bE rz f (l+1 - f).toNat).length<=20100):(ffK rz ps L C f l).length<=20100:=by
 unfold ffK;rw[List.length_map];exact Nat.le_trans (List.length_filter_le _ _) h
theorem QQ (rows:List aM){k:List Key}(h:k∈(fZ rows).map (·.1)):∃r∈rows,k=dM r.1 r.2.1:=by
 induction rows using jZ with
 | h0=>exact nomatch h
 | hs l r ih =>
  rw[hG]at h;obtain⟨e,he,rfl⟩:=List.mem_map.mp h;rcases wV he with h'|⟨h1,h2⟩
  ·obtain⟨r',hr',e'⟩:=ih (List.mem_map.mpr ⟨e,h',rfl⟩);exact⟨r',List.mem_append_left _ hr',e'⟩
  ·exact⟨r,List.mem_append_right _ (.head _),h1⟩
theorem mem_dfK {ds:List aH}{f l:Int}{rows:List aM}{k:List Key}:k∈dfK ds f l rows↔∃r∈rows,k=flK "door" (r.2.1,r.1)/\c9 rows r.1 r.2.1>nP ds f l r.1 r.2.1:=by
 unfold dfK
 constructor
 ·intro h;obtain⟨e,he,rfl⟩:=List.mem_map.mp h;obtain⟨h1,h2⟩:=List.mem_filter.mp he;obtain⟨r,hr,er⟩:=QQ rows (List.mem_map.mpr ⟨e,h1,rfl⟩);walk_at"g1";obtain⟨t,n,i,rfl⟩:=(cW rows).2 e h1;walk_at"g2";obtain⟨e1,e2⟩:=D6 er;have hv:=iF (cW rows).1 h1;have ht:=rH t n rows;rw[hv]at ht;have ht':i=c9 rows t n:=ht;refine⟨r,hr,?_,?_⟩
  ·rw[←e1,←e2];rfl
  ·rw[←e1,←e2,←ht'];exact of_decide_eq_true h2
 ·rintro hq_;walk_at"g1";obtain⟨r,hr,rfl,h⟩:=hq_;walk_at"g2";have ht:=rH r.1 r.2.1 rows;cases hv:bA (fZ rows) (dM r.1 r.2.1) with
  | none =>
   exfalso
   obtain⟨l1,l2,rfl⟩:=List.append_of_mem hr;have key:∀l2:List aM,(bA (fZ (l1++r::l2)) (dM r.1 r.2.1)).isSome=true:=fun l2=>by
    induction l2 using jZ with
    | h0 =>
     rw[hG];unfold zU;rw[kW,if_pos rfl];rfl
    | hs l a ih =>
     rw[←List.cons_append,←List.append_assoc,hG];unfold zU;rw[kW]
     split
     ·rfl
     ·exact ih
   have:=key l2;rw[hv]at this;cases this
  | some v =>
   have hm:=pJ hv;walk_at"g1";obtain⟨t',n',i,e⟩:=(cW rows).2 _ hm;walk_at"g2";obtain⟨e1,e2⟩:=Prod.mk.inj e;subst e2;rw[hv]at ht;have ht':i=c9 rows r.1 r.2.1:=ht;refine List.mem_map.mpr ⟨(dM r.1 r.2.1,.int i),List.mem_filter.mpr ⟨hm,?_⟩,rfl⟩;show decide (i>nP ds f l r.1 r.2.1)=true;rw[ht'];exact decide_eq_true h
theorem mem_lfK {rz ps:List (Str×Int)}{L C LT:List Key->Int}{f l:Int}{k:List Key}:k∈lfK rz ps L C LT f l↔∃z∈rz.map (·.1),∃i:Nat,f+(i:Int)<l/\k=flK "leave" (z,f+(i:Int))/\LT (cN (z,f+(i:Int)))>mV ps L C z f i:=by
 unfold lfK
 constructor
 ·intro h;walk_at"g1";obtain⟨⟨z,t⟩,he,rfl⟩:=List.mem_map.mp h;walk_at"g2";obtain⟨h1,h2⟩:=List.mem_filter.mp he;obtain⟨h3,h4⟩:=List.mem_filter.mp h1;walk_at"g1";obtain⟨hz,i,hi,rfl⟩:=pairsN_mem.mp h3;walk_at"g2";have h4:f+(i:Int)<l:=by simpa using h4
  have h2:=of_decide_eq_true h2;rw[show ((z,f+(i:Int)).2 - f).toNat=i by show (f+(i:Int) - f).toNat=i;lia]at h2;exact⟨z,hz,i,h4,rfl,h2⟩
 ·rintro hq_;walk_at"g1";obtain⟨z,hz,i,hi,rfl,h⟩:=hq_;walk_at"g2";refine List.mem_map.mpr ⟨(z,f+(i:Int)),List.mem_filter.mpr ⟨List.mem_filter.mpr ⟨pairsN_mem.mpr ⟨hz,i,by lia,rfl⟩,by simpa using hi⟩,?_⟩,rfl⟩;unfold lvB;rw[show ((z,f+(i:Int)).2 - f).toNat=i by show (f+(i:Int) - f).toNat=i;lia];exact decide_eq_true h
theorem U9 {rz ps:List (Str×Int)}(nr:(rz.map (·.1)).Nodup){L C:List Key->Int}{f l:Int}{k:List Key}:k∈ffK rz ps L C f l↔∃e∈rz,∃i:Nat,f+(i:Int)<=l/\k=flK "full" (e.1,f+(i:Int))/\mV ps L C e.1 f i>e.2:=by
 unfold ffK
 constructor
 ·intro h;walk_at"g1";obtain⟨⟨z,t⟩,he,rfl⟩:=List.mem_map.mp h;walk_at"g2";obtain⟨h1,h2⟩:=List.mem_filter.mp he;walk_at"g1";obtain⟨hz,i,hi,rfl⟩:=pairsN_mem.mp h1;walk_at"g2";obtain⟨e,hez,hz'⟩:=List.mem_map.mp hz;have hz':e.1=z:=hz';subst hz';have h2:=of_decide_eq_true h2;rw[show ((e.1,f+(i:Int)).2 - f).toNat=i by show (f+(i:Int) - f).toNat=i;lia,show szF rz ((e.1,f+(i:Int)):Str×Int).1=e.2 from vG nr hez]at h2;exact⟨e,hez,i,by lia,rfl,h2⟩
 ·rintro hq_;walk_at"g1";obtain⟨e,he,i,hi,rfl,h⟩:=hq_;walk_at"g2";refine List.mem_map.mpr ⟨(e.1,f+(i:Int)),List.mem_filter.mpr ⟨pairsN_mem.mpr ⟨List.mem_map.mpr ⟨e,he,rfl⟩,i,by lia,rfl⟩,?_⟩,rfl⟩;unfold fuB;rw[show ((e.1,f+(i:Int)).2 - f).toNat=i by show (f+(i:Int) - f).toNat=i;lia,show szF rz ((e.1,f+(i:Int)):Str×Int).1=e.2 from vG nr he];exact decide_eq_true h
theorem LA {rz ps:List (Str×Int)}(nr:(rz.map (·.1)).Nodup)(ds:List aH)(f l:Int)(rows:List aM):∀r∈fI rz ps ds f l rows,r.map dS=[true,false,false]:=fun k hk=>by
 unfold fI at hk;rcases List.mem_append.mp hk with hk|hk
 ·rcases List.mem_append.mp hk with hk|hk
  ·walk_at"g1";obtain⟨r,_,rfl,_⟩:=mem_dfK.mp hk;walk_at"g2";rfl
  ·walk_at"g1";obtain⟨z,_,i,_,rfl,_⟩:=mem_lfK.mp hk;walk_at"g2";rfl
 ·walk_at"g1";obtain⟨e,_,i,_,rfl,_⟩:=(U9 nr).mp hk;walk_at"g2";rfl
inductive u3 (K:W.Frag)(C:Addr)(D:aV)(vs:List V)(H:Hp)(Q:VK)(E:XK):Prop
 | mk (h a:Addr) (f l:Int) (rz ps:List (Str×Int)) (ds:List aH) (us:List V) (rows:List aM) (_:vs=[.ref h,.ref a]) (_:aL C D H h f l rz ps ds) (_:(ds.map (·.1)).Nodup) (_:0<=f) (_:ds.length<=20) (_:SqL K H a us) (_:bI H us rows) (_:rows.length<=200) (_:∀p ys H',H p=none->Same H H'->H' p=some (.lst ys)->KRows H' ys (dfK ds f l rows)->Q (.ref p) H'):u3 K C D vs H Q E
theorem Z9 {C:Addr}{D:aV}{H:Hp}{Q:VK}{E:XK}{h a:Addr}{f l:Int}{rz ps:List (Str×Int)}{ds:List aH}{us:List V}{rows:List aM} (hh:aL C D H h f l rz ps ds) (nd:(ds.map (·.1)).Nodup) (hf:0<=f) (ld:ds.length<=20) (hS:SqL K H a us) (hp:bI H us rows) (hl:rows.length<=200) (k:∀p ys H',H p=none->Same H H'->H' p=some (.lst ys)->KRows H' ys (dfK ds f l rows)->Q (.ref p) H'):u3 K C D [.ref h,.ref a] H Q E:=⟨_,_,_,_,_,_,_,_,_,rfl,hh,nd,hf,ld,hS,hp,hl,k⟩
theorem AH (m:M K mg):bD P w K mg base CX0 9 m.mX m.nI ["house","plan"] (u3 K m.aF (aQ P w K mg base (some 1))):=by
 refine m.jJ.ok sc_door_faults (fun vs H Q E h=> ?_) (fun cdv A outer s H vs Q E hr h=> ?_)
 ·walk_at"g1";obtain⟨h,a,f,l,rz,ps,ds,us,rows,rfl,hh,ndd,hf,ld,hS,hpl,hlen,k⟩:=h;walk_at"g2";rfl
 ·walk_at"g1";obtain⟨h,a,f,l,rz,ps,ds,us,rows,rfl,hh,ndd,hf,ld,hS,hpl,hlen,k⟩:=h;walk_at"g2";have nd:=sc_door_faults.nd;walk_at"hu";have iJ:= @wA P w K mg base m;have iI:= @xO P w K mg base m;have w_dc_House:=m.aY;refine⟨_,(aD (aX (i:=2) nd rfl (by walk_at"oi") (bG iJ hr (aA (pv 1) aB)))
   (aE (aZ (vB (cD (N:=["turn","name","going","house"]) (nl:=2) (ci:=[2,0]) rfl (blk (s.heap.objs.size+1) rfl rfl rfl (by kernel_rfl)) (QM (pv 2)) (fun _ _ _ _=>(gS (K:=K) (n:=2) rfl (aW (aI (i:=0) (show (["turn","name","going","house"]:List Str).Nodup by decide +kernel) rfl (by walk_at"oi")) (aW (aI (i:=1) (show (["turn","name","going","house"]:List Str).Nodup by decide +kernel) rfl (by walk_at"oi")) cY)))) (fun _ _ _ _=>(j7 (bV pK (iE hu1 (pv 2) (bY (aA (pv 0) (aA (pv 1) aB))) (fun _ _=>rfl)) (bG iI hr (aA (pv 3) (aA (pv 0) (aA (pv 1) aB)))) (cB _)))) (fun _ _ _ _=>(bY (aA (pv 0) (aA gR (aA (pv 1) aB)))))))))),?_⟩
  refine aN (σ:=[some (.ref h),some (.ref a),none]) rfl ?_;walk_at"cx";walk_at"go";refine UH hS hpl hlen fun p1 H1 n1 S1 e1=> ?_;walk_at"go";refine sP e1 aBA ?_;walk_at"go";refine RW ?_;walk_at"go";refine P5 e1 fun o H2 B2 e2=> ?_;have hg:=cW rows;have hln:=rS rows;have hh2:aL m.aF (aQ P w K mg base (some 1)) H2 h f l rz ps ds:=QY (bB hh S1) e1 B2;refine aAt (dfB ds f l) (fun e y H=>∃q,y= .ref q/\H q=some (.tup ((flK "door" (FJ e)).map kV))) (fun _ _ _ _ ⟨q,h1,h2⟩ s=>⟨q,h1,s _ _ h2⟩) (fun e he=>by
   walk_at"g1";obtain⟨t,n,i,rfl⟩:=hg.2 e he;walk_at"g2";rfl) (by rw[sizeLine_eq];lia) (rest:=[some (.ref p1),some (.ref h)]) (by rfl) e2 ?_ ?_ ?_
  ·intro k1 k2 v H3 hm s3 R hR;walk_at"g1";obtain⟨t,n,i,hte⟩:=hg.2 _ hm;walk_at"g2";have h1:k1= .inl t/\k2= .inr n/\v= .int i:=by
    have e1':=congrArg Prod.fst hte;have e2':=congrArg Prod.snd hte;have e1'':[k1,k2]=dM t n:=e1';unfold dM at e1'';injection e1'' with a1 a2;injection a2 with a2;exact⟨a1,a2,e2'⟩
   obtain⟨rfl,rfl,rfl⟩:=h1;have hv:bA (fZ rows) (dM t n)=some (.int i):=iF hg.1 hm;show (_:TT) (some (V.int t)::some (V.str n)::[some (.ref p1),some (.ref h)]) H3 R;walk_at"go";rename_i b4 H4 n4 S4 e4;refine rU (dM t n) (.inr ⟨o,S4 _ _ (s3 _ _ e2)⟩) e4 hv ?_;walk_at"go";refine ZH (bB hh2 (s3.trans S4)) ndd hf ld fun H5 S5=> ?_;walk_at"go";exact hR _ (S4.trans S5)
  ·intro k1 k2 v H3 hm hcc s3 R hR;walk_at"g1";obtain⟨t,n,i,hte⟩:=hg.2 _ hm;walk_at"g2";have h1:k1= .inl t/\k2= .inr n/\v= .int i:=by
    have e1':=congrArg Prod.fst hte;have e2':=congrArg Prod.snd hte;have e1'':[k1,k2]=dM t n:=e1';unfold dM at e1'';injection e1'' with a1 a2;injection a2 with a2;exact⟨a1,a2,e2'⟩
   obtain⟨rfl,rfl,rfl⟩:=h1;show (_:TE) (some (V.int t)::some (V.str n)::[some (.ref p1),some (.ref h)]) H3 R;walk_at"go";rename_i b4 H4 n4 S4 e4;exact hR _ _ ⟨b4,rfl,e4⟩ S4
  intro ys H3 s3 hys;have kr:KRows H3 ys (dfK ds f l rows):=kX (fun e=>flK "door" (FJ e)) hys;walk_at"go";rename_i p4 H4 n4 S4 e4;have eo:H4 p1=some (.frz o (.dT (fZ rows))):=S4 _ _ (s3 _ _ e2);refine jY eo fun H5 B5 e5=> ?_;have hpq:p4≠p1:=fun z=>by rw[z,s3 _ _ e2]at n4;cases n4
  have hn:H p4=none:=by
   cases hq:H p4 with
   | none=>rfl
   | some u =>
    have:=s3 _ _ (B2 _ _ (S1 _ _ hq) hpq);rw[n4]at this;cases this
  have fr:∀b u,H b=some u->b≠p1:=fun b u hb z=>by rw[z,n1]at hb;cases hb
  exact k p4 ys H5 hn (fun b u hb=>B5 _ _ (S4 _ _ (s3 _ _ (B2 _ _ (S1 _ _ hb) (fr b u hb)))) (fr b u hb)) (B5 _ _ e4 hpq) (KRows.map (fun q xs hq=>B5 _ _ hq fun z=>by rw[z,eo]at hq;cases hq) (kr.same S4))
theorem zI (m:M K mg):Fc P w K mg base "door_faults" 9 ["house","plan"] (u3 K m.aF (aQ P w K mg base (some 1))):=⟨_,_,m.DL,m.jJ.kp,m.DD,AH m⟩
inductive vI (K:W.Frag)(C:Addr)(D:aV)(vs:List V)(H:Hp)(Q:VK)(E:XK):Prop
 | mk (h a b:Addr) (f l:Int) (rz ps:List (Str×Int)) (ds:List aH) (us:List V) (rows:List aM) (L C':List Key->Int) (_:vs=[.ref h,.ref a,.ref b]) (_:aL C D H h f l rz ps ds) (_:(rz.map (·.1)).Nodup) (_:(ds.map (·.1)).Nodup) (_:(∀d∈ds,cZ (rz.map (·.1)) d)) (_:0<=f) (_:f<=l) (_:l<1000000000000) (_:l - f<=1000) (_:rz.length<=20) (_:SqL K H a us) (_:bI H us rows) (_:rows.length<=200) (_:H b=some (.dT (jN ps L C' f (bE rz f (l+1 - f).toNat)))) (_:∀p ys H',H p=none->Same H H'->H' p=some (.lst ys)->KRows H' ys (lfK rz ps L C' (goL ds f l rows) f l)->Q (.ref p) H'):vI K C D vs H Q E
theorem yK (m:M K mg):bD P w K mg base CX0 5 m.lN m.lV ["house","plan","inside"] (vI K m.aF (aQ P w K mg base (some 1))):=by
 refine m.iL.ok sc_leave_faults (fun vs H Q E h=> ?_) (fun cdv A outer s H vs Q E hr h=> ?_)
 ·walk_at"g1";obtain⟨h,a,b,f,l,rz,ps,ds,us,rows,L,C',rfl,hh,nr,ndd,hin,h0,h1,h2,h3,lr,hS,hpl,hlen,eb,k⟩:=h;walk_at"g2";rfl
 ·walk_at"g1";obtain⟨h,a,b,f,l,rz,ps,ds,us,rows,L,C',rfl,hh,nr,ndd,hin,h0,h1,h2,h3,lr,hS,hpl,hlen,eb,k⟩:=h;walk_at"g2";have nd:=sc_leave_faults.nd;walk_at"hu";have j3:= @y9 P w K mg base m;have w_dc_House:=m.aY;have w_mc_House_pairs:= @lD P w K mg base m;refine⟨_,(aD (aX (i:=3) nd rfl (by walk_at"oi") (bG j3 hr (aA (pv 0) (aA (pv 1) aB))))
   (aD (zA (i:=4) nd rfl (by walk_at"oi") (N:=["pair","house"]) (nl:=1) (ci:=[0]) rfl (blk (s.heap.objs.size+1) rfl rfl rfl (by kernel_rfl)) (bM (gF 1 hr (pv 0))) (fun _ _ _ _=>(aI (i:=0) (show (["pair","house"]:List Str).Nodup by decide +kernel) rfl (by walk_at"oi"))) (fun _ _ _ _=>(j7 (bV pM (dF (gE (K:=K)) (pv 0) aG (fun _ _=>rfl)) (qT (K:=K) (pv 1) rfl) (cB _)))) (fun _ _ _ _=>(pv 0)))
   (aE (aZ (cD (N:=["room","turn","inside","leave"]) (nl:=2) (ci:=[2,3]) rfl (blk (s.heap.objs.size+1) rfl rfl rfl (by kernel_rfl)) (bM (pv 4)) (fun _ _ _ _=>(gS (K:=K) (n:=2) rfl (aW (aI (i:=0) (show (["room","turn","inside","leave"]:List Str).Nodup by decide +kernel) rfl (by walk_at"oi")) (aW (aI (i:=1) (show (["room","turn","inside","leave"]:List Str).Nodup by decide +kernel) rfl (by walk_at"oi")) cY)))) (fun _ _ _ _=>(j7 (bV pK (k8 hu1 (pv 3) (bY (aA (pv 0) (aA (pv 1) aB))) aG ⟨rfl,rfl,rfl,rfl⟩) (iE hu1 (pv 2) (bY (aA (pv 0) (aA (pv 1) aB))) (fun _ _=>rfl)) (cB _)))) (fun _ _ _ _=>(bY (aA (pv 1) (aA gR (aA (pv 0) aB)))))))))),?_⟩
  refine aN (σ:=[some (.ref h),some (.ref a),some (.ref b),none,none]) rfl ?_;walk_at"cx";walk_at"g1";obtain⟨dx,qs,qp,qd,nk,kvs0,e1,_⟩:=hh.ex;walk_at"g2";walk_at"go";refine zQ hh ndd hin hS hpl hlen fun p1 H1 n1 S1 f1=> ?_;have e11:=S1 _ _ e1;walk_at"go";refine zN (bB hh S1) h0 h1 h2 h3 lr fun p2 ys H2 n2 S2 f2 hys=> ?_;have e12:=S2 _ _ e11;walk_at"go";have hpn:(bE rz f (l+1 - f).toNat).length<=20100:=tN lr (by lia);have hyl:ys.length=(bE rz f (l+1 - f).toNat).length:=Paired.length hys;refine oA (α:=Str×Int) (xs:=bE rz f (l+1 - f).toNat) (vs:=ys) (bZ H2) (fun x=>decide (x.2<l)) (fun x y H=>bZ H y x) (fun _ _ _ _ ⟨q,h1,h2⟩ s=>⟨q,h1,s _ _ h2⟩) (by rw[sizeLine_eq];lia) (rest:=[some (.ref h)]) (by rfl) (SqL.of f2) hys ?_ ?_ ?_
  ·rintro v ⟨z,u⟩ H3 ⟨q3,rfl,hq3⟩ hm s3 R hR;have hq3:H3 q3=some (.tup [.str z,.int u]):=s3 _ _ hq3;have e13:=s3 _ _ e12;walk_at"go";refine⟨q3,_,1,_,rfl,rfl,SqT.of hq3,rfl,?_⟩;walk_at"go";exact hR _ (Same.refl _)
  ·rintro v x H3 ⟨q3,rfl,hq3⟩ hm - s3 R hR;walk_at"go";exact hR _ _ ⟨q3,rfl,s3 _ _ hq3⟩ (Same.refl _)
  intro zs H3 s3 hzs;have hzp:Paired (bZ H3) zs ((bE rz f (l+1 - f).toNat).filter fun x=>decide (x.2<l)):=mF hzs;have hfl:((bE rz f (l+1 - f).toNat).filter fun x=>decide (x.2<l)).length<=20100:=Nat.le_trans (List.length_filter_le _ _) hpn;walk_at"go";rename_i p4 H4 n4 S4 e4;have s14:=S2.trans (s3.trans S4);have f14:=s14 _ _ f1;have eb4:=s14 _ _ (S1 _ _ eb);refine qS (α:=Str×Int) (xs:=(bE rz f (l+1 - f).toNat).filter fun x=>decide (x.2<l)) (vs:=zs) (fun x=> .str x.1) (fun x=> .int x.2) (lvB ps L C' (goL ds f l rows) f) (fun x y H=>∃q,y= .ref q/\H q=some (.tup ((flK "leave" x).map kV))) (fun _ _ _ _ ⟨q,h1,h2⟩ s=>⟨q,h1,s _ _ h2⟩) (by rw[sizeLine_eq];lia) (rest:=[some (.ref b),some (.ref p1)]) (by rfl) (SqL.of e4) (kH hzp S4) ?_ ?_ ?_
  ·rintro ⟨z,u⟩ H5 hx s5 R hR;obtain⟨hx1,hx2⟩:=List.mem_filter.mp hx;have f15:=s5 _ _ f14;have eb5:=s5 _ _ eb4;have hpi:=wI (ps:=ps) (L:=L) (C:=C') (f:=f) (kE nr f (l+1 - f).toNat) hx1;show (_:TT) (some (V.str z)::some (V.int u)::[some (.ref b),some (.ref p1)]) H5 R;walk_at"go";refine jT f15 ?_;walk_at"go";rename_i b6 H6 n6 S6 e6;refine lA (cN (z,u)) (S6 _ _ f15) e6 ?_;rw[wN];walk_at"go";rename_i b7 H7 n7 S7 e7;refine rU (cN (z,u)) (.inl (S7 _ _ (S6 _ _ eb5))) e7 hpi ?_;walk_at"go";exact hR _ (S6.trans S7)
  ·rintro ⟨z,u⟩ H5 hx hcc s5 R hR;show (_:TE) (some (V.str z)::some (V.int u)::[some (.ref b),some (.ref p1)]) H5 R;walk_at"go";rename_i b6 H6 n6 S6 e6;exact hR _ _ ⟨b6,rfl,e6⟩ S6
  intro ws H5 s5 hws;have kr:KRows H5 ws (lfK rz ps L C' (goL ds f l rows) f l):=kX (flK "leave") hws;walk_at"go";rename_i p6 H6 n6 S6 e6;have s06:Same H H6:=S1.trans (s14.trans (s5.trans S6));refine k p6 ws H6 ?_ s06 e6 (kr.same S6);cases hq:H p6 with
  | none=>rfl
  | some u =>
   have:=(S1.trans (s14.trans s5)) _ _ hq;rw[n6]at this;cases this
theorem yL (m:M K mg):Fc P w K mg base "leave_faults" 5 ["house","plan","inside"] (vI K m.aF (aQ P w K mg base (some 1))):=⟨_,_,m.A3,m.iL.kp,m.A6,yK m⟩
theorem aAd {C:Addr}{D:aV}{H:Hp}{Q:VK}{E:XK}{h a b:Addr}{f l:Int}{rz ps:List (Str×Int)}{ds:List aH}{us:List V}{rows:List aM}{L C':List Key->Int} (hh:aL C D H h f l rz ps ds) (nr:(rz.map (·.1)).Nodup) (nd:(ds.map (·.1)).Nodup) (hin:∀d∈ds,cZ (rz.map (·.1)) d) (h0:0<=f) (h1:f<=l) (h2:l<1000000000000) (h3:l - f<=1000) (lr:rz.length<=20) (hS:SqL K H a us) (hp:bI H us rows) (hl:rows.length<=200) (eb:H b=some (.dT (jN ps L C' f (bE rz f (l+1 - f).toNat)))) (k:∀p ys H',H p=none->Same H H'->H' p=some (.lst ys)->KRows H' ys (lfK rz ps L C' (goL ds f l rows) f l)->Q (.ref p) H'):vI K C D [.ref h,.ref a,.ref b] H Q E:=⟨_,_,_,_,_,_,_,_,_,_,_,_,rfl,hh,nr,nd,hin,h0,h1,h2,h3,lr,hS,hp,hl,eb,k⟩
inductive vH (C:Addr)(D:aV)(vs:List V)(H:Hp)(Q:VK)(E:XK):Prop
 | mk (h b:Addr) (f l:Int) (rz ps:List (Str×Int)) (ds:List aH) (L C':List Key->Int) (_:vs=[.ref h,.ref b]) (_:aL C D H h f l rz ps ds) (_:(rz.map (·.1)).Nodup) (_:0<=f) (_:f<=l) (_:l<1000000000000) (_:l - f<=1000) (_:rz.length<=20) (_:H b=some (.dT (jN ps L C' f (bE rz f (l+1 - f).toNat)))) (_:∀p ys H',H p=none->Same H H'->H' p=some (.lst ys)->KRows H' ys (ffK rz ps L C' f l)->Q (.ref p) H'):vH C D vs H Q E
theorem aAl {C:Addr}{D:aV}{H:Hp}{Q:VK}{E:XK}{h b:Addr}{f l:Int}{rz ps:List (Str×Int)}{ds:List aH}{L C':List Key->Int} (hh:aL C D H h f l rz ps ds) (nr:(rz.map (·.1)).Nodup) (h0:0<=f) (h1:f<=l) (h2:l<1000000000000) (h3:l - f<=1000) (lr:rz.length<=20) (eb:H b=some (.dT (jN ps L C' f (bE rz f (l+1 - f).toNat)))) (k:∀p ys H',H p=none->Same H H'->H' p=some (.lst ys)->KRows H' ys (ffK rz ps L C' f l)->Q (.ref p) H'):vH C D [.ref h,.ref b] H Q E:=⟨_,_,_,_,_,_,_,_,_,rfl,hh,nr,h0,h1,h2,h3,lr,eb,k⟩
theorem z7 (m:M K mg):bD P w K mg base CX0 5 m.nH m.nJ ["house","inside"] (vH m.aF (aQ P w K mg base (some 1))):=by
 refine m.jI.ok sc_full_faults (fun vs H Q E h=> ?_) (fun cdv A outer s H vs Q E hr h=> ?_)
 ·walk_at"g1";obtain⟨h,b,f,l,rz,ps,ds,L,C',rfl,hh,nr,h0,h1,h2,h3,lr,eb,k⟩:=h;walk_at"g2";rfl
 ·walk_at"g1";obtain⟨h,b,f,l,rz,ps,ds,L,C',rfl,hh,nr,h0,h1,h2,h3,lr,eb,k⟩:=h;walk_at"g2";have nd:=sc_full_faults.nd;walk_at"hu";have w_dc_House:=m.aY;have w_mc_House_pairs:= @lD P w K mg base m;have w_mc_House_holds:= @zW P w K mg base m;refine⟨_,(aE (aZ (cD (N:=["room","turn","inside","house"]) (nl:=2) (ci:=[1,0]) rfl (blk (s.heap.objs.size+1) rfl rfl rfl (by kernel_rfl)) (bM (gF 1 hr (pv 0))) (fun _ _ _ _=>(gS (K:=K) (n:=2) rfl (aW (aI (i:=0) (show (["room","turn","inside","house"]:List Str).Nodup by decide +kernel) rfl (by walk_at"oi")) (aW (aI (i:=1) (show (["room","turn","inside","house"]:List Str).Nodup by decide +kernel) rfl (by walk_at"oi")) cY)))) (fun _ _ _ _=>(j7 (bV pK (iE hu1 (pv 2) (bY (aA (pv 0) (aA (pv 1) aB))) (fun _ _=>rfl)) (ZD (P:=P) (w:=w) (K:=K) (mg:=mg) (base:=base) 3 hr (pv 3) (aA (pv 0) aB)) (cB _)))) (fun _ _ _ _=>(bY (aA (pv 1) (aA gR (aA (pv 0) aB)))))))),?_⟩;refine aN (σ:=[some (.ref h),some (.ref b)]) rfl ?_;walk_at"cx";walk_at"g1";obtain⟨dx,qs,qp,qd,nk,kvs0,e1,_⟩:=hh.ex;walk_at"g2";walk_at"go";refine zN hh h0 h1 h2 h3 lr fun p2 ys H2 n2 S2 f2 hys=> ?_;have hpn:(bE rz f (l+1 - f).toNat).length<=20100:=tN lr (by lia);have eb2:=S2 _ _ eb;have hh2:=bB hh S2;have e12:=S2 _ _ e1;walk_at"go";refine qS (α:=Str×Int) (xs:=bE rz f (l+1 - f).toNat) (vs:=ys) (fun x=> .str x.1) (fun x=> .int x.2) (fuB rz ps L C' f) (fun x y H=>∃q,y= .ref q/\H q=some (.tup ((flK "full" x).map kV))) (fun _ _ _ _ ⟨q,h1,h2⟩ s=>⟨q,h1,s _ _ h2⟩) (by rw[sizeLine_eq];lia) (rest:=[some (.ref b),some (.ref h)]) (by rfl) (SqL.of f2) hys ?_ ?_ ?_
  ·rintro ⟨z,u⟩ H5 hx1 s5 R hR;walk_at"g1";obtain⟨hz,i,hi,hu⟩:=pairsN_mem.mp hx1;walk_at"g2";walk_at"g1";obtain⟨⟨ez,ej⟩,he,hez⟩:=List.mem_map.mp hz;walk_at"g2";have hez:ez=z:=hez;subst hez;have eb5:=s5 _ _ eb2;have e15:=s5 _ _ e12;have hpi:=wI (ps:=ps) (L:=L) (C:=C') (f:=f) (kE nr f (l+1 - f).toNat) hx1;have hsz:szF rz ez=ej:=vG nr he;unfold fuB at hR;simp only[hsz]at hR;show (_:TT) (some (V.str ez)::some (V.int u)::[some (.ref b),some (.ref h)]) H5 R;walk_at"go";rename_i b7 H7 n7 S7 e7;refine rU (cN (ez,u)) (.inl (S7 _ _ eb5)) e7 hpi ?_;have e17:=S7 _ _ e15;walk_at"go";refine VF (bB hh2 (s5.trans S7)) nr he fun H8 S8=> ?_;walk_at"go";exact hR _ (S7.trans S8)
  ·rintro ⟨z,u⟩ H5 hx hcc s5 R hR;show (_:TE) (some (V.str z)::some (V.int u)::[some (.ref b),some (.ref h)]) H5 R;walk_at"go";rename_i b6 H6 n6 S6 e6;exact hR _ _ ⟨b6,rfl,e6⟩ S6
  intro ws H5 s5 hws;have kr:KRows H5 ws (ffK rz ps L C' f l):=kX (flK "full") hws;walk_at"go";rename_i p6 H6 n6 S6 e6;refine k p6 ws H6 ?_ (S2.trans (s5.trans S6)) e6 (kr.same S6);cases hq:H p6 with
  | none=>rfl
  | some u =>
   have:=(S2.trans s5) _ _ hq;rw[n6]at this;cases this
theorem AJ (m:M K mg):Fc P w K mg base "full_faults" 5 ["house","inside"] (vH m.aF (aQ P w K mg base (some 1))):=⟨_,_,m.DN,m.jI.kp,m.DA,z7 m⟩
inductive yN (K:W.Frag)(C:Addr)(D:aV)(vs:List V)(H:Hp)(Q:VK)(E:XK):Prop
 | mk (h a:Addr) (f l:Int) (rz ps:List (Str×Int)) (ds:List aH) (us:List V) (rows:List aM) (_:vs=[.ref h,.ref a]) (_:aL C D H h f l rz ps ds) (_:(rz.map (·.1)).Nodup) (_:(ds.map (·.1)).Nodup) (_:(∀d∈ds,cZ (rz.map (·.1)) d)) (_:0<=f) (_:f<=l) (_:l<1000000000000) (_:l - f<=1000) (_:rz.length<=20) (_:ds.length<=20) (_:SqL K H a us) (_:bI H us rows) (_:rows.length<=200) (_:(fI rz ps ds f l rows).length<64) (_:∀p ws H',H p=none->Same H H'->H' p=some (.lst ws)->KRows H' ws (mE (fI rz ps ds f l rows))->Q (.ref p) H'):yN K C D vs H Q E
theorem UP {C:Addr}{D:aV}{H:Hp}{Q:VK}{E:XK}{h a:Addr}{f l:Int}{rz ps:List (Str×Int)}{ds:List aH}{us:List V}{rows:List aM} (hh:aL C D H h f l rz ps ds) (nr:(rz.map (·.1)).Nodup) (nd:(ds.map (·.1)).Nodup) (hin:∀d∈ds,cZ (rz.map (·.1)) d) (h0:0<=f) (h1:f<=l) (h2:l<1000000000000) (h3:l - f<=1000) (lr:rz.length<=20) (ld:ds.length<=20) (hS:SqL K H a us) (hp:bI H us rows) (hl:rows.length<=200) (h64:(fI rz ps ds f l rows).length<64) (k:∀p ws H',H p=none->Same H H'->H' p=some (.lst ws)->KRows H' ws (mE (fI rz ps ds f l rows))->Q (.ref p) H'):yN K C D [.ref h,.ref a] H Q E:=⟨_,_,_,_,_,_,_,_,_,rfl,hh,nr,nd,hin,h0,h1,h2,h3,lr,ld,hS,hp,hl,h64,k⟩
theorem M8 (m:M K mg):bD P w K mg base CX0 10 m.xH m.xJ ["house","plan"] (yN K m.aF (aQ P w K mg base (some 1))):=by
 refine m.l6.ok sc_faults (fun vs H Q E h=> ?_) (fun cdv A outer s H vs Q E hr h=> ?_)
 ·walk_at"g1";obtain⟨h,a,f,l,rz,ps,ds,us,rows,rfl,hh,nr,ndd,hin,h0,h1,h2,h3,lr,ld,hS,hpl,hlen,h64,k⟩:=h;walk_at"g2";rfl
 ·walk_at"g1";obtain⟨h,a,f,l,rz,ps,ds,us,rows,rfl,hh,nr,ndd,hin,h0,h1,h2,h3,lr,ld,hS,hpl,hlen,h64,k⟩:=h;walk_at"g2";have nd:=sc_faults.nd;walk_at"hu";have jJ:= @zI P w K mg base m;have jI:= @AJ P w K mg base m;have iL:= @yL P w K mg base m;have vK:= @QL P w K mg base m;have w_dc_House:=m.aY;refine⟨_,(aD (aX (i:=2) nd rfl (by walk_at"oi") (bG vK hr (aA (pv 0) (aA (pv 1) aB))))
   (aE (aZ (bK tP rfl m.GS BP (aA (aU oM (aU oM (bG jJ hr (aA (pv 0) (aA (pv 1) aB))) (bG iL hr (aA (pv 0) (aA (pv 1) (aA (pv 2) aB))))) (bG jI hr (aA (pv 0) (aA (pv 2) aB)))) aB))))),?_⟩
  refine aN (σ:=[some (.ref h),some (.ref a),none]) rfl ?_;walk_at"cx";have hpn:(bE rz f (l+1 - f).toNat).length<=20100:=tN lr (by lia);have ln1:=JJ ds f l rows;walk_at"go";refine⟨_,_,_,_,_,_,_,_,_,rfl,hh,nr,ndd,hin,h0,h1,h2,h3,lr,hS,hpl,hlen,fun p1 H1 n1 S1 e1=> ?_⟩;walk_at"go";refine Z9 (bB hh S1) ndd h0 ld (S1.seq hS) (dZ hpl S1) hlen fun p2 y2 H2 n2 S2 e2 k2=> ?_;have s02:=S1.trans S2;walk_at"go";refine aAd (bB hh s02) nr ndd hin h0 h1 h2 h3 lr (s02.seq hS) (dZ hpl s02) hlen (S2 _ _ e1) fun p3 y3 H3 n3 S3 e3 k3=> ?_;have s03:=s02.trans S3;have l2:y2.length=_:=Paired.length k2;have l3:y3.length<=20100:=Nat.le_trans (Nat.le_of_eq (Paired.length k3)) (WW hpn);walk_at"go";refine IN (S3 _ _ e2) e3 (by rw[sizeLine_eq];lia) fun p4 H4 n4 S4 e4=> ?_;have s04:=s03.trans S4;walk_at"go";refine aAl (bB hh s04) nr h0 h1 h2 h3 lr ((S2.trans (S3.trans S4)) _ _ e1) fun p5 y5 H5 n5 S5 e5 k5=> ?_;have l5:y5.length<=20100:=Nat.le_trans (Nat.le_of_eq (Paired.length k5)) (W9 hpn);walk_at"go";rename_i p6 H6 n6 S6 e6;have s06:=s04.trans (S5.trans S6);have kr:KRows H6 (y2++y3++y5) (fI rz ps ds f l rows):=nL (nL (k2.same (S3.trans (S4.trans (S5.trans S6)))) (k3.same (S4.trans (S5.trans S6)))) (k5.same S6);refine EJ (SqL.of e6) kr (by rw[Paired.length kr];exact h64) (LA nr ds f l rows) (by decide) fun p7 ws H7 n7 S7 e7 hws=> ?_;refine k p7 ws H7 ?_ (s06.trans S7) e7 hws;cases hq:H p7 with
  | none=>rfl
  | some u =>
   have:=s06 _ _ hq;rw[n7]at this;cases this
theorem B1 (m:M K mg):Fc P w K mg base "faults" 10 ["house","plan"] (yN K m.aF (aQ P w K mg base (some 1))):=⟨_,_,m.TL,m.l6.kp,m.SW,M8 m⟩
abbrev Wk:=Int×V×Addr
def bQ (H:Hp)(vs:List V)(gs:List Wk):Prop:=Paired (fun v x=>∃q,v= .ref q/\H q=some (.tup [.int x.1,x.2.1,.ref x.2.2])) vs gs
theorem EV {H H':Hp}{vs:List V}{gs:List Wk} (h:bQ H vs gs) (s:∀b xs,H b=some (.tup xs)->H' b=some (.tup xs)):bQ H' vs gs:=Paired.imp' (fun _ _ ⟨q,e,h⟩=>⟨q,e,s _ _ h⟩) h
theorem eU {H H':Hp}{vs:List V}{gs:List Wk} (h:bQ H vs gs) (s:Same H H'):bQ H' vs gs:=EV h fun _ _ e=>s _ _ e
theorem jB {H H':Hp}{p:Addr}{o:HO}{vs:List V}{gs:List Wk} (h:bQ H vs gs) (e:H p=some o) (ho:∀xs,o≠ .tup xs) (s:SameBut p H H'):bQ H' vs gs:=EV h fun b xs eb=>s _ _ eb fun z=>by
 rw[z,e]at eb;exact ho _ (Option.some.inj eb)
theorem qY {H:Hp}{b:List V}{gb:List Wk} (hb:bQ H b gb):∀{a:List V}{ga:List Wk},bQ H a ga->bQ H (a++b) (ga++gb)
 | _,_,.nil=>hb
 | _,_,.cons h t=> .cons h (qY hb t)
def szs (gs:List Wk):Int:=(gs.map (·.1)).sum
theorem jU (a b:List Wk):szs (a++b)=szs a+szs b:=by
 unfold szs;rw[List.map_append,List.sum_append]
theorem nU {gs:List Wk}(h:∀x∈gs,0<x.1):(gs.length:Int)<=szs gs:=by
 induction gs with
 | nil=>exact Int.le_refl _
 | cons a l ih =>
  have h1:=ih fun x hx=>h x (List.mem_cons_of_mem _ hx);have h2:=h a (.head _);unfold szs at h1 ⊢;rw[List.map_cons,List.sum_cons,List.length_cons]
  lia
theorem FS {gs:List Wk}(h:∀x∈gs,0<=x.1):szs (gs.filter fun x=>decide (0<x.1))=szs gs:=by
 induction gs with
 | nil=>rfl
 | cons a l ih =>
  have h1:=ih fun x hx=>h x (List.mem_cons_of_mem _ hx);have h2:=h a (.head _);unfold szs at h1 ⊢
  by_cases c:0<a.1
  ·rw[List.filter_cons_of_pos (by exact decide_eq_true c),List.map_cons,List.sum_cons,List.map_cons,List.sum_cons,h1]
  ·rw[List.filter_cons_of_neg (by exact fun y=>c (of_decide_eq_true y)),h1,List.map_cons,List.sum_cons]
   lia
theorem iC {H H':Hp}{p:Addr} (s:Same H H') (n:H' p=none):H p=none:=by
 cases h:H p with
 | none=>rfl
 | some o=>rw[s _ _ h]at n;cases n
inductive vE (K:W.Frag)(vs:List V)(H:Hp)(Q:VK)(E:XK):Prop
 | mk (a:Addr) (us:List V) (gs:List Wk) (_:vs=[.ref a]) (_:SqL K H a us) (_:bQ H us gs) (_:gs.length<=1000) (_:∀p ws H',H p=none->Same H H'->H' p=some (.lst ws)->bQ H' ws (gs.filter fun x=>decide (0<x.1))->Q (.ref p) H'):vE K vs H Q E
theorem M1 {H:Hp}{Q:VK}{E:XK}{a:Addr}{us:List V}{gs:List Wk} (hS:SqL K H a us) (hg:bQ H us gs) (hl:gs.length<=1000) (k:∀p ws H',H p=none->Same H H'->H' p=some (.lst ws)->bQ H' ws (gs.filter fun x=>decide (0<x.1))->Q (.ref p) H'):vE K [.ref a] H Q E:=⟨_,_,_,rfl,hS,hg,hl,k⟩
theorem GZ (m:M K mg):bD P w K mg base CX0 1 m.sZ m.sY ["group"] (vE K):=by
 refine m.kN.ok sc_somebody (fun vs H Q E h=> ?_) (fun cdv A outer s H vs Q E hr h=> ?_)
 ·walk_at"g1";obtain⟨a,us,gs,rfl,hS,hg,hl,k⟩:=h;walk_at"g2";rfl
 ·walk_at"g1";obtain⟨a,us,gs,rfl,hS,hg,hl,k⟩:=h;walk_at"g2";have nd:=sc_somebody.nd;walk_at"hu";refine⟨_,(aE (aZ (cD (N:=["walk"]) (nl:=1) (ci:=[]) rfl (blk (s.heap.objs.size+1) rfl rfl rfl (by kernel_rfl)) (bM (pv 0)) (fun _ _ _ _=>(aI (i:=0) (show (["walk"]:List Str).Nodup by decide +kernel) rfl (by walk_at"oi"))) (fun _ _ _ _=>(j7 (bV pK (dF (gE (K:=K)) (pv 0) aG (fun _ _=>rfl)) aG (cB _)))) (fun _ _ _ _=>(pv 0))))),?_⟩;refine aN (σ:=[some (.ref a)]) rfl ?_;walk_at"cx";walk_at"go";refine oA (α:=Wk) (xs:=gs) (vs:=us) (fun v x=>∃q,v= .ref q/\H q=some (.tup [.int x.1,x.2.1,.ref x.2.2])) (fun x=>decide (0<x.1)) (fun x y H=>∃q,y= .ref q/\H q=some (.tup [.int x.1,x.2.1,.ref x.2.2])) (fun _ _ _ _ ⟨q,h1,h2⟩ s=>⟨q,h1,s _ _ h2⟩) (by rw[sizeLine_eq];lia) (rest:=[]) (by rfl) hS hg ?_ ?_ ?_
  ·rintro _ x H1 ⟨q,rfl,hq⟩ hm s1 R hR;have hq1:=s1 _ _ hq;show (_:TT) [some (.ref q)] H1 R;walk_at"go";refine⟨q,_,0,_,rfl,rfl,SqT.of hq1,rfl,?_⟩;walk_at"go";exact hR _ (Same.refl _)
  ·rintro _ x H1 ⟨q,rfl,hq⟩ hm - s1 R hR;show (_:TE) [some (.ref q)] H1 R;walk_at"go";exact hR _ _ ⟨q,rfl,s1 _ _ hq⟩ (Same.refl _)
  intro ys H1 s1 hys;walk_at"go";rename_i p H2 n2 S2 e2;refine k p ys H2 (iC s1 n2) (s1.trans S2) e2 (eU ?_ S2);have flip:∀{gs:List Wk}{ys:List V},Paired (fun x y=>∃q,y=V.ref q/\H1 q=some (.tup [.int x.1,x.2.1,.ref x.2.2])) gs ys->bQ H1 ys gs:=fun h=>by
   induction h with
   | nil=>exact .nil
   | cons a t ih=>exact .cons a ih
  exact flip hys
theorem HJ (m:M K mg):Fc P w K mg base "somebody" 1 ["group"] (vE K):=⟨_,_,m.LV,m.kN.kp,m.L3,GZ m⟩
inductive uY (K:W.Frag)(vs:List V)(H:Hp)(Q:VK)(E:XK):Prop
 | mk (a:Addr) (nm:V) (us:List V) (gs:List Wk) (n:Nat) (_:vs=[.ref a,nm]) (_:SqL K H a us) (_:bQ H us gs) (_:gs.length<=1000) (_:n<=1000) (_:(∀x∈gs,∃ys,H x.2.2=some (.lst ys)/\ys.length<=n)) (_:∀p ws gs' H',H p=none->Same H H'->H' p=some (.lst ws)->bQ H' ws gs'->gs'.map (·.1)=gs.map (·.1)->(∀x∈gs',H x.2.2=none/\∃ys,H' x.2.2=some (.lst ys)/\ys.length<=n+1)->Q (.ref p) H'):uY K vs H Q E
theorem NB {H:Hp}{Q:VK}{E:XK}{a:Addr}{nm:V}{us:List V}{gs:List Wk}{n:Nat} (hS:SqL K H a us) (hg:bQ H us gs) (hl:gs.length<=1000) (hn:n<=1000) (hs:∀x∈gs,∃ys,H x.2.2=some (.lst ys)/\ys.length<=n) (k:∀p ws gs' H',H p=none->Same H H'->H' p=some (.lst ws)->bQ H' ws gs'->gs'.map (·.1)=gs.map (·.1)->(∀x∈gs',H x.2.2=none/\∃ys,H' x.2.2=some (.lst ys)/\ys.length<=n+1)->Q (.ref p) H'):uY K [.ref a,nm] H Q E:=⟨_,_,_,_,_,rfl,hS,hg,hl,hn,hs,k⟩
theorem yE {H0 H1:Hp}{n:Nat}:∀{gs:List Wk}{ys:List V},Paired (fun x y=>∃q st zs,y=V.ref q/\H1 q=some (.tup [.int x.1,x.2.1,.ref st])/\H1 st=some (.lst zs)/\zs.length<=n/\H0 st=none) gs ys->∃gs':List Wk,bQ H1 ys gs'/\gs'.map (·.1)=gs.map (·.1)/\∀x∈gs',H0 x.2.2=none/\∃zs,H1 x.2.2=some (.lst zs)/\zs.length<=n
 | _,_,.nil=>⟨[],.nil,rfl,fun _ z=>nomatch z⟩
 | _,_,.cons (a:=x) ⟨q,st,zs,e1,e2,e3,e4,e5⟩ t=>by
  walk_at"g1";obtain⟨gs',h1,h2,h3⟩:=yE t;walk_at"g2";refine⟨(x.1,x.2.1,st)::gs',.cons ⟨q,e1,e2⟩ h1,by rw[List.map_cons,List.map_cons,h2],fun y hy=> ?_⟩;rcases List.mem_cons.mp hy with rfl|hy
  ·exact⟨e5,zs,e3,e4⟩
  ·exact h3 y hy
theorem J7 (m:M K mg):bD P w K mg base CX0 1 m.uH m.uN ["group","name"] (uY K):=by
 refine m.mS.ok sc_stepped (fun vs H Q E h=> ?_) (fun cdv A outer s H vs Q E hr h=> ?_)
 ·walk_at"g1";obtain⟨a,nm,us,gs,n,rfl,hS,hg,hl,hn,hs,k⟩:=h;walk_at"g2";rfl
 ·walk_at"g1";obtain⟨a,nm,us,gs,n,rfl,hS,hg,hl,hn,hs,k⟩:=h;walk_at"g2";have nd:=sc_stepped.nd;walk_at"hu";refine⟨_,(aE (aZ (cD (N:=["number","room","steps","name"]) (nl:=3) (ci:=[1]) rfl (blk (s.heap.objs.size+1) rfl rfl rfl (by kernel_rfl)) (bM (pv 0)) (fun _ _ _ _=>(gS (K:=K) (n:=3) rfl (aW (aI (i:=0) (show (["number","room","steps","name"]:List Str).Nodup by decide +kernel) rfl (by walk_at"oi")) (aW (aI (i:=1) (show (["number","room","steps","name"]:List Str).Nodup by decide +kernel) rfl (by walk_at"oi")) (aW (aI (i:=2) (show (["number","room","steps","name"]:List Str).Nodup by decide +kernel) rfl (by walk_at"oi")) cY))))) (fun _ _ _ _=>f9) (fun _ _ _ _=>(bY (aA (pv 0) (aA (pv 1) (aA (aU oM (pv 2) (eK (aA (pv 3) aB))) aB)))))))),?_⟩;refine aN (σ:=[some (.ref a),some (nm)]) rfl ?_;walk_at"cx";walk_at"go";refine IE (α:=Wk) (xs:=gs) (vs:=us) (fun x=> .int x.1) (fun x=>x.2.1) (fun x=> .ref x.2.2) (fun _=>true) (fun x y H'=>∃q st zs,y= .ref q/\H' q=some (.tup [.int x.1,x.2.1,.ref st])/\H' st=some (.lst zs)/\zs.length<=n+1/\H st=none) (fun _ _ _ _ ⟨q,st,zs,h1,h2,h3,h4,h5⟩ s=>⟨q,st,zs,h1,s _ _ h2,s _ _ h3,h4,h5⟩) (by rw[sizeLine_eq];lia) (rest:=[some nm]) (by rfl) hS hg ?_ ?_ ?_
  ·exact fun x H1 _ _ R hR=>hR _ (Same.refl _)
  ·rintro x H1 hm - s1 R hR;obtain⟨zs,hz,hzl⟩:=hs x hm;have hz1:=s1 _ _ hz;show (_:TE) [some (.int x.1),some x.2.1,some (.ref x.2.2),some nm] H1 R;walk_at"go";rename_i p1 G1 m1 T1 e1 p2 G2 m2 T2 e2 p3 G3 m3 T3 e3;exact hR _ _ ⟨p3,p2,_,rfl,e3,T3 _ _ e2,by rw[List.length_append];show zs.length+1<=_;lia,iC (s1.trans T1) m2⟩ (T1.trans (T2.trans T3))
  intro ys H1 s1 hys;rw[fO]at hys;walk_at"g1";obtain⟨gs',h1,h2,h3⟩:=yE hys;walk_at"g2";walk_at"go";rename_i p H2 n2 S2 e2;exact k p ys gs' H2 (iC s1 n2) (s1.trans S2) e2 (eU h1 S2) h2 fun x hx=>by
   walk_at"g1";obtain⟨g1,zs,g2,g3⟩:=h3 x hx;walk_at"g2";exact⟨g1,zs,S2 _ _ g2,g3⟩
theorem JV (m:M K mg):Fc P w K mg base "stepped" 1 ["group","name"] (uY K):=⟨_,_,m.PV,m.mS.kp,m.PK,J7 m⟩
structure NU (gs g1 g2:List Wk):Prop where
 sum:szs g1+szs g2=szs gs
 p1:∀x∈g1,0<x.1/\∃y∈gs,x.2=y.2
 p2:∀x∈g2,0<x.1/\∃y∈gs,x.2=y.2
inductive uS (K:W.Frag)(vs:List V)(H:Hp)(Q:VK)(E:XK):Prop
 | mk (a:Addr) (mn:Int) (us:List V) (gs:List Wk) (_:vs=[.ref a,.int mn]) (_:SqL K H a us) (_:bQ H us gs) (_:gs.length<=1000) (_:0<=mn) (_:(∀x∈gs,0<x.1)) (_:∀q p1 p2 w1 w2 g1 g2 H',Same H H'->H p1=none->H p2=none->H' q=some (.tup [.ref p1,.ref p2])->H' p1=some (.lst w1)->H' p2=some (.lst w2)->bQ H' w1 g1->bQ H' w2 g2->NU gs g1 g2->Q (.ref q) H'):uS K vs H Q E
theorem ZP {H:Hp}{Q:VK}{E:XK}{a:Addr}{mn:Int}{us:List V}{gs:List Wk} (hS:SqL K H a us) (hg:bQ H us gs) (hl:gs.length<=1000) (h0:0<=mn) (hp:∀x∈gs,0<x.1) (k:∀q p1 p2 w1 w2 g1 g2 H',Same H H'->H p1=none->H p2=none->H' q=some (.tup [.ref p1,.ref p2])->H' p1=some (.lst w1)->H' p2=some (.lst w2)->bQ H' w1 g1->bQ H' w2 g2->NU gs g1 g2->Q (.ref q) H'):uS K [.ref a,.int mn] H Q E:=⟨_,_,_,_,rfl,hS,hg,hl,h0,hp,k⟩
theorem OO (m:M K mg):bD P w K mg base CX0 2 m.xD m.xK ["group","number"] (uS K):=by
 refine m.sS.ok sc_parted (fun vs H Q E h=> ?_) (fun cdv A outer s H vs Q E hr h=> ?_)
 ·walk_at"g1";obtain⟨a,mn,us,gs,rfl,hS,hg,hl,h0,hp,k⟩:=h;walk_at"g2";rfl
 ·walk_at"g1";obtain⟨a,mn,us,gs,rfl,hS,hg,hl,h0,hp,k⟩:=h;walk_at"g2";have nd:=sc_parted.nd;walk_at"hu";have kN:= @HJ P w K mg base m;refine⟨_,(aD (aX (i:=2) nd rfl (by walk_at"oi") (eK aB))
   (aD (aX (i:=3) nd rfl (by walk_at"oi") (eK aB))
   (aD (cX PassesOwn.never rfl (bM (pv 0)) (mK (n:=3) rfl (aW (aI (i:=4) nd rfl (by walk_at"oi")) (aW (aI (i:=5) nd rfl (by walk_at"oi")) (aW (aI (i:=6) nd rfl (by walk_at"oi")) cY)))) (aD (aX (i:=7) nd rfl (by walk_at"oi") (bK (OE rfl) rfl m.aBM aAn (aA (pv 4) (aA (pv 1) aB))))
   (aD (aAH (i:=1) nd rfl (by walk_at"oi") (pv 7) aAj)
   (aD (bR (jE PySem.F.plainAttrs_list PySem.F.slot_list_append PySem.F.type_list_append gI (pv 2) (aA (bY (aA (pv 7) (aA (pv 5) (aA (pv 6) aB)))) aB)))
   (aE (bR (jE PySem.F.plainAttrs_list PySem.F.slot_list_append PySem.F.type_list_append gI (pv 3) (aA (bY (aA (aU tT (pv 4) (pv 7)) (aA (pv 5) (aA (pv 6) aB)))) aB))))))))
   (aE (aZ (bY (aA (bG kN hr (aA (pv 2) aB)) (aA (bG kN hr (aA (pv 3) aB)) aB)))))))),?_⟩
  refine aN (σ:=[some (.ref a),some (.int mn),none,none,none,none,none,none]) rfl ?_;walk_at"cx";have hul:us.length=gs.length:=Paired.length hg;walk_at"go";rename_i pG H1 n1 S1 e1 pO H2 n2 S2 e2;have e12:=S2 _ _ e1;have hGO:pG≠pO:=fun z=>by rw[z,n2]at e1;cases e1
  have s02:=S1.trans S2;have nO:=iC S1 n2;let Pv1:Nat->St->Hp->Prop:=fun i σ' G=>Same H G/\(∃(m':Int) (w1 w2:List V) (g1 g2:List Wk),0<=m'/\G pG=some (.lst w1)/\G pO=some (.lst w2)/\bQ G w1 g1/\bQ G w2 g2/\g1.length<=i/\g2.length<=i/\szs g1+szs g2=szs (gs.take i)/\(∀x∈g1,0<=x.1/\∃y∈gs,x.2=y.2)/\(∀x∈g2,0<=x.1/\∃y∈gs,x.2=y.2)/\∃x y z u,σ'=[some (.ref a),some (.int m'),some (.ref pG),some (.ref pO),x,y,z,u]);refine dI us Pv1 ⟨s02,mn,[],[],[],[],h0,e12,e2,.nil,.nil,Nat.le_refl _,Nat.le_refl _,rfl,(fun _ z=>nomatch z),(fun _ z=>nomatch z),_,_,_,_,rfl⟩ (fun i σ' G _ q=>q.1.seq hS) ?_ ?_
  ·rintro i x _ G hx hq_;walk_at"g1";obtain⟨sG,m',w1,w2,g1,g2,hm0,eG,eO,hw1,hw2,l1,l2,hsum,hp1,hp2,y1,y2,y3,y4,rfl⟩:=hq_;walk_at"g2";have hi:i<us.length:=(List.getElem?_eq_some_iff.mp hx).1;obtain⟨⟨sz,rm,st⟩,hr⟩:∃r,gs[i]? =some r:=⟨_,List.getElem?_eq_getElem (by lia)⟩
   obtain⟨q,rfl,hq⟩:=Paired.at2 hg hx hr;have hq':G q=some (.tup [.int sz,rm,.ref st]):=sG _ _ hq;have hgm:=List.mem_of_getElem? hr;have hsz:0<sz:=hp _ hgm;have hl1:w1.length=g1.length:=Paired.length hw1;have hl2:w2.length=g2.length:=Paired.length hw2;walk_at"go";have ht:0<=min sz m'/\min sz m'<=sz/\min sz m'<=m':=by lia
   generalize min sz m'=tk at ht ⊢;refine⟨_,_,rfl,rfl,?_⟩;walk_at"go";rename_i q4 G4 m4 T4 e4;refine gJ (T4 _ _ eG) (by rw[sizeLine_eq];lia) fun G5 B5 e5=> ?_;have hO5:G5 pO=some (.lst w2):=B5 _ _ (T4 _ _ eO) (fun z=>hGO z.symm);walk_at"go";rename_i q6 G6 m6 T6 e6;refine gJ (T6 _ _ hO5) (by rw[sizeLine_eq];lia) fun G7 B7 e7=> ?_;walk_at"go";have sG5:Same H G5:=SameBut.same n1 (sG.trans T4) B5;have sG7:Same H G7:=SameBut.same nO (sG5.trans T6) B7;have k1:bQ G7 (w1++[.ref q4]) (g1++[(tk,rm,st)]):=jB (eU (jB (qY (.cons ⟨q4,rfl,e4⟩ .nil) (eU hw1 T4)) (T4 _ _ eG) (fun _ z=>by cases z) B5) T6) (T6 _ _ hO5) (fun _ z=>by cases z) B7;have k2:bQ G7 (w2++[.ref q6]) (g2++[(sz - tk,rm,st)]):=jB (qY (.cons ⟨q6,rfl,e6⟩ .nil) (eU (jB (eU hw2 T4) (T4 _ _ eG) (fun _ z=>by cases z) B5) T6)) (T6 _ _ hO5) (fun _ z=>by cases z) B7;refine⟨sG7,m' - tk,_,_,_,_,by lia,B7 _ _ (T6 _ _ e5) hGO,e7,k1,k2,by rw[List.length_append];show g1.length+1<=_;lia,by rw[List.length_append];show g2.length+1<=_;lia,?_,fun x hx=> ?_,fun x hx=> ?_,_,_,_,_,rfl⟩
   ·rw[bT hr,jU,jU,jU];show szs g1+(tk+0)+(szs g2+(sz - tk+0))=szs (gs.take i)+(sz+0)
    lia
   ·rcases List.mem_append.mp hx with hx|hx
    ·exact hp1 x hx
    ·cases List.mem_singleton.mp hx;exact⟨ht.1,_,hgm,rfl⟩
   ·rcases List.mem_append.mp hx with hx|hx
    ·exact hp2 x hx
    ·cases List.mem_singleton.mp hx;exact⟨(show 0<=sz - tk by lia),_,hgm,rfl⟩
  ·rintro _ G hq_;walk_at"g1";obtain⟨sG,m',w1,w2,g1,g2,hm0,eG,eO,hw1,hw2,l1,l2,hsum,hp1,hp2,y1,y2,y3,y4,rfl⟩:=hq_;walk_at"g2";rw[hul,List.take_length]at hsum;walk_at"go";refine M1 (SqL.of eG) hw1 (by lia) fun q1 v1 G1 m1 T1 e1' hv1=> ?_;walk_at"go";refine M1 (SqL.of (T1 _ _ eO)) (eU hw2 T1) (by lia) fun q2 v2 G2 m2 T2 e2' hv2=> ?_;walk_at"go";rename_i q3 G3 m3 T3 e3;refine k q3 q1 q2 v1 v2 _ _ G3 (sG.trans (T1.trans (T2.trans T3))) (iC sG m1) (iC (sG.trans T1) m2) e3 ((T2.trans T3) _ _ e1') (T3 _ _ e2') (eU hv1 (T2.trans T3)) (eU hv2 T3) ⟨?_,fun x hx=> ?_,fun x hx=> ?_⟩
   ·rw[FS fun x hx=>(hp1 x hx).1,FS fun x hx=>(hp2 x hx).1];exact hsum
   ·obtain⟨h1,h2⟩:=List.mem_filter.mp hx;exact⟨of_decide_eq_true h2,(hp1 x h1).2⟩
   ·obtain⟨h1,h2⟩:=List.mem_filter.mp hx;exact⟨of_decide_eq_true h2,(hp2 x h1).2⟩
theorem NI (m:M K mg):Fc P w K mg base "parted" 2 ["group","number"] (uS K):=⟨_,_,m.SY,m.sS.kp,m.TC,OO m⟩
def grK (ks:List (Option Str))(A:Option Str->Addr):List (Option Str×V):=ks.map fun k=>(k,.ref (A k))
def adO (A:Option Str->Addr)(k:Option Str)(q:Addr):Option Str->Addr:=fun y=>if y=k then q else A y
def bH (rz:List (Str×Int)):List (Option Str):=none::(rz.map (·.1)).map some
theorem kU {A:Option Str->Addr}{k:Option Str}:∀{ks:List (Option Str)},k∈ks->bA (grK ks A) k=some (.ref (A k))
 | a::ks,h=>by
  show bA ((a,V.ref (A a))::grK ks A) k=_
  by_cases e:a=k
  ·subst e;rw[dG rfl]
  ·rw[cV e];exact kU ((List.mem_cons.mp h).resolve_left fun z=>e z.symm)
theorem XU {A:Option Str->Addr}{k:Option Str}{ks:List (Option Str)}:((grK ks A).any fun kv=>decide (kv.1=k))=decide (k∈ks):=by
 rw[Bool.eq_iff_iff,List.any_eq_true,decide_eq_true_eq]
 constructor
 ·rintro ⟨e,he,hk⟩;obtain⟨x,hx,rfl⟩:=List.mem_map.mp he;exact(of_decide_eq_true hk)▸hx
 ·intro h;exact⟨_,List.mem_map.mpr ⟨k,h,rfl⟩,decide_eq_true rfl⟩
theorem WG {A:Option Str->Addr}{k:Option Str}{ks:List (Option Str)}{q:Addr} (h:k∉ks):bW (grK ks A) k (.ref q)=grK (ks++[k]) (adO A k q):=by
 unfold bW;rw[XU,decide_eq_false h,if_neg Bool.false_ne_true];unfold grK;rw[List.map_append,List.map_singleton]
 congr 1
 ·refine List.map_congr_left fun x hx=> ?_;unfold adO;rw[if_neg (fun z:x=k=>h (z▸hx))]
 ·unfold adO;rw[if_pos rfl]
structure NoG (P:Program)(w:World)(ks:List (Option Str))(H H':Hp)(p:Addr)(A:Option Str->Addr):Prop where
 np:H p=none
 s:Same H H'
 e:H' p=some (dN P w p (grK ks A))
 l:∀k∈ks,H' (A k)=some (.lst [])/\H (A k)=none
 inj:∀k∈ks,∀j∈ks,A k=A j->k=j
inductive zB (P:Program)(w:World)(C:Addr)(D:aV)(vs:List V)(H:Hp)(Q:VK)(E:XK):Prop
 | mk (h:Addr) (f l:Int) (rz ps:List (Str×Int)) (ds:List aH) (_:vs=[.ref h]) (_:aL C D H h f l rz ps ds) (_:(rz.map (·.1)).Nodup) (_:rz.length<=20) (_:∀p H' A,NoG P w (bH rz) H H' p A->Q (.ref p) H'):zB P w C D vs H Q E
theorem UF {C:Addr}{D:aV}{H:Hp}{Q:VK}{E:XK}{h:Addr}{f l:Int}{rz ps:List (Str×Int)}{ds:List aH} (hh:aL C D H h f l rz ps ds) (nr:(rz.map (·.1)).Nodup) (lr:rz.length<=20) (k:∀p H' A,NoG P w (bH rz) H H' p A->Q (.ref p) H'):zB P w C D [.ref h] H Q E:=⟨_,_,_,_,_,_,rfl,hh,nr,lr,k⟩
theorem KC {P:Program}{w:World}{p:Addr}{kvs:List (Option Str×V)}{xs:List V}:HO.lst xs≠dN P w p kvs:=fun z=>by cases z
theorem F5 (m:M K mg):bD P w K mg base CX0 2 m.qO m.qQ ["house"] (zB P w m.aF (aQ P w K mg base (some 1))):=by
 refine m.gX.ok sc_no_groups (fun vs H Q E h=> ?_) (fun cdv A outer s H vs Q E hr h=> ?_)
 ·walk_at"g1";obtain⟨h,f,l,rz,ps,ds,rfl,hh,nr,lr,k⟩:=h;walk_at"g2";rfl
 ·walk_at"g1";obtain⟨h,f,l,rz,ps,ds,rfl,hh,nr,lr,k⟩:=h;walk_at"g2";have nd:=sc_no_groups.nd;walk_at"hu";have w_dc_House:=m.aY;have w_mc_House_rooms:= @kZ P w K mg base m;refine⟨_,(aD (aX (i:=1) nd rfl (by walk_at"oi") (RN (eK aB)))
   (aD (cX PassesOwn.never rfl (bM (gF 1 hr (pv 0))) (aI (i:=2) nd rfl (by walk_at"oi")) (aE (VM (pv 1) (pv 2) (eK aB) rfl)))
   (aE (aZ (pv 1))))),?_⟩
  refine aN (σ:=[some (.ref h),none,none]) rfl ?_;walk_at"cx";walk_at"g1";obtain⟨dx,qs,qp,qd,nk,kvs,e1,_⟩:=id hh.ex;walk_at"g2";walk_at"go";refine QJ (P:=P) (w:=w) fun p H1 n1 S1 e1'=> ?_;walk_at"go";rename_i q0 H2 n2 S2 e2;have hq0:q0≠p:=fun z=>by rw[z,e1']at n2;cases n2
  refine O8 (P:=P) (w:=w) (S2 _ _ e1') fun H3 B3 e3=> ?_;have s03:Same H H3:=SameBut.same n1 (S1.trans S2) B3;have e13:=s03 _ _ e1;walk_at"go";refine lL (bB hh s03) fun pR H4 n4 S4 eR=> ?_;have hRp:pR≠p:=fun z=>by rw[z,e3]at n4;cases n4
  have e34:=S4 _ _ e3;walk_at"go";let Pv1:Nat->St->Hp->Prop:=fun i σ' G=>SameBut p H4 G/\(∃A:Option Str->Addr,G p=some (dN P w p (grK (none::((rz.map (·.1)).take i).map some) A))/\(∀k∈none::((rz.map (·.1)).take i).map some,G (A k)=some (.lst [])/\H (A k)=none)/\∀k∈none::((rz.map (·.1)).take i).map some,∀j∈none::((rz.map (·.1)).take i).map some,A k=A j->k=j)/\∃x,σ'=[some (.ref h),some (.ref p),x];refine dI ((rz.map (·.1)).map V.str) Pv1 ⟨SameBut.refl,⟨fun _=>q0,e34,?_,?_⟩,_,rfl⟩ (fun i σ' G _ q=>SqL.of (q.1 _ _ eR hRp)) ?_ ?_
  ·intro k hk;cases List.mem_singleton.mp hk;exact⟨S4 _ _ (B3 _ _ e2 hq0),iC S1 n2⟩
  ·intro k hk j hj _;rw[List.mem_singleton.mp hk,List.mem_singleton.mp hj]
  ·rintro i x _ G hx hq_;walk_at"g1";obtain⟨sb,⟨A,ek,hA,hinj⟩,y1,rfl⟩:=hq_;walk_at"g2";rw[List.getElem?_map]at hx;obtain⟨z,hz,rfl⟩:=Option.map_eq_some_iff.mp hx;have hzn:=lF nr hz;have hkn:some z∉none::((rz.map (·.1)).take i).map some:=fun hm=>by
    rcases List.mem_cons.mp hm with e|hm
    ·cases e
    ·obtain⟨y,hy,e⟩:=List.mem_map.mp hm;cases e;exact hzn hy
   have hlk:(grK (none::((rz.map (·.1)).take i).map some) A).length<=21:=by
    unfold grK;rw[List.length_map,List.length_cons,List.length_map,List.length_take,List.length_map]
    lia
   walk_at"go";rename_i q1 G1 m1 T1 e1q;refine RY (P:=P) (w:=w) (some z) (T1 _ _ ek) (by rw[sizeLine_eq];lia) fun G2 B2 e2'=> ?_;rw[WG hkn]at e2';have hq1:q1≠p:=fun w'=>by rw[w',ek]at m1;cases m1
   have eks:none::((rz.map (·.1)).take (i+1)).map some=(none::((rz.map (·.1)).take i).map some)++[some z]:=by
    rw[bT hz,List.map_append];rfl
   have hAq:∀k∈none::((rz.map (·.1)).take i).map some,A k≠q1:=fun k hk w'=>by have:=(hA k hk).1;rw[w',m1]at this;cases this
   have sHG:Same H G:=SameBut.same n1 ((S1.trans S2).trans (Same.refl _)) (B3.trans (S4.but.trans sb));refine⟨(sb.trans T1.but).trans B2,⟨adO A (some z) q1,by rw[eks];exact e2',?_,?_⟩,_,rfl⟩
   ·intro k hk;rw[eks]at hk;unfold adO
    by_cases c:k=some z
    ·rw[if_pos c];exact⟨B2 _ _ e1q hq1,iC sHG m1⟩
    ·rw[if_neg c];have hk':=(List.mem_append.mp hk).resolve_right fun w'=>c (List.mem_singleton.mp w');obtain⟨g1,g2⟩:=hA k hk';exact⟨B2 _ _ (T1 _ _ g1) (fun w'=>by rw[w',ek]at g1;exact KC (Option.some.inj g1).symm),g2⟩
   ·intro k hk j hj e;rw[eks]at hk hj;unfold adO at e
    by_cases c:k=some z
    ·by_cases c':j=some z
     ·rw[c,c']
     ·rw[if_pos c,if_neg c']at e;exact absurd e.symm (hAq j ((List.mem_append.mp hj).resolve_right fun w'=>c' (List.mem_singleton.mp w')))
    ·by_cases c':j=some z
     ·rw[if_neg c,if_pos c']at e;exact absurd e (hAq k ((List.mem_append.mp hk).resolve_right fun w'=>c (List.mem_singleton.mp w')))
     ·rw[if_neg c,if_neg c']at e;exact hinj k ((List.mem_append.mp hk).resolve_right fun w'=>c (List.mem_singleton.mp w')) j ((List.mem_append.mp hj).resolve_right fun w'=>c' (List.mem_singleton.mp w')) e
  ·rintro _ G hq_;walk_at"g1";obtain⟨sb,⟨A,ek,hA,hinj⟩,y1,rfl⟩:=hq_;walk_at"g2";rw[List.length_map,List.take_length]at ek hA hinj;have sHG:Same H G:=SameBut.same n1 (S1.trans S2) (B3.trans (S4.but.trans sb));walk_at"go";exact k p G A ⟨n1,sHG,ek,hA,hinj⟩
theorem t5 (m:M K mg):Fc P w K mg base "no_groups" 2 ["house"] (zB P w m.aF (aQ P w K mg base (some 1))):=⟨_,_,m.ID,m.gX.kp,m.HV,F5 m⟩
def qG (g:Option Str->List Wk)(k:Option Str)(v:List Wk):Option Str->List Wk:=fun y=>if y=k then v else g y
def bU (ks:List (Option Str))(g:Option Str->List Wk):Int:=(ks.map fun k=>szs (g k)).sum
theorem oH {g:Option Str->List Wk}{k:Option Str}{v:List Wk}:∀{ks:List (Option Str)},ks.Nodup->k∈ks->bU ks (qG g k v)=bU ks g - szs (g k)+szs v
 | a::ks,nd,hk=>by
  have nd':=List.nodup_cons.mp nd;unfold bU;rw[List.map_cons,List.sum_cons,List.map_cons,List.sum_cons]
  by_cases e:a=k
  ·subst e;have e1:(ks.map fun y=>szs (qG g a v y))=ks.map fun y=>szs (g y):=List.map_congr_left fun y hy=>by
    unfold qG;rw[if_neg (fun z:y=a=>nd'.1 (z▸hy))]
   rw[e1];unfold qG;rw[if_pos rfl]
   lia
  ·have ih:=oH (g:=g) (k:=k) (v:=v) nd'.2 ((List.mem_cons.mp hk).resolve_left fun z=>e z.symm);unfold bU at ih;rw[ih];unfold qG;rw[if_neg e]
   lia
theorem mH {rz:List (Str×Int)}(nr:(rz.map (·.1)).Nodup):(bH rz).Nodup:=by
 unfold bH;refine List.nodup_cons.mpr ⟨fun h=> ?_,?_⟩
 ·obtain⟨y,_,e⟩:=List.mem_map.mp h;cases e
 ·rw[List.Nodup,List.pairwise_map];exact nr.imp fun h e=>h (Option.some.inj e)
theorem zC (rz:List (Str×Int)):none∈bH rz:= .head _
theorem nN {rz:List (Str×Int)}{z:Str} (h:z∈rz.map (·.1)):some z∈bH rz:=List.mem_cons_of_mem _ (List.mem_map.mpr ⟨z,h,rfl⟩)
def StepsOk (Av:List Addr)(n:Nat)(H:Hp)(gs:List Wk):Prop:=∀x∈gs,0<x.1/\(∃ys,H x.2.2=some (.lst ys)/\ys.length<=n)/\x.2.2∉Av
theorem StepsOk.same {Av:List Addr}{n:Nat}{H H':Hp}{gs:List Wk} (h:StepsOk Av n H gs) (s:Same H H'):StepsOk Av n H' gs:=fun x hx=>by
 walk_at"g1";obtain⟨h1,⟨ys,h2,h3⟩,h4⟩:=h x hx;walk_at"g2";exact⟨h1,⟨ys,s _ _ h2,h3⟩,h4⟩
theorem StepsOk.but {Av:List Addr}{n:Nat}{H H':Hp}{gs:List Wk}{a:Addr} (h:StepsOk Av n H gs) (ha:a∈Av) (s:SameBut a H H'):StepsOk Av n H' gs:=fun x hx=>by
 walk_at"g1";obtain⟨h1,⟨ys,h2,h3⟩,h4⟩:=h x hx;walk_at"g2";exact⟨h1,⟨ys,s _ _ h2 (fun z=>h4 (z▸ha)),h3⟩,h4⟩
structure GrpAt (P:Program)(w:World)(ks:List (Option Str))(n:Nat)(H:Hp)(p:Addr)(A:Option Str->Addr)(g:Option Str->List Wk):Prop where
 e:H p=some (dN P w p (grK ks A))
 l:∀k∈ks,∃vs,H (A k)=some (.lst vs)/\bQ H vs (g k)
 st:∀k∈ks,StepsOk (ks.map A) n H (g k)
 inj:∀k∈ks,∀j∈ks,A k=A j->k=j
theorem GrpAt.same {ks:List (Option Str)}{n:Nat}{H H':Hp}{p:Addr}{A:Option Str->Addr}{g:Option Str->List Wk} (h:GrpAt P w ks n H p A g) (s:Same H H'):GrpAt P w ks n H' p A g :=
 ⟨s _ _ h.e,fun k hk=>by
  obtain⟨vs,h1,h2⟩:=h.l k hk;exact⟨vs,s _ _ h1,eU h2 s⟩,fun k hk=>(h.st k hk).same s,h.inj⟩
theorem GrpAt.more {ks:List (Option Str)}{n:Nat}{H H':Hp}{p:Addr}{A:Option Str->Addr}{g:Option Str->List Wk} (h:GrpAt P w ks n H p A g) {k:Option Str} (hk:k∈ks) {vs ws:List V}{gs:List Wk} (ev:H (A k)=some (.lst vs)) (hv:bQ H vs (g k)) (hw:bQ H ws gs) (hs:StepsOk (ks.map A) n H gs) (B:SameBut (A k) H H') (e':H' (A k)=some (.lst (vs++ws))):GrpAt P w ks n H' p A (qG g k (g k++gs)):=by
 have nt:∀xs,HO.lst vs≠ .tup xs:=fun _ z=>by cases z
 have hka:A k∈ks.map A:=List.mem_map.mpr ⟨k,hk,rfl⟩;refine⟨B _ _ h.e (fun z=> ?_),fun j hj=> ?_,fun j hj=> ?_,h.inj⟩
 ·have:=h.e;rw[z,ev]at this;exact KC (Option.some.inj this)
 ·unfold qG
  by_cases c:j=k
  ·rw[if_pos c,c];exact⟨_,e',jB (qY hw hv) ev nt B⟩
  ·rw[if_neg c];obtain⟨us,h1,h2⟩:=h.l j hj;exact⟨us,B _ _ h1 (fun z=>c (h.inj j hj k hk z)),jB h2 ev nt B⟩
 ·unfold qG
  by_cases c:j=k
  ·rw[if_pos c];intro x hx;rcases List.mem_append.mp hx with hx|hx
   ·exact((h.st k hk).but hka B) x hx
   ·exact(hs.but hka B) x hx
  ·rw[if_neg c];exact(h.st j hj).but hka B
theorem NoG.grp {ks:List (Option Str)}{H H':Hp}{p:Addr}{A:Option Str->Addr} (h:NoG P w ks H H' p A) (n:Nat):GrpAt P w ks n H' p A (fun _=>[]) :=
 ⟨h.e,fun k hk=>⟨[],(h.l k hk).1,.nil⟩,(fun _ _ _ z=>nomatch z),h.inj⟩
theorem FX (ks:List (Option Str)):bU ks (fun _=>[])=0:=by
 unfold bU
 induction ks with
 | nil=>rfl
 | cons a l ih=>rw[List.map_cons,List.sum_cons,ih];rfl
inductive GrR (P:Program)(w:World)(ks:List (Option Str))(n:Nat)(tot:Int)(H H':Hp)(p:Addr):Prop
 | mk (A:Option Str->Addr) (g:Option Str->List Wk) (_:Same H H') (_:GrpAt P w ks n H' p A g) (_:bU ks g=tot)
inductive rM (P:Program)(w:World)(C:Addr)(D:aV)(vs:List V)(H:Hp)(Q:VK)(E:XK):Prop
 | mk (h:Addr) (f l:Int) (rz ps:List (Str×Int)) (ds:List aH) (_:vs=[.ref h]) (_:aL C D H h f l rz ps ds) (_:(rz.map (·.1)).Nodup) (_:rz.length<=20) (_:(∀z,0<=cA ps z)) (_:∀p H',GrR P w (bH rz) 0 ((rz.map (·.1)).map (cA ps)).sum H H' p->Q (.ref p) H'):rM P w C D vs H Q E
theorem U4 {C:Addr}{D:aV}{H:Hp}{Q:VK}{E:XK}{h:Addr}{f l:Int}{rz ps:List (Str×Int)}{ds:List aH} (hh:aL C D H h f l rz ps ds) (nr:(rz.map (·.1)).Nodup) (lr:rz.length<=20) (p0:∀z,0<=cA ps z) (k:∀p H',GrR P w (bH rz) 0 ((rz.map (·.1)).map (cA ps)).sum H H' p->Q (.ref p) H'):rM P w C D [.ref h] H Q E:=⟨_,_,_,_,_,_,rfl,hh,nr,lr,p0,k⟩
theorem t6 (m:M K mg):bD P w K mg base CX0 4 m.iX m.iW ["house"] (rM P w m.aF (aQ P w K mg base (some 1))):=by
 refine m.fV.ok sc_groups_at_first (fun vs H Q E h=> ?_) (fun cdv A outer s H vs Q E hr h=> ?_)
 ·walk_at"g1";obtain⟨h,f,l,rz,ps,ds,rfl,hh,nr,lr,p0,k⟩:=h;walk_at"g2";rfl
 ·walk_at"g1";obtain⟨h,f,l,rz,ps,ds,rfl,hh,nr,lr,p0,k⟩:=h;walk_at"g2";have nd:=sc_groups_at_first.nd;walk_at"hu";have gX:= @t5 P w K mg base m;have w_dc_House:=m.aY;have w_mc_House_rooms:= @kZ P w K mg base m;have w_mc_House_found:= @qW P w K mg base m;refine⟨_,(aD (aX (i:=1) nd rfl (by walk_at"oi") (bG gX hr (aA (pv 0) aB)))
   (aD (cX PassesOwn.never rfl (bM (gF 1 hr (pv 0))) (aI (i:=2) nd rfl (by walk_at"oi")) (aE (dE (bV pK (gZ 3 hr (pv 0) (aA (pv 2) aB)) aG (cB _)) (aE (bR (jE PySem.F.plainAttrs_list PySem.F.slot_list_append PySem.F.type_list_append gI (nV (pv 1) (pv 2) (fun _ _=>rfl)) (aA (bY (aA (gZ 3 hr (pv 0) (aA (pv 2) aB)) (aA (pv 2) (aA (eK aB) aB)))) aB)))) b5)))
   (aE (aZ (pv 1))))),?_⟩
  refine aN (σ:=[some (.ref h),none,none]) rfl ?_;walk_at"cx";walk_at"g1";obtain⟨dx,qs,qp,qd,nk,kvs,e1,_⟩:=id hh.ex;walk_at"g2";walk_at"go";refine UF hh nr lr fun p H1 A N=> ?_;have e11:=N.s _ _ e1;walk_at"go";refine lL (bB hh N.s) fun pR H2 n2 S2 eR=> ?_;have g2:=(N.grp 0).same S2;have hRA:∀k∈bH rz,pR≠A k:=fun k hk z=>by rw[z,(N.l k hk).1]at n2;cases n2
  walk_at"go";let Pv1:Nat->St->Hp->Prop:=fun i σ' G=>Same H G/\G pR=some (.lst ((rz.map (·.1)).map V.str))/\(∃g,GrpAt P w (bH rz) 0 G p A g/\bU (bH rz) g=(((rz.map (·.1)).take i).map (cA ps)).sum/\∀y,y∉(rz.map (·.1)).take i->g (some y)=[])/\∃x,σ'=[some (.ref h),some (.ref p),x];refine dI ((rz.map (·.1)).map V.str) Pv1 ⟨N.s.trans S2,eR,⟨_,g2,FX _,fun _ _=>rfl⟩,_,rfl⟩ (fun i σ' G _ q=>SqL.of q.2.1) ?_ ?_
  ·rintro i x _ G hx hq_;walk_at"g1";obtain⟨sG,eRG,⟨g,gr,hsum,hemp⟩,y1,rfl⟩:=hq_;walk_at"g2";rw[List.getElem?_map]at hx;obtain⟨z,hz,rfl⟩:=Option.map_eq_some_iff.mp hx;have hzm:z∈rz.map (·.1):=List.mem_of_getElem? hz;have hk:=nN hzm;have hh':=bB hh sG;have e1G:=sG _ _ e1;have hp0:=p0 z;walk_at"go";refine AD hh' nr hzm fun G1 T1=> ?_;have e1G1:=T1 _ _ e1G;walk_at"go";refine i7 (fun hc=> ?_) (fun hc=> ?_)
   ·have gr1:=gr.same T1;obtain⟨vs,ev,hv⟩:=gr1.l _ hk;walk_at"go";refine lJ (P:=P) (w:=w) (some z) gr1.e (kU hk) ?_;walk_at"go";refine AD (bB hh' T1) nr hzm fun G2 T2=> ?_;walk_at"go";rename_i st G3 m3 T3 e3 q4 G4 m4 T4 e4;have s14:=T2.trans (T3.trans T4);have hgz:=hemp z (lF nr hz);have hvl:vs.length=0:=by
     have h1:vs.length=(g (some z)).length:=Paired.length hv;rw[hgz]at h1;exact h1
    refine gJ (s14 _ _ ev) (by rw[hvl,sizeLine_eq];lia) fun G5 B5 e5=> ?_;walk_at"go";have gr4:=gr1.same s14;have ne:st∉(bH rz).map A:=fun hm=>by
     obtain⟨j,hj,e⟩:=List.mem_map.mp hm;obtain⟨us,h1,_⟩:=(gr1.same T2).l j hj;rw[e,m3]at h1;cases h1
    have gr5:=gr4.more hk (s14 _ _ ev) (eU hv s14) (gs:=[(cA ps z,.str z,st)]) (.cons ⟨q4,rfl,e4⟩ .nil) (fun x hx=>by
     cases List.mem_singleton.mp hx;exact⟨hc,⟨[],T4 _ _ e3,Nat.le_refl _⟩,ne⟩) B5 e5
    refine⟨SameBut.same (N.l _ hk).2 (sG.trans (T1.trans s14)) B5,B5 _ _ ((T1.trans s14) _ _ eRG) (hRA _ hk),⟨_,gr5,?_,fun y hy=> ?_⟩,_,rfl⟩
    ·rw[oH (mH nr) hk,jU,hsum,bT hz,List.map_append,List.sum_append];show _ - szs (g (some z))+(szs (g (some z))+(cA ps z+0))=_+(cA ps z+0)
     lia
    ·rw[bT hz]at hy;unfold qG;rw[if_neg (fun e=>hy (List.mem_append_right _ (by cases e;exact .head _)))];exact hemp y fun h=>hy (List.mem_append_left _ h)
   ·walk_at"go";refine⟨sG.trans T1,T1 _ _ eRG,⟨g,gr.same T1,?_,fun y hy=>hemp y fun h=>hy (by rw[bT hz];exact List.mem_append_left _ h)⟩,_,rfl⟩;rw[hsum,bT hz,List.map_append,List.sum_append];show _=_+(cA ps z+0)
    lia
  ·rintro _ G hq_;walk_at"g1";obtain⟨sG,eRG,⟨g,gr,hsum,hemp⟩,y1,rfl⟩:=hq_;walk_at"g2";rw[List.length_map,List.take_length]at hsum;walk_at"go";exact k p G ⟨A,g,sG,gr,hsum⟩
theorem uC (m:M K mg):Fc P w K mg base "groups_at_first" 4 ["house"] (rM P w m.aF (aQ P w K mg base (some 1))):=⟨_,_,m.vS,m.fV.kp,m.vV,t6 m⟩
inductive vC (K:W.Frag)(vs:List V)(H:Hp)(Q:VK)(E:XK):Prop
 | mk (a:Addr) (us:List V) (rows:List aM) (_:vs=[.ref a]) (_:SqL K H a us) (_:bI H us rows) (_:rows.length<=200) (_:(iD rows).length<64) (_:∀p ws xs H',H p=none->Same H H'->H' p=some (.lst ws)->bI H' ws xs->xs.map fX=mE (iD rows)->Q (.ref p) H'):vC K vs H Q E
theorem Y5 {H:Hp}{Q:VK}{E:XK}{a:Addr}{us:List V}{rows:List aM} (hS:SqL K H a us) (hr:bI H us rows) (hl:rows.length<=200) (h64:(iD rows).length<64) (h:∀p ws xs H',H p=none->Same H H'->H' p=some (.lst ws)->bI H' ws xs->xs.map fX=mE (iD rows)->Q (.ref p) H'):vC K [.ref a] H Q E:=⟨_,_,_,rfl,hS,hr,hl,h64,h⟩
theorem BK {H:Hp}:∀{es:List (List Key×V)}{ys:List V},Paired (fun e y=>∃q,y= .ref q/\H q=some (.tup ((KD e).map kV))) es ys->KRows H ys (es.map KD)
 | _,_,.nil=> .nil
 | _,_,.cons h t=> .cons h (BK t)
theorem y6 {H:Hp}:∀{ws:List V}{ks:List (List Key)},KRows H ws ks->(∀k∈ks,∃r:aM,k=fX r)->∃xs,bI H ws xs/\xs.map fX=ks
 | _,_,.nil,_=>⟨[],.nil,rfl⟩
 | _,_,.cons ⟨p,e,h⟩ t,hk=>by
  obtain⟨xs,h1,h2⟩:=y6 t fun k hk'=>hk k (List.mem_cons_of_mem _ hk');obtain⟨r,rfl⟩:=hk _ (.head _);exact⟨r::xs,.cons ⟨p,e,h⟩ h1,by rw[List.map_cons,h2]⟩
theorem KM (m:M K mg):bD P w K mg base CX0 2 m.uJ m.uI ["plan"] (vC K):=by
 refine m.qC.ok sc_as_told (fun vs H Q E h=> ?_) (fun cdv A outer s H vs Q E hr h=> ?_)
 ·walk_at"g1";obtain⟨a,us,rows,rfl,hS,hpl,hlen,h64,k⟩:=h;walk_at"g2";rfl
 ·walk_at"g1";obtain⟨a,us,rows,rfl,hS,hpl,hlen,h64,k⟩:=h;walk_at"g2";have nd:=sc_as_told.nd;walk_at"hu";have iJ:= @wA P w K mg base m;refine⟨_,(aE (aZ (bK tP rfl m.GS BP (aA (cD (N:=["place","number"]) (nl:=2) (ci:=[]) rfl (blk (s.heap.objs.size+1) rfl rfl rfl (by kernel_rfl)) (MI (bG iJ hr (aA (pv 0) aB))) (fun _ _ _ _=>(gS (K:=K) (n:=2) rfl (aW (aI (i:=0) (show (["place","number"]:List Str).Nodup by decide +kernel) rfl (by walk_at"oi")) (aW (aI (i:=1) (show (["place","number"]:List Str).Nodup by decide +kernel) rfl (by walk_at"oi")) cY)))) (fun _ _ _ _=>(j7 (bV pK (pv 1) aG (cB _)))) (fun _ _ _ _=>(bY (aA (dF (gE (K:=K)) (pv 0) aG (fun _ _=>rfl)) (aA (dF (gE (K:=K)) (pv 0) aG (fun _ _=>rfl)) (aA (pv 1) aB)))))) aB)))),?_⟩;refine aN (σ:=[some (.ref a)]) rfl ?_;walk_at"cx";have hkl:=rS rows;walk_at"go";refine UH hS hpl hlen fun p H1 n1 S1 e1=> ?_;walk_at"go";refine N3 e1 fun o H2 B2 e2=> ?_;have sA:Same H H2:=SameBut.same n1 S1 B2;refine ZO P7 (fun e y H=>∃q,y= .ref q/\H q=some (.tup ((KD e).map kV))) (fun _ _ _ _ ⟨q,h1,h2⟩ s=>⟨q,h1,s _ _ h2⟩) (by rw[sizeLine_eq];lia) (rest:=[]) (by rfl) e2 ?_ ?_ ?_
  ·rintro ⟨kk,v⟩ H3 q hm s3 hq R hR;walk_at"g1";obtain⟨t,n,i,e⟩:=(cW rows).2 _ hm;walk_at"g2";cases e;show (_:TT) (some (V.ref q)::some (V.int i)::[]) H3 R;walk_at"go";exact hR _ (Same.refl _)
  ·rintro ⟨kk,v⟩ H3 q hm - s3 hq R hR;walk_at"g1";obtain⟨t,n,i,e⟩:=(cW rows).2 _ hm;walk_at"g2";cases e;have hq':H3 q=some (.tup [.int t,.str n]):=hq;show (_:TE) (some (V.ref q)::some (V.int i)::[]) H3 R;walk_at"go";refine⟨q,_,0,_,rfl,rfl,SqT.of hq',rfl,?_⟩;walk_at"go";refine⟨q,_,1,_,rfl,rfl,SqT.of hq',rfl,?_⟩;walk_at"go";rename_i q4 H4 n4 S4 e4;exact hR _ _ ⟨q4,rfl,e4⟩ S4
  intro ys H3 s3 hys;have kr:=BK hys;walk_at"go";rename_i q4 H4 n4 S4 e4;refine EJ (SqL.of e4) (kr.same S4) (by rw[Paired.length kr];exact h64) (xX rows) (by decide) fun l ws H5 n5 S5 e5 kr5=> ?_;obtain⟨xs,h1,h2⟩:=y6 kr5 fun kk hk=>by
   walk_at"g1";obtain⟨t,n,rfl,_⟩:=mem_told.mp ((kC _).mem_iff.mp hk);walk_at"g2";exact⟨_,rfl⟩
  have sB:Same H H5:=((sA.trans s3).trans S4).trans S5;have sB4:Same H H4:=(sA.trans s3).trans S4;walk_at"go";refine k l ws xs H5 ?_ sB e5 h1 h2;cases hq:H l with
  | none=>rfl
  | some u=>rw[sB4 _ _ hq]at n5;cases n5
theorem KO (m:M K mg):Fc P w K mg base "as_told" 2 ["plan"] (vC K):=⟨_,_,m.PM,m.qC.kp,m.PU,KM m⟩
def cT (t:Int)(D:List Str)(r:aM):Bool:=decide (r.1=t)&&decide (r.2.1∈D)
def AB (H:Hp)(ys:List V)(xs:List aM):Prop:=KRows H ys (xs.map aAc)
inductive rO (K:W.Frag)(C:Addr)(D:aV)(vs:List V)(H:Hp)(Q:VK)(E:XK):Prop
 | mk (h a:Addr) (z:Str) (t f l:Int) (rz ps:List (Str×Int)) (ds:List aH) (us:List V) (rows:List aM) (_:vs=[.ref h,.ref a,.str z,.int t]) (_:aL C D H h f l rz ps ds) (_:(rz.map (·.1)).Nodup) (_:z∈rz.map (·.1)) (_:ds.length<=20) (_:(∀d∈ds,cZ (rz.map (·.1)) d)) (_:(ds.map (·.1)).Nodup) (_:SqL K H a us) (_:bI H us rows) (_:rows.length<=200) (_:∀p ys H',H p=none->Same H H'->H' p=some (.lst ys)->AB H' ys (kG rows t (jF (eM ds z)))->Q (.ref p) H'):rO K C D vs H Q E
theorem U6 {C:Addr}{D:aV}{H:Hp}{Q:VK}{E:XK}{h a:Addr}{z:Str}{t f l:Int}{rz ps:List (Str×Int)}{ds:List aH}{us:List V}{rows:List aM} (hh:aL C D H h f l rz ps ds) (nr:(rz.map (·.1)).Nodup) (hz:z∈rz.map (·.1)) (hl:ds.length<=20) (hin:∀d∈ds,cZ (rz.map (·.1)) d) (nd:(ds.map (·.1)).Nodup) (hS:SqL K H a us) (hp:bI H us rows) (hr:rows.length<=200)
  (k:∀p ys H',H p=none->Same H H'->H' p=some (.lst ys)->AB H' ys (kG rows t (jF (eM ds z)))->Q (.ref p) H'):rO K C D [.ref h,.ref a,.str z,.int t] H Q E:=⟨_,_,_,_,_,_,_,_,_,_,_,rfl,hh,nr,hz,hl,hin,nd,hS,hp,hr,k⟩
theorem KW {ds:List aH}{z:Str} (nd:(ds.map (·.1)).Nodup):(eM ds z).Nodup:=by
 unfold eM;rw[List.Nodup,List.pairwise_map]at nd ⊢;exact nd.filter _
theorem QI (ds:List aH)(z:Str):(eM ds z).length<=ds.length:=by unfold eM;rw[List.length_map];exact List.length_filter_le _ _
theorem FM {H:Hp}:∀{xs:List aM}{ys:List V},Paired (fun (r:aM) y=>∃q,y= .ref q/\H q=some (.tup [.str r.2.1,.int r.2.2])) xs ys->AB H ys xs
 | _,_,.nil=> .nil
 | _,_,.cons h t=> .cons h (FM t)
theorem EM:∀{xs ys:List aM},xs.map fX=ys.map fX->xs=ys
 | [],[],_=>rfl
 | [],_::_,h=>by cases h
 | _::_,[],h=>by cases h
 | x::xs,y::ys,h=>by
  rw[List.map_cons,List.map_cons]at h;injection h with h1 h2;rw[FU h1,EM h2]
theorem RX (m:M K mg):bD P w K mg base CX0 5 m.BB m.A8 ["house","plan","room","turn"] (rO K m.aF (aQ P w K mg base (some 1))):=by
 refine m.vL.ok sc_signs (fun vs H Q E h=> ?_) (fun cdv A outer s H vs Q E hr h=> ?_)
 ·walk_at"g1";obtain⟨h,a,z,t,f,l,rz,ps,ds,us,rows,rfl,hh,nr,hz,hl,hin,ndn,hS,hpl,hlen,k⟩:=h;walk_at"g2";rfl
 ·walk_at"g1";obtain⟨h,a,z,t,f,l,rz,ps,ds,us,rows,rfl,hh,nr,hz,hl,hin,ndn,hS,hpl,hlen,k⟩:=h;walk_at"g2";have nd:=sc_signs.nd;walk_at"hu";have qC:= @KO P w K mg base m;have w_dc_House:=m.aY;have w_mc_House_from_room:= @t7 P w K mg base m;refine⟨_,(aD (aX (i:=4) nd rfl (by walk_at"oi") (gZ 3 hr (pv 0) (aA (pv 2) aB)))
   (aD (aX (i:=5) nd rfl (by walk_at"oi") (bG qC hr (aA (cD (N:=["row","turn","doors"]) (nl:=1) (ci:=[3,4]) rfl (blk (s.heap.objs.size+1) rfl rfl rfl (by kernel_rfl)) (bM (pv 1)) (fun _ _ _ _=>(aI (i:=0) (show (["row","turn","doors"]:List Str).Nodup by decide +kernel) rfl (by walk_at"oi"))) (fun _ _ _ _=>(j7 (PW.pt (PH (bV yJ (dF (gE (K:=K)) (pv 0) aG (fun _ _=>rfl)) (pv 1) (cB _)) (IL (bV (xV (K:=K)) (dF (gE (K:=K)) (pv 0) aG (fun _ _=>rfl)) (pv 2) (by with_unfolding_all rfl))))))) (fun _ _ _ _=>(pv 0))) aB)))
   (aE (aZ (cD (N:=["at","name","number"]) (nl:=3) (ci:=[]) rfl (blk (s.heap.objs.size+1) rfl rfl rfl (by kernel_rfl)) (bM (pv 5)) (fun _ _ _ _=>(gS (K:=K) (n:=3) rfl (aW (aI (i:=0) (show (["at","name","number"]:List Str).Nodup by decide +kernel) rfl (by walk_at"oi")) (aW (aI (i:=1) (show (["at","name","number"]:List Str).Nodup by decide +kernel) rfl (by walk_at"oi")) (aW (aI (i:=2) (show (["at","name","number"]:List Str).Nodup by decide +kernel) rfl (by walk_at"oi")) cY))))) (fun _ _ _ _=>f9) (fun _ _ _ _=>(bY (aA (pv 1) (aA (pv 2) aB))))))))),?_⟩
  refine aN (σ:=[some (.ref h),some (.ref a),some (.str z),some (.int t),none,none]) rfl ?_;walk_at"cx";have hul:us.length=rows.length:=Paired.length hpl;have fnd:=KW (z:=z) ndn;have ffl:=QI ds z;walk_at"g1";obtain⟨dx,qs,qp,qd,nk,kvs,e1,_⟩:=hh.ex;walk_at"g2";walk_at"go";refine Z4 hh nr hz hl hin fun p1 H1 n1 S1 e1'=> ?_;walk_at"go";refine oA (α:=aM) (xs:=rows) (vs:=us) (t9 H1) (cT t (eM ds z)) (fun r y H=>t9 H y r) (fun _ _ _ _ ⟨q,h1,h2⟩ s=>⟨q,h1,s _ _ h2⟩) (by rw[sizeLine_eq];lia) (rest:=[some (.int t),some (.ref p1)]) (by rfl) (S1.seq hS) (dZ hpl S1) ?_ ?_ ?_
  ·rintro v ⟨t0,n0,j0⟩ H2 ⟨q,rfl,hq⟩ hm s2 R hR;have hq':H2 q=some (.tup [.int t0,.str n0,.int j0]):=s2 _ _ hq;have ep:=s2 _ _ e1';walk_at"go";refine⟨q,_,0,_,rfl,rfl,SqT.of hq',rfl,?_⟩;walk_at"go";refine i7 (fun hc=> ?_) (fun hc=> ?_)
   ·walk_at"go";refine⟨q,_,1,_,rfl,rfl,SqT.of hq',rfl,?_⟩;walk_at"go";refine FQ (SqL.of ep) ?_;walk_at"go";have:=hR _ (Same.refl _);unfold cT at this;rw[decide_eq_true hc,Bool.true_and]at this;exact this
   ·have:=hR _ (Same.refl _);unfold cT at this;rw[decide_eq_false hc,Bool.false_and]at this;exact this
  ·rintro v ⟨t0,n0,j0⟩ H2 ⟨q,rfl,hq⟩ hm - s2 R hR;walk_at"go";exact hR _ _ ⟨q,rfl,s2 _ _ hq⟩ (Same.refl _)
  intro ys H2 s2 hys;have hpl2:=mF hys;walk_at"go";rename_i p3 H3 n3 S3 e3;have fl:(rows.filter (cT t (eM ds z))).length<=rows.length:=List.length_filter_le _ _;refine Y5 (SqL.of e3) (dZ hpl2 S3) (by lia) (Nat.lt_of_le_of_lt (D3 rows t fnd) (by lia)) fun p4 ws xs H4 n4 S4 e4 hx4 hxs=> ?_;have exs:xs=kG rows t (jF (eM ds z)):=EM (hxs.trans (HD rows t fnd));have hxl:xs.length<=20:=by
   have h1:xs.length=(iD (rows.filter (cT t (eM ds z)))).length:=by rw[←List.length_map (f:=fX),hxs,(kC _).length_eq]
   have h2:=D3 rows t fnd;have h3:xs.length<=(eM ds z).length:=by rw[h1];exact h2
   lia
  walk_at"go";refine IE (α:=aM) (xs:=xs) (vs:=ws) (fun r=> .int r.1) (fun r=> .str r.2.1) (fun r=> .int r.2.2) (fun _=>true) (fun r y H=>∃q,y= .ref q/\H q=some (.tup [.str r.2.1,.int r.2.2])) (fun _ _ _ _ ⟨q,h1,h2⟩ s=>⟨q,h1,s _ _ h2⟩) (by rw[sizeLine_eq];lia) (rest:=[]) (by rfl) (SqL.of e4) hx4 (fun x H1 hx s1 R hR=>hR _ (Same.refl _)) (fun x H1 hx _ s1 R hR=> ?_) ?_
  ·walk_at"go";rename_i q9 H9 n9 S9 e9;exact hR _ _ ⟨q9,rfl,e9⟩ S9
  intro ys5 H5 s5 hys5;rw[fO]at hys5;have hn5:=FM hys5;walk_at"go";rename_i p6 H6 n6 S6 e6;have sB:Same H H5:=((((S1.trans s2).trans S3).trans S4).trans s5)
  refine k p6 ys5 H6 ?_ (sB.trans S6) e6 ?_
  ·cases hq:H p6 with
   | none=>rfl
   | some u=>rw[sB _ _ hq]at n6;cases n6
  ·rw[←exs];exact KRows.same hn5 S6
theorem RP (m:M K mg):Fc P w K mg base "signs" 5 ["house","plan","room","turn"] (rO K m.aF (aQ P w K mg base (some 1))):=⟨_,_,m.X3,m.vL.kp,m.X5,RX m⟩
theorem OS {ds:List aH}{z n:Str} (h:n∈eM ds z):n∈ds.map (·.1):=by
 unfold eM at h;obtain⟨d,hd,rfl⟩:=List.mem_map.mp h;exact List.mem_map.mpr ⟨d,(List.mem_filter.mp hd).1,rfl⟩
theorem O5 {gs:List Wk}(h:∀x∈gs,0<x.1):0<=szs gs:=by
 have:=nU h
 lia
theorem AE {g:Option Str->List Wk}{k:Option Str}:∀{ks:List (Option Str)},(∀j∈ks,0<=szs (g j))->(0<=bU ks g)/\(k∈ks->szs (g k)<=bU ks g)
 | [],_=>⟨Int.le_refl _,fun z=>nomatch z⟩
 | a::ks,h=>by
  have ih:=AE (k:=k) (ks:=ks) fun j hj=>h j (List.mem_cons_of_mem _ hj);have h0:=h a (.head _);unfold bU at ih ⊢;rw[List.map_cons,List.sum_cons];refine⟨by lia,fun hk=> ?_⟩;rcases List.mem_cons.mp hk with e|hk
  ·subst e;lia
  ·have:=ih.2 hk
   lia
theorem GrpAt.nn {ks:List (Option Str)}{n:Nat}{H:Hp}{p:Addr}{A:Option Str->Addr}{g:Option Str->List Wk} (h:GrpAt P w ks n H p A g):∀j∈ks,0<=szs (g j):=fun j hj=>O5 fun x hx=>(h.st j hj x hx).1
theorem GrpAt.len {ks:List (Option Str)}{n:Nat}{H:Hp}{p:Addr}{A:Option Str->Addr}{g:Option Str->List Wk} (h:GrpAt P w ks n H p A g) {k:Option Str} (hk:k∈ks):0<=bU ks g/\((g k).length:Int)<=bU ks g:=by
 have h1:=AE (g:=g) (k:=k) h.nn;have h2:=nU fun x hx=>(h.st k hk x hx).1;have h3:=h1.2 hk;exact⟨h1.1,by lia⟩
theorem L8 {ks ks':List (Option Str)}{n:Nat}{H H1 G:Hp}{p p0:Addr}{A A0:Option Str->Addr}{g0:Option Str->List Wk} (h:GrpAt P w ks n H p0 A0 g0) (N:NoG P w ks' H H1 p A) (s:Same H G) {k:Option Str} (hk:k∈ks):StepsOk (ks'.map A) n G (g0 k):=fun x hx=>by
 walk_at"g1";obtain⟨h1,⟨ys,h2,h3⟩,_⟩:=h.st k hk x hx;walk_at"g2";refine⟨h1,⟨ys,s _ _ h2,h3⟩,fun hm=> ?_⟩;obtain⟨j,hj,e⟩:=List.mem_map.mp hm;rw[←e,(N.l j hj).2]at h2;cases h2
theorem StepsOk.up {Av:List Addr}{n m:Nat}{H:Hp}{gs:List Wk} (h:StepsOk Av n H gs) (hm:n<=m):StepsOk Av m H gs:=fun x hx=>by
 walk_at"g1";obtain⟨h1,⟨ys,h2,h3⟩,h4⟩:=h x hx;walk_at"g2";exact⟨h1,⟨ys,h2,Nat.le_trans h3 hm⟩,h4⟩
theorem StepsOk.part {Av:List Addr}{n:Nat}{H:Hp}{gs g':List Wk} (h:StepsOk Av n H gs) (hp:∀x∈g',0<x.1/\∃y∈gs,x.2=y.2):StepsOk Av n H g':=fun x hx=>by
 walk_at"g1";obtain⟨h1,y,hy,e⟩:=hp x hx;walk_at"g2";obtain⟨_,h2,h3⟩:=h y hy;rw[e];exact⟨h1,h2,h3⟩
theorem IH {ks:List (Option Str)}{n m:Nat}{H H':Hp}{p:Addr}{A:Option Str->Addr}{g:Option Str->List Wk}{gs gs':List Wk} (h:GrpAt P w ks m H p A g) (hp:∀x∈gs,0<x.1) (e:gs'.map (·.1)=gs.map (·.1)) (hs:∀x∈gs',H x.2.2=none/\∃ys,H' x.2.2=some (.lst ys)/\ys.length<=n):StepsOk (ks.map A) n H' gs':=fun x hx=>by
 obtain⟨h1,h2⟩:=hs x hx;refine⟨?_,h2,fun hm=> ?_⟩
 ·have:x.1∈gs.map (·.1):=by
   rw[←e];exact List.mem_map.mpr ⟨x,hx,rfl⟩
  obtain⟨y,hy,ey⟩:=List.mem_map.mp this;have:=hp y hy
  lia
 ·obtain⟨j,hj,ej⟩:=List.mem_map.mp hm;obtain⟨vs,h3,_⟩:=h.l j hj;rw[ej,h1]at h3;cases h3
theorem IM {a b:List Wk}(e:a.map (·.1)=b.map (·.1)):szs a=szs b:=by
 unfold szs;rw[e]
def nQ (g0:Option Str->List Wk)(zs:List Str):Int:=(zs.map fun z=>szs (g0 (some z))).sum
theorem KS (rz:List (Str×Int))(g0:Option Str->List Wk):bU (bH rz) g0=szs (g0 none)+nQ g0 (rz.map (·.1)):=by
 unfold bU nQ bH;rw[List.map_cons,List.sum_cons]
 congr 2
 rw[List.map_map];rfl
theorem SO {g0:Option Str->List Wk}{zs:List Str} (h:∀z∈zs,0<=szs (g0 (some z))):0<=nQ g0 zs:=by
 unfold nQ
 induction zs with
 | nil=>exact Int.le_refl _
 | cons a l ih =>
  rw[List.map_cons,List.sum_cons];have h1:=ih fun z hz=>h z (List.mem_cons_of_mem _ hz);have h2:=h a (.head _)
  lia
theorem XZ {α:Type}{l:List α}{i:Nat}{x:α} (h:l[i]? =some x):l.drop i=x::l.drop (i+1):=by
 obtain⟨hi,e⟩:=List.getElem?_eq_some_iff.mp h;rw[List.drop_eq_getElem_cons hi,e]
inductive x8 (P:Program)(w:World)(K:W.Frag)(C:Addr)(D:aV)(vs:List V)(H:Hp)(Q:VK)(E:XK):Prop
 | mk (h a p0:Addr) (T f l tot:Int) (rz ps:List (Str×Int)) (ds:List aH) (us:List V) (rows:List aM) (n:Nat) (A0:Option Str->Addr) (g0:Option Str->List Wk) (_:vs=[.ref h,.ref a,.int T,.ref p0]) (_:aL C D H h f l rz ps ds) (_:(rz.map (·.1)).Nodup) (_:rz.length<=20) (_:(ds.map (·.1)).Nodup) (_:(∀d∈ds,cZ (rz.map (·.1)) d)) (_:ds.length<=20) (_:SqL K H a us) (_:bI H us rows) (_:rows.length<=200) (_:GrpAt P w (bH rz) n H p0 A0 g0) (_:n<=900) (_:bU (bH rz) g0=tot) (_:tot<=900) (_:∀p H',GrR P w (bH rz) (n+1) tot H H' p->Q (.ref p) H'):x8 P w K C D vs H Q E
theorem aBf {C:Addr}{D:aV}{H:Hp}{Q:VK}{E:XK}{h a p0:Addr}{T f l tot:Int}{rz ps:List (Str×Int)}{ds:List aH}{us:List V}{rows:List aM}{n:Nat}{A0:Option Str->Addr}{g0:Option Str->List Wk} (hh:aL C D H h f l rz ps ds) (nr:(rz.map (·.1)).Nodup) (lr:rz.length<=20) (nd:(ds.map (·.1)).Nodup) (hin:∀d∈ds,cZ (rz.map (·.1)) d) (ld:ds.length<=20) (hS:SqL K H a us) (hp:bI H us rows) (hl:rows.length<=200) (gr:GrpAt P w (bH rz) n H p0 A0 g0) (hn:n<=900) (hs:bU (bH rz) g0=tot) (ht:tot<=900) (k:∀p H',GrR P w (bH rz) (n+1) tot H H' p->Q (.ref p) H'):x8 P w K C D [.ref h,.ref a,.int T,.ref p0] H Q E:=⟨_,_,_,_,_,_,_,_,_,_,_,_,_,_,_,rfl,hh,nr,lr,nd,hin,ld,hS,hp,hl,gr,hn,hs,ht,k⟩
theorem yT (m:M K mg):bD P w K mg base CX0 6 m.lT m.lO ["house","plan","turn","groups"] (x8 P w K m.aF (aQ P w K mg base (some 1))):=by
 refine m.iM.ok sc_groups_after (fun vs H Q E h=> ?_) (fun cdv A outer s H vs Q E hr h=> ?_)
 ·walk_at"g1";obtain⟨h,a,p0,T,f,l,tot,rz,ps,ds,us,rows,n,A0,g0,rfl,hh,nr,lr,ndn,hin,ld,hS,hpl,hlen,gr0,hn,hs0,htot,k⟩:=h;walk_at"g2";rfl
 ·walk_at"g1";obtain⟨h,a,p0,T,f,l,tot,rz,ps,ds,us,rows,n,A0,g0,rfl,hh,nr,lr,ndn,hin,ld,hS,hpl,hlen,gr0,hn,hs0,htot,k⟩:=h;walk_at"g2";have nd:=sc_groups_after.nd;walk_at"hu";have gX:= @t5 P w K mg base m;have sS:= @NI P w K mg base m;have vL:= @RP P w K mg base m;have mS:= @JV P w K mg base m;have w_dc_House:=m.aY;have w_mc_House_rooms:= @kZ P w K mg base m;have w_mc_House_door:= @jD P w K mg base m;refine⟨_,(aD (aX (i:=4) nd rfl (by walk_at"oi") (bG gX hr (aA (pv 0) aB)))
   (aD (bR (jE PySem.F.plainAttrs_list PySem.F.slot_list_extend PySem.F.type_list_extend mQ (nV (pv 4) mJ (fun _ _=>rfl)) (aA (nV (pv 3) mJ (fun _ _=>rfl)) aB)))
   (aD (cX PassesOwn.never rfl (bM (gF 1 hr (pv 0))) (aI (i:=5) nd rfl (by walk_at"oi")) (aD (aX (i:=6) nd rfl (by walk_at"oi") (nV (pv 3) (pv 5) (fun _ _=>rfl)))
   (aD (cX PassesOwn.never rfl (bM (bG vL hr (aA (pv 0) (aA (pv 1) (aA (pv 5) (aA (pv 2) aB)))))) (mK (n:=2) rfl (aW (aI (i:=7) nd rfl (by walk_at"oi")) (aW (aI (i:=8) nd rfl (by walk_at"oi")) cY))) (aD (aX (i:=9) nd rfl (by walk_at"oi") (bG sS hr (aA (pv 6) (aA (pv 8) aB))))
   (aD (bR (jE PySem.F.plainAttrs_list PySem.F.slot_list_extend PySem.F.type_list_extend mQ (nV (pv 4) (bP (gZ 1 hr (pv 0) (aA (pv 7) aB)) rfl) (fun _ _=>rfl)) (aA (bG mS hr (aA (dF GB (pv 9) aG (fun _ _=>rfl)) (aA (pv 7) aB))) aB)))
   (aE (aX (i:=6) nd rfl (by walk_at"oi") (dF GB (pv 9) aG (fun _ _=>rfl)))))))
   (aE (bR (jE PySem.F.plainAttrs_list PySem.F.slot_list_extend PySem.F.type_list_extend mQ (nV (pv 4) (pv 5) (fun _ _=>rfl)) (aA (bG mS hr (aA (pv 6) (aA mJ aB))) aB)))))))
   (aE (aZ (pv 4)))))),?_⟩
  refine aN (σ:=[some (.ref h),some (.ref a),some (.int T),some (.ref p0),none,none,none,none,none,none]) rfl ?_;walk_at"cx";walk_at"g1";obtain⟨dx,qs,qp,qd,nk,kvs,e1,_⟩:=id hh.ex;walk_at"g2";have kn:=zC rz;have hp0:∀k∈bH rz,∀x∈g0 k,0<x.1:=fun k hk x hx=>(gr0.st k hk x hx).1;walk_at"go";refine UF hh nr lr fun p H1 A N=> ?_;have e11:=N.s _ _ e1;have gr1:=N.grp (n+1);have gr01:=gr0.same N.s;have eAn:=(N.l none kn).1;obtain⟨v0,ev0,hv0⟩:=gr01.l none kn;have hl0:v0.length=(g0 none).length:=Paired.length hv0;have hl0':=(gr0.len kn).2;walk_at"go";refine lJ (P:=P) (w:=w) none gr1.e (kU kn) ?_;walk_at"go";refine lJ (P:=P) (w:=w) none gr01.e (kU kn) ?_;walk_at"go";refine mR (N.l none kn).1 ev0 (by rw[sizeLine_eq];show 0+v0.length<=_;lia) fun H2 B2 e2=> ?_;have gr2:=gr1.more kn (N.l none kn).1 .nil hv0 ((L8 gr0 N N.s kn).up (Nat.le_succ n)) B2 e2;have s2:Same H H2:=SameBut.same (N.l none kn).2 N.s B2;have hs2:bU (bH rz) (qG (fun _=>[]) none ([]++g0 none))+nQ g0 (rz.map (·.1))=tot:=by
   rw[oH (mH nr) kn,FX,←hs0,KS];show 0 - 0+szs (g0 none)+_=szs (g0 none)+_
   lia
  have e12:=s2 _ _ e1;walk_at"go";refine lL (bB hh s2) fun pR H3 n3 S3 eR=> ?_;have hRA:∀k∈bH rz,pR≠A k:=fun k hk z=>by
   obtain⟨vs,h1,_⟩:=gr2.l k hk;rw[z,h1]at n3;cases n3
  walk_at"go";let Pv1:Nat->St->Hp->Prop:=fun i σ' G=>Same H G/\G pR=some (.lst ((rz.map (·.1)).map V.str))/\(∃g,GrpAt P w (bH rz) (n+1) G p A g/\bU (bH rz) g+nQ g0 ((rz.map (·.1)).drop i)=tot)/\∃x y z u v,σ'=[some (.ref h),some (.ref a),some (.int T),some (.ref p0),some (.ref p),x,y,z,u,v];refine dI ((rz.map (·.1)).map V.str) Pv1 ⟨s2.trans S3,eR,⟨_,gr2.same S3,hs2⟩,_,_,_,_,_,rfl⟩ (fun i σ' G _ q=>SqL.of q.2.1) ?_ ?_
  ·rintro i x _ G hx hq_;walk_at"g1";obtain⟨sG,eRG,⟨g,gr,hsum⟩,y1,y2,y3,y4,y5,rfl⟩:=hq_;walk_at"g2";rw[List.getElem?_map]at hx;obtain⟨z,hz,rfl⟩:=Option.map_eq_some_iff.mp hx;have hzm:z∈rz.map (·.1):=List.mem_of_getElem? hz;have hk:=nN hzm;have hh':=bB hh sG;rw[XZ hz]at hsum;have hsum:bU (bH rz) g+(szs (g0 (some z))+nQ g0 ((rz.map (·.1)).drop (i+1)))=tot:=hsum;have rnn:0<=nQ g0 ((rz.map (·.1)).drop (i+1)):=SO fun y hy=>gr0.nn _ (nN (List.mem_of_mem_drop hy));generalize hrs:nQ g0 ((rz.map (·.1)).drop (i+1))=rs at hsum rnn;obtain⟨vz,evz,hvz⟩:=(gr0.same sG).l _ hk;have oz:=L8 gr0 N sG hk;have hAz:A0 (some z)∉(bH rz).map A:=fun hm=>by
    obtain⟨j,hj,e⟩:=List.mem_map.mp hm;obtain⟨us',h1,_⟩:=gr0.l _ hk;rw[←e,(N.l j hj).2]at h1;cases h1
   walk_at"go";refine lJ (P:=P) (w:=w) (some z) (gr0.same sG).e (kU hk) ?_;walk_at"go";refine U6 hh' nr hzm ld hin ndn (sG.seq hS) (dZ hpl sG) hlen fun pY ys G1 m1 T1 eY hys=> ?_;have hYA:∀k∈bH rz,pY≠A k:=fun k hk' w'=>by
    obtain⟨us',h1,_⟩:=gr.l k hk';rw[w',h1]at m1;cases m1
   have hdl:(kG rows T (jF (eM ds z))).length=ys.length:=by
    have h1:ys.length=((kG rows T (jF (eM ds z))).map aAc).length:=Paired.length hys;rw[List.length_map]at h1;exact h1.symm
   walk_at"go";let Pv2:Nat->St->Hp->Prop:=fun j σ' G'=>Same H G'/\(∀b xs,G1 b=some (.tup xs)->G' b=some (.tup xs))/\G' pY=some (.lst ys)/\G' pR=some (.lst ((rz.map (·.1)).map V.str))/\(∃po wv os g,po∉(bH rz).map A/\G' po=some (.lst wv)/\bQ G' wv os/\StepsOk ((bH rz).map A) n G' os/\GrpAt P w (bH rz) (n+1) G' p A g/\bU (bH rz) g+szs os+rs=tot/\∃u v x,σ'=[some (.ref h),some (.ref a),some (.int T),some (.ref p0),some (.ref p),some (.str z),some (.ref po),u,v,x]);refine dI ys Pv2 ⟨sG.trans T1,fun _ _ e=>e,eY,T1 _ _ eRG,A0 (some z),vz,g0 (some z),g,hAz,T1 _ _ evz,eU hvz T1,oz.same T1,gr.same T1,by lia,_,_,_,rfl⟩ (fun j σ' G' _ q=>SqL.of q.2.2.1) ?_ ?_
   ·rintro j v _ G' hv hq_;walk_at"g1";obtain⟨sG',tS,eY',eR',po,wv,os,g',hpo,epo,hwv,so,gr',hsum',x1,x2,x3,rfl⟩:=hq_;walk_at"g2";have hj:=(List.getElem?_eq_some_iff.mp hv).1;obtain⟨⟨t',n',i'⟩,hr'⟩:∃r,(kG rows T (jF (eM ds z)))[j]? =some r:=⟨_,List.getElem?_eq_getElem (by lia)⟩
    walk_at"g1";obtain⟨q1,r1,x1',y1',z1'⟩:=hys.get (i:=j) (List.getElem?_eq_getElem hj);walk_at"g2";rw[List.getElem?_map,hr']at y1';cases y1';obtain rfl:v= .ref q1:=by
     rw[List.getElem?_eq_getElem hj,x1']at hv;exact(Option.some.inj hv).symm
    have hrm:=List.mem_of_getElem? hr';unfold kG at hrm;obtain⟨n2',hn2,en2⟩:=List.mem_map.mp hrm;obtain⟨hn3,hn4⟩:=List.mem_filter.mp hn2;have hn4:=of_decide_eq_true hn4;cases en2;walk_at"g1";obtain⟨⟨n'',st,e,lt⟩,hd,hdn⟩:=List.mem_map.mp (OS ((rP _).mem_iff.mp hn3));walk_at"g2";have hdn:n''=n':=hdn;subst hdn;have hq1:G' q1=some (.tup [.str n'',.int (c9 rows T n'')]):=tS _ _ z1';generalize c9 rows T n''=tn at hq1 hn4;have ospos:∀x∈os,0<x.1:=fun x hx=>(so x hx).1;have osl:=nU ospos;have gnn:=(gr'.len kn).1;walk_at"go";refine ZP (SqL.of epo) hwv (by lia) (by lia) ospos fun q p1 p2 w1 w2 g1 g2 G2 T2 np1 np2 eq2 ep1 ep2 hw1 hw2 pok=> ?_;have gr2':=gr'.same T2;have hh2:=bB hh (sG'.trans T2);walk_at"g1";obtain⟨dx2,qs2,qp2,qd2,nk2,kvs2,e12',_⟩:=id hh2.ex;walk_at"g2";walk_at"go";refine yW (d:=(n'',st,e,lt)) hh2 ndn hd fun v5 hv5=> ?_;walk_at"g1";obtain⟨q2,C2,dx2',fs2,fp2,rfl,hq2,dcC,l1',l2',l3',l4',l5',mcE,hfp,hlt⟩:=DoorAt.ex hv5;walk_at"g2";obtain⟨o2,ho2,hk2⟩:∃o2,e=oKV o2/\o2∈bH rz:=by
     rcases (hin _ hd).2 with h1|⟨y,h1,h2⟩
     ·exact⟨none,h1,kn⟩
     ·exact⟨some y,h1,nN h2⟩
    obtain⟨vA,evA,hvA⟩:=gr2'.l o2 hk2;have hlA:vA.length=(g' o2).length:=Paired.length hvA;have hlA':=(gr'.len hk2).2;have hg1:=nU fun x hx=>(pok.p1 x hx).1;have hg2:=O5 fun x hx=>(pok.p2 x hx).1;have hps:=pok.sum;walk_at"go";rw[ho2];refine lJ (P:=P) (w:=w) o2 gr2'.e (kU hk2) ?_;walk_at"go";refine⟨q,_,0,_,rfl,rfl,SqT.of eq2,rfl,?_⟩;walk_at"go";refine NB (n:=n) (SqL.of ep1) hw1 (by lia) (by lia) (fun x hx=>((so.same T2).part pok.p1 x hx).2.1) fun p3 w3 g3 G3 np3 T3 e3 hw3 em3 hs3=> ?_;have hw3l:w3.length=g3.length:=Paired.length hw3;have hg3l:g3.length=g1.length:=by
     have:=congrArg List.length em3
     rwa [List.length_map,List.length_map]at this
    walk_at"go";refine mR (T3 _ _ evA) e3 (by rw[sizeLine_eq];lia) fun G4 B4 e4=> ?_;have gr4:=(gr2'.same T3).more hk2 (T3 _ _ evA) (eU hvA T3) hw3 (IH gr2' (fun x hx=>(pok.p1 x hx).1) em3 hs3) B4 e4;have hA2:A o2∈(bH rz).map A:=List.mem_map.mpr ⟨o2,hk2,rfl⟩;have hp2:p2∉(bH rz).map A:=fun hm=>by
     obtain⟨j',hj',ej⟩:=List.mem_map.mp hm;obtain⟨us',h1,_⟩:=gr'.l j' hj';rw[ej,np2]at h1;cases h1
    have tup:∀b xs,G3 b=some (.tup xs)->G4 b=some (.tup xs):=fun b xs eb=>B4 _ _ eb (fun w'=>by rw[w',T3 _ _ evA]at eb;cases eb);walk_at"go";refine⟨q,_,1,_,rfl,rfl,SqT.of (tup _ _ (T3 _ _ eq2)),rfl,?_⟩;walk_at"go";refine⟨SameBut.same (N.l o2 hk2).2 (sG'.trans (T2.trans T3)) B4,fun b xs eb=>tup _ _ ((T2.trans T3) _ _ (tS b xs eb)),B4 _ _ ((T2.trans T3) _ _ eY') (hYA o2 hk2),B4 _ _ ((T2.trans T3) _ _ eR') (hRA o2 hk2),p2,w2,g2,_,hp2,B4 _ _ (T3 _ _ ep2) (fun w'=>hp2 (w'▸hA2)),EV (eU hw2 T3) tup,((so.same (T2.trans T3)).part pok.p2).but hA2 B4,gr4,?_,_,_,_,rfl⟩;rw[oH (mH nr) hk2,jU,IM em3]
    lia
   ·rintro _ G' hq_;walk_at"g1";obtain⟨sG',tS,eY',eR',po,wv,os,g',hpo,epo,hwv,so,gr',hsum',x1,x2,x3,rfl⟩:=hq_;walk_at"g2";have ospos:∀x∈os,0<x.1:=fun x hx=>(so x hx).1;have osl:=nU ospos;have gnn:=(gr'.len kn).1;obtain⟨vA,evA,hvA⟩:=gr'.l _ hk;have hlA:vA.length=(g' (some z)).length:=Paired.length hvA;have hlA':=(gr'.len hk).2;walk_at"go";refine lJ (P:=P) (w:=w) (some z) gr'.e (kU hk) ?_;walk_at"go";refine NB (n:=n) (SqL.of epo) hwv (by lia) (by lia) (fun x hx=>(so x hx).2.1) fun p3 w3 g3 G3 np3 T3 e3 hw3 em3 hs3=> ?_;have hw3l:w3.length=g3.length:=Paired.length hw3;have hg3l:g3.length=os.length:=by
     have:=congrArg List.length em3
     rwa [List.length_map,List.length_map]at this
    walk_at"go";refine mR (T3 _ _ evA) e3 (by rw[sizeLine_eq];lia) fun G4 B4 e4=> ?_;have gr4:=(gr'.same T3).more hk (T3 _ _ evA) (eU hvA T3) hw3 (IH gr' ospos em3 hs3) B4 e4;walk_at"go";refine⟨SameBut.same (N.l _ hk).2 (sG'.trans T3) B4,B4 _ _ (T3 _ _ eR') (hRA _ hk),⟨_,gr4,?_⟩,_,_,_,_,_,rfl⟩;rw[oH (mH nr) hk,jU,IM em3]
    lia
  ·rintro _ G hq_;walk_at"g1";obtain⟨sG,eRG,⟨g,gr,hsum⟩,y1,y2,y3,y4,y5,rfl⟩:=hq_;walk_at"g2";rw[List.length_map,List.drop_length]at hsum;have hsum:bU (bH rz) g+0=tot:=hsum;walk_at"go";exact k p G ⟨A,g,sG,gr,by lia⟩
theorem yQ (m:M K mg):Fc P w K mg base "groups_after" 6 ["house","plan","turn","groups"] (x8 P w K m.aF (aQ P w K mg base (some 1))):=⟨_,_,m.AX,m.iM.kp,m.AY,yT m⟩
def F0 (C:Addr)(H:Hp)(E:XK):Prop:=∀H',Same H H'->E (.ref C) none H'
theorem M9 {C:Addr}{H H1:Hp}{E:XK}{x:Str} (k:F0 C H E) (s:Same H H1):[V.str x].length<=sizeLine/\E (.ref C) none H1:=⟨by rw[sizeLine_eq];show 1<=_;lia,k _ s⟩
local macro_rules| `(tactic| walk_at"rd1")=> `(tactic| (with_reducible refine FA ?_))
structure Hs (rz ps:List (Str×Int))(ds:List aH)(f l:Int):Prop where
 nr:(rz.map (·.1)).Nodup
 nd:(ds.map (·.1)).Nodup
 hin:∀d∈ds,cZ (rz.map (·.1)) d
 f0:0<=f
 f1:f<=l
 f2:l<=f+5
 f3:f<=10
 lr:rz.length<=4
 ld:ds.length<=20
 p0:∀z,0<=cA ps z
 tot:((rz.map (·.1)).map (cA ps)).sum<=900
theorem Hs.few {rz ps:List (Str×Int)}{ds:List aH}{f l:Int} (h:Hs rz ps ds f l) {rows:List aM} (hr:rows.length<=5):(fI rz ps ds f l rows).length<64:=by
 have h1:=JJ ds f l rows;have hp:(bE rz f (l+1 - f).toNat).length<=24:=by
  have e:=kM rz f (l+1 - f).toNat;have hm:(l+1 - f).toNat * rz.length<=6 * 4:=Nat.mul_le_mul (by have:=h.f2;lia) h.lr
  lia
 have h2:(lfK rz ps (goL ds f l rows) (goC ds f l rows) (goL ds f l rows) f l).length<=24:=by
  unfold lfK;rw[List.length_map];exact Nat.le_trans (List.length_filter_le _ _) (Nat.le_trans (List.length_filter_le _ _) hp)
 have h3:(ffK rz ps (goL ds f l rows) (goC ds f l rows) f l).length<=24:=by
  unfold ffK;rw[List.length_map];exact Nat.le_trans (List.length_filter_le _ _) hp
 unfold fI;rw[List.length_append,List.length_append]
 lia
inductive uZ (K:W.Frag)(CN C:Addr)(D:aV)(vs:List V)(H:Hp)(Q:VK)(E:XK):Prop
 | mk (h a:Addr) (f l:Int) (rz ps:List (Str×Int)) (ds:List aH) (us:List V) (rows:List aM) (_:vs=[.ref h,.ref a]) (_:aL C D H h f l rz ps ds) (_:Hs rz ps ds f l) (_:SqL K H a us) (_:bI H us rows) (_:rows.length<=5) (_:(fI rz ps ds f l rows=[]->∀H',Same H H'->Q .non H')) (_:(fI rz ps ds f l rows≠[]->F0 CN H E)):uZ K CN C D vs H Q E
theorem aAh {CN C:Addr}{D:aV}{H:Hp}{Q:VK}{E:XK}{h a:Addr}{f l:Int}{rz ps:List (Str×Int)}{ds:List aH}{us:List V}{rows:List aM} (hh:aL C D H h f l rz ps ds) (hs:Hs rz ps ds f l) (hS:SqL K H a us) (hp:bI H us rows) (hl:rows.length<=5) (k:fI rz ps ds f l rows=[]->∀H',Same H H'->Q .non H') (k':fI rz ps ds f l rows≠[]->F0 CN H E):uZ K CN C D [.ref h,.ref a] H Q E:=⟨_,_,_,_,_,_,_,_,_,rfl,hh,hs,hS,hp,hl,k,k'⟩
theorem zO (m:M K mg):bD P w K mg base (CXE P w) 11 m.nE m.m8 ["house","plan"] (uZ K m.cH m.aF (aQ P w K mg base (some 1))):=by
 refine m.jK.okE sc_need_lawful (fun vs H Q E h=> ?_) (fun cdv A outer s H vs Q E hr h=> ?_)
 ·walk_at"g1";obtain⟨h,a,f,l,rz,ps,ds,us,rows,rfl,hh,hs,hS,hpl,hlen,k,k'⟩:=h;walk_at"g2";rfl
 ·walk_at"g1";obtain⟨h,a,f,l,rz,ps,ds,us,rows,rfl,hh,hs,hS,hpl,hlen,k,k'⟩:=h;walk_at"g2";have nd:=sc_need_lawful.nd;walk_at"hu";have l6:= @B1 P w K mg base m;refine⟨_,(aE (dE (bV pK (bK g7 rfl m.nS kI (aA (bG l6 hr (aA (pv 0) (aA (pv 1) aB))) aB)) aG (cB _)) (aE (QA m.GE m.SX ZC (aA gR aB))) b5)),?_⟩;refine aN (σ:=[some (.ref h),some (.ref a)]) rfl ?_;walk_at"cx";walk_at"g1";obtain⟨nr,ndn,hin,f0,f1,f2,f3,lr,ld,p0,htot⟩:=id hs;walk_at"g2";walk_at"go";refine UP hh nr ndn hin f0 f1 (by lia) (by lia) (by lia) ld hS hpl (by lia) (hs.few hlen) fun p ws H1 n1 S1 e1 hws=> ?_;have hwl:ws.length=(fI rz ps ds f l rows).length:=(Paired.length hws).trans (kC _).length_eq;walk_at"go";refine i7 (fun hc=> ?_) (fun hc=> ?_)
  ·walk_at"go";refine M9 (k' fun z=> ?_) S1;rw[z]at hwl;have hwl:ws.length=0:=hwl
   lia
  ·walk_at"go";exact k (List.length_eq_zero_iff.mp (by lia)) _ S1
theorem AC (m:M K mg):FcE P w K mg base "need_lawful" 11 ["house","plan"] (uZ K m.cH m.aF (aQ P w K mg base (some 1))):=⟨_,_,m.C6,m.jK.kp,m.DF,zO m⟩
local macro_rules| `(tactic| walk_at"rd1")=> `(tactic| (with_reducible refine FA ?_))
inductive YZ (tot:Int)(H H':Hp)(p:Addr):Prop
 | mk (ws:List V) (gs:List Wk) (_:Same H H') (_:H' p=some (.lst ws)) (_:bQ H' ws gs) (_:gs.length<=900) (_:szs gs=tot)
inductive r9 (K:W.Frag)(CN C:Addr)(D:aV)(vs:List V)(H:Hp)(Q:VK)(E:XK):Prop
 | mk (h a:Addr) (f l:Int) (rz ps:List (Str×Int)) (ds:List aH) (us:List V) (rows:List aM) (_:vs=[.ref h,.ref a]) (_:aL C D H h f l rz ps ds) (_:Hs rz ps ds f l) (_:SqL K H a us) (_:bI H us rows) (_:rows.length<=5) (_:(fI rz ps ds f l rows=[]->∀p H',YZ ((rz.map (·.1)).map (cA ps)).sum H H' p->Q (.ref p) H')) (_:(fI rz ps ds f l rows≠[]->F0 CN H E)):r9 K CN C D vs H Q E
theorem W8 {CN C:Addr}{D:aV}{H:Hp}{Q:VK}{E:XK}{h a:Addr}{f l:Int}{rz ps:List (Str×Int)}{ds:List aH}{us:List V}{rows:List aM} (hh:aL C D H h f l rz ps ds) (hs:Hs rz ps ds f l) (hS:SqL K H a us) (hp:bI H us rows) (hl:rows.length<=5) (k:fI rz ps ds f l rows=[]->∀p H',YZ ((rz.map (·.1)).map (cA ps)).sum H H' p->Q (.ref p) H') (k':fI rz ps ds f l rows≠[]->F0 CN H E):r9 K CN C D [.ref h,.ref a] H Q E:=⟨_,_,_,_,_,_,_,_,_,rfl,hh,hs,hS,hp,hl,k,k'⟩
theorem BU {ks:List (Option Str)}{g:Option Str->List Wk}{i:Nat}{k:Option Str} (h:ks[i]? =some k):bU (ks.take (i+1)) g=bU (ks.take i) g+szs (g k):=by
 unfold bU;rw[bT h,List.map_append,List.sum_append];show _+(szs (g k)+0)=_
 lia
theorem HQ {ks:List (Option Str)}{g:Option Str->List Wk} (h:∀j∈ks,0<=szs (g j)) (i:Nat):bU (ks.take i) g<=bU ks g:=by
 have e:bU ks g=bU (ks.take i) g+bU (ks.drop i) g:=by
  unfold bU;rw[←List.sum_append,←List.map_append,List.take_append_drop]
 have h2:=(AE (g:=g) (k:=none) (ks:=ks.drop i) fun j hj=>h j (List.mem_of_mem_drop hj)).1
 lia
theorem QE (m:M K mg):bD P w K mg base (CXE P w) 12 m.A4 m.BC ["house","plan"] (r9 K m.cH m.aF (aQ P w K mg base (some 1))):=by
 refine m.oB.okE sc_walks (fun vs H Q E h=> ?_) (fun cdv A outer s H vs Q E hr h=> ?_)
 ·walk_at"g1";obtain⟨h,a,f,l,rz,ps,ds,us,rows,rfl,hh,hs,hS,hpl,hlen,k,k'⟩:=h;walk_at"g2";rfl
 ·walk_at"g1";obtain⟨h,a,f,l,rz,ps,ds,us,rows,rfl,hh,hs,hS,hpl,hlen,k,k'⟩:=h;walk_at"g2";have nd:=sc_walks.nd;walk_at"hu";have iM:= @yQ P w K mg base m;have fV:= @uC P w K mg base m;have jK:= @AC P w K mg base m;have w_dc_House:=m.aY;refine⟨_,(aD (bR (TR jK hr aBn (aA (pv 0) (aA (pv 1) aB))))
   (aD (aX (i:=2) nd rfl (by walk_at"oi") (bG fV hr (aA (pv 0) aB)))
   (aD (cX EO rfl (BY rfl m.oE (aA (bP (pv 0) rfl) (aA (bP (pv 0) rfl) aB))) (aI (i:=3) nd rfl (by walk_at"oi")) (aE (aX (i:=2) nd rfl (by walk_at"oi") (bG iM hr (aA (pv 0) (aA (pv 1) (aA (pv 3) (aA (pv 2) aB))))))))
   (aD (aX (i:=4) nd rfl (by walk_at"oi") (eK aB))
   (aD (IJ (cX EO rfl (Q8 (pv 2)) (aI (i:=5) nd rfl (by walk_at"oi")) (aE (bR (jE PySem.F.plainAttrs_list PySem.F.slot_list_extend PySem.F.type_list_extend mQ (pv 4) (aA (pv 5) aB))))))
   (aE (aZ (pv 4)))))))),?_⟩
  refine aN (σ:=[some (.ref h),some (.ref a),none,none,none,none]) rfl ?_;walk_at"cx";walk_at"g1";obtain⟨nr,ndn,hin,f0,f1,f2,f3,lr,ld,p0,htot⟩:=id hs;walk_at"g2";walk_at"g1";obtain⟨dx,qs,qp,qd,nk,kvs,e1,_⟩:=id hh.ex;walk_at"g2";have kn:=zC rz;walk_at"go";refine aAh hh hs hS hpl hlen (fun hf H1 S1=> ?_) (fun hf=> ?_)
  rotate_left
  ·exact k' hf
  have hh1:=bB hh S1;have e11:=S1 _ _ e1;walk_at"go";refine U4 hh1 nr (by lia) p0 fun p1 H2 hX=> ?_;walk_at"g1";obtain⟨A1,g1,S2,gr1,hs1⟩:=hX;walk_at"g2";have s02:=S1.trans S2;have e12:=s02 _ _ e1;generalize ((rz.map (·.1)).map (cA ps)).sum=tot at htot hs1 k;walk_at"go";let Pv1:Nat->St->Hp->Prop:=fun i σ' G=>Same H G/\(∃pG A g,GrpAt P w (bH rz) i G pG A g/\bU (bH rz) g=tot/\∃x,σ'=[some (.ref h),some (.ref a),some (.ref pG),x,none,none]);refine z4 Pv1 ⟨s02,p1,A1,g1,gr1,hs1,_,rfl⟩ ?_ ?_
  ·rintro i _ G hi hq_;walk_at"g1";obtain⟨sG,pG,A,g,gr,hsum,y1,rfl⟩:=hq_;walk_at"g2";walk_at"go";refine aBf (bB hh sG) nr (by lia) ndn hin ld (sG.seq hS) (dZ hpl sG) (by lia) gr (by lia) hsum htot fun p2 G1 hX=> ?_;walk_at"g1";obtain⟨A2,g2,T1,gr2,hs2⟩:=hX;walk_at"g2";walk_at"go";exact⟨sG.trans T1,p2,A2,g2,gr2,hs2,_,rfl⟩
  ·rintro _ G hq_;walk_at"g1";obtain⟨sG,pG,A,g,gr,hsum,y1,rfl⟩:=hq_;walk_at"g2";walk_at"go";rename_i pd G1 m1 T1 ed;have gr1:=gr.same T1;have hnf:∀o x,dN P w pG (grK (bH rz) A)≠ .frz o x:=fun _ _ z=>by cases z
   refine D1 gr1.e hnf ?_;walk_at"go";refine RT (P:=P) (w:=w) gr1.e fun o G2 B2 e2=> ?_;have hdp:pd≠pG:=fun z=>by rw[z,gr.e]at m1;cases m1
   have ed2:=B2 _ _ ed hdp;have hl2:∀k∈bH rz,∃vs,G2 (A k)=some (.lst vs)/\bQ G2 vs (g k):=fun k hk=>by
    obtain⟨vs,h1,h2⟩:=gr1.l k hk;exact⟨vs,B2 _ _ h1 (fun z=>by rw[z,gr1.e]at h1;exact KC (Option.some.inj h1).symm),jB h2 gr1.e (fun _ z=>by cases z) B2⟩
   have hAd:∀k∈bH rz,A k≠pd:=fun k hk z=>by
    obtain⟨vs,h1,_⟩:=gr.l k hk;rw[z,m1]at h1;cases h1
   let Pv2:Nat->St->Hp->Prop:=fun i σ' G'=>SameBut pd G2 G'/\(∃ws gs,G' pd=some (.lst ws)/\bQ G' ws gs/\(gs.length:Int)<=szs gs/\szs gs=bU ((bH rz).take i) g)/\∃x,σ'=[some (.ref h),some (.ref a),some (.ref pG),y1,some (.ref pd),x];refine RL (P:=P) (w:=w) (grK (bH rz) A) Pv2 ⟨SameBut.refl,⟨[],[],ed2,.nil,Int.le_refl _,rfl⟩,_,rfl⟩ (fun i σ' G' q=>q.1 _ _ e2 (fun z=>hdp z.symm)) ?_ ?_
   ·rintro i kk v _ G' hv hq_;walk_at"g1";obtain⟨sb,⟨ws,gs,ew,hw,hgl,hgs⟩,x1,rfl⟩:=hq_;walk_at"g2";unfold grK at hv;rw[List.getElem?_map]at hv;obtain⟨k2,hkk,ekk⟩:=Option.map_eq_some_iff.mp hv;cases ekk;have hkm:=List.mem_of_getElem? hkk;obtain⟨vs,h1,h2⟩:=hl2 kk hkm;have h1':=sb _ _ h1 (hAd kk hkm);have h2':bQ G' vs (g kk):=jB h2 ed2 (fun _ z=>by cases z) sb;have hp:=nU fun x hx=>(gr.st kk hkm x hx).1;have hle:=HQ (g:=g) gr.nn (i+1);rw[BU hkk]at hle;have l1:ws.length=gs.length:=Paired.length hw;have l2:vs.length=(g kk).length:=Paired.length h2;walk_at"go";refine mR ew h1' (by rw[sizeLine_eq];lia) fun G3 B3 e3=> ?_;walk_at"go";refine⟨sb.trans B3,⟨_,gs++g kk,e3,jB (qY h2' hw) ew (fun _ z=>by cases z) B3,?_,?_⟩,_,rfl⟩
    ·rw[List.length_append,jU];lia
    ·rw[jU,BU hkk,hgs]
   ·rintro _ G' hq_;walk_at"g1";obtain⟨sb,⟨ws,gs,ew,hw,hgl,hgs⟩,x1,rfl⟩:=hq_;walk_at"g2";rw[show (grK (bH rz) A).length=(bH rz).length from List.length_map ..,List.take_length]at hgs;have eG:G' pG=some (.frz o (dN P w pG (grK (bH rz) A))):=sb _ _ e2 (fun z=>hdp z.symm);refine jY eG fun G4 B4 e4=> ?_;walk_at"go";refine k hf pd G4 ⟨ws,gs,?_,B4 _ _ ew hdp,jB hw eG (fun _ z=>by cases z) B4,by lia,by lia⟩;intro b u hb;have h1:=(sG.trans T1) _ _ hb
    by_cases c:b=pG
    ·rw[c,gr1.e]at h1;rw[c,e4];exact h1
    ·exact B4 _ _ (sb _ _ (B2 _ _ h1 c) (fun z=>by have h2:=sG _ _ hb;rw[z,m1]at h2;cases h2)) c
theorem E4 (m:M K mg):FcE P w K mg base "walks" 12 ["house","plan"] (r9 K m.cH m.aF (aQ P w K mg base (some 1))):=⟨_,_,m.X8,m.oB.kp,m.X4,QE m⟩
def jG (ns:List Int)(k:Int):Int:=ns.getD k.toNat 0
inductive vJ (K:W.Frag)(vs:List V)(H:Hp)(Q:VK)(E:XK):Prop
 | mk (a:Addr) (ns:List Int) (k:Int) (_:vs=[.ref a,.int k]) (_:SqL K H a (ns.map V.int)) (_:0<=k) (_:Q (.int (jG ns k)) H):vJ K vs H Q E
theorem YF {H:Hp}{Q:VK}{E:XK}{a:Addr}{ns:List Int}{i:Int} (hS:SqL K H a (ns.map V.int)) (hi:0<=i) (h:Q (.int (jG ns i)) H):vJ K [.ref a,.int i] H Q E:=⟨_,_,_,rfl,hS,hi,h⟩
theorem yP (m:M K mg):bD P w K mg base CX0 1 m.l7 m.lR ["_law_script","_law_k"] (vJ K):=by
 refine m.b9.ok sc__law_cell_at (fun vs H Q E h=> ?_) (fun cdv A outer s H vs Q E hr h=> ?_)
 ·walk_at"g1";obtain⟨a,ns,i,rfl,hS,hi,k⟩:=h;walk_at"g2";rfl
 ·walk_at"g1";obtain⟨a,ns,i,rfl,hS,hi,k⟩:=h;walk_at"g2";have nd:=sc__law_cell_at.nd;walk_at"hu";refine⟨_,(aD (dE (bV pM (pv 1) (bK g7 rfl m.nS kI (aA (pv 0) aB)) (cB _)) (aE (aZ (dF nY (pv 0) (pv 1) (fun _ _=>rfl)))) b5)
   (aE (aZ aG))),?_⟩
  refine aN (σ:=[some (.ref a),some (.int i)]) rfl ?_;walk_at"cx";walk_at"go";rw[List.length_map];refine i7 (fun h1=> ?_) (fun h1=> ?_)
  ·have hlt:i.toNat<ns.length:=by lia
   have e:=u7 (xs:=ns.map V.int) (j:=i.toNat) (v:= .int (jG ns i)) (by
    rw[List.getElem?_map,List.getElem?_eq_getElem hlt];unfold jG;rw[List.getD_eq_getElem?_getD,List.getElem?_eq_getElem hlt];rfl)
   rw[show ((i.toNat:Nat):Int)=i by lia]at e;exact⟨_,rfl,_,rfl,a,_,i,_,rfl,rfl,hS,e,k⟩
  ·have e:jG ns i=0:=by
    unfold jG;rw[List.getD_eq_getElem?_getD,List.getElem?_eq_none (by lia)];rfl
   rw[e]at k;exact k
theorem pV (m:M K mg):Fc P w K mg base "_law_cell_at" 1 ["_law_script","_law_k"] (vJ K):=⟨_,_,m.BA,m.b9.kp,m.AW,yP m⟩
def FY (c k:Int):Int:=(c+7919 * k+1) * 48271%2147483647
def FG (c k:Int):Int:=FY c k * (FY c k/1009+69621)%2147483647
def bO (c k:Int):Int:=(FG c k+31 * k+1) * (FG c k/757+16807)%2147483629
theorem QX (c k:Int):0<=bO c k:=Int.emod_nonneg _ (by decide)
theorem Q3 (c k:Int):bO c k<2147483648:=Int.lt_trans (Int.emod_lt_of_pos _ (by decide)) (by decide)
inductive rF (vs:List V)(H:Hp)(Q:VK)(E:XK):Prop
 | mk (c k:Int) (_:vs=[.int c,.int k]) (_:0<=k) (_:k<=100) (_:((0<=bO c k/\bO c k<2147483648)->Q (.int (bO c k)) H)):rF vs H Q E
theorem VB {H:Hp}{Q:VK}{E:XK}{c k:Int} (h0:0<=k) (h1:k<=100) (h:∀n,n=bO c k->0<=n->n<2147483648->Q (.int n) H):rF [.int c,.int k] H Q E:=⟨_,_,rfl,h0,h1,fun x=>h _ rfl x.1 x.2⟩
theorem C1 (m:M K mg):bD P w K mg base CX0 1 m.pI m.o7 ["_law_cell","_law_k"] (rF):=by
 refine m.bJ.ok sc__law_drawn (fun vs H Q E h=> ?_) (fun cdv A outer s H vs Q E hr h=> ?_)
 ·walk_at"g1";obtain⟨c,j,rfl,j0,j1,k⟩:=h;walk_at"g2";rfl
 ·walk_at"g1";obtain⟨c,j,rfl,j0,j1,k⟩:=h;walk_at"g2";have nd:=sc__law_drawn.nd;walk_at"hu";refine⟨_,(aD (aX (i:=2) nd rfl (by walk_at"oi") (aU cI (aU rA (aU cG (aU cG (pv 0) (aU rA aG (pv 1))) aG) aG) aG))
   (aD (aX (i:=2) nd rfl (by walk_at"oi") (aU cI (aU rA (pv 2) (aU cG (aU rD (pv 2) aG) aG)) aG))
   (aE (aZ (aU cI (aU rA (aU cG (aU cG (pv 2) (aU rA aG (pv 1))) aG) (aU cG (aU rD (pv 2) aG) aG)) aG))))),?_⟩
  refine aN (σ:=[some (.int c),some (.int j),none]) rfl ?_;walk_at"cx";have k:=k ⟨QX c j,Q3 c j⟩;unfold bO FG FY at k;walk_at"go";exact k
theorem mT (m:M K mg):Fc P w K mg base "_law_drawn" 1 ["_law_cell","_law_k"] (rF):=⟨_,_,m.GV,m.bJ.kp,m.GF,C1 m⟩
local macro_rules| `(tactic| walk_at"rd1")=> `(tactic| first|((with_reducible refine' YF ?e ?s ?_);(case e=>walk_at"hp");(case s=>walk_at"sd"))|((with_reducible refine' VB ?u ?v ?_);(case u=>walk_at"sd");(case v=>walk_at"sd");intro n' d' h0' h1'))
theorem uT:iO "abcdefghijklmnopqrstuvwxyz" =true:=by decide +kernel
theorem JM:("abcdefghijklmnopqrstuvwxyz" :Str).length=26:=by rw[cE];decide
theorem IV {x rest:Str}{b p:Int}{ch:Nat} (hx:iO x=true) (hb0:0<=b) (hb:b<8) (er:rest=Txt.slice x none (some b)) (hp0:0<=p) (hp:p<rest.length+1) (hc:iO ⟨#[ch]⟩=true):cS (Txt.slice rest none (some p)++⟨#[ch]⟩++Txt.slice rest (some p) none)=true:=by
 have l1:rest.length<=7:=by
  rcases PyProof.Rows.slice_ns_cases x b hb0 with h|h
  ·rw[er];lia
  ·rw[er];lia
 have hr:iO rest=true:=by rw[er];exact j9 hx
 have l2:=(PyProof.Rows.fact_slice_ns rest p).1 hp0 (by lia);have l3:=(PyProof.Rows.fact_slice_sn rest p).1 hp0 (by lia);have l4:(⟨#[ch]⟩:Str).length=1:=rfl;refine QR ?_ ?_ (D4 (D4 (j9 hr) hc) (j9 hr))
 ·rw[fN,fN];lia
 ·rw[fN,fN];lia
theorem wE:("abcdefghijklmnopqrstuvwxyz" :Str).cps.toList=List.range' 97 26:=by decide +kernel
theorem ZW {i:Int}(h0:0<=i)(h1:i<26):atI ("abcdefghijklmnopqrstuvwxyz" :Str).cps.toList i=some (97+i.toNat):=by
 have e:=u7 (xs:=("abcdefghijklmnopqrstuvwxyz" :Str).cps.toList) (j:=i.toNat) (v:=97+i.toNat) (by rw[wE,List.getElem?_range' (by lia)];simp);rw[show ((i.toNat:Nat):Int)=i by lia]at e;exact e
def LD (c:Int):Str:=Txt.slice (Txt.slice "abcdefghijklmnopqrstuvwxyz" (some (bO c 1%20)) none) none (some (bO c 2%8))
def OP (c:Int):Int:=bO c 3%((LD c).length+1)
def c5 (c k:Int):Str:=Txt.slice (LD c) none (some (OP c))++⟨#[97+((bO c 4+5 * k)%26).toNat]⟩++Txt.slice (LD c) (some (OP c)) none
theorem MU {c k1 k2:Int}(h0:0<=k1)(h1:k1<26)(h2:0<=k2)(h3:k2<26)(h:c5 c k1=c5 c k2):k1=k2:=by
 have h':=congrArg (fun z:Str=>z.cps.toList) h;unfold c5 at h';simp only[wB]at h';have h4:=List.append_cancel_left (List.append_cancel_right h');have h5:97+((bO c 4+5 * k1)%26).toNat=97+((bO c 4+5 * k2)%26).toNat:=by simpa using h4
 omega
inductive sN (vs:List V)(H:Hp)(Q:VK)(E:XK):Prop
 | mk (c k:Int) (_:vs=[.int c,.int k]) (_:(cS (c5 c k)=true->Q (.str (c5 c k)) H)):sN vs H Q E
theorem WD {H:Hp}{Q:VK}{E:XK}{c k:Int} (h:∀z,z=c5 c k->cS z=true->Q (.str z) H):sN [.int c,.int k] H Q E:=⟨_,_,rfl,h _ rfl⟩
theorem FO (m:M K mg):bD P w K mg base CX0 2 m.qM m.qI ["_law_cell","_law_k"] (sN):=by
 refine m.jC.ok sc__law_name (fun vs H Q E h=> ?_) (fun cdv A outer s H vs Q E hr h=> ?_)
 ·walk_at"g1";obtain⟨c,j,rfl,k⟩:=h;walk_at"g2";rfl
 ·walk_at"g1";obtain⟨c,j,rfl,k⟩:=h;walk_at"g2";have nd:=sc__law_name.nd;walk_at"hu";have bJ:= @mT P w K mg base m;refine⟨_,(aD (aX (i:=2) nd rfl (by walk_at"oi") gR)
   (aD (aX (i:=3) nd rfl (by walk_at"oi") (oN yA (oN yA (pv 2) (nZ (aU cI (bG bJ hr (aA (pv 0) (aA aG aB))) aG)) u4) u4 (nZ (aU cI (bG bJ hr (aA (pv 0) (aA aG aB))) aG))))
   (aD (aX (i:=4) nd rfl (by walk_at"oi") (aU cI (bG bJ hr (aA (pv 0) (aA aG aB))) (aU cG (bK CI rfl m.nS kI (aA (pv 3) aB)) aG)))
   (aE (aZ (aU JD (aU JD (oN yA (pv 3) u4 (nZ (pv 4))) (dF aAJ (pv 2) (aU cI (aU cG (bG bJ hr (aA (pv 0) (aA aG aB))) (aU rA aG (pv 1))) aG) (fun _ _=>rfl))) (oN yA (pv 3) (nZ (pv 4)) u4))))))),?_⟩
  refine aN (σ:=[some (.int c),some (.int j),none,none,none]) rfl ?_;walk_at"cx";have hl:=JM;walk_at"go";refine⟨_,_,_,rfl,rfl,(by walk_at"sz"),ZW (by lia) (by lia),?_⟩;walk_at"go"
  subst_vars
  refine k ?_;refine' IV (x:=Txt.slice "abcdefghijklmnopqrstuvwxyz" (some (bO c 1%20)) none) (b:=bO c 2%8) ?x ?b0 ?b1 ?er ?p0 ?p1 ?hc
  case er=>rfl
  case x=>exact j9 uT
  case b0=>lia
  case b1=>lia
  case p0=>exact Int.emod_nonneg _ (by lia)
  case p1=>exact Int.emod_lt_of_pos _ (by lia)
  case hc =>
   refine ES uT ?_;rw[wE,List.mem_range'_1]
   lia
theorem F6 (m:M K mg):Fc P w K mg base "_law_name" 2 ["_law_cell","_law_k"] (sN):=⟨_,_,m.HX,m.jC.kp,m.HU,FO m⟩
local macro_rules| `(tactic| walk_at"rd1")=> `(tactic| ((with_reducible refine WD ?_);intro z' dz' hz'))
theorem VY {α:Type}(nm:α->Str)(sz pp:α->Int):∀{l:List α},(l.map nm).Nodup->(∀i∈l,0<=pp i/\pp i<=sz i)->wK (l.map fun i=>(nm i,sz i)) (l.map fun i=>(nm i,pp i)):=fun {l} nd h=>by
 refine⟨fun p hp=> ?_,fun e he=> ?_⟩
 ·obtain⟨e,he,rfl⟩:=List.mem_map.mp hp;exact(h e he).1
 ·obtain⟨j,hj,rfl⟩:=List.mem_map.mp he;have key:∀l:List α,(l.map nm).Nodup->j∈l->cA (l.map fun i=>(nm i,pp i)) (nm j)=pp j:=fun l=>by
   induction l with
   | nil=>exact fun _ h=>nomatch h
   | cons a l ih =>
    intro nd hm;have nd':=List.nodup_cons.mp nd;have hz:∀l:List α,nm a∉l.map nm->cA (l.map fun i=>(nm i,pp i)) (nm a)=0:=fun l=>by
     induction l with
     | nil=>exact fun _=>rfl
     | cons b l ih =>
      intro hn;rw[List.map_cons,List.mem_cons,not_or]at hn;have:=ih hn.2;unfold cA at this ⊢;rw[List.map_cons,List.filter_cons_of_neg (by simpa using fun z=>hn.1 z.symm),this]
    rcases List.mem_cons.mp hm with h|h
    ·subst h;have:=hz l nd'.1;unfold cA at this ⊢;rw[List.map_cons,List.filter_cons_of_pos (by simp),List.map_cons,List.sum_cons,this];exact Int.add_zero _
    ·have hne:¬nm a=nm j:=fun z=>nd'.1 (show nm a∈_ by rw[z];exact List.mem_map.mpr ⟨j,h,rfl⟩);have:=ih nd'.2 h;unfold cA at this ⊢;rw[List.map_cons,List.filter_cons_of_neg (by simpa using hne),this]
  show cA _ (nm j)<=sz j;rw[key l nd hj];exact(h j hj).2
theorem v8 (c b:Int)(n:Nat)(h0:0<=b)(hb:b+n<=26):((List.range n).map fun k:Nat=>c5 c ((k:Int)+b)).Nodup:=by
 rw[List.Nodup,List.pairwise_map];refine List.Pairwise.imp_of_mem ?_ (List.nodup_range (n:=n));intro i j hi hj hne z;have hi':=List.mem_range.mp hi;have hj':=List.mem_range.mp hj;have:=MU (by lia) (by lia) (by lia) (by lia) z
 lia
theorem EW (c k:Int):cS (c5 c k)=true:=by
 have hl:=JM;refine IV (x:=Txt.slice "abcdefghijklmnopqrstuvwxyz" (some (bO c 1%20)) none) (b:=bO c 2%8) (j9 uT) (by lia) (by lia) rfl ?_ ?_ ?_
 ·exact Int.emod_nonneg _ (by lia)
 ·exact Int.emod_lt_of_pos _ (by lia)
 ·refine ES uT ?_;rw[wE,List.mem_range'_1]
  lia
def fG (c sh:Int)(i:Nat):Str×Int:=(c5 c (i:Int),bO sh (i:Int)%7)
def qF (c sh c3:Int)(i:Nat):Str×Int:=(c5 c (i:Int),bO c3 (i:Int)%(bO sh (i:Int)%7+1))
theorem V7 {H:Hp}{p dx:Addr}{n st:Str}{e:V}{wd:Int} (m:M K mg) (h:H p=some (.ins m.gG dx (yY (.str n) (.str st) e (.int wd)))):(aQ P w K mg base (some 1)).at' H (.ref p) (n,st,e,fun _=>wd) :=
 ⟨p,_,dx,_,[],rfl,h,m.rE,by walk_at"lk",by walk_at"lk",by walk_at"lk",by walk_at"lk",by walk_at"lk",xY m,(fun _ z=>nomatch z),fun kl hk=>by
  cases hk;exact⟨_,EQ m,fun H' t Q hp _ ht k=>G0 hp m.rE (by walk_at"lk") (k _ (Same.refl _))⟩⟩
theorem WV {ps:List (Str×Int)}(h:∀p∈ps,0<=p.2)(z:Str):0<=cA ps z:=by
 induction ps with
 | nil=>exact Int.le_refl _
 | cons a l ih =>
  have h1:=ih fun p hp=>h p (List.mem_cons_of_mem _ hp);have h2:=h a (.head _);unfold cA at h1 ⊢
  by_cases e:a.1=z
  ·rw[List.filter_cons_of_pos (by simpa using e),List.map_cons,List.sum_cons];lia
  ·rw[List.filter_cons_of_neg (by simpa using e)];exact h1
inductive qA (K:W.Frag)(C:Addr)(D:aV)(vs:List V)(H:Hp)(Q:VK)(E:XK):Prop
 | mk (a:Addr) (ns:List Int) (_:vs=[.ref a]) (_:SqL K H a (ns.map V.int)) (_:∀h H' f l rz ps ds,Same H H'->aL C D H' h f l rz ps ds->Hs rz ps ds f l->f<l->Q (.ref h) H'):qA K C D vs H Q E
theorem SC {C:Addr}{D:aV}{H:Hp}{Q:VK}{E:XK}{a:Addr}{ns:List Int} (hS:SqL K H a (ns.map V.int)) (k:∀h H' f l rz ps ds,Same H H'->aL C D H' h f l rz ps ds->Hs rz ps ds f l->f<l->Q (.ref h) H'):qA K C D [.ref a] H Q E:=⟨_,_,rfl,hS,k⟩
theorem CO (m:M K mg):bD P w K mg base CX0 8 m.oU m.pF ["_law_script"] (qA K m.aF (aQ P w K mg base (some 1))):=by
 refine m.kR.ok sc__law_house (fun vs H Q E h=> ?_) (fun cdv A outer s H vs Q E hr h=> ?_)
 ·walk_at"g1";obtain⟨a,ns,rfl,hS,k⟩:=h;walk_at"g2";rfl
 ·walk_at"g1";obtain⟨a,ns,rfl,hS,k⟩:=h;walk_at"g2";have nd:=sc__law_house.nd;walk_at"hu";have b9:= @pV P w K mg base m;have bJ:= @mT P w K mg base m;have jC:= @F6 P w K mg base m;have K_Door_0:= @O1 P w K mg base m;have K_House_0:= @J4 P w K mg base m;have w_dc_House:=m.aY;have w_dc_Door:=m.rE;refine⟨_,(aD (aX (i:=1) nd rfl (by walk_at"oi") (bG b9 hr (aA (pv 0) (aA aG aB))))
   (aD (aX (i:=2) nd rfl (by walk_at"oi") (cD (N:=["_law_k","_law_cell"]) (nl:=1) (ci:=[1]) rfl (blk (s.heap.objs.size+1) rfl rfl rfl (by kernel_rfl)) (pQ rfl m.oE (aA (aU cG aG (aU cI (pv 1) aG)) aB)) (fun _ _ _ _=>(aI (i:=0) (show (["_law_k","_law_cell"]:List Str).Nodup by decide +kernel) rfl (by walk_at"oi"))) (fun _ _ _ _=>f9) (fun _ _ _ _=>(bG jC hr (aA (pv 1) (aA (pv 0) aB))))))
   (aD (aX (i:=3) nd rfl (by walk_at"oi") (cD (N:=["_law_k","_law_names","_law_script"]) (nl:=1) (ci:=[2,0]) rfl (blk (s.heap.objs.size+1) rfl rfl rfl (by kernel_rfl)) (pQ rfl m.oE (aA (bK g7 rfl m.nS kI (aA (pv 2) aB)) aB)) (fun _ _ _ _=>(aI (i:=0) (show (["_law_k","_law_names","_law_script"]:List Str).Nodup by decide +kernel) rfl (by walk_at"oi"))) (fun _ _ _ _=>f9) (fun _ _ _ _=>(bY (aA (dF (wM (K:=K)) (pv 1) (pv 0) (fun _ _=>rfl)) (aA (aU cI (bG bJ hr (aA (bG b9 hr (aA (pv 2) (aA aG aB))) (aA (pv 0) aB))) aG) aB))))))
   (aD (aX (i:=4) nd rfl (by walk_at"oi") (eK aB))
   (aD (cX PassesOwn.never rfl (pQ rfl m.oE (aA (aU cG aG (aU cI (bG bJ hr (aA (pv 1) (aA aG aB))) aG)) aB)) (aI (i:=5) nd rfl (by walk_at"oi")) (aD (aX (i:=6) nd rfl (by walk_at"oi") (bG bJ hr (aA (pv 1) (aA (aU cG aG (pv 5)) aB))))
   (aD (aX (i:=7) nd rfl (by walk_at"oi") (dF nY (aU oM (pv 2) (eK (aA mJ (aA mJ aB)))) (aU cI (aU rD (pv 6) aG) (aU cG (bK g7 rfl m.nS kI (aA (pv 2) aB)) aG)) (fun _ _=>rfl)))
   (aE (bR (jE PySem.F.plainAttrs_list PySem.F.slot_list_append PySem.F.type_list_append gI (pv 4) (aA (UR K_Door_0 hr (aA (bG jC hr (aA (pv 1) (aA (aU cG (pv 5) aG) aB))) (aA (dF nY (pv 2) (aU cI (pv 6) (bK g7 rfl m.nS kI (aA (pv 2) aB))) (fun _ _=>rfl)) (aA (pv 7) (aA (aU cI (aU rD (pv 6) aG) aG) aB))))) aB)))))))
   (aD (zA (i:=8) nd rfl (by walk_at"oi") (N:=["_law_k","_law_rooms","_law_script"]) (nl:=1) (ci:=[3,0]) rfl (blk (s.heap.objs.size+1) rfl rfl rfl (by kernel_rfl)) (pQ rfl m.oE (aA (bK g7 rfl m.nS kI (aA (pv 3) aB)) aB)) (fun _ _ _ _=>(aI (i:=0) (show (["_law_k","_law_rooms","_law_script"]:List Str).Nodup by decide +kernel) rfl (by walk_at"oi"))) (fun _ _ _ _=>f9) (fun _ _ _ _=>(bY (aA (dF (gE (K:=K)) (dF (wM (K:=K)) (pv 1) (pv 0) (fun _ _=>rfl)) aG (fun _ _=>rfl)) (aA (aU cI (bG bJ hr (aA (bG b9 hr (aA (pv 2) (aA aG aB))) (aA (pv 0) aB))) (aU cG (dF (gE (K:=K)) (dF (wM (K:=K)) (pv 1) (pv 0) (fun _ _=>rfl)) aG (fun _ _=>rfl)) aG)) aB)))))
   (aD (aX (i:=9) nd rfl (by walk_at"oi") (aU cI (bG b9 hr (aA (pv 0) (aA aG aB))) aG))
   (aE (aZ (UR K_House_0 hr (aA (pv 3) (aA (pv 4) (aA (pv 8) (aA (aU cG (aU cG (pv 9) aG) (aU cI (aU rD (bG b9 hr (aA (pv 0) (aA aG aB))) aG) aG)) (aA (pv 9) aB))))))))))))))),?_⟩
  refine aN (σ:=[some (.ref a),none,none,none,none,none,none,none,none,none]) rfl ?_;walk_at"cx";walk_at"go";generalize hcc:jG ns 0=c0;refine RE (fun i=> .str (c5 c0 (i:Int))) (by rw[sizeLine_eq];lia) (rest:=[some (.int c0)]) (by rfl) ?_ ?_
  ·intro i H1 hi s1 R hR;walk_at"go"
   subst_vars
   rw[Int.zero_add];exact hR _ (Same.refl _)
  intro H1 s1;generalize hne:(2+c0%3).toNat=n;have hn0:0<n:=by lia
  have hn5:n<=4:=by lia
  have hnl:((List.range n).map fun i:Nat=>V.str (c5 c0 (i:Int))).length=n:=by rw[List.length_map,List.length_range]
  have hnm:∀v∈(List.range n).map (fun i:Nat=>V.str (c5 c0 (i:Int))),∃i:Nat,i<n/\v= .str (c5 c0 (i:Int)):=fun v hv=>by
   obtain⟨i,hi,rfl⟩:=List.mem_map.mp hv;exact⟨i,List.mem_range.mp hi,rfl⟩
  have hat:∀i:Nat,i<n->((List.range n).map fun i:Nat=>V.str (c5 c0 (i:Int)))[i]? =some (.str (c5 c0 (i:Int))):=fun i hi=>by rw[List.getElem?_map,List.getElem?_range hi];rfl
  generalize hN:((List.range n).map fun i:Nat=>V.str (c5 c0 (i:Int)))=N at hnl hnm hat ⊢;walk_at"go";rename_i pN H2 n2 S2 eN;generalize hsh:jG ns 1=sh;rw[show ((N.length:Nat):Int).toNat=n by lia];have hS2:=(s1.trans S2).seq hS;refine MD (fun i y H=>bZ H y (fG c0 sh i)) (fun _ _ _ _ ⟨q,e,h⟩ s=>⟨q,e,s _ _ h⟩) (by rw[sizeLine_eq];lia) (rest:=[some (.ref pN),some (.ref a)]) (by rfl) ?_ ?_
  ·intro i H3 hi s3 R hR;have eN3:=s3 _ _ eN;have hS3:=s3.seq hS2;walk_at"go";rw[Int.zero_add];refine D2 (SqL.of eN3) (hat i hi) ?_;walk_at"go";rename_i q4 H4 n4 S4 e4
   subst_vars
   exact hR _ _ ⟨q4,rfl,e4⟩ S4
  intro ws H3 s3 hws;have hra:RoomsAt H3 ws ((List.range n).map (fG c0 sh)):=kX (fG c0 sh) hws;have hwl:ws.length=n:=by rw[Paired.length hra,List.length_map,List.length_range]
  have hrn:((List.range n).map (fG c0 sh)).map (·.1)=(List.range n).map fun k:Nat=>c5 c0 ((k:Int)+0):=by rw[List.map_map];exact List.map_congr_left fun k _=>by rw[Int.add_zero];rfl
  have hnr:(((List.range n).map (fG c0 sh)).map (·.1)).Nodup:=by rw[hrn];exact v8 c0 0 n (Int.le_refl _) (by lia)
  have hmem:∀i:Nat,i<n->c5 c0 (i:Int)∈((List.range n).map (fG c0 sh)).map (·.1):=fun i hi=>List.mem_map.mpr ⟨fG c0 sh i,List.mem_map.mpr ⟨i,List.mem_range.mpr hi,rfl⟩,rfl⟩;have hsz:∀i:Nat,0<=bO sh (i:Int)%7/\bO sh (i:Int)%7<=6:=fun i=>by lia
  walk_at"go";rename_i pW H4 n4 S4 eW p H5 n5 S5 ep nn dn hn1 hn2;have eN5:H5 pN=some (.lst N):=S5 _ _ (S4 _ _ (s3 _ _ eN));have eW5:=S5 _ _ eW;have s05:Same H H5:=s1.trans (S2.trans (s3.trans (S4.trans S5)));have hra5:=hra.sm (S4.trans S5);let Pv1:Nat->St->Hp->Prop:=fun i σ' H'=>SameBut p H5 H'/\(∃us ds,H' p=some (.lst us)/\Paired ((aQ P w K mg base (some 1)).at' H') us ds/\(∀d∈ds,cZ (((List.range n).map (fG c0 sh)).map (·.1)) d)/\ds.map (·.1)=(List.range i).map fun k:Nat=>c5 c0 ((k:Int)+8))/\∃x y z,σ'=[some (.ref a),some (.int c0),some (.ref pN),some (.ref pW),some (.ref p),x,y,z,none,none];refine z4 Pv1 ⟨SameBut.refl,⟨[],[],ep,.nil,(fun _ z=>nomatch z),rfl⟩,_,_,_,rfl⟩ ?_ ?_
  ·rintro i _ H' hi hq_;walk_at"g1";obtain⟨tb,⟨us,ds,eu,hud,hds,hnm2⟩,x1,x2,x3,rfl⟩:=hq_;walk_at"g2";have hi8:i<6:=by lia
   have hul:us.length=i:=by
    have h5:ds.length=i:=by rw[←List.length_map (f:=fun d:aH=>d.1),hnm2,List.length_map,List.length_range]
    rw[Paired.length hud];exact h5
   have hpN:pN≠p:=fun z=>by rw[z,ep]at eN5;cases eN5;exact absurd hnl (by show ¬0=n;lia)
   have eN':=tb _ _ eN5 hpN;walk_at"go";rename_i dd ed hd0 hd1 pA G1 m1 T1 eA pB G2 m2 T2 eB hx0 hx1;refine ER (SqL.of eB) hx0 (by rw[List.length_append];show _<(((N.length+2:Nat)):Int);lia) fun v hv=> ?_;have hve:DY v/\(v= .non∨∃z,v= .str z/\z∈((List.range n).map (fG c0 sh)).map (·.1)):=by
    rcases List.mem_append.mp hv with hv|hv
    ·obtain⟨j,hj,rfl⟩:=hnm v hv;exact⟨.inr ⟨_,rfl,EW c0 _⟩,.inr ⟨_,rfl,hmem j hj⟩⟩
    ·have:v= .non:=by simpa using hv
     exact⟨.inl this,.inl this⟩
   obtain⟨hve,hvi⟩:=hve;clear hv;have eN2:=(T1.trans T2) _ _ eN';have eu2:=(T1.trans T2) _ _ eu;clear eB eA;walk_at"go";rename_i zn ezn hzn hy0 hy1;refine ER (SqL.of eN2) (by lia) (by lia) fun v2 hv2=> ?_;obtain⟨j2,hj2,rfl⟩:=hnm v2 hv2;have hb2:=EW c0 (j2:Int);walk_at"go";rename_i q6 dx6 H6 n6 S6 e6;have sG6:=(T1.trans T2).trans S6;have eu6:H6 p=some (.lst us):=sG6 _ _ eu;refine gJ eu6 (by rw[sizeLine_eq];lia) fun H7 B7 e7=> ?_;have hd6:(aQ P w K mg base (some 1)).at' H6 (.ref q6) (zn,c5 c0 (j2:Int),v,fun _=>dd/77%4):=V7 (P:=P) (w:=w) (base:=base) m e6;walk_at"go";refine⟨(tb.trans sG6.but).trans B7,⟨us++[.ref q6],ds++[(zn,c5 c0 (j2:Int),v,fun _=>dd/77%4)],e7,L2.Paired.snoc (Paired.imp' (fun _ _ h=>(aQ P w K mg base (some 1)).but ((aQ P w K mg base (some 1)).same h sG6) eu6 trivial B7) hud) ((aQ P w K mg base (some 1)).but hd6 eu6 trivial B7),?_,?_⟩,_,_,_,rfl⟩
   ·intro d' hd';rcases List.mem_append.mp hd' with hd'|hd'
    ·exact hds d' hd'
    ·cases List.mem_singleton.mp hd';exact⟨hmem j2 hj2,hvi⟩
   ·rw[List.map_append,hnm2,List.range_succ,List.map_append,List.map_singleton,List.map_singleton,ezn,Int.zero_add]
  ·rintro _ H' hq_;walk_at"g1";obtain⟨tb,⟨us,ds,eu,hud,hds,hnm2⟩,x1,x2,x3,rfl⟩:=hq_;walk_at"g2";have hdl:ds.length=(1+nn%6).toNat:=by rw[←List.length_map (f:=fun d:aH=>d.1),hnm2,List.length_map,List.length_range]
   have hpW:pW≠p:=fun z=>by rw[z,ep]at eW5;cases eW5;exact absurd hwl (by show ¬0=n;lia)
   have eW':=tb _ _ eW5 hpW;have T5:Same H H':=SameBut.same (iC (s1.trans (S2.trans (s3.trans S4))) n5) s05 tb;have hS':=T5.seq hS;have hra':RoomsAt H' ws ((List.range n).map (fG c0 sh)):=Paired.imp' (fun _ _ ⟨q,e,h⟩=>⟨q,e,tb _ _ h (fun z=>by rw[z,ep]at h;cases h)⟩) hra5;walk_at"go";generalize hc3:jG ns 2=c3;rw[show ((ws.length:Nat):Int).toNat=n by lia];refine MD (fun i y H=>bZ H y (qF c0 sh c3 i)) (fun _ _ _ _ ⟨q,e,h⟩ s=>⟨q,e,s _ _ h⟩) (by rw[sizeLine_eq];lia) (rest:=[some (.ref pW),some (.ref a)]) (by rfl) ?_ ?_
   ·intro i G hi sG R hR;have hwi:ws[i]? =some ws[i]:=List.getElem?_eq_getElem (by lia);have hri:((List.range n).map (fG c0 sh))[i]? =some (fG c0 sh i):=by rw[List.getElem?_map,List.getElem?_range hi];rfl
    obtain⟨q,hq,hqt⟩:=Paired.at2 (hra'.sm sG) hwi hri;rw[hq]at hwi;have hqt':G q=some (.tup [.str (c5 c0 (i:Int)),.int (bO sh (i:Int)%7)]):=hqt;have eWG:=sG _ _ eW';have hSG:=sG.seq hS';have hs0:=(hsz i).1;walk_at"go";rw[Int.zero_add];refine D2 (SqL.of eWG) hwi ?_;walk_at"go";refine⟨q,_,0,_,rfl,rfl,SqT.of hqt',rfl,?_⟩;walk_at"go";refine D2 (SqL.of eWG) hwi ?_;walk_at"go";refine⟨q,_,1,_,rfl,rfl,SqT.of hqt',rfl,?_⟩;generalize hz:bO sh (i:Int)%7=z0 at hs0 ⊢;walk_at"go";rename_i nd2 ed2 hd20 hd21 hm0 hm1 q7 G7 m7 T7 e7;refine hR _ _ ⟨q7,rfl,?_⟩ T7;rw[e7,ed2];unfold qF;rw[hz,←hc3]
    try rw[Int.zero_add]
   intro cs G sG hcs;have hcp:Paired (bZ G) cs ((List.range n).map (qF c0 sh c3)):=kX (qF c0 sh c3) hcs;have hnd:(ds.map (·.1)).Nodup:=by rw[hnm2];exact v8 c0 8 _ (by decide) (by lia)
   have hfit:wK ((List.range n).map (fG c0 sh)) ((List.range n).map (qF c0 sh c3)):=VY (fun i:Nat=>c5 c0 (i:Int)) (fun i:Nat=>bO sh (i:Int)%7) (fun i:Nat=>bO c3 (i:Int)%(bO sh (i:Int)%7+1)) (by
     have:=hnr;rw[List.map_map]at this;exact this) fun i _=>by
    have h0:=(hsz i).1;have h1:=Int.emod_nonneg (bO c3 (i:Int)) (show bO sh (i:Int)%7+1≠0 by lia);have h2:=Int.emod_lt_of_pos (bO c3 (i:Int)) (show 0<bO sh (i:Int)%7+1 by lia);exact⟨h1,by show _<=bO sh (i:Int)%7;lia⟩
   have hpr:∀p∈(List.range n).map (qF c0 sh c3),p.1∈((List.range n).map (fG c0 sh)).map (·.1):=fun p hp=>by
    obtain⟨i,hi,rfl⟩:=List.mem_map.mp hp;exact hmem i (List.mem_range.mp hi)
   have hrl:((List.range n).map (fG c0 sh)).length=n:=by rw[List.length_map,List.length_range]
   have hpl:((List.range n).map (qF c0 sh c3)).length=n:=by rw[List.length_map,List.length_range]
   have hszs:∀e∈(List.range n).map (fG c0 sh),e.2<=6:=fun e he=>by
    obtain⟨i,_,rfl⟩:=List.mem_map.mp he;exact(hsz i).2
   have htot:∀l:List (Str×Int),(∀e∈l,cA ((List.range n).map (qF c0 sh c3)) e.1<=6)->((l.map (·.1)).map (cA ((List.range n).map (qF c0 sh c3)))).sum<=6 * l.length:=fun l=>by
    induction l with
    | nil=>exact fun _=>Int.le_refl _
    | cons a l ih =>
     intro h;have h1:=ih fun e he=>h e (List.mem_cons_of_mem _ he);have h2:=h a (.head _);rw[List.map_cons,List.map_cons,List.sum_cons,List.length_cons]
     lia
   have ht:=htot ((List.range n).map (fG c0 sh)) fun e he=>by
    have h1:=hfit.2 e he;have h2:=hszs e he
    lia
   walk_at"go";rename_i pC G2 m2 T2 eC;have sX:=sG.trans T2;generalize jG ns 3=c4;refine OZ (rz:=(List.range n).map (fG c0 sh)) (ds:=ds) (ps:=(List.range n).map (qF c0 sh c3)) rfl (by assumption) (sX _ _ eW') (hra'.sm sX) (SqL.of (sX _ _ eu)) (rZ hud sX) (SqL.of eC) (kH hcp T2) hnr hnd hds hpr hfit (by lia) (by lia) (by lia) (by lia) (by lia) fun h G4 m4 T4 hh=> ?_;exact k _ _ _ _ _ _ _ (T5.trans (sX.trans T4)) hh ⟨hnr,hnd,hds,by lia,by lia,by lia,by lia,by lia,by lia,fun z=>WV hfit.1 z,by rw[hrl]at ht;lia⟩ (by lia)
theorem CV (m:M K mg):Fc P w K mg base "_law_house" 8 ["_law_script"] (qA K m.aF (aQ P w K mg base (some 1))):=⟨_,_,m.GQ,m.kR.kp,m.GJ,CO m⟩
theorem OC {H H':Hp}{p q:Addr}{us xs:List V}{rows:List aM}{t:Int}{n:Str}{i:Int} (h:bI H us rows) (hq:H q=some (.tup [.int t,.str n,.int i])) (e:H p=some (.lst xs)) (s:SameBut p H H'):bI H' (us++[.ref q]) (rows++[(t,n,i)]):=L2.Paired.snoc (Paired.imp' (fun v r ⟨q,e1,h⟩=>⟨q,e1,s _ _ h fun z=>by rw[z,e]at h;cases h⟩) h) ⟨q,rfl,s _ _ hq fun z=>by rw[z,e]at hq;cases hq⟩
inductive rQ (K:W.Frag)(C:Addr)(D:aV)(vs:List V)(H:Hp)(Q:VK)(E:XK):Prop
 | mk (h b:Addr) (f l:Int) (rz ps:List (Str×Int)) (ds:List aH) (cs:List Int) (_:vs=[.ref h,.ref b]) (_:aL C D H h f l rz ps ds) (_:Hs rz ps ds f l) (_:f<l) (_:SqL K H b (cs.map V.int)) (_:cs.length<=5) (_:∀p us rows H',Same H H'->H' p=some (.lst us)->bI H' us rows->rows.length<=5->Q (.ref p) H'):rQ K C D vs H Q E
theorem V3 {C:Addr}{D:aV}{H:Hp}{Q:VK}{E:XK}{h b:Addr}{f l:Int}{rz ps:List (Str×Int)}{ds:List aH}{cs:List Int} (hh:aL C D H h f l rz ps ds) (hs:Hs rz ps ds f l) (hfl:f<l) (hS:SqL K H b (cs.map V.int)) (hl:cs.length<=5) (k:∀p us rows H',Same H H'->H' p=some (.lst us)->bI H' us rows->rows.length<=5->Q (.ref p) H'):rQ K C D [.ref h,.ref b] H Q E:=⟨_,_,_,_,_,_,_,_,rfl,hh,hs,hfl,hS,hl,k⟩
theorem E9 (m:M K mg):bD P w K mg base CX0 3 m.qL m.qN ["_law_house_here","_law_cells"] (rQ K m.aF (aQ P w K mg base (some 1))):=by
 refine m.mI.ok sc__law_plan (fun vs H Q E h=> ?_) (fun cdv A outer s H vs Q E hr h=> ?_)
 ·walk_at"g1";obtain⟨h,b,f,l,rz,ps,ds,cs,rfl,hh,hs,hfl,hS,hlen,k⟩:=h;walk_at"g2";rfl
 ·walk_at"g1";obtain⟨h,b,f,l,rz,ps,ds,cs,rfl,hh,hs,hfl,hS,hlen,k⟩:=h;walk_at"g2";have nd:=sc__law_plan.nd;walk_at"hu";have bJ:= @mT P w K mg base m;have w_dc_House:=m.aY;have w_mc_House_doors:= @lE P w K mg base m;refine⟨_,(aD (aX (i:=2) nd rfl (by walk_at"oi") (eK aB))
   (aD (aX (i:=3) nd rfl (by walk_at"oi") (aU oM (aU oM (gF 1 hr (pv 0)) (gF 1 hr (pv 0))) (eK (aA gR aB))))
   (aD (cX PassesOwn.never rfl (bM (pv 1)) (aI (i:=4) nd rfl (by walk_at"oi")) (aD (aX (i:=5) nd rfl (by walk_at"oi") (aU cG (bP (pv 0) rfl) (aU cI (bG bJ hr (aA (pv 4) (aA aG aB))) (aU tT (bP (pv 0) rfl) (bP (pv 0) rfl)))))
   (aD (dE (bV yJ (aU cI (bG bJ hr (aA (pv 4) (aA aG aB))) aG) aG (cB _)) (aE (aX (i:=5) nd rfl (by walk_at"oi") (dF nY (eK (aA (bP (pv 0) rfl) (aA (bK (MN rfl) rfl m.aBL YD (aA aG (aA (aU tT (bP (pv 0) rfl) aG) aB))) aB))) (aU cI (bG bJ hr (aA (pv 4) (aA aG aB))) aG) (fun _ _=>rfl)))) b5)
   (aE (bR (jE PySem.F.plainAttrs_list PySem.F.slot_list_append PySem.F.type_list_append gI (pv 2) (aA (bY (aA (pv 5) (aA (dF nY (pv 3) (aU cI (bG bJ hr (aA (pv 4) (aA aG aB))) (bK g7 rfl m.nS kI (aA (pv 3) aB))) (fun _ _=>rfl)) (aA (aU cI (bG bJ hr (aA (pv 4) (aA aG aB))) aG) aB)))) aB)))))))
   (aE (aZ (pv 2)))))),?_⟩
  refine aN (σ:=[some (.ref h),some (.ref b),none,none,none,none]) rfl ?_;walk_at"cx";walk_at"g1";obtain⟨nr,ndn,hin,f0,f1,f2,f3,lr,ld,p0,htot⟩:=id hs;walk_at"g2";walk_at"g1";obtain⟨dx,qs,qp,qd,nk,kvs,e1,_⟩:=id hh.ex;walk_at"g2";walk_at"go";rename_i p H1 n1 S1 eP;have e11:=S1 _ _ e1;refine lL (bB hh S1) fun pA H2 n2 S2 eA=> ?_;have s02:=S1.trans S2;have e12:=s02 _ _ e1;walk_at"go";refine lL (bB hh s02) fun pB H3 n3 S3 eB=> ?_;have hD:((ds.map (·.1)).map V.str).length=ds.length:=by rw[List.length_map,List.length_map]
  walk_at"go";rename_i pC H4 n4 S4 eC pE H5 n5 S5 eE pN H6 n6 S6 eN;have s06:Same H H6:=s02.trans (S3.trans (S4.trans (S5.trans S6)));have eP6:H6 p=some (.lst []):=(S2.trans (S3.trans (S4.trans (S5.trans S6)))) _ _ eP;have hN:∀v∈((ds.map (·.1)).map V.str++(ds.map (·.1)).map V.str)++[V.str "nowhere"],∃z,v= .str z:=fun v hv=>by
   rcases List.mem_append.mp hv with hv|hv
   ·rcases List.mem_append.mp hv with hv|hv
    ·obtain⟨z,_,rfl⟩:=List.mem_map.mp hv;exact⟨z,rfl⟩
    ·obtain⟨z,_,rfl⟩:=List.mem_map.mp hv;exact⟨z,rfl⟩
   ·exact⟨_,List.mem_singleton.mp hv⟩
  have hNl:0<(((ds.map (·.1)).map V.str++(ds.map (·.1)).map V.str)++[V.str "nowhere"]).length:=by
   rw[List.length_append];show 0<_+1
   lia
  generalize (((ds.map (·.1)).map V.str++(ds.map (·.1)).map V.str)++[V.str "nowhere"])=N at eN hN hNl;have hpN:pN≠p:=fun z=>by rw[z,(S2.trans (S3.trans (S4.trans S5))) _ _ eP]at n6;cases n6
  let Pv1:Nat->St->Hp->Prop:=fun i σ' G=>SameBut p H6 G/\(∃us rows,G p=some (.lst us)/\bI G us rows/\rows.length=i)/\∃x y,σ'=[some (.ref h),some (.ref b),some (.ref p),some (.ref pN),x,y];refine dI (cs.map V.int) Pv1 ⟨SameBut.refl,⟨[],[],eP6,.nil,rfl⟩,_,_,rfl⟩ (fun i σ' G _ q=>(SameBut.same n1 s06 q.1).seq hS) ?_ ?_
  ·rintro i x _ G hx hq_;walk_at"g1";obtain⟨sb,⟨us,rows,eu,hpl,hrl⟩,y1,y2,rfl⟩:=hq_;walk_at"g2";have hi:=(List.getElem?_eq_some_iff.mp hx).1;rw[List.length_map]at hi;rw[List.getElem?_map]at hx;obtain⟨c,_,rfl⟩:=Option.map_eq_some_iff.mp hx;have sG:Same H G:=SameBut.same n1 s06 sb;have e1G:=sG _ _ e1;have eNG:=sb _ _ eN hpN;have hul:us.length=rows.length:=Paired.length hpl;walk_at"gs";refine XM (fun σ' G'=>Same G G'/\∃t:Int,σ'=[some (.ref h),some (.ref b),some (.ref p),some (.ref pN),some (.int c),some (.int t)]) ?_ ?_
   rotate_left
   ·intro nx' hnx;walk_at"go";refine i7 (fun hc=> ?_) (fun hc=> ?_)
    ·walk_at"go";exact hnx _ _ ⟨by assumption,_,rfl⟩
    ·walk_at"go";exact hnx _ _ ⟨Same.refl _,_,rfl⟩
   rintro _ G1 ⟨T1,t,rfl⟩;have eu1:=T1 _ _ eu;have eN1:=T1 _ _ eNG;walk_at"go";rename_i d3 ed3 hd30 hd31 hm0 hm1;refine ER (SqL.of eN1) hm0 hm1 fun v hv=> ?_;obtain⟨zz,rfl⟩:=hN v hv;walk_at"go";rename_i d4 ed4 hd40 hd41 q G2 m2 T2 e2;refine gJ (T2 _ _ eu1) (by rw[sizeLine_eq];lia) fun G3 B3 e3=> ?_;walk_at"go";refine⟨(sb.trans (T1.trans T2).but).trans B3,⟨us++[.ref q],rows++[(t,zz,d4%4)],e3,OC (dZ hpl (T1.trans T2)) e2 (T2 _ _ eu1) B3,by rw[List.length_append,hrl];rfl⟩,_,_,rfl⟩
  ·rintro _ G hq_;walk_at"g1";obtain⟨sb,⟨us,rows,eu,hpl,hrl⟩,y1,y2,rfl⟩:=hq_;walk_at"g2";rw[List.length_map]at hrl;walk_at"go";exact k p us rows G (SameBut.same n1 s06 sb) eu hpl (by lia)
theorem F8 (m:M K mg):Fc P w K mg base "_law_plan" 3 ["_law_house_here","_law_cells"] (rQ K m.aF (aQ P w K mg base (some 1))):=⟨_,_,m.IB,m.mI.kp,m.IC,E9 m⟩
local macro_rules| `(tactic| walk_at"rd1")=> `(tactic| first|((with_reducible refine' ZM ?e ?k ?i ?_);(case e=>walk_at"hp");(case k=>assumption);(case i=>assumption))|((with_reducible refine' XA ?e ?k ?i ?_);(case e=>walk_at"hp");(case k=>assumption);(case i=>assumption)))
inductive x9 (K:W.Frag)(C:Addr)(D:aV)(vs:List V)(H:Hp)(Q:VK)(E:XK):Prop
 | mk (h a:Addr) (f l:Int) (rz ps:List (Str×Int)) (ds:List aH) (us:List V) (rows:List aM) (_:vs=[.ref h,.ref a]) (_:aL C D H h f l rz ps ds) (_:Hs rz ps ds f l) (_:SqL K H a us) (_:bI H us rows) (_:rows.length<=5) (_:fI rz ps ds f l rows≠[]) (_:∀H',Q (.bl true) H'):x9 K C D vs H Q E
theorem aBy {C:Addr}{D:aV}{H:Hp}{Q:VK}{E:XK}{h a:Addr}{f l:Int}{rz ps:List (Str×Int)}{ds:List aH}{us:List V}{rows:List aM} (hh:aL C D H h f l rz ps ds) (hs:Hs rz ps ds f l) (hS:SqL K H a us) (hp:bI H us rows) (hl:rows.length<=5) (hf:fI rz ps ds f l rows≠[]) (k:∀H',Q (.bl true) H'):x9 K C D [.ref h,.ref a] H Q E:=⟨_,_,_,_,_,_,_,_,_,rfl,hh,hs,hS,hp,hl,hf,k⟩
theorem xP (m:M K mg):bD P w K mg base CX0 13 m.lU m.lZ ["_law_house_here","_law_plan_here"] (x9 K m.aF (aQ P w K mg base (some 1))):=by
 refine m.iK.ok sc__law_refused (fun vs H Q E h=> ?_) (fun cdv A outer s H vs Q E hr h=> ?_)
 ·walk_at"g1";obtain⟨h,a,f,l,rz,ps,ds,us,rows,rfl,hh,hs,hS,hpl,hlen,hf,k⟩:=h;walk_at"g2";rfl
 ·walk_at"g1";obtain⟨h,a,f,l,rz,ps,ds,us,rows,rfl,hh,hs,hS,hpl,hlen,hf,k⟩:=h;walk_at"g2";have nd:=sc__law_refused.nd;walk_at"hu";have oB:= @E4 P w K mg base m;refine⟨_,(aD (YS (i:=2) nd rfl rfl rfl rfl m.LW (aBC oB hr (aA (pv 0) (aA (pv 1) aB))) (fun ea=>(aD (dE (PW.pt (DS (i6 (bK (pZ K rfl) rfl m.dY dD (aA (pv 2) (aA (yS rfl m.TK) aB)))) (DS (i6 (bK (pZ K rfl) rfl m.dY dD (aA (pv 2) (aA (yS rfl m.PZ) aB)))) (EX (i6 (bK (pZ K rfl) rfl m.dY dD (aA (pv 2) (aA (yS rfl m.TB) aB)))))))) (aE (aZ DR)) b5)
   (aE (aZ (ED (bK (pZ K rfl) rfl m.dY dD (aA (pv 2) (aA (yS rfl m.GE) aB))) (EN (bK (LF K rfl) rfl m.dY dD (aA (pv 2) (aA (DV rfl m.GY CT) aB))))))))))
   (aE (aZ DR))),?_⟩
  refine aN (σ:=[some (.ref h),some (.ref a),none]) rfl ?_;walk_at"cx";refine NC ?_;refine⟨_,rfl,_,rfl,h,a,f,l,rz,ps,ds,us,rows,rfl,hh,hs,hS,hpl,hlen,(fun z=>absurd z hf),fun _ H1 S1=>⟨m.cH,rfl,m.uR,fun ea hn=> ?_⟩⟩;have e0:(upd H1 ea (.ext (rR ea m.cH))) ea=some (.ext (rR ea m.cH)):=bC;have ek:=m.PX;have i1:=m.xC;have i2:=m.vU;have i3:=m.xL;have i4:=m.xA;have i5:=m.sV
  dsimp only[List.set]
  walk_at"go";exact k _
theorem xS (m:M K mg):Fc P w K mg base "_law_refused" 13 ["_law_house_here","_law_plan_here"] (x9 K m.aF (aQ P w K mg base (some 1))):=⟨_,_,m.AQ,m.iK.kp,m.A5,xP m⟩
theorem I0 {H:Hp}:∀{gs:List Wk}{ys:List V},Paired (fun (x:Wk) y=>y=V.int x.1) gs ys->ys=(gs.map (·.1)).map V.int
 | _,_,.nil=>rfl
 | _,_,.cons h t=>by rw[List.map_cons,List.map_cons,I0 (H:=H) t,h]
theorem aBl (ns:List Int){c:Int}(h0:0<=c)(h1:c<=5):(zT ns (some 5) (some (5+c))).length<=5:=by
 unfold zT;rw[show (5+c:Int)=((5+c.toNat:Nat):Int) by lia,show HT.sIx ns.length ns.length (some ((5+c.toNat:Nat):Int))=min (5+c.toNat) ns.length from HT.sIx_nat _ _ _,show HT.sIx ns.length 0 (some 5)=min 5 ns.length from HT.sIx_nat _ _ 5,List.length_take,List.length_drop]
 lia
inductive tY (K:W.Frag)(vs:List V)(H:Hp)(Q:VK)(E:XK):Prop
 | mk (a:Addr) (ns:List Int) (_:vs=[.ref a]) (_:SqL K H a (ns.map V.int)) (_:ns.length<=63) (_:∀H',Q (.bl true) H'):tY K vs H Q E
theorem aAK (m:M K mg):bD P w K mg base CX0 20 m.LX m.L4 ["_law_script"] (tY K):=by
 refine m.aBO.ok sc_law (fun vs H Q E h=> ?_) (fun cdv A outer s H vs Q E hr h=> ?_)
 ·walk_at"g1";obtain⟨a,ns,rfl,hS,hlen,k⟩:=h;walk_at"g2";rfl
 ·walk_at"g1";obtain⟨a,ns,rfl,hS,hlen,k⟩:=h;walk_at"g2";have nd:=sc_law.nd;walk_at"hu";have b9:= @pV P w K mg base m;have kR:= @CV P w K mg base m;have mI:= @F8 P w K mg base m;have iK:= @xS P w K mg base m;have l6:= @B1 P w K mg base m;have oB:= @E4 P w K mg base m;have w_dc_House:=m.aY;have w_mc_House_total:= @zZ P w K mg base m;refine⟨_,(aD (aX (i:=1) nd rfl (by walk_at"oi") (bG kR hr (aA (pv 0) aB)))
   (aD (aX (i:=2) nd rfl (by walk_at"oi") (bG mI hr (aA (pv 1) (aA (oN V4 (pv 0) (nZ aG) (nZ (aU cG aG (aU cI (bG b9 hr (aA (pv 0) (aA aG aB))) aG)))) aB))))
   (aD (dE (bV (YI hu0) (bG l6 hr (aA (pv 1) (aA (pv 2) aB))) (eK aB) (cB _)) (aE (aZ (bG iK hr (aA (pv 1) (aA (pv 2) aB))))) b5)
   (aE (aZ (uW yJ (bK (NL rfl) rfl m.U1 OT (aA (cD (N:=["_law_walk"]) (nl:=1) (ci:=[]) rfl (blk (s.heap.objs.size+1) rfl rfl rfl (by kernel_rfl)) (bM (TR oB hr ZT (aA (pv 1) (aA (pv 2) aB)))) (fun _ _ _ _=>(aI (i:=0) (show (["_law_walk"]:List Str).Nodup by decide +kernel) rfl (by walk_at"oi"))) (fun _ _ _ _=>f9) (fun _ _ _ _=>(dF (gE (K:=K)) (pv 0) aG (fun _ _=>rfl)))) aB)) (gF 1 hr (pv 1)) (cB _))))))),?_⟩
  refine aN (σ:=[some (.ref a),none,none]) rfl ?_;walk_at"cx";walk_at"go";refine SC hS fun h H1 f l rz ps ds S1 hh hs hfl=> ?_;walk_at"g1";obtain⟨nr,ndn,hin,f0,f1,f2,f3,lr,ld,p0,htot⟩:=id hs;walk_at"g2";walk_at"g1";obtain⟨dx,qs,qp,qd,nk,kvs,e1,_⟩:=id hh.ex;walk_at"g2";have hS1:=S1.seq hS;walk_at"go";rename_i pS H2 n2 S2 eS;have hcl:=aBl ns (c:=jG ns 4%6) (by lia) (by lia);generalize zT ns (some 5) (some (5+jG ns 4%6))=cs at eS hcl;refine V3 (bB hh S2) hs hfl (SqL.of eS) hcl fun p us rows H3 S3 eP hpl hrl=> ?_;have s13:=S2.trans S3;have hh3:=bB hh s13;walk_at"go";refine UP hh3 nr ndn hin f0 f1 (by lia) (by lia) (by lia) ld (SqL.of eP) hpl (by lia) (hs.few hrl) fun p2 ws H4 n4 S4 e4 hws=> ?_;have hwl:ws.length=(fI rz ps ds f l rows).length:=(Paired.length hws).trans (kC _).length_eq;have s14:=s13.trans S4;have hh4:=bB hh s14;have eP4:=S4 _ _ eP;have hpl4:=dZ hpl S4;walk_at"g1";obtain⟨dx4,qs4,qp4,qd4,nk4,kvs4,e14,_⟩:=id hh4.ex;walk_at"g2";walk_at"go";rename_i pE H5 n5 S5 e5;refine aAz (SqL.of (S5 _ _ e4)) (SqL.of e5) ?_;walk_at"go";have hh5:=bB hh4 S5;have eP5:=S5 _ _ eP4;have hpl5:=dZ hpl4 S5;cases ws with
  | cons v vs =>
   rw[show (!(v::vs).isEmpty)=true from rfl,if_pos rfl];walk_at"go";refine aBy hh5 hs (SqL.of eP5) hpl5 hrl (fun z=>by rw[z]at hwl;exact absurd hwl (by show ¬vs.length+1=0;lia)) fun H'=> ?_;exact k _
  | nil =>
   have hf:fI rz ps ds f l rows=[]:=List.length_eq_zero_iff.mp hwl.symm;rw[if_neg (show ¬((!([]:List V).isEmpty)=true) from fun z=>by cases z)];walk_at"go";refine W8 hh5 hs (SqL.of eP5) hpl5 hrl (fun _ p6 H6 hX=> ?_) (fun z=>absurd hf z);walk_at"g1";obtain⟨w6,g6,S6,e6,hw6,hgl,hsum⟩:=hX;walk_at"g2";walk_at"go";refine oA (α:=Wk) (xs:=g6) (vs:=w6) (fun v x=>∃q,v= .ref q/\H6 q=some (.tup [.int x.1,x.2.1,.ref x.2.2])) (fun _=>true) (fun x y _=>y= .int x.1) (fun _ _ _ _ h _=>h) (by rw[sizeLine_eq];lia) (rest:=[]) (by rfl) (SqL.of e6) hw6 ?_ ?_ ?_
   ·exact fun v x H1 _ _ s1 R hR=>hR _ (Same.refl _)
   ·rintro _ x G ⟨q,rfl,hq⟩ hm - s1 R hR;have hq1:=s1 _ _ hq;show (_:TE) [some (.ref q)] G R;walk_at"go";refine⟨q,_,0,_,rfl,rfl,SqT.of hq1,rfl,?_⟩;walk_at"go";exact hR _ _ rfl (Same.refl _)
   intro ys G sG hys;rw[fO]at hys;have ey:=I0 (H:=G) hys;walk_at"go";rename_i pL G2 m2 T2 eL;rw[ey]at eL;refine aAE (SqL.of eL) ?_;have hh6:=bB hh5 (S6.trans (sG.trans T2));walk_at"g1";obtain⟨dx6,qs6,qp6,qd6,nk6,kvs6,e16,_⟩:=id hh6.ex;walk_at"g2";walk_at"go";refine WM hh6 nr fun G3 T3=> ?_;walk_at"go";have et:(g6.map (·.1)).sum=E7 rz ps:=by
    have h1:szs g6=(g6.map (·.1)).sum:=rfl;rw[←h1,hsum,List.map_map];rfl
   rw[et,decide_eq_true rfl];exact k _
end
theorem all_mk {l:W.OpenLaw}{w:World}{K:W.Frag}{h:Heap}{mg:Str->Option Value}{fa:Addr} (X:K.In h) (G:h.Ns mainGlobals mg) (hfa:mg "law" =some (.ref fa))
  {zaa zab zac zad zae zaf zag zah zai zaj zak zal zam zan zao zap zaq zar zas zat zau zav zaw zax zay zaz zba zbb zbc zbd zbe zbf zbg zbh zbi zbj zbk zbl zbm zbn zbo zbp zbq zbr zbs zbt zbu zbv zbw zbx zby zbz zca zcb zcc zcd zce zcf zcg zch zci zcj zck zcl:Addr}
  {zcm zcn:Option Addr}{zco:Array (Option Value)}{zcp zcq zcr zcs zct zcu:Value}
  {zcv zcw:Option Addr}{zcx:Array (Option Value)}{zcy zcz zda zdb zdc zdd:Value}
  {zde zdf:Option Addr}{zdg:Array (Option Value)}{zdh zdi zdj zdk zdl zdm:Value}
  {zdn zdo:Option Addr}{zdp:Array (Option Value)}{zdq zdr zds zdt zdu zdv:Value}
  {zdw zdx:Option Addr}{zdy:Array (Option Value)}{zdz zea zeb zec zed zee:Value}
  {zef zeg:Option Addr}{zeh:Array (Option Value)}{zei zej zek zel zem zen:Value}
  {zeo zep:Option Addr}{zeq:Array (Option Value)}{zer zes zet zeu zev zew:Value}
  {zex zey:Option Addr}{zez:Array (Option Value)}{zfa zfb zfc zfd zfe zff:Value}
  {zfg zfh:Option Addr}{zfi:Array (Option Value)}{zfj zfk zfl zfm zfn zfo:Value}
  {zfp zfq:Option Addr}{zfr:Array (Option Value)}{zfs zft zfu zfv zfw zfx:Value}
  {zfy zfz:Option Addr}{zga:Array (Option Value)}{zgb zgc zgd zge zgf zgg:Value}
  {zgh zgi:Option Addr}{zgj:Array (Option Value)}{zgk zgl zgm zgn zgo zgp:Value}
  {zgq zgr:Option Addr}{zgs:Array (Option Value)}{zgt zgu zgv zgw zgx zgy:Value}
  {zgz zha:Option Addr}{zhb:Array (Option Value)}{zhc zhd zhe zhf zhg zhh:Value}
  {zhi zhj:Option Addr}{zhk:Array (Option Value)}{zhl zhm zhn zho zhp zhq:Value}
  {zhr zhs:Option Addr}{zht:Array (Option Value)}{zhu zhv zhw zhx zhy zhz:Value}
  {zia zib:Option Addr}{zic:Array (Option Value)}{zid zie zif zig zih zii:Value}
  {zij zik:Option Addr}{zil:Array (Option Value)}{zim zin zio ziq zir zis:Value}
  {zit ziu:Option Addr}{ziv:Array (Option Value)}{ziw zix ziy ziz zja zjb:Value}
  {zjc zjd:Option Addr}{zje:Array (Option Value)}{zjf zjg zjh zji zjj zjk:Value}
  {zjl zjm:Option Addr}{zjn:Array (Option Value)}{zjo zjp zjq zjr zjs zjt:Value}
  {zju zjv:Option Addr}{zjw:Array (Option Value)}{zjx zjy zjz zka zkb zkc:Value}
  {zkd zke:Option Addr}{zkf:Array (Option Value)}{zkg zkh zki zkj zkk zkl:Value}
  {zkm zkn:Option Addr}{zko:Array (Option Value)}{zkp zkq zkr zks zkt zku:Value}
  {zkv zkw:Option Addr}{zkx:Array (Option Value)}{zky zkz zla zlb zlc zld:Value}
  {zle zlf:Option Addr}{zlg:Array (Option Value)}{zlh zli zlj zlk zll zlm:Value}
  {zln zlo:Option Addr}{zlp:Array (Option Value)}{zlq zlr zls zlt zlu zlv:Value}
  {zlw zlx:Option Addr}{zly:Array (Option Value)}{zlz zma zmb zmc zmd zme:Value}
  {zmf zmg:Option Addr}{zmh:Array (Option Value)}{zmi zmj zmk zml zmm zmn:Value}
  {zmo zmp:Option Addr}{zmq:Array (Option Value)}{zmr zms zmt zmu zmv zmw:Value}
  {zmx zmy:Option Addr}{zmz:Array (Option Value)}{zna znb znc znd zne znf:Value}
  {zng znh:Option Addr}{zni:Array (Option Value)}{znj znk znl znm znn zno:Value}
  {znp znq:Option Addr}{znr:Array (Option Value)}{zns znt znu znv znw znx:Value}
  {zny znz:Option Addr}{zoa:Array (Option Value)}{zob zoc zod zoe zof zog:Value}
  {zoh zoi:Option Addr}{zoj:Array (Option Value)}{zok zol zom zon zoo zop:Value}
  {zoq zor:Option Addr}{zos:Array (Option Value)}{zot zou zov zow zox zoy:Value}
  {zoz zpa:Option Addr}{zpb:Array (Option Value)}{zpc zpd zpe zpf zpg zph:Value}
  {zpi zpj:Option Addr}{zpk:Array (Option Value)}{zpl zpm zpn zpo zpp zpq:Value}
  {zpr zps:Option Addr}{zpt:Array (Option Value)}{zpu zpv zpw zpx zpy zpz:Value}
  {zqa:Addr}
  {zqb:Tok}
  {zqc:Value}{zqd:Option Addr}{zqe:Nat}{zqf:Array (Option Value)}
  {zqg zqh:Option Addr}{zqi:Array (Option Value)}{zqj zqk zql zqm zqn zqo:Value}
  {zqp zqq:Option Addr}{zqr:Array (Option Value)}{zqs zqt zqu zqv zqw zqx:Value}
  {zqy zqz:Option Addr}{zra:Array (Option Value)}{zrb zrc zrd zre zrf zrg:Value}
  {zrh zri:Option Addr}{zrj:Array (Option Value)}{zrk zrl zrm zrn zro zrp:Value}
  {zrq:Addr}
  {zrr:Tok}
  {zrs:Value}{zrt:Option Addr}{zru:Nat}{zrv:Array (Option Value)}
  {zrw zrx:Option Addr}{zry:Array (Option Value)}{zrz zsa zsb zsc zsd zse:Value}
  {zsf zsg:Option Addr}{zsh:Array (Option Value)}{zsi zsj zsk zsl zsm zsn:Value}
  {zso zsp:Option Addr}{zsq:Array (Option Value)}{zsr zss zst zsu zsv zsw:Value}
  {zsx zsy:Option Addr}{zsz:Array (Option Value)}{zta ztb ztc ztd zte ztf:Value}
  {ztg zth:Option Addr}{zti:Array (Option Value)}{ztj ztk ztl ztm ztn zto:Value}
  {ztp ztq:Option Addr}{ztr:Array (Option Value)}{zts ztt ztu ztv ztw ztx:Value}
  {zty ztz:Option Addr}{zua:Array (Option Value)}{zub zuc zud zue zuf zug:Value}
  {zuh zui:Option Addr}{zuj:Array (Option Value)}{zuk zul zum zun zuo zup:Value}
  {zuq zur:Option Addr}{zus:Array (Option Value)}{zut zuu zuv zuw zux zuy:Value}
  {zuz zva:Option Addr}{zvb:Array (Option Value)}{zvc zvd zve zvf zvg zvh:Value}
  {zvi zvj:Option Addr}{zvk:Array (Option Value)}{zvl zvm zvn zvo zvp zvq:Value}
  {zvr:ClassData}
  {zvs:ClassData}
  {zvt:ClassData}
  {zvu:ClassData}
  {zvv:ClassData}
  {zvw:Tok}
  (zvx:W.nsIn K mainGlobals "_wall" =some (some (.ref zaa)))
  (zvy:W.nsIn K mainGlobals "added_up" =some (some (.ref zab)))
  (zvz:W.nsIn K mainGlobals "as_told" =some (some (.ref zac)))
  (zwa:W.nsIn K mainGlobals "rows_that_count" =some (some (.ref zad)))
  (zwb:W.nsIn K mainGlobals "leaving" =some (some (.ref zae)))
  (zwc:W.nsIn K mainGlobals "coming" =some (some (.ref zaf)))
  (zwd:W.nsIn K mainGlobals "there" =some (some (.ref zag)))
  (zwe:W.nsIn K mainGlobals "most_through" =some (some (.ref zah)))
  (zwf:W.nsIn K mainGlobals "door_faults" =some (some (.ref zai)))
  (zwg:W.nsIn K mainGlobals "leave_faults" =some (some (.ref zaj)))
  (zwh:W.nsIn K mainGlobals "full_faults" =some (some (.ref zak)))
  (zwi:W.nsIn K mainGlobals "faults" =some (some (.ref zal)))
  (zwj:W.nsIn K mainGlobals "need_lawful" =some (some (.ref zam)))
  (zwk:W.nsIn K mainGlobals "signs" =some (some (.ref zan)))
  (zwl:W.nsIn K mainGlobals "no_groups" =some (some (.ref zao)))
  (zwm:W.nsIn K mainGlobals "groups_at_first" =some (some (.ref zap)))
  (zwn:W.nsIn K mainGlobals "somebody" =some (some (.ref zaq)))
  (zwo:W.nsIn K mainGlobals "parted" =some (some (.ref zar)))
  (zwp:W.nsIn K mainGlobals "stepped" =some (some (.ref zas)))
  (zwq:W.nsIn K mainGlobals "groups_after" =some (some (.ref zat)))
  (zwr:W.nsIn K mainGlobals "walks" =some (some (.ref zau)))
  (zws:W.nsIn K mainGlobals "is_whole" =some (some (.ref zav)))
  (zwt:W.nsIn K mainGlobals "is_name" =some (some (.ref zaw)))
  (zwu:W.nsIn K mainGlobals "need_name" =some (some (.ref zax)))
  (zwv:W.nsIn K mainGlobals "need_whole" =some (some (.ref zay)))
  (zww:W.nsIn K mainGlobals "need_turns" =some (some (.ref zaz)))
  (zwx:W.nsIn K mainGlobals "need_each_once" =some (some (.ref zba)))
  (zwy:W.nsIn K mainGlobals "rooms_spoken_of" =some (some (.ref zbb)))
  (zwz:W.nsIn K mainGlobals "need_rooms" =some (some (.ref zbc)))
  (zxa:W.nsIn K mainGlobals "added_people" =some (some (.ref zbd)))
  (zxb:W.nsIn K mainGlobals "need_space" =some (some (.ref zbe)))
  (zxc:W.nsIn K mainGlobals "_law_cell_at" =some (some (.ref zbf)))
  (zxd:W.nsIn K mainGlobals "_law_drawn" =some (some (.ref zbg)))
  (zxe:W.nsIn K mainGlobals "_law_name" =some (some (.ref zbh)))
  (zxf:W.nsIn K mainGlobals "_law_house" =some (some (.ref zbi)))
  (zxg:W.nsIn K mainGlobals "_law_plan" =some (some (.ref zbj)))
  (zxh:W.nsIn K mainGlobals "_law_refused" =some (some (.ref zbk)))
  (zxi:W.nsIn K mainGlobals "law" =some (some (.ref zbl)))
  (zxj:W.nsIn K mainGlobals "Door" =some (some (.ref zbm)))
  (zxk:W.nsIn K mainGlobals "House" =some (some (.ref zbn)))
  (zxl:W.nsIn K mainGlobals "OutError" =some (some (.ref zbo)))
  (zxm:W.nsIn K mainGlobals "NoDoor" =some (some (.ref zbp)))
  (zxn:W.nsIn K mainGlobals "NoHouse" =some (some (.ref zbq)))
  (zxo:W.nsIn K mainGlobals "NoPlan" =some (some (.ref zbr)))
  (zxp:W.nsIn K mainGlobals "NoTurn" =some (some (.ref zbs)))
  (zxq:W.nsIn K mainGlobals "Twice" =some (some (.ref zbt)))
  (zxr:W.nsIn K mainGlobals "NoRoom" =some (some (.ref zbu)))
  (zxs:W.nsIn K mainGlobals "Unknown" =some (some (.ref zbv)))
  (zxt:W.findIn K (.ref zbm) "__init__" =some (some (.ref zbw)))
  (zxu:W.findIn K (.ref zbm) "lets" =some (some (.ref zbx)))
  (zxv:W.findIn K (.ref zbm) "is_exit" =some (some (.ref zby)))
  (zxw:W.findIn K (.ref zbm) "words" =some (some (.ref zbz)))
  (zxx:W.findIn K (.ref zbn) "__init__" =some (some (.ref zca)))
  (zxy:W.findIn K (.ref zbn) "rooms" =some (some (.ref zcb)))
  (zxz:W.findIn K (.ref zbn) "doors" =some (some (.ref zcc)))
  (zya:W.findIn K (.ref zbn) "need_room" =some (some (.ref zcd)))
  (zyb:W.findIn K (.ref zbn) "holds" =some (some (.ref zce)))
  (zyc:W.findIn K (.ref zbn) "found" =some (some (.ref zcf)))
  (zyd:W.findIn K (.ref zbn) "into" =some (some (.ref zcg)))
  (zye:W.findIn K (.ref zbn) "from_room" =some (some (.ref zch)))
  (zyf:W.findIn K (.ref zbn) "door" =some (some (.ref zci)))
  (zyg:W.findIn K (.ref zbn) "lets" =some (some (.ref zcj)))
  (zyh:W.findIn K (.ref zbn) "total" =some (some (.ref zck)))
  (zyi:W.findIn K (.ref zbn) "pairs" =some (some (.ref zcl)))
  (zyj:K.lookup zaa=some ⟨zcp,zcm,.func (W.fnOf "_wall" "_wall" (aK nW) (aJ nW) (aC nW) .none zcq zcr zcs zcn zct zcu),zco⟩)
  (zyk:W.codeIn K zct "_wall" =true)
  (zyl:W.keepIn K (.ref zaa)=true)
  (zym:K.lookup zab=some ⟨zcy,zcv,.func (W.fnOf "added_up" "added_up" (aK gM) (aJ gM) (aC gM) .none zcz zda zdb zcw zdc zdd),zcx⟩)
  (zyn:W.codeIn K zdc "added_up" =true)
  (zyo:W.keepIn K (.ref zab)=true)
  (zyp:K.lookup zac=some ⟨zdh,zde,.func (W.fnOf "as_told" "as_told" (aK iA) (aJ iA) (aC iA) .none zdi zdj zdk zdf zdl zdm),zdg⟩)
  (zyq:W.codeIn K zdl "as_told" =true)
  (zyr:W.keepIn K (.ref zac)=true)
  (zys:K.lookup zad=some ⟨zdq,zdn,.func (W.fnOf "rows_that_count" "rows_that_count" (aK cO) (aJ cO) (aC cO) .none zdr zds zdt zdo zdu zdv),zdp⟩)
  (zyt:W.codeIn K zdu "rows_that_count" =true)
  (zyu:W.keepIn K (.ref zad)=true)
  (zyv:K.lookup zae=some ⟨zdz,zdw,.func (W.fnOf "leaving" "leaving" (aK iB) (aJ iB) (aC iB) .none zea zeb zec zdx zed zee),zdy⟩)
  (zyw:W.codeIn K zed "leaving" =true)
  (zyx:W.keepIn K (.ref zae)=true)
  (zyy:K.lookup zaf=some ⟨zei,zef,.func (W.fnOf "coming" "coming" (aK jO) (aJ jO) (aC jO) .none zej zek zel zeg zem zen),zeh⟩)
  (zyz:W.codeIn K zem "coming" =true)
  (zza:W.keepIn K (.ref zaf)=true)
  (zzb:K.lookup zag=some ⟨zer,zeo,.func (W.fnOf "there" "there" (aK lI) (aJ lI) (aC lI) .none zes zet zeu zep zev zew),zeq⟩)
  (zzc:W.codeIn K zev "there" =true)
  (zzd:W.keepIn K (.ref zag)=true)
  (zze:K.lookup zah=some ⟨zfa,zex,.func (W.fnOf "most_through" "most_through" (aK dP) (aJ dP) (aC dP) .none zfb zfc zfd zey zfe zff),zez⟩)
  (zzf:W.codeIn K zfe "most_through" =true)
  (zzg:W.keepIn K (.ref zah)=true)
  (zzh:K.lookup zai=some ⟨zfj,zfg,.func (W.fnOf "door_faults" "door_faults" (aK d0) (aJ d0) (aC d0) .none zfk zfl zfm zfh zfn zfo),zfi⟩)
  (zzi:W.codeIn K zfn "door_faults" =true)
  (zzj:W.keepIn K (.ref zai)=true)
  (zzk:K.lookup zaj=some ⟨zfs,zfp,.func (W.fnOf "leave_faults" "leave_faults" (aK dQ) (aJ dQ) (aC dQ) .none zft zfu zfv zfq zfw zfx),zfr⟩)
  (zzl:W.codeIn K zfw "leave_faults" =true)
  (zzm:W.keepIn K (.ref zaj)=true)
  (zzn:K.lookup zak=some ⟨zgb,zfy,.func (W.fnOf "full_faults" "full_faults" (aK d7) (aJ d7) (aC d7) .none zgc zgd zge zfz zgf zgg),zga⟩)
  (zzo:W.codeIn K zgf "full_faults" =true)
  (zzp:W.keepIn K (.ref zak)=true)
  (zzq:K.lookup zal=some ⟨zgk,zgh,.func (W.fnOf "faults" "faults" (aK jL) (aJ jL) (aC jL) .none zgl zgm zgn zgi zgo zgp),zgj⟩)
  (zzr:W.codeIn K zgo "faults" =true)
  (zzs:W.keepIn K (.ref zal)=true)
  (zzt:K.lookup zam=some ⟨zgt,zgq,.func (W.fnOf "need_lawful" "need_lawful" (aK d6) (aJ d6) (aC d6) .none zgu zgv zgw zgr zgx zgy),zgs⟩)
  (zzu:W.codeIn K zgx "need_lawful" =true)
  (zzv:W.keepIn K (.ref zam)=true)
  (zzw:K.lookup zan=some ⟨zhc,zgz,.func (W.fnOf "signs" "signs" (aK lH) (aJ lH) (aC lH) .none zhd zhe zhf zha zhg zhh),zhb⟩)
  (zzx:W.codeIn K zhg "signs" =true)
  (zzy:W.keepIn K (.ref zan)=true)
  (zzz:K.lookup zao=some ⟨zhl,zhi,.func (W.fnOf "no_groups" "no_groups" (aK fK) (aJ fK) (aC fK) .none zhm zhn zho zhj zhp zhq),zhk⟩)
  (zbaa:W.codeIn K zhp "no_groups" =true)
  (zbab:W.keepIn K (.ref zao)=true)
  (zbac:K.lookup zap=some ⟨zhu,zhr,.func (W.fnOf "groups_at_first" "groups_at_first" (aK cJ) (aJ cJ) (aC cJ) .none zhv zhw zhx zhs zhy zhz),zht⟩)
  (zbad:W.codeIn K zhy "groups_at_first" =true)
  (zbae:W.keepIn K (.ref zap)=true)
  (zbaf:K.lookup zaq=some ⟨zid,zia,.func (W.fnOf "somebody" "somebody" (aK gN) (aJ gN) (aC gN) .none zie zif zig zib zih zii),zic⟩)
  (zbag:W.codeIn K zih "somebody" =true)
  (zbah:W.keepIn K (.ref zaq)=true)
  (zbai:K.lookup zar=some ⟨zim,zij,.func (W.fnOf "parted" "parted" (aK jM) (aJ jM) (aC jM) .none zin zio ziq zik zir zis),zil⟩)
  (zbaj:W.codeIn K zir "parted" =true)
  (zbak:W.keepIn K (.ref zar)=true)
  (zbal:K.lookup zas=some ⟨ziw,zit,.func (W.fnOf "stepped" "stepped" (aK hU) (aJ hU) (aC hU) .none zix ziy ziz ziu zja zjb),ziv⟩)
  (zbam:W.codeIn K zja "stepped" =true)
  (zban:W.keepIn K (.ref zas)=true)
  (zbao:K.lookup zat=some ⟨zjf,zjc,.func (W.fnOf "groups_after" "groups_after" (aK dJ) (aJ dJ) (aC dJ) .none zjg zjh zji zjd zjj zjk),zje⟩)
  (zbap:W.codeIn K zjj "groups_after" =true)
  (zbaq:W.keepIn K (.ref zat)=true)
  (zbar:K.lookup zau=some ⟨zjo,zjl,.func (W.fnOf "walks" "walks" (aK kY) (aJ kY) (aC kY) .none zjp zjq zjr zjm zjs zjt),zjn⟩)
  (zbas:W.codeIn K zjs "walks" =true)
  (zbat:W.keepIn K (.ref zau)=true)
  (zbau:K.lookup zav=some ⟨zjx,zju,.func (W.fnOf "is_whole" "is_whole" (aK gK) (aJ gK) (aC gK) .none zjy zjz zka zjv zkb zkc),zjw⟩)
  (zbav:W.codeIn K zkb "is_whole" =true)
  (zbaw:W.keepIn K (.ref zav)=true)
  (zbax:K.lookup zaw=some ⟨zkg,zkd,.func (W.fnOf "is_name" "is_name" (aK g9) (aJ g9) (aC g9) .none zkh zki zkj zke zkk zkl),zkf⟩)
  (zbay:W.codeIn K zkk "is_name" =true)
  (zbaz:W.keepIn K (.ref zaw)=true)
  (zbba:K.lookup zax=some ⟨zkp,zkm,.func (W.fnOf "need_name" "need_name" (aK fS) (aJ fS) (aC fS) .none zkq zkr zks zkn zkt zku),zko⟩)
  (zbbb:W.codeIn K zkt "need_name" =true)
  (zbbc:W.keepIn K (.ref zax)=true)
  (zbbd:K.lookup zay=some ⟨zky,zkv,.func (W.fnOf "need_whole" "need_whole" (aK eV) (aJ eV) (aC eV) .none zkz zla zlb zkw zlc zld),zkx⟩)
  (zbbe:W.codeIn K zlc "need_whole" =true)
  (zbbf:W.keepIn K (.ref zay)=true)
  (zbbg:K.lookup zaz=some ⟨zlh,zle,.func (W.fnOf "need_turns" "need_turns" (aK fE) (aJ fE) (aC fE) .none zli zlj zlk zlf zll zlm),zlg⟩)
  (zbbh:W.codeIn K zll "need_turns" =true)
  (zbbi:W.keepIn K (.ref zaz)=true)
  (zbbj:K.lookup zba=some ⟨zlq,zln,.func (W.fnOf "need_each_once" "need_each_once" (aK cU) (aJ cU) (aC cU) .none zlr zls zlt zlo zlu zlv),zlp⟩)
  (zbbk:W.codeIn K zlu "need_each_once" =true)
  (zbbl:W.keepIn K (.ref zba)=true)
  (zbbm:K.lookup zbb=some ⟨zlz,zlw,.func (W.fnOf "rooms_spoken_of" "rooms_spoken_of" (aK cP) (aJ cP) (aC cP) .none zma zmb zmc zlx zmd zme),zly⟩)
  (zbbn:W.codeIn K zmd "rooms_spoken_of" =true)
  (zbbo:W.keepIn K (.ref zbb)=true)
  (zbbp:K.lookup zbc=some ⟨zmi,zmf,.func (W.fnOf "need_rooms" "need_rooms" (aK fB) (aJ fB) (aC fB) .none zmj zmk zml zmg zmm zmn),zmh⟩)
  (zbbq:W.codeIn K zmm "need_rooms" =true)
  (zbbr:W.keepIn K (.ref zbc)=true)
  (zbbs:K.lookup zbd=some ⟨zmr,zmo,.func (W.fnOf "added_people" "added_people" (aK dH) (aJ dH) (aC dH) .none zms zmt zmu zmp zmv zmw),zmq⟩)
  (zbbt:W.codeIn K zmv "added_people" =true)
  (zbbu:W.keepIn K (.ref zbd)=true)
  (zbbv:K.lookup zbe=some ⟨zna,zmx,.func (W.fnOf "need_space" "need_space" (aK fA) (aJ fA) (aC fA) .none znb znc znd zmy zne znf),zmz⟩)
  (zbbw:W.codeIn K zne "need_space" =true)
  (zbbx:W.keepIn K (.ref zbe)=true)
  (zbby:K.lookup zbf=some ⟨znj,zng,.func (W.fnOf "_law_cell_at" "_law_cell_at" (aK dR) (aJ dR) (aC dR) .none znk znl znm znh znn zno),zni⟩)
  (zbbz:W.codeIn K znn "_law_cell_at" =true)
  (zbca:W.keepIn K (.ref zbf)=true)
  (zbcb:K.lookup zbg=some ⟨zns,znp,.func (W.fnOf "_law_drawn" "_law_drawn" (aK fC) (aJ fC) (aC fC) .none znt znu znv znq znw znx),znr⟩)
  (zbcc:W.codeIn K znw "_law_drawn" =true)
  (zbcd:W.keepIn K (.ref zbg)=true)
  (zbce:K.lookup zbh=some ⟨zob,zny,.func (W.fnOf "_law_name" "_law_name" (aK fM) (aJ fM) (aC fM) .none zoc zod zoe znz zof zog),zoa⟩)
  (zbcf:W.codeIn K zof "_law_name" =true)
  (zbcg:W.keepIn K (.ref zbh)=true)
  (zbch:K.lookup zbi=some ⟨zok,zoh,.func (W.fnOf "_law_house" "_law_house" (aK eZ) (aJ eZ) (aC eZ) .none zol zom zon zoi zoo zop),zoj⟩)
  (zbci:W.codeIn K zoo "_law_house" =true)
  (zbcj:W.keepIn K (.ref zbi)=true)
  (zbck:K.lookup zbj=some ⟨zot,zoq,.func (W.fnOf "_law_plan" "_law_plan" (aK fL) (aJ fL) (aC fL) .none zou zov zow zor zox zoy),zos⟩)
  (zbcl:W.codeIn K zox "_law_plan" =true)
  (zbcm:W.keepIn K (.ref zbj)=true)
  (zbcn:K.lookup zbk=some ⟨zpc,zoz,.func (W.fnOf "_law_refused" "_law_refused" (aK dO) (aJ dO) (aC dO) .none zpd zpe zpf zpa zpg zph),zpb⟩)
  (zbco:W.codeIn K zpg "_law_refused" =true)
  (zbcp:W.keepIn K (.ref zbk)=true)
  (zbcq:K.lookup zbl=some ⟨zpl,zpi,.func (W.fnOf "law" "law" (aK mG) (aJ mG) (aC mG) .none zpm zpn zpo zpj zpp zpq),zpk⟩)
  (zbcr:W.codeIn K zpp "law" =true)
  (zbcs:W.keepIn K (.ref zbl)=true)
  (zbct:K.lookup zbw=some ⟨zpu,zpr,.func (W.fnOf "__init__" "Door.__init__" (aK cC) (aJ cC) (aC cC) (.ref zqa) zpv zpw zpx zps zpy zpz),zpt⟩)
  (zbcu:W.codeIn K zpy "Door.__init__" =true)
  (zbcv:W.keepIn K (.ref zbw)=true)
  (zbcw:K.lookup zqa=some ⟨zqc,zqd,.seq #[.none,.int 1 zqb] zqe,zqf⟩)
  (zbcx:K.lookup zbx=some ⟨zqj,zqg,.func (W.fnOf "lets" "Door.lets" (aK fP) (aJ fP) (aC fP) .none zqk zql zqm zqh zqn zqo),zqi⟩)
  (zbcy:W.codeIn K zqn "Door.lets" =true)
  (zbcz:W.keepIn K (.ref zbx)=true)
  (zbda:K.lookup zby=some ⟨zqs,zqp,.func (W.fnOf "is_exit" "Door.is_exit" (aK dL) (aJ dL) (aC dL) .none zqt zqu zqv zqq zqw zqx),zqr⟩)
  (zbdb:W.codeIn K zqw "Door.is_exit" =true)
  (zbdc:W.keepIn K (.ref zby)=true)
  (zbdd:K.lookup zbz=some ⟨zrb,zqy,.func (W.fnOf "words" "Door.words" (aK fY) (aJ fY) (aC fY) .none zrc zrd zre zqz zrf zrg),zra⟩)
  (zbde:W.codeIn K zrf "Door.words" =true)
  (zbdf:W.keepIn K (.ref zbz)=true)
  (zbdg:K.lookup zca=some ⟨zrk,zrh,.func (W.fnOf "__init__" "House.__init__" (aK cF) (aJ cF) (aC cF) (.ref zrq) zrl zrm zrn zri zro zrp),zrj⟩)
  (zbdh:W.codeIn K zro "House.__init__" =true)
  (zbdi:W.keepIn K (.ref zca)=true)
  (zbdj:K.lookup zrq=some ⟨zrs,zrt,.seq #[.int 0 zrr] zru,zrv⟩)
  (zbdk:K.lookup zcb=some ⟨zrz,zrw,.func (W.fnOf "rooms" "House.rooms" (aK d9) (aJ d9) (aC d9) .none zsa zsb zsc zrx zsd zse),zry⟩)
  (zbdl:W.codeIn K zsd "House.rooms" =true)
  (zbdm:W.keepIn K (.ref zcb)=true)
  (zbdn:K.lookup zcc=some ⟨zsi,zsf,.func (W.fnOf "doors" "House.doors" (aK d8) (aJ d8) (aC d8) .none zsj zsk zsl zsg zsm zsn),zsh⟩)
  (zbdo:W.codeIn K zsm "House.doors" =true)
  (zbdp:W.keepIn K (.ref zcc)=true)
  (zbdq:K.lookup zcd=some ⟨zsr,zso,.func (W.fnOf "need_room" "House.need_room" (aK cK) (aJ cK) (aC cK) .none zss zst zsu zsp zsv zsw),zsq⟩)
  (zbdr:W.codeIn K zsv "House.need_room" =true)
  (zbds:W.keepIn K (.ref zcd)=true)
  (zbdt:K.lookup zce=some ⟨zta,zsx,.func (W.fnOf "holds" "House.holds" (aK eF) (aJ eF) (aC eF) .none ztb ztc ztd zsy zte ztf),zsz⟩)
  (zbdu:W.codeIn K zte "House.holds" =true)
  (zbdv:W.keepIn K (.ref zce)=true)
  (zbdw:K.lookup zcf=some ⟨ztj,ztg,.func (W.fnOf "found" "House.found" (aK eI) (aJ eI) (aC eI) .none ztk ztl ztm zth ztn zto),zti⟩)
  (zbdx:W.codeIn K ztn "House.found" =true)
  (zbdy:W.keepIn K (.ref zcf)=true)
  (zbdz:K.lookup zcg=some ⟨zts,ztp,.func (W.fnOf "into" "House.into" (aK fW) (aJ fW) (aC fW) .none ztt ztu ztv ztq ztw ztx),ztr⟩)
  (zbea:W.codeIn K ztw "House.into" =true)
  (zbeb:W.keepIn K (.ref zcg)=true)
  (zbec:K.lookup zch=some ⟨zub,zty,.func (W.fnOf "from_room" "House.from_room" (aK cM) (aJ cM) (aC cM) .none zuc zud zue ztz zuf zug),zua⟩)
  (zbed:W.codeIn K zuf "House.from_room" =true)
  (zbee:W.keepIn K (.ref zch)=true)
  (zbef:K.lookup zci=some ⟨zuk,zuh,.func (W.fnOf "door" "House.door" (aK eX) (aJ eX) (aC eX) .none zul zum zun zui zuo zup),zuj⟩)
  (zbeg:W.codeIn K zuo "House.door" =true)
  (zbeh:W.keepIn K (.ref zci)=true)
  (zbei:K.lookup zcj=some ⟨zut,zuq,.func (W.fnOf "lets" "House.lets" (aK fD) (aJ fD) (aC fD) .none zuu zuv zuw zur zux zuy),zus⟩)
  (zbej:W.codeIn K zux "House.lets" =true)
  (zbek:W.keepIn K (.ref zcj)=true)
  (zbel:K.lookup zck=some ⟨zvc,zuz,.func (W.fnOf "total" "House.total" (aK d5) (aJ d5) (aC d5) .none zvd zve zvf zva zvg zvh),zvb⟩)
  (zbem:W.codeIn K zvg "House.total" =true)
  (zben:W.keepIn K (.ref zck)=true)
  (zbeo:K.lookup zcl=some ⟨zvl,zvi,.func (W.fnOf "pairs" "House.pairs" (aK eJ) (aJ eJ) (aC eJ) .none zvm zvn zvo zvj zvp zvq),zvk⟩)
  (zbep:W.codeIn K zvp "House.pairs" =true)
  (zbeq:W.keepIn K (.ref zcl)=true)
  (zber:W.plainGet K zbm Str.empty=true)
  (zbes:W.hasDictIn K zbm=true)
  (zbet:W.plainOver K zbm=true)
  (zbeu:W.findIn K (.ref zbm) "__setattr__" =some (some (.builtin "object.__setattr__")))
  (zbev:W.makesIn K zbm=true)
  (zbew:W.keepIn K (.ref zbm)=true)
  (zbex:W.findIn K (.ref zbm) "__class__" =some (some (.builtin "object.__class__")))
  (zbey:W.mroIn K zbm (.type "object")=some true)
  (zbez:W.findIn K (.ref zbm) "name" =some none)
  (zbfa:W.findIn K (.ref zbm) "start" =some none)
  (zbfb:W.findIn K (.ref zbm) "end" =some none)
  (zbfc:W.findIn K (.ref zbm) "wide" =some none)
  (zbfd:W.findIn K (.ref zbm) "first" =some none)
  (zbfe:W.findIn K (.ref zbm) "last" =some none)
  (zbff:W.findIn K (.ref zbm) "sizes" =some none)
  (zbfg:W.findIn K (.ref zbm) "people" =some none)
  (zbfh:W.findIn K (.ref zbm) "named_doors" =some none)
  (zbfi:W.findIn K (.ref zbm) "__init__" =some (some (.ref zbw)))
  (zbfj:W.isFn K (.ref zbw)=true)
  (zbfk:W.findIn K (.ref zbm) "lets" =some (some (.ref zbx)))
  (zbfl:W.isFn K (.ref zbx)=true)
  (zbfm:W.findIn K (.ref zbm) "is_exit" =some (some (.ref zby)))
  (zbfn:W.isFn K (.ref zby)=true)
  (zbfo:W.findIn K (.ref zbm) "words" =some (some (.ref zbz)))
  (zbfp:W.isFn K (.ref zbz)=true)
  (zbfq:W.plainGet K zbn Str.empty=true)
  (zbfr:W.hasDictIn K zbn=true)
  (zbfs:W.plainOver K zbn=true)
  (zbft:W.findIn K (.ref zbn) "__setattr__" =some (some (.builtin "object.__setattr__")))
  (zbfu:W.makesIn K zbn=true)
  (zbfv:W.keepIn K (.ref zbn)=true)
  (zbfw:W.findIn K (.ref zbn) "__class__" =some (some (.builtin "object.__class__")))
  (zbfx:W.mroIn K zbn (.type "object")=some true)
  (zbfy:W.findIn K (.ref zbn) "name" =some none)
  (zbfz:W.findIn K (.ref zbn) "start" =some none)
  (zbga:W.findIn K (.ref zbn) "end" =some none)
  (zbgb:W.findIn K (.ref zbn) "wide" =some none)
  (zbgc:W.findIn K (.ref zbn) "first" =some none)
  (zbgd:W.findIn K (.ref zbn) "last" =some none)
  (zbge:W.findIn K (.ref zbn) "sizes" =some none)
  (zbgf:W.findIn K (.ref zbn) "people" =some none)
  (zbgg:W.findIn K (.ref zbn) "named_doors" =some none)
  (zbgh:W.findIn K (.ref zbn) "__init__" =some (some (.ref zca)))
  (zbgi:W.isFn K (.ref zca)=true)
  (zbgj:W.findIn K (.ref zbn) "rooms" =some (some (.ref zcb)))
  (zbgk:W.isFn K (.ref zcb)=true)
  (zbgl:W.findIn K (.ref zbn) "doors" =some (some (.ref zcc)))
  (zbgm:W.isFn K (.ref zcc)=true)
  (zbgn:W.findIn K (.ref zbn) "need_room" =some (some (.ref zcd)))
  (zbgo:W.isFn K (.ref zcd)=true)
  (zbgp:W.findIn K (.ref zbn) "holds" =some (some (.ref zce)))
  (zbgq:W.isFn K (.ref zce)=true)
  (zbgr:W.findIn K (.ref zbn) "found" =some (some (.ref zcf)))
  (zbgs:W.isFn K (.ref zcf)=true)
  (zbgt:W.findIn K (.ref zbn) "into" =some (some (.ref zcg)))
  (zbgu:W.isFn K (.ref zcg)=true)
  (zbgv:W.findIn K (.ref zbn) "from_room" =some (some (.ref zch)))
  (zbgw:W.isFn K (.ref zch)=true)
  (zbgx:W.findIn K (.ref zbn) "door" =some (some (.ref zci)))
  (zbgy:W.isFn K (.ref zci)=true)
  (zbgz:W.findIn K (.ref zbn) "lets" =some (some (.ref zcj)))
  (zbha:W.isFn K (.ref zcj)=true)
  (zbhb:W.findIn K (.ref zbn) "total" =some (some (.ref zck)))
  (zbhc:W.isFn K (.ref zck)=true)
  (zbhd:W.findIn K (.ref zbn) "pairs" =some (some (.ref zcl)))
  (zbhe:W.isFn K (.ref zcl)=true)
  (zbhf:W.specialIn K (.builtin "object.__class__") "__get__" =some (some (.builtin "getset_descriptor.__get__")))
  (zbhg:W.takesIn K (.builtin "object.__class__")=some true)
  (zbhh:W.specialIn K (.ref zbm) "__getattribute__" =some (some (.builtin "type.__getattribute__")))
  (zbhi:W.readsIn K zbm (.type "type")=true)
  (zbhj:W.findCls K (.ref zbm) (.type "type") "__init__" =some (.val (.ref zbw)))
  (zbhk:W.excIn K zbr bmV "ValueError.__new__" =true)
  (zbhl:W.findIn K (.ref zbr) "__getattribute__" =some (some (.builtin "BaseException.__getattribute__")))
  (zbhm:W.findIn K (.ref zbr) "__getattr__" =some none)
  (zbhn:W.findIn K (.ref zbr) "__class__" =some (some (.builtin "object.__class__")))
  (zbho:W.subIn K (.ref zbr) (.type "object")=some true)
  (zbhp:W.subIn K (.ref zbr) (.type "BaseException")=some true)
  (zbhq:W.clsIn K zbr=some zvr)
  (zbhr:W.clsIn K zbo=some zvs)
  (zbhs:W.typeIn K (.ref zbo)=some (.type "type"))
  (zbht:W.subIn K (.ref zbo) (.type "BaseException")=some true)
  (zbhu:W.subIn K (.ref zbr) (.ref zbo)=some true)
  (zbhv:W.clsIn K zbs=some zvt)
  (zbhw:W.typeIn K (.ref zbs)=some (.type "type"))
  (zbhx:W.subIn K (.ref zbr) (.ref zbs)=some false)
  (zbhy:(Value.ref zbr==Value.ref zbs)=false)
  (zbhz:W.clsIn K zbq=some zvu)
  (zbia:W.typeIn K (.ref zbq)=some (.type "type"))
  (zbib:W.subIn K (.ref zbr) (.ref zbq)=some false)
  (zbic:(Value.ref zbr==Value.ref zbq)=false)
  (zbid:W.clsIn K zbp=some zvv)
  (zbie:W.typeIn K (.ref zbp)=some (.type "type"))
  (zbif:W.subIn K (.ref zbr) (.ref zbp)=some false)
  (zbig:(Value.ref zbr==Value.ref zbp)=false)
  (zbih:W.subIn K (.ref zbr) (.type "ValueError")=some true)
  (zbii:W.nsIn K mainGlobals "ValueError" =some none)
  (zbij:W.nsIn K mainGlobals "sorted" =some none)
  (zbik:W.nsIn K mainGlobals "range" =some none)
  (zbil:W.nsIn K mainGlobals "any" =some none)
  (zbim:W.nsIn K mainGlobals "len" =some none)
  (zbin:W.nsIn K mainGlobals "min" =some none)
  (zbio:W.nsIn K mainGlobals "isinstance" =some none)
  (zbip:W.nsIn K mainGlobals "int" =some none)
  (zbiq:W.nsIn K mainGlobals "str" =some none)
  (zbir:W.nsIn K mainGlobals "all" =some none)
  (zbis:W.nsIn K mainGlobals "dict" =some none)
  (zbit:W.nsIn K mainGlobals "list" =some none)
  (zbiu:W.nsIn K mainGlobals "sum" =some none)
  (zbiv:W.nsIn K mainGlobals "bool" =some none)
  (zbiw:W.nsIn K mainGlobals "max" =some none)
  (zbix:W.nsIn K mainGlobals "LONGEST_NAME" =some (some (.int 8 zvw))) :
  ∃fd:FuncData,(∀(s:Shared) (v:Value),BindsTo s fd ⟨[v],[]⟩ [("_law_script",v)])/\∀base:Heap,K.In base->base.Ns mainGlobals mg->bD l.prog w K mg base CX0 20 fa fd ["_law_script"] (tY K):=by
 have e:=hfa.symm.trans (W.mg_of X G zxi);cases e;have zbiy:=aS (st:=nW) zyj zyk zyl;have zbiz:=aT (K:=K) (x:= "_wall") (qual:= "_wall") (st:=nW) (kV:=zcq) (doc:=zcr) (pm:=zcs) (an:=zcn) (cdv:=zct) (ct:=zcu) (ps:=["k"])<|aO 1 _ fun _=>rfl
 have zbja:=aS (st:=gM) zym zyn zyo;have zbjb:=aT (K:=K) (x:= "added_up") (qual:= "added_up") (st:=gM) (kV:=zcz) (doc:=zda) (pm:=zdb) (an:=zcw) (cdv:=zdc) (ct:=zdd) (ps:=["plan"])<|aO 1 _ fun _=>rfl
 have zbjc:=aS (st:=iA) zyp zyq zyr;have zbjd:=aT (K:=K) (x:= "as_told") (qual:= "as_told") (st:=iA) (kV:=zdi) (doc:=zdj) (pm:=zdk) (an:=zdf) (cdv:=zdl) (ct:=zdm) (ps:=["plan"])<|aO 1 _ fun _=>rfl
 have zbje:=aS (st:=cO) zys zyt zyu;have zbjf:=aT (K:=K) (x:= "rows_that_count") (qual:= "rows_that_count") (st:=cO) (kV:=zdr) (doc:=zds) (pm:=zdt) (an:=zdo) (cdv:=zdu) (ct:=zdv) (ps:=["house","plan"])<|aO 2 _ fun _ _=>rfl
 have zbjg:=aS (st:=iB) zyv zyw zyx;have zbjh:=aT (K:=K) (x:= "leaving") (qual:= "leaving") (st:=iB) (kV:=zea) (doc:=zeb) (pm:=zec) (an:=zdx) (cdv:=zed) (ct:=zee) (ps:=["house","plan"])<|aO 2 _ fun _ _=>rfl
 have zbji:=aS (st:=jO) zyy zyz zza;have zbjj:=aT (K:=K) (x:= "coming") (qual:= "coming") (st:=jO) (kV:=zej) (doc:=zek) (pm:=zel) (an:=zeg) (cdv:=zem) (ct:=zen) (ps:=["house","plan"])<|aO 2 _ fun _ _=>rfl
 have zbjk:=aS (st:=lI) zzb zzc zzd;have zbjl:=aT (K:=K) (x:= "there") (qual:= "there") (st:=lI) (kV:=zes) (doc:=zet) (pm:=zeu) (an:=zep) (cdv:=zev) (ct:=zew) (ps:=["house","plan"])<|aO 2 _ fun _ _=>rfl
 have zbjm:=aS (st:=dP) zze zzf zzg;have zbjn:=aT (K:=K) (x:= "most_through") (qual:= "most_through") (st:=dP) (kV:=zfb) (doc:=zfc) (pm:=zfd) (an:=zey) (cdv:=zfe) (ct:=zff) (ps:=["house","turn","name"])<|aO 3 _ fun _ _ _=>rfl
 have zbjo:=aS (st:=d0) zzh zzi zzj;have zbjp:=aT (K:=K) (x:= "door_faults") (qual:= "door_faults") (st:=d0) (kV:=zfk) (doc:=zfl) (pm:=zfm) (an:=zfh) (cdv:=zfn) (ct:=zfo) (ps:=["house","plan"])<|aO 2 _ fun _ _=>rfl
 have zbjq:=aS (st:=dQ) zzk zzl zzm;have zbjr:=aT (K:=K) (x:= "leave_faults") (qual:= "leave_faults") (st:=dQ) (kV:=zft) (doc:=zfu) (pm:=zfv) (an:=zfq) (cdv:=zfw) (ct:=zfx) (ps:=["house","plan","inside"])<|aO 3 _ fun _ _ _=>rfl
 have zbjs:=aS (st:=d7) zzn zzo zzp;have zbjt:=aT (K:=K) (x:= "full_faults") (qual:= "full_faults") (st:=d7) (kV:=zgc) (doc:=zgd) (pm:=zge) (an:=zfz) (cdv:=zgf) (ct:=zgg) (ps:=["house","inside"])<|aO 2 _ fun _ _=>rfl
 have zbju:=aS (st:=jL) zzq zzr zzs;have zbjv:=aT (K:=K) (x:= "faults") (qual:= "faults") (st:=jL) (kV:=zgl) (doc:=zgm) (pm:=zgn) (an:=zgi) (cdv:=zgo) (ct:=zgp) (ps:=["house","plan"])<|aO 2 _ fun _ _=>rfl
 have zbjw:=aS (st:=d6) zzt zzu zzv;have zbjx:=aT (K:=K) (x:= "need_lawful") (qual:= "need_lawful") (st:=d6) (kV:=zgu) (doc:=zgv) (pm:=zgw) (an:=zgr) (cdv:=zgx) (ct:=zgy) (ps:=["house","plan"])<|aO 2 _ fun _ _=>rfl
 have zbjy:=aS (st:=lH) zzw zzx zzy;have zbjz:=aT (K:=K) (x:= "signs") (qual:= "signs") (st:=lH) (kV:=zhd) (doc:=zhe) (pm:=zhf) (an:=zha) (cdv:=zhg) (ct:=zhh) (ps:=["house","plan","room","turn"])<|aO 4 _ fun _ _ _ _=>rfl
 have zbka:=aS (st:=fK) zzz zbaa zbab;have zbkb:=aT (K:=K) (x:= "no_groups") (qual:= "no_groups") (st:=fK) (kV:=zhm) (doc:=zhn) (pm:=zho) (an:=zhj) (cdv:=zhp) (ct:=zhq) (ps:=["house"])<|aO 1 _ fun _=>rfl
 have zbkc:=aS (st:=cJ) zbac zbad zbae;have zbkd:=aT (K:=K) (x:= "groups_at_first") (qual:= "groups_at_first") (st:=cJ) (kV:=zhv) (doc:=zhw) (pm:=zhx) (an:=zhs) (cdv:=zhy) (ct:=zhz) (ps:=["house"])<|aO 1 _ fun _=>rfl
 have zbke:=aS (st:=gN) zbaf zbag zbah;have zbkf:=aT (K:=K) (x:= "somebody") (qual:= "somebody") (st:=gN) (kV:=zie) (doc:=zif) (pm:=zig) (an:=zib) (cdv:=zih) (ct:=zii) (ps:=["group"])<|aO 1 _ fun _=>rfl
 have zbkg:=aS (st:=jM) zbai zbaj zbak;have zbkh:=aT (K:=K) (x:= "parted") (qual:= "parted") (st:=jM) (kV:=zin) (doc:=zio) (pm:=ziq) (an:=zik) (cdv:=zir) (ct:=zis) (ps:=["group","number"])<|aO 2 _ fun _ _=>rfl
 have zbki:=aS (st:=hU) zbal zbam zban;have zbkj:=aT (K:=K) (x:= "stepped") (qual:= "stepped") (st:=hU) (kV:=zix) (doc:=ziy) (pm:=ziz) (an:=ziu) (cdv:=zja) (ct:=zjb) (ps:=["group","name"])<|aO 2 _ fun _ _=>rfl
 have zbkk:=aS (st:=dJ) zbao zbap zbaq;have zbkl:=aT (K:=K) (x:= "groups_after") (qual:= "groups_after") (st:=dJ) (kV:=zjg) (doc:=zjh) (pm:=zji) (an:=zjd) (cdv:=zjj) (ct:=zjk) (ps:=["house","plan","turn","groups"])<|aO 4 _ fun _ _ _ _=>rfl
 have zbkm:=aS (st:=kY) zbar zbas zbat;have zbkn:=aT (K:=K) (x:= "walks") (qual:= "walks") (st:=kY) (kV:=zjp) (doc:=zjq) (pm:=zjr) (an:=zjm) (cdv:=zjs) (ct:=zjt) (ps:=["house","plan"])<|aO 2 _ fun _ _=>rfl
 have zbko:=aS (st:=gK) zbau zbav zbaw;have zbkp:=aT (K:=K) (x:= "is_whole") (qual:= "is_whole") (st:=gK) (kV:=zjy) (doc:=zjz) (pm:=zka) (an:=zjv) (cdv:=zkb) (ct:=zkc) (ps:=["thing"])<|aO 1 _ fun _=>rfl
 have zbkq:=aS (st:=g9) zbax zbay zbaz;have zbkr:=aT (K:=K) (x:= "is_name") (qual:= "is_name") (st:=g9) (kV:=zkh) (doc:=zki) (pm:=zkj) (an:=zke) (cdv:=zkk) (ct:=zkl) (ps:=["thing"])<|aO 1 _ fun _=>rfl
 have zbks:=aS (st:=fS) zbba zbbb zbbc;have zbkt:=aT (K:=K) (x:= "need_name") (qual:= "need_name") (st:=fS) (kV:=zkq) (doc:=zkr) (pm:=zks) (an:=zkn) (cdv:=zkt) (ct:=zku) (ps:=["part","thing"])<|aO 2 _ fun _ _=>rfl
 have zbku:=aS (st:=eV) zbbd zbbe zbbf;have zbkv:=aT (K:=K) (x:= "need_whole") (qual:= "need_whole") (st:=eV) (kV:=zkz) (doc:=zla) (pm:=zlb) (an:=zkw) (cdv:=zlc) (ct:=zld) (ps:=["part","thing","least"])<|aO 3 _ fun _ _ _=>rfl
 have zbkw:=aS (st:=fE) zbbg zbbh zbbi;have zbkx:=aT (K:=K) (x:= "need_turns") (qual:= "need_turns") (st:=fE) (kV:=zli) (doc:=zlj) (pm:=zlk) (an:=zlf) (cdv:=zll) (ct:=zlm) (ps:=["first","last"])<|aO 2 _ fun _ _=>rfl
 have zbky:=aS (st:=cU) zbbj zbbk zbbl;have zbkz:=aT (K:=K) (x:= "need_each_once") (qual:= "need_each_once") (st:=cU) (kV:=zlr) (doc:=zls) (pm:=zlt) (an:=zlo) (cdv:=zlu) (ct:=zlv) (ps:=["names"])<|aO 1 _ fun _=>rfl
 have zbla:=aS (st:=cP) zbbm zbbn zbbo;have zblb:=aT (K:=K) (x:= "rooms_spoken_of") (qual:= "rooms_spoken_of") (st:=cP) (kV:=zma) (doc:=zmb) (pm:=zmc) (an:=zlx) (cdv:=zmd) (ct:=zme) (ps:=["doors","people"])<|aO 2 _ fun _ _=>rfl
 have zblc:=aS (st:=fB) zbbp zbbq zbbr;have zbld:=aT (K:=K) (x:= "need_rooms") (qual:= "need_rooms") (st:=fB) (kV:=zmj) (doc:=zmk) (pm:=zml) (an:=zmg) (cdv:=zmm) (ct:=zmn) (ps:=["names","sizes"])<|aO 2 _ fun _ _=>rfl
 have zble:=aS (st:=dH) zbbs zbbt zbbu;have zblf:=aT (K:=K) (x:= "added_people") (qual:= "added_people") (st:=dH) (kV:=zms) (doc:=zmt) (pm:=zmu) (an:=zmp) (cdv:=zmv) (ct:=zmw) (ps:=["sizes","people"])<|aO 2 _ fun _ _=>rfl
 have zblg:=aS (st:=fA) zbbv zbbw zbbx;have zblh:=aT (K:=K) (x:= "need_space") (qual:= "need_space") (st:=fA) (kV:=znb) (doc:=znc) (pm:=znd) (an:=zmy) (cdv:=zne) (ct:=znf) (ps:=["sizes","people"])<|aO 2 _ fun _ _=>rfl
 have zbli:=aS (st:=dR) zbby zbbz zbca;have zblj:=aT (K:=K) (x:= "_law_cell_at") (qual:= "_law_cell_at") (st:=dR) (kV:=znk) (doc:=znl) (pm:=znm) (an:=znh) (cdv:=znn) (ct:=zno) (ps:=["_law_script","_law_k"])<|aO 2 _ fun _ _=>rfl
 have zblk:=aS (st:=fC) zbcb zbcc zbcd;have zbll:=aT (K:=K) (x:= "_law_drawn") (qual:= "_law_drawn") (st:=fC) (kV:=znt) (doc:=znu) (pm:=znv) (an:=znq) (cdv:=znw) (ct:=znx) (ps:=["_law_cell","_law_k"])<|aO 2 _ fun _ _=>rfl
 have zblm:=aS (st:=fM) zbce zbcf zbcg;have zbln:=aT (K:=K) (x:= "_law_name") (qual:= "_law_name") (st:=fM) (kV:=zoc) (doc:=zod) (pm:=zoe) (an:=znz) (cdv:=zof) (ct:=zog) (ps:=["_law_cell","_law_k"])<|aO 2 _ fun _ _=>rfl
 have zblo:=aS (st:=eZ) zbch zbci zbcj;have zblp:=aT (K:=K) (x:= "_law_house") (qual:= "_law_house") (st:=eZ) (kV:=zol) (doc:=zom) (pm:=zon) (an:=zoi) (cdv:=zoo) (ct:=zop) (ps:=["_law_script"])<|aO 1 _ fun _=>rfl
 have zblq:=aS (st:=fL) zbck zbcl zbcm;have zblr:=aT (K:=K) (x:= "_law_plan") (qual:= "_law_plan") (st:=fL) (kV:=zou) (doc:=zov) (pm:=zow) (an:=zor) (cdv:=zox) (ct:=zoy) (ps:=["_law_house_here","_law_cells"])<|aO 2 _ fun _ _=>rfl
 have zbls:=aS (st:=dO) zbcn zbco zbcp;have zblt:=aT (K:=K) (x:= "_law_refused") (qual:= "_law_refused") (st:=dO) (kV:=zpd) (doc:=zpe) (pm:=zpf) (an:=zpa) (cdv:=zpg) (ct:=zph) (ps:=["_law_house_here","_law_plan_here"])<|aO 2 _ fun _ _=>rfl
 have zblu:=aS (st:=mG) zbcq zbcr zbcs;have zblv:=aT (K:=K) (x:= "law") (qual:= "law") (st:=mG) (kV:=zpm) (doc:=zpn) (pm:=zpo) (an:=zpj) (cdv:=zpp) (ct:=zpq) (ps:=["_law_script"])<|aO 1 _ fun _=>rfl
 have zblw:=aS (st:=cC) zbct zbcu zbcv;have zblx:=rB 5 (K:=K) (x:= "__init__") (qual:= "Door.__init__") (st:=cC) (kV:=zpv) (doc:=zpw) (pm:=zpx) (an:=zps) (cdv:=zpy) (ct:=zpz) (ps:=["self","name","start","end","wide"]) (ds:=[]) zbcw<|aO 5 _ fun _ _ _ _ _=>⟨_,rfl,rfl⟩
 have zbly:=rB 4 (K:=K) (x:= "__init__") (qual:= "Door.__init__") (st:=cC) (kV:=zpv) (doc:=zpw) (pm:=zpx) (an:=zps) (cdv:=zpy) (ct:=zpz) (ps:=["self","name","start","end","wide"]) (ds:=[.int 1 zqb]) zbcw<|aO 4 _ fun _ _ _ _=>⟨_,rfl,rfl⟩
 have zblz:=rB 3 (K:=K) (x:= "__init__") (qual:= "Door.__init__") (st:=cC) (kV:=zpv) (doc:=zpw) (pm:=zpx) (an:=zps) (cdv:=zpy) (ct:=zpz) (ps:=["self","name","start","end","wide"]) (ds:=[.none,.int 1 zqb]) zbcw<|aO 3 _ fun _ _ _=>⟨_,rfl,rfl⟩
 have zbma:=aS (st:=fP) zbcx zbcy zbcz;have zbmb:=aT (K:=K) (x:= "lets") (qual:= "Door.lets") (st:=fP) (kV:=zqk) (doc:=zql) (pm:=zqm) (an:=zqh) (cdv:=zqn) (ct:=zqo) (ps:=["self","turn"])<|aO 2 _ fun _ _=>rfl
 have zbmc:=aS (st:=dL) zbda zbdb zbdc;have zbmd:=aT (K:=K) (x:= "is_exit") (qual:= "Door.is_exit") (st:=dL) (kV:=zqt) (doc:=zqu) (pm:=zqv) (an:=zqq) (cdv:=zqw) (ct:=zqx) (ps:=["self"])<|aO 1 _ fun _=>rfl
 have zbme:=aS (st:=fY) zbdd zbde zbdf;have zbmf:=aT (K:=K) (x:= "words") (qual:= "Door.words") (st:=fY) (kV:=zrc) (doc:=zrd) (pm:=zre) (an:=zqz) (cdv:=zrf) (ct:=zrg) (ps:=["self"])<|aO 1 _ fun _=>rfl
 have zbmg:=aS (st:=cF) zbdg zbdh zbdi;have zbmh:=rB 6 (K:=K) (x:= "__init__") (qual:= "House.__init__") (st:=cF) (kV:=zrl) (doc:=zrm) (pm:=zrn) (an:=zri) (cdv:=zro) (ct:=zrp) (ps:=["self","rooms","doors","people","last","first"]) (ds:=[]) zbdj<|aO 6 _ fun _ _ _ _ _ _=>⟨_,rfl,rfl⟩
 have zbmi:=rB 5 (K:=K) (x:= "__init__") (qual:= "House.__init__") (st:=cF) (kV:=zrl) (doc:=zrm) (pm:=zrn) (an:=zri) (cdv:=zro) (ct:=zrp) (ps:=["self","rooms","doors","people","last","first"]) (ds:=[.int 0 zrr]) zbdj<|aO 5 _ fun _ _ _ _ _=>⟨_,rfl,rfl⟩
 have zbmj:=aS (st:=d9) zbdk zbdl zbdm;have zbmk:=aT (K:=K) (x:= "rooms") (qual:= "House.rooms") (st:=d9) (kV:=zsa) (doc:=zsb) (pm:=zsc) (an:=zrx) (cdv:=zsd) (ct:=zse) (ps:=["self"])<|aO 1 _ fun _=>rfl
 have zbml:=aS (st:=d8) zbdn zbdo zbdp;have zbmm:=aT (K:=K) (x:= "doors") (qual:= "House.doors") (st:=d8) (kV:=zsj) (doc:=zsk) (pm:=zsl) (an:=zsg) (cdv:=zsm) (ct:=zsn) (ps:=["self"])<|aO 1 _ fun _=>rfl
 have zbmn:=aS (st:=cK) zbdq zbdr zbds;have zbmo:=aT (K:=K) (x:= "need_room") (qual:= "House.need_room") (st:=cK) (kV:=zss) (doc:=zst) (pm:=zsu) (an:=zsp) (cdv:=zsv) (ct:=zsw) (ps:=["self","room"])<|aO 2 _ fun _ _=>rfl
 have zbmp:=aS (st:=eF) zbdt zbdu zbdv;have zbmq:=aT (K:=K) (x:= "holds") (qual:= "House.holds") (st:=eF) (kV:=ztb) (doc:=ztc) (pm:=ztd) (an:=zsy) (cdv:=zte) (ct:=ztf) (ps:=["self","room"])<|aO 2 _ fun _ _=>rfl
 have zbmr:=aS (st:=eI) zbdw zbdx zbdy;have zbms:=aT (K:=K) (x:= "found") (qual:= "House.found") (st:=eI) (kV:=ztk) (doc:=ztl) (pm:=ztm) (an:=zth) (cdv:=ztn) (ct:=zto) (ps:=["self","room"])<|aO 2 _ fun _ _=>rfl
 have zbmt:=aS (st:=fW) zbdz zbea zbeb;have zbmu:=aT (K:=K) (x:= "into") (qual:= "House.into") (st:=fW) (kV:=ztt) (doc:=ztu) (pm:=ztv) (an:=ztq) (cdv:=ztw) (ct:=ztx) (ps:=["self","room"])<|aO 2 _ fun _ _=>rfl
 have zbmv:=aS (st:=cM) zbec zbed zbee;have zbmw:=aT (K:=K) (x:= "from_room") (qual:= "House.from_room") (st:=cM) (kV:=zuc) (doc:=zud) (pm:=zue) (an:=ztz) (cdv:=zuf) (ct:=zug) (ps:=["self","room"])<|aO 2 _ fun _ _=>rfl
 have zbmx:=aS (st:=eX) zbef zbeg zbeh;have zbmy:=aT (K:=K) (x:= "door") (qual:= "House.door") (st:=eX) (kV:=zul) (doc:=zum) (pm:=zun) (an:=zui) (cdv:=zuo) (ct:=zup) (ps:=["self","name"])<|aO 2 _ fun _ _=>rfl
 have zbmz:=aS (st:=fD) zbei zbej zbek;have zbna:=aT (K:=K) (x:= "lets") (qual:= "House.lets") (st:=fD) (kV:=zuu) (doc:=zuv) (pm:=zuw) (an:=zur) (cdv:=zux) (ct:=zuy) (ps:=["self","name","turn"])<|aO 3 _ fun _ _ _=>rfl
 have zbnb:=aS (st:=d5) zbel zbem zben;have zbnc:=aT (K:=K) (x:= "total") (qual:= "House.total") (st:=d5) (kV:=zvd) (doc:=zve) (pm:=zvf) (an:=zva) (cdv:=zvg) (ct:=zvh) (ps:=["self"])<|aO 1 _ fun _=>rfl
 have zbnd:=aS (st:=eJ) zbeo zbep zbeq;have zbne:=aT (K:=K) (x:= "pairs") (qual:= "House.pairs") (st:=eJ) (kV:=zvm) (doc:=zvn) (pm:=zvo) (an:=zvj) (cdv:=zvp) (ct:=zvq) (ps:=["self"])<|aO 1 _ fun _=>rfl
 have zbnf:ICls K zbm:=⟨⟨zber,zbes,zbet,zbeu⟩,zbex,zbhf,zbhg,zbey⟩
 have zbng:ICls K zbn:=⟨⟨zbfq,zbfr,zbfs,zbft⟩,zbfw,zbhf,zbhg,zbfx⟩
 exact⟨W.fnOf "law" "law" (aK mG) (aJ mG) (aC mG) .none zpm zpn zpo zpj zpp zpq,fun s v=> .of_eq rfl,fun base _ _=>aAK ⟨zaa,_,zbiy,zbiz,
  zab,_,zbja,zbjb,
  zac,_,zbjc,zbjd,
  zad,_,zbje,zbjf,
  zae,_,zbjg,zbjh,
  zaf,_,zbji,zbjj,
  zag,_,zbjk,zbjl,
  zah,_,zbjm,zbjn,
  zai,_,zbjo,zbjp,
  zaj,_,zbjq,zbjr,
  zak,_,zbjs,zbjt,
  zal,_,zbju,zbjv,
  zam,_,zbjw,zbjx,
  zan,_,zbjy,zbjz,
  zao,_,zbka,zbkb,
  zap,_,zbkc,zbkd,
  zaq,_,zbke,zbkf,
  zar,_,zbkg,zbkh,
  zas,_,zbki,zbkj,
  zat,_,zbkk,zbkl,
  zau,_,zbkm,zbkn,
  zav,_,zbko,zbkp,
  zaw,_,zbkq,zbkr,
  zax,_,zbks,zbkt,
  zay,_,zbku,zbkv,
  zaz,_,zbkw,zbkx,
  zba,_,zbky,zbkz,
  zbb,_,zbla,zblb,
  zbc,_,zblc,zbld,
  zbd,_,zble,zblf,
  zbe,_,zblg,zblh,
  zbf,_,zbli,zblj,
  zbg,_,zblk,zbll,
  zbh,_,zblm,zbln,
  zbi,_,zblo,zblp,
  zbj,_,zblq,zblr,
  zbk,_,zbls,zblt,
  fa,_,zblu,zblv,
  zbw,_,zblw,zblx,
  zbx,_,zbma,zbmb,
  zby,_,zbmc,zbmd,
  zbz,_,zbme,zbmf,
  zca,_,zbmg,zbmh,
  zcb,_,zbmj,zbmk,
  zcc,_,zbml,zbmm,
  zcd,_,zbmn,zbmo,
  zce,_,zbmp,zbmq,
  zcf,_,zbmr,zbms,
  zcg,_,zbmt,zbmu,
  zch,_,zbmv,zbmw,
  zci,_,zbmx,zbmy,
  zcj,_,zbmz,zbna,
  zck,_,zbnb,zbnc,
  zcl,_,zbnd,zbne,
  W.mg_of X G zvx,
  W.mg_of X G zvy,
  W.mg_of X G zvz,
  W.mg_of X G zwa,
  W.mg_of X G zwb,
  W.mg_of X G zwc,
  W.mg_of X G zwd,
  W.mg_of X G zwe,
  W.mg_of X G zwf,
  W.mg_of X G zwg,
  W.mg_of X G zwh,
  W.mg_of X G zwi,
  W.mg_of X G zwj,
  W.mg_of X G zwk,
  W.mg_of X G zwl,
  W.mg_of X G zwm,
  W.mg_of X G zwn,
  W.mg_of X G zwo,
  W.mg_of X G zwp,
  W.mg_of X G zwq,
  W.mg_of X G zwr,
  W.mg_of X G zws,
  W.mg_of X G zwt,
  W.mg_of X G zwu,
  W.mg_of X G zwv,
  W.mg_of X G zww,
  W.mg_of X G zwx,
  W.mg_of X G zwy,
  W.mg_of X G zwz,
  W.mg_of X G zxa,
  W.mg_of X G zxb,
  W.mg_of X G zxc,
  W.mg_of X G zxd,
  W.mg_of X G zxe,
  W.mg_of X G zxf,
  W.mg_of X G zxg,
  W.mg_of X G zxh,
  W.mg_of X G zxi,
  ⟨_,.cons ⟨_,rfl⟩ (.nil),zbly⟩,
  ⟨_,.cons rfl (.cons ⟨_,rfl⟩ (.nil)),zblz⟩,
  ⟨_,.cons ⟨_,rfl⟩ (.nil),zbmi⟩,
  zbm,W.mg_of X G zxj,
  zbn,W.mg_of X G zxk,
  zbo,W.mg_of X G zxl,
  zbp,W.mg_of X G zxm,
  zbq,W.mg_of X G zxn,
  zbr,W.mg_of X G zxo,
  zbs,W.mg_of X G zxp,
  zbt,W.mg_of X G zxq,
  zbu,W.mg_of X G zxr,
  zbv,W.mg_of X G zxs,
  ⟨zbnf,zbez,zbfa,zbfb,zbfc,zbfd,zbfe,zbff,zbfg,zbfh⟩,
  ⟨zbev,zbfi,zbfj,zbew⟩,
  ⟨zbfk,zbfl,zbcz⟩,
  ⟨zbfm,zbfn,zbdc⟩,
  ⟨zbfo,zbfp,zbdf⟩,
  ⟨zbng,zbfy,zbfz,zbga,zbgb,zbgc,zbgd,zbge,zbgf,zbgg⟩,
  ⟨zbfu,zbgh,zbgi,zbfv⟩,
  ⟨zbgj,zbgk,zbdm⟩,
  ⟨zbgl,zbgm,zbdp⟩,
  ⟨zbgn,zbgo,zbds⟩,
  ⟨zbgp,zbgq,zbdv⟩,
  ⟨zbgr,zbgs,zbdy⟩,
  ⟨zbgt,zbgu,zbeb⟩,
  ⟨zbgv,zbgw,zbee⟩,
  ⟨zbgx,zbgy,zbeh⟩,
  ⟨zbgz,zbha,zbek⟩,
  ⟨zbhb,zbhc,zben⟩,
  ⟨zbhd,zbhe,zbeq⟩,
  ⟨zbhh,zbhi,zbhj⟩,
  zbhk,⟨zbhl,zbhm,zbhn,zbho,zbhp,_,zbhq⟩,
  Z0 zbhr zbhs zbht zbhu,
  FH zbhy zbhv zbhw zbhx,
  FH zbic zbhz zbia zbib,
  FH zbig zbid zbie zbif,
  RI,
  aAL tG zbih,
  W.mg_none_of X G zbii,
  W.mg_none_of X G zbij,
  W.mg_none_of X G zbik,
  W.mg_none_of X G zbil,
  W.mg_none_of X G zbim,
  W.mg_none_of X G zbin,
  W.mg_none_of X G zbio,
  W.mg_none_of X G zbip,
  W.mg_none_of X G zbiq,
  W.mg_none_of X G zbir,
  W.mg_none_of X G zbis,
  W.mg_none_of X G zbit,
  W.mg_none_of X G zbiu,
  W.mg_none_of X G zbiv,
  W.mg_none_of X G zbiw,
  ⟨zvw,W.mg_of X G zbix⟩⟩⟩
theorem walk {l:W.OpenLaw}{q:Program}{loose:List Str}{XP:(Str->Option Value)->Heap->Prop}{YP:World->Heap->Prop}{d:DefRec}{K:Params->W.Frag} (hn:l.most=some 63) (hdf:d.params.defaults=[])
  (hY:∀(w:World) (h:Heap),YP w h->(K w.params).In h)
  (F:∀(w:World) (mg:Str->Option Value) (fa:Addr) (h:Heap),(K w.params).In h->h.Ns mainGlobals mg->mg d.name=some (.ref fa) →
   ∃fd:FuncData,(∀(s:Shared) (u:Value),BindsTo s fd ⟨[u],[]⟩ [("_law_script",u)])/\∀base:Heap,(K w.params).In base->base.Ns mainGlobals mg->bD l.prog w (K w.params) mg base CX0 20 fa fd ["_law_script"] (tY (K w.params))) :
  W.WalkO q loose XP YP l.row.toRowW d [] (fun f vs=>PySem.call f vs) :=
 L2.walk_of (n:=63) (k:=20) (x:= "_law_script") (CX:=fun _=>CX0) (sp:=fun w=>tY (K w.params)) hn (by decide) hdf ⟨rfl,by decide,by decide⟩ hY F (fun _ _ a ns hl _ hS=>⟨a,ns,rfl,hS,hl,fun _=>rfl⟩) fun _ _ _ _ _ z=>z
end Prf
open PySem PySem.W PyProof.Rows
set_option maxRecDepth 100000 in
set_option maxHeartbeats 0 in
theorem PySem.Challenge.cw_firstout_k54_plans_that_cannot_be_walked_holds : PySem.Challenge.rw_firstout_k54_plans_that_cannot_be_walked.Holds := by
 w_on;o_law;k_head;(case hw=>w_witness2)
 k_fill
 refine Prf.walk (l:=PySem.Challenge.rw_firstout_k54_plans_that_cannot_be_walked) rfl rfl (fun w h Y=>PySem.W.kIn_of Y) ?F
 case F =>
  intro w mg fa h KX G hmg;refine' Prf.all_mk KX G hmg ?zvx ?zvy ?zvz ?zwa ?zwb ?zwc ?zwd ?zwe ?zwf ?zwg ?zwh ?zwi ?zwj ?zwk ?zwl ?zwm ?zwn ?zwo ?zwp ?zwq ?zwr ?zws ?zwt ?zwu ?zwv ?zww ?zwx ?zwy ?zwz ?zxa ?zxb ?zxc ?zxd ?zxe ?zxf ?zxg ?zxh ?zxi ?zxj ?zxk ?zxl ?zxm ?zxn ?zxo ?zxp ?zxq ?zxr ?zxs ?zxt ?zxu ?zxv ?zxw ?zxx ?zxy ?zxz ?zya ?zyb ?zyc ?zyd ?zye ?zyf ?zyg ?zyh ?zyi ?zyj ?zyk ?zyl ?zym ?zyn ?zyo ?zyp ?zyq ?zyr ?zys ?zyt ?zyu ?zyv ?zyw ?zyx ?zyy ?zyz ?zza ?zzb ?zzc ?zzd ?zze ?zzf ?zzg ?zzh ?zzi ?zzj ?zzk ?zzl ?zzm ?zzn ?zzo ?zzp ?zzq ?zzr ?zzs ?zzt ?zzu ?zzv ?zzw ?zzx ?zzy ?zzz ?zbaa ?zbab ?zbac ?zbad ?zbae ?zbaf ?zbag ?zbah ?zbai ?zbaj ?zbak ?zbal ?zbam ?zban ?zbao ?zbap ?zbaq ?zbar ?zbas ?zbat ?zbau ?zbav ?zbaw ?zbax ?zbay ?zbaz ?zbba ?zbbb ?zbbc ?zbbd ?zbbe ?zbbf ?zbbg ?zbbh ?zbbi ?zbbj ?zbbk ?zbbl ?zbbm ?zbbn ?zbbo ?zbbp ?zbbq ?zbbr ?zbbs ?zbbt ?zbbu ?zbbv ?zbbw ?zbbx ?zbby ?zbbz ?zbca ?zbcb ?zbcc ?zbcd ?zbce ?zbcf ?zbcg ?zbch ?zbci ?zbcj ?zbck ?zbcl ?zbcm ?zbcn ?zbco ?zbcp ?zbcq ?zbcr ?zbcs ?zbct ?zbcu ?zbcv ?zbcw ?zbcx ?zbcy ?zbcz ?zbda ?zbdb ?zbdc ?zbdd ?zbde ?zbdf ?zbdg ?zbdh ?zbdi ?zbdj ?zbdk ?zbdl ?zbdm ?zbdn ?zbdo ?zbdp ?zbdq ?zbdr ?zbds ?zbdt ?zbdu ?zbdv ?zbdw ?zbdx ?zbdy ?zbdz ?zbea ?zbeb ?zbec ?zbed ?zbee ?zbef ?zbeg ?zbeh ?zbei ?zbej ?zbek ?zbel ?zbem ?zben ?zbeo ?zbep ?zbeq ?zber ?zbes ?zbet ?zbeu ?zbev ?zbew ?zbex ?zbey ?zbez ?zbfa ?zbfb ?zbfc ?zbfd ?zbfe ?zbff ?zbfg ?zbfh ?zbfi ?zbfj ?zbfk ?zbfl ?zbfm ?zbfn ?zbfo ?zbfp ?zbfq ?zbfr ?zbfs ?zbft ?zbfu ?zbfv ?zbfw ?zbfx ?zbfy ?zbfz ?zbga ?zbgb ?zbgc ?zbgd ?zbge ?zbgf ?zbgg ?zbgh ?zbgi ?zbgj ?zbgk ?zbgl ?zbgm ?zbgn ?zbgo ?zbgp ?zbgq ?zbgr ?zbgs ?zbgt ?zbgu ?zbgv ?zbgw ?zbgx ?zbgy ?zbgz ?zbha ?zbhb ?zbhc ?zbhd ?zbhe ?zbhf ?zbhg ?zbhh ?zbhi ?zbhj ?zbhk ?zbhl ?zbhm ?zbhn ?zbho ?zbhp ?zbhq ?zbhr ?zbhs ?zbht ?zbhu ?zbhv ?zbhw ?zbhx ?zbhy ?zbhz ?zbia ?zbib ?zbic ?zbid ?zbie ?zbif ?zbig ?zbih ?zbii ?zbij ?zbik ?zbil ?zbim ?zbin ?zbio ?zbip ?zbiq ?zbir ?zbis ?zbit ?zbiu ?zbiv ?zbiw ?zbix
  (case zvx|zvy|zvz|zwa|zwb|zwc|zwd|zwe|zwf|zwg|zwh|zwi|zwj|zwk|zwl|zwm|zwn|zwo|zwp|zwq|zwr|zws|zwt|zwu|zwv|zww|zwx|zwy|zwz|zxa|zxb|zxc|zxd|zxe|zxf|zxg|zxh|zxi|zxj|zxk|zxl|zxm|zxn|zxo|zxp|zxq|zxr|zxs|zxt|zxu|zxv|zxw|zxx|zxy|zxz|zya|zyb|zyc|zyd|zye|zyf|zyg|zyh|zyi|zyj|zyk|zyl|zym|zyn|zyo|zyp|zyq|zyr|zys|zyt|zyu|zyv|zyw|zyx|zyy|zyz|zza|zzb|zzc|zzd|zze|zzf|zzg|zzh|zzi|zzj|zzk|zzl|zzm|zzn|zzo|zzp|zzq|zzr|zzs|zzt|zzu|zzv|zzw|zzx|zzy|zzz|zbaa|zbab|zbac|zbad|zbae|zbaf|zbag|zbah|zbai|zbaj|zbak|zbal|zbam|zban|zbao|zbap|zbaq|zbar|zbas|zbat|zbau|zbav|zbaw|zbax|zbay|zbaz|zbba|zbbb|zbbc|zbbd|zbbe|zbbf|zbbg|zbbh|zbbi|zbbj|zbbk|zbbl|zbbm|zbbn|zbbo|zbbp|zbbq|zbbr|zbbs|zbbt|zbbu|zbbv|zbbw|zbbx|zbby|zbbz|zbca|zbcb|zbcc|zbcd|zbce|zbcf|zbcg|zbch|zbci|zbcj|zbck|zbcl|zbcm|zbcn|zbco|zbcp|zbcq|zbcr|zbcs|zbct|zbcu|zbcv|zbcw|zbcx|zbcy|zbcz|zbda|zbdb|zbdc|zbdd|zbde|zbdf|zbdg|zbdh|zbdi|zbdj|zbdk|zbdl|zbdm|zbdn|zbdo|zbdp|zbdq|zbdr|zbds|zbdt|zbdu|zbdv|zbdw|zbdx|zbdy|zbdz|zbea|zbeb|zbec|zbed|zbee|zbef|zbeg|zbeh|zbei|zbej|zbek|zbel|zbem|zben|zbeo|zbep|zbeq|zber|zbes|zbet|zbeu|zbev|zbew|zbex|zbey|zbez|zbfa|zbfb|zbfc|zbfd|zbfe|zbff|zbfg|zbfh|zbfi|zbfj|zbfk|zbfl|zbfm|zbfn|zbfo|zbfp|zbfq|zbfr|zbfs|zbft|zbfu|zbfv|zbfw|zbfx|zbfy|zbfz|zbga|zbgb|zbgc|zbgd|zbge|zbgf|zbgg|zbgh|zbgi|zbgj|zbgk|zbgl|zbgm|zbgn|zbgo|zbgp|zbgq|zbgr|zbgs|zbgt|zbgu|zbgv|zbgw|zbgx|zbgy|zbgz|zbha|zbhb|zbhc|zbhd|zbhe|zbhf|zbhg|zbhh|zbhi|zbhj=>k_is)
  (case zbhk=>k_exc)
  (case zbhl|zbhm|zbhn|zbho|zbhp|zbhq|zbhr|zbhs|zbht|zbhu|zbhv|zbhw|zbhx=>k_is)
  (case zbhy=>rfl)
  (case zbhz|zbia|zbib=>k_is)
  (case zbic=>rfl)
  (case zbid|zbie|zbif=>k_is)
  (case zbig=>rfl)
  (case zbih|zbii|zbij|zbik|zbil|zbim|zbin|zbio|zbip|zbiq|zbir|zbis|zbit|zbiu|zbiv|zbiw|zbix=>k_is)
